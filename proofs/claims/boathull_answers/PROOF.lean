import PyProof.Rows.All
import Wide.All
import OpenK.AllK
import Wide.FinOn
import PyProof.EqAt
import PyProof.EqKinds
import PyProof.TupleCall
import KE.BitLaws
import Open.SpecLaws
import KE.OsHead
import KE.OsGo
import KE.IntBitsLaws
import PySem.Challenge.RW_boathull_s01_answers
-- CHANGE: your row's module here, as the last of these rows
set_option Elab.async false
set_option linter.all false
set_option maxRecDepth 100000
/-! THE HAND LAYER, for ints, bools, texts, own classes, lists, tuples, dicts, comprehensions, walks over dicts, enumerate, zip, reversed, texts, calls, loops. Paste it whole ahead of your own text; what your proof does not reach may be deleted. -/
namespace L2
open PySem PySem.Spec PyProof.Rows

/-- a key: an int or a str -/
abbrev Key := Sum Int Str
def keyIs : Key → Value → Bool
  | .inl k, v => Value.isInt k v
  | .inr x, v => Value.isStrOf x v
def keyH (w : World) : Key → Int
  | .inl k => hashInt k
  | .inr x => hashStr w x
theorem keyIs_shape : ∀ {k : Key} {v : Value}, keyIs k v = true → (∃ i t, k = Sum.inl i ∧ v = Value.int i t) ∨ (∃ x t, k = Sum.inr x ∧ v = Value.str x t)
  | .inl i, v, h => by
    obtain ⟨t, e⟩ := Value.isInt_shape (k := i) (v := v) h
    exact .inl ⟨i, t, rfl, e⟩
  | .inr x, v, h => by
    obtain ⟨t, e⟩ := Value.isStrOf_shape (x := x) (v := v) h
    exact .inr ⟨x, t, rfl, e⟩
theorem keyIs_int (i : Int) (t : Tok) : keyIs (.inl i) (.int i t) = true := by simp [keyIs, Value.isInt]
theorem key_ll (a b : Int) : decide ((Sum.inl a : Key) = Sum.inl b) = (a == b) := by
  by_cases e : a = b
  · subst e; simp
  · have h : ¬ (Sum.inl a : Key) = Sum.inl b := fun q => e (Sum.inl.inj q)
    rw [decide_eq_false h]
    exact (beq_eq_false_iff_ne.mpr e).symm
theorem key_rr (a b : Str) : decide ((Sum.inr a : Key) = Sum.inr b) = decide (a = b) := by
  by_cases e : a = b
  · subst e; simp
  · have h : ¬ (Sum.inr a : Key) = Sum.inr b := fun q => e (Sum.inr.inj q)
    rw [decide_eq_false h, decide_eq_false e]
theorem key_lr (a : Int) (b : Str) : decide ((Sum.inl a : Key) = Sum.inr b) = false := decide_eq_false (fun q => nomatch q)
theorem key_rl (a : Str) (b : Int) : decide ((Sum.inr a : Key) = Sum.inl b) = false := decide_eq_false (fun q => nomatch q)

def mixKind (prog : Program) (w : World) : PySem.KeyKind prog w Key where
  is := keyIs
  hash := keyH w
  inj := fun v a b ha hb => by
    rcases keyIs_shape ha with ⟨i, t, rfl, rfl⟩ | ⟨x, t, rfl, rfl⟩
    · rcases keyIs_shape hb with ⟨j, u, rfl, e⟩ | ⟨y, u, rfl, e⟩
      · injection e with e1 _; rw [e1]
      · exact nomatch e
    · rcases keyIs_shape hb with ⟨j, u, rfl, e⟩ | ⟨y, u, rfl, e⟩
      · exact nomatch e
      · injection e with e1 _; rw [e1]
  byValue := fun k v h => by
    rcases keyIs_shape h with ⟨i, t, rfl, rfl⟩ | ⟨x, t, rfl, rfl⟩ <;> rfl
  pyHash := fun hv h => by
    rcases keyIs_shape hv with ⟨i, t, rfl, rfl⟩ | ⟨x, t, rfl, rfl⟩
    · exact wpAny_pyHash_int h
    · exact wpAny_pyHash_str h
  eqBool := fun hu hv h => by
    rcases keyIs_shape hu with ⟨i, t, rfl, rfl⟩ | ⟨x, t, rfl, rfl⟩
    · rcases keyIs_shape hv with ⟨j, u, rfl, rfl⟩ | ⟨y, u, rfl, rfl⟩
      · rw [key_ll] at h; exact wpAny_eqBool_int h
      · rw [key_lr] at h; exact SeqAt.EqAt.int_str i t y u _ _ _ _ h
    · rcases keyIs_shape hv with ⟨j, u, rfl, rfl⟩ | ⟨y, u, rfl, rfl⟩
      · rw [key_rl] at h; exact SeqAt.EqAt.str_int x t j u _ _ _ _ h
      · rw [key_rr] at h; exact wpAny_eqBool_str h
  «strs» := fun k x t v h => by
    rcases keyIs_shape h with ⟨i, u, rfl, e⟩ | ⟨y, u, rfl, e⟩
    · exact nomatch e
    · injection e with e1 _
      subst e1
      cases v <;> rfl

theorem mixKind_int (prog : Program) (w : World) (i : Int) (t : Tok) : (mixKind prog w).is (.inl i) (.int i t) = true := keyIs_int i t
end L2

namespace L2
open PySem PySem.Spec PyProof.Rows

/-- a value, without the heap -/
inductive V where
  | non | bl (b : Bool) | int (i : Int) | str (x : Str) | byt (b : Array UInt8) | flt (b : UInt64) | ref (a : Addr) | ty (n : String)
  deriving DecidableEq

def RelV : V → Value → Prop
  | .non, u => u = Value.none
  | .bl b, u => u = Value.bool b
  | .int i, u => ∃ t, u = Value.int i t
  | .str x, u => ∃ t, u = Value.str x t
  | .byt b, u => ∃ t, u = Value.bytes b t
  | .flt b, u => ∃ t, u = Value.float b t
  | .ref a, u => u = Value.ref a
  | .ty n, u => u = Value.type n

abbrev Vals : List V → List Value → Prop := Paired RelV
theorem Vals.length {xs : List V} {us : List Value} (r : Vals xs us) : xs.length = us.length := Paired.length r
theorem Vals.get : ∀ {xs : List V} {us : List Value} {i : Nat} {x : V}, Vals xs us → xs[i]? = some x → ∃ u, us[i]? = some u ∧ RelV x u
  | _, _, _, _, .nil, e => by simp at e
  | _, _, 0, _, .cons r _, e => by simp at e; subst e; exact ⟨_, rfl, r⟩
  | _, _, i + 1, x, .cons _ t, e => by
    obtain ⟨u, h1, h2⟩ := Vals.get (i := i) (x := x) t (by simpa using e)
    exact ⟨u, by simpa using h1, h2⟩
theorem Vals.set {x : V} {u : Value} (r : RelV x u) : ∀ {xs : List V} {us : List Value} (i : Nat), Vals xs us → Vals (xs.set i x) (us.set i u)
  | _, _, _, .nil => .nil
  | _, _, 0, .cons _ t => .cons r t
  | _, _, i + 1, .cons q t => .cons q (Vals.set r i t)
theorem Vals.append : ∀ {xs ys : List V} {us ws : List Value}, Vals xs us → Vals ys ws → Vals (xs ++ ys) (us ++ ws)
  | _, _, _, _, .nil, s => s
  | _, _, _, _, .cons r t, s => .cons r (Vals.append t s)
theorem Vals.take : ∀ {xs : List V} {us : List Value} (n : Nat), Vals xs us → Vals (xs.take n) (us.take n)
  | _, _, 0, _ => .nil
  | _, _, _ + 1, .nil => .nil
  | _, _, n + 1, .cons r t => .cons r (Vals.take n t)
theorem Vals.drop : ∀ {xs : List V} {us : List Value} (n : Nat), Vals xs us → Vals (xs.drop n) (us.drop n)
  | _, _, 0, r => r
  | _, _, _ + 1, .nil => .nil
  | _, _, n + 1, .cons _ t => Vals.drop n t

def RelO : Option V → Option Value → Prop
  | some v, some u => RelV v u
  | none, none => True
  | _, _ => False
def KV {κ : Type} : List (κ × V) → List (κ × Value) → Prop := Paired fun (p : κ × V) (q : κ × Value) => p.1 = q.1 ∧ RelV p.2 q.2

/-- a key of a dict (00_mix): an int or a text -/
def kV : Key → V
  | .inl i => .int i
  | .inr x => .str x

/-- what stands at a tracked address -/
inductive HO where
  /-- a list -/
  | lst (xs : List V)
  /-- a tuple (never changes) -/
  | tup (xs : List V)
  /-- a dict whose keys are ints and texts; one whose keys are tuples of ints and texts (the empty one is both) -/
  | dK (kvs : List (Key × V)) | dT (kvs : List (List Key × V))
  /-- a set of ints: its members, its size -/
  | set (S : Int → Bool) (n : Nat)
  /-- an instance of the class at C, its dict at dx, its attributes -/
  | ins (C dx : Addr) (fs : List (Str × V))
  /-- the dict of the instance at x -/
  | own (x : Addr)
  /-- the dict of an exception -/
  | xd (fs : List (Str × V))
  /-- a bound method, f of x -/
  | met (f x : Addr)
  /-- a range object lo, lo + 1, .. below hi -/
  | rng (lo hi : Int)
  /-- a thing that is known to the object (the script; a dict while a loop walks it): read, never written while it is so -/
  | frz (o : Obj) (u : HO)
  /-- a code object's table -/
  | tbl (ps : Array Value)
  /-- any other thing, by what is true of its one object (a def of one's own: SetO a S n := HO.ext fun h => ..) -/
  | ext (φ : Heap → Prop)

abbrev Hp := Addr → Option HO
def upd (H : Hp) (a : Addr) (o : HO) : Hp := fun b => if b = a then some o else H b
theorem upd_same {H : Hp} {a : Addr} {o : HO} : upd H a o a = some o := by unfold upd; rw [if_pos rfl]
theorem upd_ne {H : Hp} {a b : Addr} {o : HO} (h : b ≠ a) : upd H a o b = H b := by unfold upd; rw [if_neg h]
theorem upd_upd {H : Hp} {a : Addr} {o u : HO} : upd (upd H a o) a u = upd H a u := by
  funext b; unfold upd; split <;> rfl
/-- two objects of different content stand apart -/
theorem ne_of {H : Hp} {a b : Addr} {o u : HO} (h : H a = some o) (h' : H b = some u) (d : o ≠ u) : a ≠ b := by
  intro e; subst e; rw [h] at h'; exact d (Option.some.inj h')
theorem ne_of_none {H : Hp} {a b : Addr} {o : HO} (h : H a = some o) (h' : H b = none) : a ≠ b := by
  intro e; subst e; rw [h] at h'; cases h'

section
variable (P : Program) (w : World)
def ObjOk (H : Hp) (h : Heap) (a : Addr) : HO → Prop
  | .lst xs => xs.length ≤ sizeLine ∧ ∃ (its : List Value) (n : Nat), Vals xs its ∧ h.get? a = some { cls := .type "list", data := .seq its.toArray n }
  | .tup xs => xs.length ≤ sizeLine ∧ ∃ its : List Value, Vals xs its ∧ IsTup h a its.toArray
  | .dK kvs => kvs.length ≤ sizeLine ∧ (a == sysModules) = false ∧ ∃ vs, KV kvs vs ∧ h.DictOf (mixKind P w) a vs
  | .dT kvs => kvs.length ≤ sizeLine ∧ (a == sysModules) = false ∧ ∃ xs : List (List Key × Addr × Value),
      Paired (fun (p : List Key × V) (q : List Key × Addr × Value) => p.1 = q.1 ∧ H q.2.1 = some (.tup (p.1.map kV)) ∧ RelV p.2 q.2.2) kvs xs ∧
      ∃ o es ep, h.get? a = some o ∧ o.ExactDict ∧ o.data = .dict es ep ∧ es.toList = xs.map (entryOfKey (tupleKind (mixKind P w))) ∧ (xs.map (·.1)).Nodup
  | .set S n => h.SetOf (intKind P w) a S n
  | .ins C dx fs => H dx = some (.own a) ∧ fs.length ≤ 1000 ∧ dx ≠ a ∧ h.get? a = some (PySem.W.instObj C dx) ∧
      ∃ mA, h.Ns1 dx mA ∧ (∀ f, RelO (fs.lookup f) (mA f)) ∧ PySem.Within mA (fs.map (·.1))
  | .own _ => ∃ o, h.get? a = some o
  | .xd fs => ∃ mA, h.Ns1 a mA ∧ ∀ f, RelO (fs.lookup f) (mA f)
  | .rng lo hi => ∃ t u v, h.get? a = some { cls := .type "range", data := .fields #[.int lo t, .int hi u, .int 1 v] }
  | .frz o u => h.get? a = some o ∧ ObjOk H h a u
  | .tbl ps => h.get? a = some { cls := .none, data := .fields ps }
  | .met f x => h.get? a = some (PySem.W.methodObj (.ref f) (.ref x))
  | .ext φ => φ h ∧ (∃ o, h.get? a = some o) ∧ ∀ h1 h2 : Heap, φ h1 → (∀ o, h1.get? a = some o → h2.get? a = some o) → φ h2
/-- the abstract heap is held -/
def HOk (H : Hp) (h : Heap) : Prop := ∀ a o, H a = some o → ObjOk P w H h a o
end

section
variable {P : Program} {w : World} {H H' : Hp} {h h' : Heap} {a : Addr} {o : HO}
theorem ObjOk.lt (x : ObjOk P w H h a o) : a < h.objs.size := by
  cases o with
  | lst xs => obtain ⟨_, _, _, _, e⟩ := x; exact Heap.lt_size e
  | tup xs => obtain ⟨_, _, _, p⟩ := x; exact p.lt
  | dK kvs => obtain ⟨_, _, _, _, o, _, _, e, _⟩ := x; exact Heap.lt_size e
  | dT kvs => obtain ⟨_, _, _, _, o, _, _, e, _⟩ := x; exact Heap.lt_size e
  | set S n => obtain ⟨o, _, _, _, e, _⟩ := x; exact Heap.lt_size e
  | ins C dx fs => obtain ⟨_, _, _, e, _⟩ := x; exact Heap.lt_size e
  | own y => obtain ⟨_, e⟩ := x; exact Heap.lt_size e
  | xd fs => obtain ⟨_, ⟨_, _, _, e, _⟩, _⟩ := x; exact Heap.lt_size e
  | rng lo hi => obtain ⟨_, _, _, e⟩ := x; exact Heap.lt_size e
  | frz ob u => obtain ⟨e, _⟩ := x; exact Heap.lt_size e
  | tbl ps => exact Heap.lt_size (show h.get? a = some _ from x)
  | met f y => exact Heap.lt_size (show h.get? a = some _ from x)
  | ext φ => obtain ⟨_, ⟨_, e⟩, _⟩ := x; exact Heap.lt_size e
theorem Paired.mapP {α β : Type} {F G : α → β → Prop} : ∀ {l₁ : List α} {l₂ : List β}, Paired F l₁ l₂ → (∀ a b, F a b → G a b) → Paired G l₁ l₂
  | _, _, .nil, _ => .nil
  | _, _, .cons r t, f => .cons (f _ _ r) (Paired.mapP t f)
/-- what an object's description leans on: its own object, its own dict, the tuples -/
theorem ObjOk.stay (x : ObjOk P w H h a o) (k : ∀ b u, (b = a ∨ H b = some (.own a)) → h.get? b = some u → h'.get? b = some u)
    (ho : ∀ b, H b = some (.own a) → H' b = some (.own a)) (ht : ∀ b xs, H b = some (.tup xs) → H' b = some (.tup xs)) : ObjOk P w H' h' a o := by
  induction o with
  | lst xs => obtain ⟨z, its, n, r, e⟩ := x; exact ⟨z, its, n, r, k _ _ (.inl rfl) e⟩
  | tup xs => obtain ⟨z, its, r, ob, e, c⟩ := x; exact ⟨z, its, r, ob, k _ _ (.inl rfl) e, c⟩
  | dK kvs => obtain ⟨z, y, vs, r, ob, es, ep, e, c⟩ := x; exact ⟨z, y, vs, r, ob, es, ep, k _ _ (.inl rfl) e, c⟩
  | dT kvs =>
    obtain ⟨z, y, xs, r, ob, es, ep, e, c⟩ := x
    exact ⟨z, y, xs, Paired.mapP r fun p q z => ⟨z.1, ht _ _ z.2.1, z.2.2⟩, ob, es, ep, k _ _ (.inl rfl) e, c⟩
  | set S n => obtain ⟨ob, es, ep, t, e, c⟩ := x; exact ⟨ob, es, ep, t, k _ _ (.inl rfl) e, c⟩
  | ins C dx fs =>
    obtain ⟨d, z, ne, e, mA, ⟨od, es, ep, e2, c⟩, r⟩ := x
    exact ⟨ho _ d, z, ne, k _ _ (.inl rfl) e, mA, ⟨od, es, ep, k _ _ (.inr d) e2, c⟩, r⟩
  | own y => obtain ⟨ob, e⟩ := x; exact ⟨ob, k _ _ (.inl rfl) e⟩
  | xd fs => obtain ⟨mA, ⟨od, es, ep, e, c⟩, r⟩ := x; exact ⟨mA, ⟨od, es, ep, k _ _ (.inl rfl) e, c⟩, r⟩
  | rng lo hi => obtain ⟨t, u, v, e⟩ := x; exact ⟨t, u, v, k _ _ (.inl rfl) e⟩
  | frz ob u ih => obtain ⟨e, q⟩ := x; exact ⟨k _ _ (.inl rfl) e, ih q⟩
  | tbl ps =>
    have e : h.get? a = some { cls := .none, data := .fields ps } := x
    show h'.get? a = some { cls := .none, data := .fields ps }
    exact k a _ (.inl rfl) e
  | met f y =>
    have e : h.get? a = some (PySem.W.methodObj (.ref f) (.ref y)) := x
    show h'.get? a = some (PySem.W.methodObj (.ref f) (.ref y))
    exact k a _ (.inl rfl) e
  | ext φ => obtain ⟨p, ⟨o, e⟩, st⟩ := x; exact ⟨st _ _ p fun o q => k _ _ (.inl rfl) q, ⟨o, k _ _ (.inl rfl) e⟩, st⟩
theorem HOk.lt (x : HOk P w H h) (e : H a = some o) : a < h.objs.size := (x a o e).lt
theorem HOk.fresh (x : HOk P w H h) (e : h.objs.size ≤ a) : H a = none := by
  cases q : H a with
  | none => rfl
  | some u => exact absurd (Nat.lt_of_lt_of_le (x.lt q) e) (Nat.lt_irrefl _)
/-- every object of the heap is kept -/
theorem HOk.kept (x : HOk P w H h) (k : ∀ b u, h.get? b = some u → h'.get? b = some u) : HOk P w H h' := fun a o e =>
  (x a o e).stay (fun b u _ q => k b u q) (fun _ q => q) fun _ _ q => q
/-- a new object is laid and tracked -/
theorem HOk.laid (x : HOk P w H h) (k : ∀ b u, h.get? b = some u → h'.get? b = some u) (hp : h.objs.size ≤ a) (new : ObjOk P w (upd H a o) h' a o) : HOk P w (upd H a o) h' := fun b u e => by
  have hn := x.fresh hp
  by_cases hb : b = a
  · subst hb; rw [upd_same] at e; cases e; exact new
  · rw [upd_ne hb] at e
    exact (x b u e).stay (fun c v _ q => k c v q) (fun c q => by rw [upd_ne (ne_of_none q hn)]; exact q) fun c xs q => by rw [upd_ne (ne_of_none q hn)]; exact q
end

/-- what may be read as u: it is u, or a known u -/
def Rd (H : Hp) (a : Addr) (u : HO) : Prop := H a = some u ∨ ∃ o, H a = some (.frz o u)
theorem Rd.ok {P : Program} {w : World} {H : Hp} {h : Heap} {a : Addr} {u : HO} (r : Rd H a u) (x : HOk P w H h) : ObjOk P w H h a u := by
  rcases r with r | ⟨o, r⟩
  · exact x a u r
  · obtain ⟨_, q⟩ := x a _ r
    exact q
/-- what may be written -/
def Mut : Option HO → Prop
  | some (.lst _) => True
  | some (.dK _) => True
  | some (.dT _) => True
  | some (.set _ _) => True
  | some (.ins _ _ _) => True
  | some (.ext _) => True
  | _ => False
section
variable {P : Program} {w : World} {H : Hp} {h h' : Heap} {x e : Addr} {o' : HO}
/-- the object at e is changed: x itself, or the dict of the instance x -/
theorem HOk.write (ok : HOk P w H h) (mu : Mut (H x)) (he : e = x ∨ H e = some (.own x)) (k : ∀ b u, b ≠ e → h.get? b = some u → h'.get? b = some u) (heo : ∃ u, h'.get? e = some u)
    (new : ObjOk P w (upd H x o') h' x o') : HOk P w (upd H x o') h' := fun b u q => by
  have nown : ∀ c y, H c = some (.own y) → c ≠ x := fun c y r z => by subst z; rw [r] at mu; exact mu
  have ntup : ∀ c xs, H c = some (.tup xs) → c ≠ x := fun c xs r z => by subst z; rw [r] at mu; exact mu
  by_cases hb : b = x
  · subst hb; rw [upd_same] at q; cases q; exact new
  · rw [upd_ne hb] at q
    by_cases hbe : b = e
    · have q' : H b = some (.own x) := by
        rcases he with z | z
        · exact absurd (hbe.trans z) hb
        · rw [hbe]; exact z
      rw [q] at q'; cases q'
      obtain ⟨v, hv⟩ := heo
      exact ⟨v, by rw [hbe]; exact hv⟩
    · refine (ok b u q).stay (fun c v hc r => k c v ?_ r) (fun c r => by rw [upd_ne (nown c b r)]; exact r) fun c xs r => by rw [upd_ne (ntup c xs r)]; exact r
      rcases hc with rfl | hc
      · exact hbe
      · rintro rfl
        rcases he with z | z
        · exact nown c b hc z
        · rw [hc] at z; cases z; exact hb rfl
end

/-! ### kept unless tracked; of the frames at fs (the callers') the slots may change (an exception that passes writes there); of the records at ex (iterators) nothing is said -/
structure Un (fs ex : List Addr) (H H' : Hp) (h h' : Heap) : Prop where
  keep : ∀ b o, h.get? b = some o → H b = none → b ∉ fs → b ∉ ex → h'.get? b = some o
  slot : ∀ b o, h.get? b = some o → H b = none → b ∈ fs → b ∉ ex → ∃ sl, h'.get? b = some { o with slots := sl }
  free : ∀ b o, h.get? b = some o → H b = none → b ∉ ex → H' b = none
  there : ∀ b o, h.get? b = some o → b ∉ ex → ∃ o', h'.get? b = some o'
  tups : ∀ b xs, H b = some (.tup xs) → H' b = some (.tup xs)
  frzs : ∀ b o u, H b = some (.frz o u) → H' b = some (.frz o u)
  tbls : ∀ b ps, H b = some (.tbl ps) → ∃ more, H' b = some (.tbl (ps ++ more))
section
variable {fs fs' ex ex' : List Addr} {H H1 H2 : Hp} {h h1 h2 h' : Heap} {a x e : Addr} {o : HO}
theorem Un.any (u : Un fs ex H H1 h h1) {b : Addr} {ob : Obj} (q : h.get? b = some ob) (n : H b = none) (hx : b ∉ ex) : ∃ sl, h1.get? b = some { ob with slots := sl } := by
  by_cases hb : b ∈ fs
  · exact u.slot b ob q n hb hx
  · exact ⟨ob.slots, u.keep b ob q n hb hx⟩
theorem Un.kept (k : ∀ b u, h.get? b = some u → h'.get? b = some u) : Un fs ex H H h h' :=
  ⟨fun b ob q _ _ _ => k b ob q, fun b ob q _ _ _ => ⟨ob.slots, k b ob q⟩, fun _ _ _ n _ => n, fun b ob q _ => ⟨ob, k b ob q⟩, fun _ _ q => q, fun _ _ _ q => q, fun _ ps q => ⟨#[], by rw [q]; simp⟩⟩
theorem Un.refl : Un fs ex H H h h := Un.kept fun _ _ q => q
theorem Un.laid (k : ∀ b u, h.get? b = some u → h'.get? b = some u) (hp : h.objs.size ≤ a) (hn : H a = none) : Un fs ex H (upd H a o) h h' where
  keep := fun b u q _ _ _ => k b u q
  slot := fun b u q _ _ _ => ⟨u.slots, k b u q⟩
  free := fun b u q n _ => by rw [upd_ne (Nat.ne_of_lt (Nat.lt_of_lt_of_le (Heap.lt_size q) hp))]; exact n
  there := fun b u q _ => ⟨u, k b u q⟩
  tups := fun b xs q => by rw [upd_ne (ne_of_none q hn)]; exact q
  frzs := fun b u xs q => by rw [upd_ne (ne_of_none q hn)]; exact q
  tbls := fun b ps q => ⟨#[], by rw [upd_ne (ne_of_none q hn), q]; simp⟩
theorem Un.write (mu : Mut (H x)) (he : e = x ∨ H e = some (.own x)) (k : ∀ b u, b ≠ e → h.get? b = some u → h'.get? b = some u) (heo : ∃ u, h'.get? e = some u) : Un fs ex H (upd H x o) h h' := by
  have hx : ∀ b, H b = none → b ≠ x := fun b n z => by subst z; rw [n] at mu; exact mu
  have hb : ∀ b, H b = none → b ≠ e := fun b n z => by
    subst z
    rcases he with r | r
    · exact hx b n r
    · rw [n] at r; cases r
  have hm : ∀ b u, H b = some u → ¬ Mut (some u) → b ≠ x := fun b u q nm z => by subst z; rw [q] at mu; exact nm mu
  refine ⟨fun b u q n _ _ => k b u (hb b n) q, fun b u q n _ _ => ⟨u.slots, k b u (hb b n) q⟩, fun b u q n _ => by rw [upd_ne (hx b n)]; exact n, fun b u q _ => ?_,
    fun b xs q => by rw [upd_ne (hm b _ q fun z => z)]; exact q, fun b u xs q => by rw [upd_ne (hm b _ q fun z => z)]; exact q, fun b ps q => ⟨#[], by rw [upd_ne (hm b _ q fun z => z), q]; simp⟩⟩
  by_cases hbe : b = e
  · subst hbe; exact heo
  · exact ⟨u, k b u hbe q⟩
end

/-! ### the heap without what is tracked -/
def trk (h : Heap) (H : Hp) : List Addr := (List.range h.objs.size).filter fun a => (H a).isSome
def hidT (h : Heap) (H : Hp) : Heap := PySem.W.hideAll h (trk h H)
theorem hidT_size (h : Heap) (H : Hp) : (hidT h H).objs.size = h.objs.size := PySem.W.hideAll_size _ _
theorem hidT_get {h : Heap} {H : Hp} {b : Addr} {o : Obj} (e : h.get? b = some o) (n : H b = none) : (hidT h H).get? b = some o :=
  PySem.W.hideAll_get _ e fun hm => by
    have q : (H b).isSome = true := (List.mem_filter.mp hm).2
    rw [n] at q; simp at q
theorem of_hidT {h : Heap} {H : Hp} {b : Addr} {o : Obj} (e : (hidT h H).get? b = some o) : h.get? b = some o ∧ H b = none := by
  have e' : h.get? b = some o := PySem.W.of_hideAll (trk h H) e
  refine ⟨e', ?_⟩
  cases q : H b with
  | none => rfl
  | some x =>
    have hm : b ∈ trk h H := List.mem_filter.mpr ⟨List.mem_range.mpr (Heap.lt_size e'), by simp [q]⟩
    have z : (hidT h H).get? b = none := PySem.W.hideAll_none (trk h H) hm
    rw [z] at e; cases e

/-! ### OpenK's ledger, filled with every new object but one -/
def allNews (g h : Heap) (L : Addr) : List (Addr × Obj) := (List.range h.objs.size).filterMap fun a => if a = L ∨ (g.get? a).isSome = true then none else (h.get? a).map fun o => (a, o)
def rest (g h : Heap) (L d : Addr) : List (Addr × Obj) := (allNews g h L).filter fun p => decide (p.1 ≠ d)
end L2

namespace L2
open PySem PySem.Spec PyProof.Rows

/-- the module's facts, over the base: the heap at the law's entry without what is tracked there -/
structure Mod (K : PySem.W.Frag) (mg : Str → Option Value) (base : Heap) : Prop where
  kin : K.In base
  glob : base.Ns mainGlobals mg
  blt : ∃ mb, base.Ns builtinsNs mb ∧ ∀ x : Str, x ≠ "__name__" → mb x = bootBuiltins x
  nolimit : base.NoLimit

/-- the context: a def's body (or a comprehension's block) running. base: fixed through the whole law; s₀, H₀: the entry; outer: the frames whose slots others may change (a def's callers); stack: all frames that run;
   ex: iterators that were made ahead of the entry and are walked here (a comprehension's); fn: the names whose cells were made at the entry (a def: all; a comprehension's block: its own); calm: not within an except suite; pn: pins that every state bears; xe: what is wanted of an exception that leaves the code -/
structure Cx where
  prog : Program
  w : World
  K : PySem.W.Frag
  mg : Str → Option Value
  base : Heap
  A : Around
  N : List Str
  s_0 : Shared
  H_0 : Hp
  env : Env
  outer : List Env
  stack : List Env
  ex : List Addr
  fn : Str → Bool
  calm : Bool
  pn : List (Addr × Obj)
  xe : Value → Shared → Prop
/-- the callers' frames -/
def frs (l : List Env) : List Addr := l.filterMap (·.frame)
abbrev Cx.fs (X : Cx) : List Addr := frs X.outer

def Vis (sc : Scope) (x : Str) : Prop := sc.names.lookup x = some .local ∨ sc.names.lookup x = some .cell ∨ sc.names.lookup x = some .free
def Loc (sc : Scope) (x : Str) : Prop := sc.names.lookup x = some .local ∨ sc.names.lookup x = some .cell
def Look (env : Env) (h : Heap) (m : Str → Option Value) (x : Str) (u : Value) : Prop :=
  (env.kindOf x = some .local ∧ m x = some u) ∨ ((env.kindOf x = some .cell ∨ env.kindOf x = some .free) ∧ ∃ c, env.cells.lookup x = some c ∧ h.IsCell c (some u))

structure Cx.Ok (X : Cx) : Prop where
  mod : Mod X.K X.mg X.base
  kind : X.env.scope.kind = .function
  glob : X.env.globals = mainGlobals
  blt : X.env.builtins = builtinsNs
  above : X.s_0.heap.objs.size ≤ X.env.locals
  inj : ∀ x y c, X.env.cells.lookup x = some c → X.env.cells.lookup y = some c → x = y
  has : ∀ x, (X.env.kindOf x = some .cell ∨ X.env.kindOf x = some .free) → ∃ c, X.env.cells.lookup x = some c
  cab : ∀ x c, X.fn x = true → X.env.cells.lookup x = some c → X.s_0.heap.objs.size ≤ c
  hd : X.calm = true → X.A.handled = none
  frames : X.A.frames = some X.stack
  stk : X.stack = X.outer ∨ (X.stack = X.env :: X.outer ∧ X.env.frame = some X.env.locals)
  exf : ∀ b ∈ X.ex, b ≠ X.env.locals ∧ ∀ x c, X.env.cells.lookup x = some c → c ≠ b
  bs : ∀ b o, X.base.get? b = some o → X.s_0.heap.get? b = some o ∧ X.H_0 b = none
  bsz : X.base.objs.size ≤ X.s_0.heap.objs.size
  noex : ∀ b o, X.base.get? b = some o → b ∉ X.ex
  exfs : ∀ b ∈ X.ex, b ∉ X.fs
  funs : X.s_0.heap.FunFrames X.base X.outer
  frf : ∀ b ∈ X.fs, X.H_0 b = none

structure Inv (X : Cx) (pins : List (Addr × Obj)) (σ : List (Option V)) (H : Hp) (s : Shared) : Prop where
  ok : X.Ok
  os : s.os = X.s_0.os
  bare : AllBare s.gens
  base : Un X.fs X.ex X.H_0 H X.s_0.heap s.heap
  loc : ∃ m, s.heap.Ns X.env.locals m ∧ ∀ (i : Nat) (x : Str) (v : V), X.N[i]? = some x → σ[i]? = some (some v) → Vis X.env.scope x → ∃ u, RelV v u ∧ Look X.env s.heap m x u
  cell : ∀ x c, X.env.cells.lookup x = some c → ∃ v, s.heap.IsCell c v
  free : H X.env.locals = none
  freeC : ∀ x c, X.env.cells.lookup x = some c → H c = none
  pin : ∀ p ∈ X.pn ++ pins, s.heap.get? p.1 = some p.2 ∧ H p.1 = none ∧ p.1 ≠ X.env.locals ∧ p.1 ∉ X.fs ∧ ∀ v, p.2.data ≠ .cell v
  hok : HOk X.prog X.w H s.heap
  len : σ.length = X.N.length

section
variable {X : Cx} {pins : List (Addr × Obj)} {σ : List (Option V)} {H H' : Hp} {s : Shared} {h' : Heap}

theorem Cx.Ok.nofr (ok : X.Ok) {b : Addr} {o : Obj} (e : X.base.get? b = some o) : b ∉ X.fs := fun hb => by
  have := (ok.funs.mem hb).1
  rw [e] at this; cases this
theorem Inv.bs (I : Inv X pins σ H s) : ∀ b o, X.base.get? b = some o → s.heap.get? b = some o ∧ H b = none := fun b o e =>
  ⟨I.base.keep b o (I.ok.bs b o e).1 (I.ok.bs b o e).2 (I.ok.nofr e) (I.ok.noex b o e), I.base.free b o (I.ok.bs b o e).1 (I.ok.bs b o e).2 (I.ok.noex b o e)⟩
theorem Inv.bk (I : Inv X pins σ H s) : ∀ b o, X.base.get? b = some o → s.heap.get? b = some o := fun b o e => (I.bs b o e).1
theorem Inv.mod (I : Inv X pins σ H s) : Mod X.K X.mg X.base := I.ok.mod
theorem Inv.kIn (I : Inv X pins σ H s) : X.K.In s.heap := I.ok.mod.kin.keeps I.bk
theorem Inv.lt (I : Inv X pins σ H s) : X.env.locals < s.heap.objs.size := let ⟨_, hn, _⟩ := I.loc; hn.lt
theorem Inv.sz (I : Inv X pins σ H s) : X.s_0.heap.objs.size ≤ s.heap.objs.size := Nat.le_trans I.ok.above (Nat.le_of_lt I.lt)
theorem Inv.nofs (I : Inv X pins σ H s) {a : Addr} (h : s.heap.objs.size ≤ a) : a ∉ X.fs := fun hb => by
  obtain ⟨_, o, ho, _⟩ := I.ok.funs.mem hb
  exact absurd (Nat.lt_of_lt_of_le (Heap.lt_size ho) (Nat.le_trans I.sz h)) (Nat.lt_irrefl _)
theorem Inv.cne (I : Inv X pins σ H s) : ∀ x c, X.env.cells.lookup x = some c → c ≠ X.env.locals := fun x c e z => by
  obtain ⟨v, o, ho, hd⟩ := I.cell x c e
  obtain ⟨m, ⟨o', es, ep, ho', hd', _⟩, _⟩ := I.loc
  rw [z, ho'] at ho; cases ho; rw [hd'] at hd; cases hd
theorem Inv.funs (I : Inv X pins σ H s) : s.heap.FunFrames X.base X.outer := by
  have all : ∀ (l : List Env), (∀ b ∈ frs l, b ∈ X.fs) → X.s_0.heap.FunFrames X.base l → s.heap.FunFrames X.base l := by
    intro l
    induction l with
    | nil => intro _ _; trivial
    | cons env r ih =>
      intro hs hl
      obtain ⟨hk, ⟨L, o, hf, hn, ho, hd⟩, hr⟩ := hl
      have hL : L ∈ X.fs := hs L (by unfold frs; rw [List.filterMap_cons, hf]; exact List.mem_cons_self)
      obtain ⟨sl, e⟩ := I.base.slot L o ho (I.ok.frf L hL) hL fun z => I.ok.exfs L z hL
      exact ⟨hk, ⟨L, _, hf, hn, e, hd⟩, ih (fun b hb => hs b (by unfold frs; rw [List.filterMap_cons, hf]; exact List.mem_cons_of_mem _ hb)) hr⟩
  exact all X.outer (fun _ hb => hb) I.ok.funs

/-- the frames that run, for a call -/
theorem Inv.stack (I : Inv X pins σ H s) : s.heap.FunFrames X.base X.stack := by
  rcases I.ok.stk with e | ⟨e, hf⟩
  · rw [e]; exact I.funs
  · rw [e]
    obtain ⟨m, hn, _⟩ := I.loc
    refine .cons (by rw [I.ok.kind]; decide) hf hn ?_ I.funs
    exact Heap.get?_none_of_le (Nat.le_trans I.ok.bsz I.ok.above)
theorem Inv.stkSub (I : Inv X pins σ H s) : ∀ b ∈ frs X.stack, b ∈ X.env.locals :: X.fs := fun b hb => by
  rcases I.ok.stk with e | ⟨e, hf⟩
  · rw [e] at hb; exact List.mem_cons_of_mem _ hb
  · rw [e] at hb
    unfold frs at hb
    rw [List.filterMap_cons, hf] at hb
    exact hb
theorem Inv.stkFree (I : Inv X pins σ H s) : ∀ b ∈ frs X.stack, H b = none := fun b hb => by
  rcases List.mem_cons.mp (I.stkSub b hb) with e | hb
  · rw [e]; exact I.free
  · obtain ⟨_, o, ho, _⟩ := I.ok.funs.mem hb
    exact I.base.free b o ho (I.ok.frf b hb) fun z => I.ok.exfs b z hb

/-- THE STEP: the untracked objects but the frame and the records at ch are kept (the callers' frames up to slots), the frame's map is kept, the new abstract heap is held -/
theorem Inv.step {g' : Array GenState} {t' : Nat} {d' : Drawn} {ch : List Addr} (I : Inv X pins σ H s)
    (hch : ∀ b ∈ ch, (b ∈ X.ex ∨ X.s_0.heap.objs.size ≤ b) ∧ b ≠ X.env.locals ∧ (∀ x c, X.env.cells.lookup x = some c → c ≠ b) ∧ ∀ p ∈ X.pn ++ pins, p.1 ≠ b)
    (keep : ∀ b o, b ≠ X.env.locals → b ∉ X.fs → b ∉ ch → s.heap.get? b = some o → H b = none → h'.get? b = some o)
    (slot : ∀ b o, b ≠ X.env.locals → b ∈ X.fs → b ∉ ch → s.heap.get? b = some o → H b = none → ∃ sl, h'.get? b = some { o with slots := sl }) (free : ∀ b o, b ∉ ch → s.heap.get? b = some o → H b = none → H' b = none)
    (there : ∀ b o, b ∉ ch → s.heap.get? b = some o → ∃ o', h'.get? b = some o')
    (tups : ∀ b xs, H b = some (.tup xs) → H' b = some (.tup xs)) (frzs : ∀ b o u, H b = some (.frz o u) → H' b = some (.frz o u)) (tbls : ∀ b ps, H b = some (.tbl ps) → ∃ more, H' b = some (.tbl (ps ++ more)))
    (ns : ∀ m, s.heap.Ns X.env.locals m → h'.Ns X.env.locals m) (hok : HOk X.prog X.w H' h') (hg : AllBare g') :
    Inv X pins σ H' { s with heap := h', gens := g', drawn := d', toks := t' } := by
  have neL : ∀ b o, X.s_0.heap.get? b = some o → b ≠ X.env.locals := fun b o e => Nat.ne_of_lt (Nat.lt_of_lt_of_le (Heap.lt_size e) I.ok.above)
  have neC : ∀ b o, X.s_0.heap.get? b = some o → b ∉ X.ex → b ∉ ch := fun b o e hx hb => by
    rcases (hch b hb).1 with z | z
    · exact hx z
    · exact absurd (Nat.lt_of_lt_of_le (Heap.lt_size e) z) (Nat.lt_irrefl _)
  have cellK : ∀ x c, X.env.cells.lookup x = some c → ∀ v, s.heap.IsCell c v → h'.IsCell c v := fun x c e v ⟨o, ho, hd⟩ => by
    have nch : c ∉ ch := fun z => (hch c z).2.2.1 x c e rfl
    by_cases hc : c ∈ X.fs
    · obtain ⟨sl, q⟩ := slot c o (I.cne x c e) hc nch ho (I.freeC x c e)
      exact ⟨_, q, hd⟩
    · exact ⟨o, keep c o (I.cne x c e) hc nch ho (I.freeC x c e), hd⟩
  refine ⟨I.ok, I.os, hg, ⟨fun b o e n hb hx => ?_, fun b o e n hb hx => ?_, fun b o e n hx => ?_, fun b o e hx => ?_, fun b xs e => tups b xs (I.base.tups b xs e), fun b o xs e => frzs b o xs (I.base.frzs b o xs e), fun b ps e => ?_⟩, ?_, fun x c e => ?_, ?_, fun x c e => ?_, fun p hp => ?_, hok, I.len⟩
  · exact keep b o (neL b o e) hb (neC b o e hx) (I.base.keep b o e n hb hx) (I.base.free b o e n hx)
  · obtain ⟨sl, e1⟩ := I.base.slot b o e n hb hx
    obtain ⟨sl', e2⟩ := slot b _ (neL b o e) hb (neC b o e hx) e1 (I.base.free b o e n hx)
    exact ⟨sl', e2⟩
  · obtain ⟨o', e1⟩ := I.base.there b o e hx
    exact free b o' (neC b o e hx) e1 (I.base.free b o e n hx)
  · obtain ⟨o', e1⟩ := I.base.there b o e hx
    exact there b o' (neC b o e hx) e1
  · obtain ⟨m1, e1⟩ := I.base.tbls b ps e
    obtain ⟨m2, e2⟩ := tbls b _ e1
    exact ⟨m1 ++ m2, by rw [e2, Array.append_assoc]⟩
  · obtain ⟨m, hn, hl⟩ := I.loc
    refine ⟨m, ns m hn, fun i x v e1 e2 e3 => ?_⟩
    obtain ⟨u, r, l⟩ := hl i x v e1 e2 e3
    refine ⟨u, r, ?_⟩
    rcases l with l | ⟨k, c, e, z⟩
    · exact .inl l
    · exact .inr ⟨k, c, e, cellK x c e _ z⟩
  · obtain ⟨v, z⟩ := I.cell x c e
    exact ⟨v, cellK x c e v z⟩
  · obtain ⟨m, ⟨o, _, _, ho, _⟩, _⟩ := I.loc
    exact free _ o (fun z => (hch _ z).2.1 rfl) ho I.free
  · obtain ⟨v, o, ho, hd⟩ := I.cell x c e
    exact free c o (fun z => (hch c z).2.2.1 x c e rfl) ho (I.freeC x c e)
  · obtain ⟨e, n, ne, nf, d⟩ := I.pin p hp
    have nch : p.1 ∉ ch := fun z => (hch p.1 z).2.2.2 p hp rfl
    exact ⟨keep p.1 p.2 ne nf nch e n, free p.1 p.2 nch e n, ne, nf, d⟩
/-- .. where the frame's own object is kept too -/
theorem Inv.un {t' : Nat} (I : Inv X pins σ H s) (u : Un X.fs [] H H' s.heap h') (hok : HOk X.prog X.w H' h') : Inv X pins σ H' { s with heap := h', toks := t' } := by
  obtain ⟨m, ⟨o, es, ep, ho, r⟩, _⟩ := id I.loc
  obtain ⟨sl, hL⟩ := u.any ho I.free (by simp)
  exact I.step (g' := s.gens) (d' := s.drawn) (ch := []) (fun _ z => nomatch z) (fun b o _ hb _ e n => u.keep b o e n hb (by simp)) (fun b o _ hb _ e n => u.slot b o e n hb (by simp)) (fun b o _ e n => u.free b o e n (by simp)) (fun b o _ e => u.there b o e (by simp)) u.tups u.frzs u.tbls (fun m' hm => by
    obtain ⟨o', es', ep', ho', r'⟩ := hm
    rw [ho] at ho'; cases ho'
    exact ⟨_, es', ep', hL, r'⟩) hok I.bare
/-- behind a call (or a comprehension's block): the slots of this frame may have changed too, the records at ch may have turned -/
theorem Inv.call {g' : Array GenState} {t' : Nat} {d' : Drawn} {ch : List Addr} (I : Inv X pins σ H s) (u : Un (frs X.stack) ch H H' s.heap h') (hok : HOk X.prog X.w H' h') (hg : AllBare g')
    (hch : ∀ b ∈ ch, (b ∈ X.ex ∨ X.s_0.heap.objs.size ≤ b) ∧ b ≠ X.env.locals ∧ (∀ x c, X.env.cells.lookup x = some c → c ≠ b) ∧ ∀ p ∈ X.pn ++ pins, p.1 ≠ b) :
    Inv X pins σ H' { s with heap := h', gens := g', drawn := d', toks := t' } := by
  obtain ⟨m, ⟨o, es, ep, ho, r⟩, _⟩ := id I.loc
  obtain ⟨sl, hL⟩ := u.any ho I.free fun z => (hch _ z).2.1 rfl
  exact I.step (ch := ch) hch (fun b o hL hb hc e n => u.keep b o e n (fun z => (List.mem_cons.mp (I.stkSub b z)).elim hL hb) hc) (fun b o _ _ hc e n => u.any e n hc) (fun b o hc e n => u.free b o e n hc) (fun b o hc e => u.there b o e hc) u.tups u.frzs u.tbls (fun m' hm => by
    obtain ⟨o', es', ep', ho', r'⟩ := hm
    rw [ho] at ho'; cases ho'
    exact ⟨_, es', ep', hL, r'⟩) hok hg
/-- an untracked record of ours (an iterator) has turned -/
theorem Inv.turned {t' : Nat} {it : Addr} (I : Inv X pins σ H s) (k : ∀ b o, b ≠ it → s.heap.get? b = some o → h'.get? b = some o) (hn : H it = none) (hL : it ≠ X.env.locals)
    (h1 : it ∈ X.ex ∨ X.s_0.heap.objs.size ≤ it) (h2 : ∀ x c, X.env.cells.lookup x = some c → c ≠ it) (h3 : ∀ p ∈ X.pn ++ pins, p.1 ≠ it) : Inv X pins σ H { s with heap := h', toks := t' } := by
  have nit : ∀ b u, H b = some u → b ≠ it := fun b u e z => by rw [z, hn] at e; cases e
  refine I.step (g' := s.gens) (d' := s.drawn) (ch := [it]) (fun b hb => ?_) (fun b o _ _ hc e _ => k b o (fun z => hc (by simp [z])) e) (fun b o _ _ hc e _ => ⟨o.slots, k b o (fun z => hc (by simp [z])) e⟩) (fun _ _ _ _ n => n)
    (fun b o hc e => ⟨o, k b o (fun z => hc (by simp [z])) e⟩) (fun _ _ e => e) (fun _ _ _ e => e) (fun b ps e => ⟨#[], by rw [e]; simp⟩) (fun m hm => ?_) (fun b u e => ?_) I.bare
  · have e : b = it := by simpa using hb
    subst e
    exact ⟨h1, hL, h2, h3⟩
  · obtain ⟨o, es, ep, ho, r⟩ := hm
    exact ⟨o, es, ep, k _ o (Ne.symm hL) ho, r⟩
  · refine (I.hok b u e).stay (fun c v hc q => k c v ?_ q) (fun _ q => q) fun _ _ q => q
    rcases hc with z | z
    · rw [z]; exact nit b u e
    · exact nit c _ z
theorem Inv.tok (I : Inv X pins σ H s) (t : Nat) : Inv X pins σ H { s with toks := t } := I.un (h' := s.heap) (t' := t) Un.refl I.hok
/-- all objects kept -/
theorem Inv.kept {t' : Nat} (I : Inv X pins σ H s) (k : ∀ b u, s.heap.get? b = some u → h'.get? b = some u) : Inv X pins σ H { s with heap := h', toks := t' } := I.un (Un.kept k) (I.hok.kept k)
/-- a new object laid and tracked -/
theorem Inv.laid {a : Addr} {o : HO} {t' : Nat} (I : Inv X pins σ H s) (k : ∀ b u, s.heap.get? b = some u → h'.get? b = some u) (hp : s.heap.objs.size ≤ a) (new : ObjOk X.prog X.w (upd H a o) h' a o) :
    Inv X pins σ (upd H a o) { s with heap := h', toks := t' } := I.un (Un.laid k hp (I.hok.fresh hp)) (I.hok.laid k hp new)
/-- an object written -/
theorem Inv.write {x e : Addr} {o : HO} {t' : Nat} (I : Inv X pins σ H s) (mu : Mut (H x)) (he : e = x ∨ H e = some (.own x)) (k : ∀ b u, b ≠ e → s.heap.get? b = some u → h'.get? b = some u) (heo : ∃ u, h'.get? e = some u)
    (new : ObjOk X.prog X.w (upd H x o) h' x o) : Inv X pins σ (upd H x o) { s with heap := h', toks := t' } := I.un (Un.write mu he k heo) (I.hok.write mu he k heo new)
/-- forgetting slots, pins -/
theorem Inv.weak {σ' : List (Option V)} (I : Inv X pins σ H s) (hl : σ'.length = σ.length) (w : ∀ (i : Nat) v, σ'[i]? = some (some v) → σ[i]? = some (some v)) : Inv X pins σ' H s :=
  ⟨I.ok, I.os, I.bare, I.base, let ⟨m, hn, hl'⟩ := I.loc; ⟨m, hn, fun i x v e1 e2 e3 => hl' i x v e1 (w i v e2) e3⟩, I.cell, I.free, I.freeC, I.pin, I.hok, hl.trans I.len⟩
theorem Inv.pins_of {pins' : List (Addr × Obj)} (I : Inv X pins σ H s) (h : ∀ p ∈ pins', s.heap.get? p.1 = some p.2 ∧ H p.1 = none ∧ p.1 ≠ X.env.locals ∧ p.1 ∉ X.fs ∧ ∀ v, p.2.data ≠ .cell v) : Inv X pins' σ H s :=
  ⟨I.ok, I.os, I.bare, I.base, I.loc, I.cell, I.free, I.freeC, fun p hp => (List.mem_append.mp hp).elim (fun z => I.pin p (List.mem_append_left _ z)) (h p), I.hok, I.len⟩

theorem nodup_ix {N : List Str} (hN : N.Nodup) {i j : Nat} {x : Str} (a : N[i]? = some x) (b : N[j]? = some x) : i = j := by
  obtain ⟨h1, e1⟩ := List.getElem?_eq_some_iff.mp a
  obtain ⟨h2, e2⟩ := List.getElem?_eq_some_iff.mp b
  exact (List.getElem_inj hN).mp (e1.trans e2.symm)

/-- a name is stored; what changed -/
theorem store_ok2 {M : Model} {A : Around} {E : Value → Shared → Prop} {i : Nat} {x : Str} {v : V} {u : Value} {Q : Unit → Shared → Prop} (I : Inv X pins σ H s) (hN : X.N.Nodup) (hi : X.N[i]? = some x) (hx : Loc X.env.scope x) (r : RelV v u)
    (h : ∀ s', Inv X pins (σ.set i (some v)) H s' → (∃ a, Heap.SameBut a s.heap s'.heap ∧ (a = X.env.locals ∨ X.env.cells.lookup x = some a)) → Q () s') (hf : X.fn x = true ∨ X.env.scope.names.lookup x = some .local := by first | exact .inl rfl | exact .inr rfl | assumption) : wpAny M A (storeName X.env x u) Q E s := by
  obtain ⟨m, hn, hl⟩ := id I.loc
  have hcls : (X.env.scope.kind == .class || (X.env.scope.kind == .module && X.env.locals != X.env.globals)) = false := by rw [I.ok.kind]; rfl
  have hiσ : i < σ.length := by rw [I.len]; exact (List.getElem?_eq_some_iff.mp hi).1
  have cne := I.cne
  have tracked : ∀ {a : Addr} {h' : Heap}, (∃ o, s.heap.get? a = some o ∧ H a = none) → Heap.SameBut a s.heap h' → HOk X.prog X.w H h' := fun {a h'} ha hs b ob e => by
    obtain ⟨_, _, hfree⟩ := ha
    refine (I.hok b ob e).stay (fun c w' hc q => (hs.2 c ?_).trans q) (fun _ q => q) fun _ _ q => q
    rintro rfl
    rcases hc with rfl | hc
    · rw [hfree] at e; cases e
    · rw [hfree] at hc; cases hc
  rcases hx with hk | hk
  · refine wpAny_storeName_local hk hn (fun h' hn' hs => ?_) hcls
    obtain ⟨oL, _, _, hoL, _⟩ := id hn
    refine h _ ⟨I.ok, I.os, I.bare, ⟨fun b o e n hb hx => ?_, fun b o e n hb hx => ?_, I.base.free, fun b o e hx => ?_, I.base.tups, I.base.frzs, I.base.tbls⟩, ⟨_, hn', fun j y v' e1 e2 e3 => ?_⟩, fun y c e => ?_, I.free, I.freeC, fun p hp => ?_, tracked ⟨oL, hoL, I.free⟩ hs, by simpa using I.len⟩ ⟨_, hs, .inl rfl⟩
    · exact (hs.2 b (Nat.ne_of_lt (Nat.lt_of_lt_of_le (Heap.lt_size e) I.ok.above))).trans (I.base.keep b o e n hb hx)
    · obtain ⟨sl, e1⟩ := I.base.slot b o e n hb hx
      exact ⟨sl, (hs.2 b (Nat.ne_of_lt (Nat.lt_of_lt_of_le (Heap.lt_size e) I.ok.above))).trans e1⟩
    · obtain ⟨o', e1⟩ := I.base.there b o e hx
      exact ⟨o', (hs.2 b (Nat.ne_of_lt (Nat.lt_of_lt_of_le (Heap.lt_size e) I.ok.above))).trans e1⟩
    · by_cases hj : j = i
      · subst hj
        rw [hi] at e1; cases e1
        rw [List.getElem?_set_self hiσ] at e2
        cases e2
        exact ⟨u, r, .inl ⟨hk, by simp⟩⟩
      · rw [List.getElem?_set_ne (Ne.symm hj)] at e2
        obtain ⟨u', r', q⟩ := hl j y v' e1 e2 e3
        refine ⟨u', r', ?_⟩
        rcases q with ⟨k, e⟩ | ⟨k, c, e, z⟩
        · refine .inl ⟨k, ?_⟩
          have : y ≠ x := fun e => hj (nodup_ix hN e1 (e ▸ hi))
          simp [this, e]
        · exact .inr ⟨k, c, e, z.sameBut hs (cne y c e)⟩
    · obtain ⟨w', z⟩ := I.cell y c e
      exact ⟨w', z.sameBut hs (cne y c e)⟩
    · obtain ⟨e, n, ne, nf, d⟩ := I.pin p hp
      exact ⟨(hs.2 p.1 ne).trans e, n, ne, nf, d⟩
  · have hfn : X.fn x = true := by
      rcases hf with z | z
      · exact z
      · rw [z] at hk; cases hk
    obtain ⟨c, hc⟩ := I.ok.has x (.inl hk)
    obtain ⟨w', z⟩ := I.cell x c hc
    refine wpAny_storeName_cell I.ok.kind hk hc z (fun h' hc' hs => ?_)
    obtain ⟨oc, hoc, hocd⟩ := id z
    refine h { s with heap := h' } ⟨I.ok, I.os, I.bare, ⟨fun b o e n hb hx => ?_, fun b o e n hb hx => ?_, I.base.free, fun b o e hx => ?_, I.base.tups, I.base.frzs, I.base.tbls⟩, ⟨m, hn.sameBut hs (Ne.symm (cne x c hc)), fun j y v' e1 e2 e3 => ?_⟩, fun y c' e => ?_, I.free, I.freeC, fun p hp => ?_, tracked ⟨oc, hoc, I.freeC x c hc⟩ hs, by simpa using I.len⟩ ⟨c, hs, .inr hc⟩
    · exact (hs.2 b (Nat.ne_of_lt (Nat.lt_of_lt_of_le (Heap.lt_size e) (I.ok.cab x c hfn hc)))).trans (I.base.keep b o e n hb hx)
    · obtain ⟨sl, e1⟩ := I.base.slot b o e n hb hx
      exact ⟨sl, (hs.2 b (Nat.ne_of_lt (Nat.lt_of_lt_of_le (Heap.lt_size e) (I.ok.cab x c hfn hc)))).trans e1⟩
    · obtain ⟨o', e1⟩ := I.base.there b o e hx
      exact ⟨o', (hs.2 b (Nat.ne_of_lt (Nat.lt_of_lt_of_le (Heap.lt_size e) (I.ok.cab x c hfn hc)))).trans e1⟩
    · by_cases hj : j = i
      · subst hj
        rw [hi] at e1; cases e1
        rw [List.getElem?_set_self hiσ] at e2
        cases e2
        exact ⟨u, r, .inr ⟨.inl hk, c, hc, hc'⟩⟩
      · rw [List.getElem?_set_ne (Ne.symm hj)] at e2
        obtain ⟨u', r', q⟩ := hl j y v' e1 e2 e3
        refine ⟨u', r', ?_⟩
        rcases q with q | ⟨k, c', e, z'⟩
        · exact .inl q
        · refine .inr ⟨k, c', e, z'.sameBut hs ?_⟩
          rintro rfl
          exact hj (nodup_ix hN e1 (I.ok.inj _ _ _ e hc ▸ hi))
    · by_cases hcc : c' = c
      · subst hcc; exact ⟨_, hc'⟩
      · obtain ⟨w2, z2⟩ := I.cell y c' e
        exact ⟨w2, z2.sameBut hs hcc⟩
    · obtain ⟨e, n, ne, nf, d⟩ := I.pin p hp
      refine ⟨(hs.2 p.1 ?_).trans e, n, ne, nf, d⟩
      intro q
      rw [q, hoc] at e
      have q' : oc = p.2 := Option.some.inj e
      exact d w' (by rw [← q']; exact hocd)
theorem store_ok {M : Model} {A : Around} {E : Value → Shared → Prop} {i : Nat} {x : Str} {v : V} {u : Value} {Q : Unit → Shared → Prop} (I : Inv X pins σ H s) (hN : X.N.Nodup) (hi : X.N[i]? = some x) (hx : Loc X.env.scope x) (r : RelV v u)
    (h : ∀ s', Inv X pins (σ.set i (some v)) H s' → Q () s') (hf : X.fn x = true ∨ X.env.scope.names.lookup x = some .local := by first | exact .inl rfl | exact .inr rfl | assumption) : wpAny M A (storeName X.env x u) Q E s :=
  store_ok2 I hN hi hx r (fun s' I' _ => h s' I') hf
/-- behind a call or a block, the state as it is -/
theorem Inv.call' {s' : Shared} {ch : List Addr} (I : Inv X pins σ H s) (ho : s'.os = s.os) (u : Un (frs X.stack) ch H H' s.heap s'.heap) (hok : HOk X.prog X.w H' s'.heap) (hg : AllBare s'.gens)
    (hch : ∀ b ∈ ch, (b ∈ X.ex ∨ X.s_0.heap.objs.size ≤ b) ∧ b ≠ X.env.locals ∧ (∀ x c, X.env.cells.lookup x = some c → c ≠ b) ∧ ∀ p ∈ X.pn ++ pins, p.1 ≠ b) : Inv X pins σ H' s' := by
  obtain ⟨h', g', d', t', o'⟩ := s'
  have e : o' = s.os := ho
  subst e
  exact I.call (g' := g') (t' := t') (d' := d') u hok hg hch
end

/-! ### the judgements -/
/-- an exception: its class, its own dict's address (where it has one), the abstract heap behind it -/
abbrev XK := Value → Option Addr → Hp → Prop
abbrev St := List (Option V)
abbrev VK := V → Hp → Prop
/-- an expression's reading; a test's; an argument list's -/
abbrev TE := St → Hp → VK → Prop
abbrev TT := St → Hp → (Bool → Hp → Prop) → Prop
abbrev TA := St → Hp → (List V → Hp → Prop) → Prop
/-- what is wanted behind a statement -/
structure Ends where
  nx : St → Hp → Prop
  rt : VK
  bk : St → Hp → Prop := fun _ _ => False
  ct : St → Hp → Prop := fun _ _ => False
abbrev TS := Ends → St → Hp → Prop

def EP (X : Cx) (pins : List (Addr × Obj)) (σ : St) (Q : VK) (u : Value) (s' : Shared) : Prop := ∃ v H', Inv X pins σ H' s' ∧ RelV v u ∧ Q v H'
def TP (X : Cx) (pins : List (Addr × Obj)) (σ : St) (Q : Bool → Hp → Prop) (b : Bool) (s' : Shared) : Prop := ∃ H', Inv X pins σ H' s' ∧ Q b H'
def AP (X : Cx) (pins : List (Addr × Obj)) (σ : St) (Q : List V → Hp → Prop) (us : List Value) (s' : Shared) : Prop := ∃ vs H', Inv X pins σ H' s' ∧ Vals vs us ∧ Q vs H'
def SP (X : Cx) (pins : List (Addr × Obj)) (D : Ends) (f : Flow) (s' : Shared) : Prop :=
  match f with
  | .next => ∃ σ' H', Inv X pins σ' H' s' ∧ D.nx σ' H'
  | .brk => ∃ σ' H', Inv X pins σ' H' s' ∧ D.bk σ' H'
  | .cont => ∃ σ' H', Inv X pins σ' H' s' ∧ D.ct σ' H'
  | .ret u => ∃ v σ' H', Inv X pins σ' H' s' ∧ RelV v u ∧ D.rt v H'

def PE (X : Cx) (e : Expr) (t : TE) : Prop :=
  ∀ (pins : List (Addr × Obj)) (s : Shared) (σ : St) (H : Hp) (Q : VK), Inv X pins σ H s → t σ H Q → wpAny (model X.prog X.w) X.A (eval e X.env) (EP X pins σ Q) X.xe s
def PT (X : Cx) (e : Expr) (t : TT) : Prop :=
  ∀ (pins : List (Addr × Obj)) (s : Shared) (σ : St) (H : Hp) (Q : Bool → Hp → Prop), Inv X pins σ H s → t σ H Q → wpAny (model X.prog X.w) X.A (isTrue e X.env (eval e X.env)) (TP X pins σ Q) X.xe s
/-- a test whatever its 'whole' is (and, or) -/
def PW (X : Cx) (e : Expr) (t : TT) : Prop :=
  ∀ (whole : Sem Value) (pins : List (Addr × Obj)) (s : Shared) (σ : St) (H : Hp) (Q : Bool → Hp → Prop), Inv X pins σ H s → t σ H Q → wpAny (model X.prog X.w) X.A (isTrue e X.env whole) (TP X pins σ Q) X.xe s
theorem PW.pt {X : Cx} {e : Expr} {t : TT} (h : PW X e t) : PT X e t := h _
/-- an argument list (no star), from the left -/
def PA (X : Cx) (es : List Expr) (t : TA) : Prop :=
  ∀ (pos : Pos) (pins : List (Addr × Obj)) (s : Shared) (σ : St) (H : Hp) (Q : List V → Hp → Prop), Inv X pins σ H s → t σ H Q → wpAny (model X.prog X.w) X.A (spliced (backTo pos (starEach es X.env))) (AP X pins σ Q) X.xe s
def PS (X : Cx) (st : Stmt) (t : TS) : Prop :=
  ∀ (pins : List (Addr × Obj)) (s : Shared) (σ : St) (H : Hp) (D : Ends), Inv X pins σ H s → t D σ H → wpAny (model X.prog X.w) X.A (exec st X.env) (SP X pins D) X.xe s
def PSs (X : Cx) (st : List Stmt) (t : TS) : Prop :=
  ∀ (pins : List (Addr × Obj)) (s : Shared) (σ : St) (H : Hp) (D : Ends), Inv X pins σ H s → t D σ H → wpAny (model X.prog X.w) X.A (execs st X.env) (SP X pins D) X.xe s
/-- weaken the end -/
theorem thn {α : Type} {t : Sem α} {Q Q' : α → Shared → Prop} {M : Model} {A : Around} {E : Value → Shared → Prop} {s : Shared} (h : wpAny M A t Q E s) (hQ : ∀ a s, Q a s → Q' a s) : wpAny M A t Q' E s := wpAny_mono h hQ fun _ _ x => x
end L2

namespace L2
open PySem PySem.Spec PyProof.Rows
section
variable {X : Cx}

/-! ### names and constants -/
def tVar (i : Nat) : TE := fun σ H Q => ∃ v, σ[i]? = some (some v) ∧ Q v H
def tC (v : V) : TE := fun _ H Q => Q v H
theorem pe_var {i : Nat} {x : Str} {pos : Pos} (hN : X.N[i]? = some x) (hv : Vis X.env.scope x) (hd : (x == ("__debug__" : Str)) = false := by decide) (hcd : (x == ("__classdict__" : Str)) = false := by decide) : PE X (.Name x pos) (tVar i) := by
  intro pins s σ H Q I h
  obtain ⟨v, e, h⟩ := h
  obtain ⟨m, hn, hl⟩ := I.loc
  obtain ⟨u, r, l⟩ := hl i x v hN e hv
  have fin : EP X pins σ Q u s := ⟨v, H, I, r, h⟩
  rcases l with ⟨hk, hm⟩ | ⟨hk, c, hc, hcell⟩
  · exact wpAny_Name (wpAny_loadName_local I.ok.kind hk hn hm fin) hd
  · rcases hk with hk | hk
    · exact wpAny_Name (wpAny_loadName_cell I.ok.kind hk hc hcell fin) hd
    · exact wpAny_Name (wpAny_loadName_free I.ok.kind hk hc hcell fin hcd) hd
theorem pe_int {i j pos} : PE X (.Constant (.int i) j pos) (tC (.int i)) := fun _ _ _ H _ I h => wpAny_Constant_int ⟨.int i, H, I.tok _, ⟨_, rfl⟩, h⟩
theorem pe_bl {b j pos} : PE X (.Constant (.bool b) j pos) (tC (.bl b)) := fun _ _ _ H _ I h => Constant_bool ⟨.bl b, H, I, rfl, h⟩
theorem pe_non {j pos} : PE X (.Constant .none j pos) (tC .non) := fun _ _ _ H _ I h => Constant_none ⟨.non, H, I, rfl, h⟩

/-- a global name of the def -/
def Gl (X : Cx) (x : Str) : Prop := X.env.kindOf x = some .globalImplicit
theorem ld_glob {E : Value → Shared → Prop} {pins : List (Addr × Obj)} {s : Shared} {σ : St} {H : Hp} {x : Str} {u : Value} {pos : Pos} {Q : Value → Shared → Prop} (I : Inv X pins σ H s) (hg : Gl X x) (hm : X.mg x = some u) (h : Q u s)
    (hd : (x == ("__debug__" : Str)) = false := by decide) : wpAny (model X.prog X.w) X.A (eval (.Name x pos) X.env) Q E s :=
  Calls.Name_function_global I.ok.kind hg (Calls.loadGlobal_global (by rw [I.ok.glob]; exact I.mod.glob.keeps I.bk) hm h) hd
theorem ld_blt {E : Value → Shared → Prop} {pins : List (Addr × Obj)} {s : Shared} {σ : St} {H : Hp} {x : Str} {u : Value} {pos : Pos} {Q : Value → Shared → Prop} (I : Inv X pins σ H s) (hg : Gl X x) (hm : X.mg x = none) (hv : bootBuiltins x = some u) (h : Q u s)
    (hn : x ≠ "__name__" := by decide) (hd : (x == ("__debug__" : Str)) = false := by decide) : wpAny (model X.prog X.w) X.A (eval (.Name x pos) X.env) Q E s := by
  obtain ⟨mb, h1, h2⟩ := I.mod.blt
  exact Calls.Name_function_global I.ok.kind hg (Calls.loadGlobal_builtin (by rw [I.ok.glob]; exact I.mod.glob.keeps I.bk) hm (by rw [I.ok.blt]; exact h1.keeps I.bk) ((h2 x hn).trans hv) h) hd
/-- a module's constant, a class, a function, as a value -/
theorem pe_glob {x : Str} {v : V} {u : Value} {pos : Pos} (hg : Gl X x) (hm : X.mg x = some u) (r : RelV v u) (hd : (x == ("__debug__" : Str)) = false := by decide) : PE X (.Name x pos) (tC v) :=
  fun _ _ _ H _ I h => ld_glob I hg hm ⟨v, H, I, r, h⟩ hd

/-! ### arithmetic -/
/-- two ints -/
def t2I (ta tb : TE) (k : Int → Int → Hp → Prop) : St → Hp → Prop := fun σ H => ta σ H fun x H1 => tb σ H1 fun y H2 => ∃ i j, x = .int i ∧ y = .int j ∧ k i j H2
def tAdd (ta tb : TE) : TE := fun σ H Q => t2I ta tb (fun i j H2 => Q (.int (i + j)) H2) σ H
def tSub (ta tb : TE) : TE := fun σ H Q => t2I ta tb (fun i j H2 => Q (.int (i - j)) H2) σ H
/-- the left factor below 2^64 -/
def tMul (ta tb : TE) : TE := fun σ H Q => t2I ta tb (fun i j H2 => (-(2 ^ 64) < i ∧ i < 2 ^ 64) ∧ Q (.int (i * j)) H2) σ H
variable {a b : Expr} {ta tb : TE} {pos : Pos}

/-! ### comparisons -/
def PC (X : Cx) (op : CmpOp) (a b : Expr) (t : TE) : Prop :=
  ∀ (pins : List (Addr × Obj)) (s : Shared) (σ : St) (H : Hp) (Q : VK), Inv X pins σ H s → t σ H Q →
    wpAny (model X.prog X.w) X.A (eval a X.env) (fun v s₁ => wpAny (model X.prog X.w) X.A (eval b X.env) (fun u s₂ => wpAny (model X.prog X.w) X.A (compareOp op v u) (EP X pins σ Q) X.xe s₂) X.xe s₁) X.xe s
theorem nobehind (b : Expr) {op : CmpOp} (h : op ≠ .In) (h2 : op ≠ .NotIn) : behindInMarks op b = false := by
  have e1 : (op == CmpOp.In) = false := by cases op <;> first | rfl | exact absurd rfl h
  have e2 : (op == CmpOp.NotIn) = false := by cases op <;> first | rfl | exact absurd rfl h2
  cases b <;> simp [behindInMarks, e1, e2]
def tCmp (p : Int → Int → Bool) (ta tb : TE) : TE := fun σ H Q => t2I ta tb (fun i j H2 => Q (.bl (p i j)) H2) σ H
abbrev tLt : TE → TE → TE := tCmp fun i j => decide (i < j)
abbrev tLe : TE → TE → TE := tCmp fun i j => decide (i ≤ j)
abbrev tGt : TE → TE → TE := tCmp fun i j => decide (j < i)
abbrev tGe : TE → TE → TE := tCmp fun i j => decide (j ≤ i)
abbrev tEqI : TE → TE → TE := tCmp fun i j => decide (i = j)
abbrev tNeI : TE → TE → TE := tCmp fun i j => !decide (i = j)
/-- is None -/
def tIsN (ta : TE) : TE := fun σ H Q => ta σ H fun x H1 => Q (.bl (decide (x = .non))) H1
def tNotN (ta : TE) : TE := fun σ H Q => ta σ H fun x H1 => Q (.bl (!decide (x = .non))) H1
theorem RelV.none_iff {x : V} {v : Value} (r : RelV x v) : (v == Value.none) = decide (x = .non) := by
  cases x with
  | non => cases r; rfl
  | bl _ => cases r; rfl
  | int _ => obtain ⟨t, rfl⟩ := r; rfl
  | str _ => obtain ⟨t, rfl⟩ := r; rfl
  | byt _ => obtain ⟨t, rfl⟩ := r; rfl
  | flt _ => obtain ⟨t, rfl⟩ := r; rfl
  | ref _ => cases r; rfl
  | ty _ => cases r; rfl
theorem pc_isN {j pos'} (ha : PE X a ta) : PC X .Is a (.Constant .none j pos') (tIsN ta) := by
  intro pins s σ H Q I h
  refine thn (ha pins s σ H _ I h) fun v s1 ⟨x, H1, I1, r1, q1⟩ => ?_
  exact Constant_none (is_none_gen ⟨.bl _, H1, I1, by rw [r1.none_iff]; rfl, q1⟩)
theorem pc_notN {j pos'} (ha : PE X a ta) : PC X .IsNot a (.Constant .none j pos') (tNotN ta) := by
  intro pins s σ H Q I h
  refine thn (ha pins s σ H _ I h) fun v s1 ⟨x, H1, I1, r1, q1⟩ => ?_
  exact Constant_none (isnot_none_gen ⟨.bl _, H1, I1, by rw [r1.none_iff]; rfl, q1⟩)
/-- a comparison as a value, as a test -/
def tB (t : TE) : TT := fun σ H Q => t σ H fun x H1 => ∃ c, x = .bl c ∧ Q c H1
theorem pt_cmp {op : CmpOp} {t : TE} (h : PC X op a b t) (h1 : behindInMarks op b = false := by first | exact nobehind _ (by decide) (by decide) | rfl) : PT X (.Compare a [op] [b] pos) (tB t) := by
  intro pins s σ H Q I hw
  refine wpAny_isTrue_Compare1 (thn (h pins s σ H _ I hw) fun v s1 h1 => thn h1 fun u s2 h2 => thn h2 fun c s3 ⟨x, H1, I1, r1, q1⟩ => ?_) h1
  obtain ⟨d, rfl, q⟩ := q1
  cases r1
  exact wpAny_truthy_bool ⟨H1, I1, q⟩
/-- an expression whose value is a bool, as a test -/
theorem pt_val {e : Expr} {t : TE} (h : PE X e t) (he : ∀ whole, isTrue e X.env whole = (do let v ← whole; standAt e.pos; holding [v] (truthy v)) := by intro _; rfl) : PT X e (tB t) := by
  intro pins s σ H Q I hw
  refine isTrue_plain (thn (h pins s σ H _ I hw) fun v s1 ⟨x, H1, I1, r1, q1⟩ => ?_) (he _)
  obtain ⟨d, rfl, q⟩ := q1
  cases r1
  exact wpAny_truthy_bool ⟨H1, I1, q⟩

/-! ### and, or, not -/
variable {tA tB' : TT} {rest : List Expr}
def tAnd (t u : TT) : TT := fun σ H Q => t σ H fun c H1 => if c = true then u σ H1 Q else Q false H1
def tOr (t u : TT) : TT := fun σ H Q => t σ H fun c H1 => if c = true then Q true H1 else u σ H1 Q
def tNot (t : TT) : TT := fun σ H Q => t σ H fun c H1 => Q (!c) H1
theorem pw_and1 (ha : PT X a tA) : PW X (.BoolOp .And [a] pos) tA := by
  intro wh pins s σ H Q I h
  refine isTrue_and (thn (ha pins s σ H Q I h) fun c s1 e => ?_)
  cases c with
  | true => exact isTrue_and_nil e
  | false => exact e
theorem pw_and (ha : PT X a tA) (hb : PW X (.BoolOp .And (b :: rest) pos) tB') : PW X (.BoolOp .And (a :: b :: rest) pos) (tAnd tA tB') := by
  intro wh pins s σ H Q I h
  refine isTrue_and (thn (ha pins s σ H _ I h) fun c s1 ⟨H1, I1, q1⟩ => ?_)
  cases c with
  | true => exact hb wh pins s1 σ H1 Q I1 q1
  | false => exact ⟨H1, I1, q1⟩
theorem pt_not (ha : PT X a tA) : PT X (.UnaryOp .Not a pos) (tNot tA) := by
  intro pins s σ H Q I h
  exact isTrue_not (ha pins s σ H (fun c H1 => Q (!c) H1) I h)
/-- .. as values (bools) -/
def tAndV (ta tb : TE) : TE := fun σ H Q => ta σ H fun x H1 => ∃ c, x = .bl c ∧ if c = true then tb σ H1 Q else Q (.bl false) H1
def tOrV (ta tb : TE) : TE := fun σ H Q => ta σ H fun x H1 => ∃ c, x = .bl c ∧ if c = true then Q (.bl true) H1 else tb σ H1 Q
def tNotV (ta : TE) : TE := fun σ H Q => ta σ H fun x H1 => ∃ c, x = .bl c ∧ Q (.bl (!c)) H1
/-- a if t else b -/
def tIf (t : TT) (ta tb : TE) : TE := fun σ H Q => t σ H fun c H1 => if c = true then ta σ H1 Q else tb σ H1 Q
end
end L2

namespace L2
open PySem PySem.Spec PyProof.Rows

/-! ### a list, a tuple that is read: tracked, frozen, or an object of the module -/
def SqL (K : PySem.W.Frag) (H : Hp) (a : Addr) (xs : List V) : Prop :=
  Rd H a (.lst xs) ∨
    ∃ (o : Obj) (its : Array Value) (n : Nat), K.lookup a = some o ∧ o.cls = .type "list" ∧ o.dict = none ∧ o.data = .seq its n ∧ its.size ≤ sizeLine ∧ Vals xs its.toList
def SqT (K : PySem.W.Frag) (H : Hp) (a : Addr) (xs : List V) : Prop :=
  Rd H a (.tup xs) ∨
    ∃ (o : Obj) (its : Array Value) (n : Nat), K.lookup a = some o ∧ o.cls = .type "tuple" ∧ o.data = .seq its n ∧ its.size ≤ sizeLine ∧ Vals xs its.toList
def absV : Value → Option V
  | .none => some .non
  | .bool b => some (.bl b)
  | .int i _ => some (.int i)
  | .str x _ => some (.str x)
  | .bytes b _ => some (.byt b)
  | .float b _ => some (.flt b)
  | .ref a => some (.ref a)
  | .type n => some (.ty n)
  | _ => none
theorem RelV.abs {x : V} {u : Value} (r : RelV x u) : absV u = some x := by
  cases x with
  | non => cases r; rfl
  | bl _ => cases r; rfl
  | int _ => obtain ⟨t, rfl⟩ := r; rfl
  | str _ => obtain ⟨t, rfl⟩ := r; rfl
  | byt _ => obtain ⟨t, rfl⟩ := r; rfl
  | flt _ => obtain ⟨t, rfl⟩ := r; rfl
  | ref _ => cases r; rfl
  | ty _ => cases r; rfl
theorem RelV.inj {x y : V} {u : Value} (r : RelV x u) (q : RelV y u) : x = y := Option.some.inj (r.abs.symm.trans q.abs)
theorem Vals.inj : ∀ {xs ys : List V} {us : List Value}, Vals xs us → Vals ys us → xs = ys
  | _, _, _, .nil, .nil => rfl
  | _, _, _, .cons r t, .cons r' t' => by rw [r.inj r', Vals.inj t t']
section
variable {X : Cx} {pins : List (Addr × Obj)} {σ : St} {H : Hp} {s : Shared} {a : Addr} {xs ys : List V}
theorem SqL.of {K : PySem.W.Frag} (h : H a = some (.lst xs)) : SqL K H a xs := .inl (.inl h)
theorem SqT.of {K : PySem.W.Frag} (h : H a = some (.tup xs)) : SqT K H a xs := .inl (.inl h)
theorem Inv.list (I : Inv X pins σ H s) (h : SqL X.K H a xs) : ∃ its : List Value, Vals xs its ∧ PlainL s.heap a its.toArray ∧ xs.length ≤ sizeLine := by
  rcases h with h | ⟨o, its, n, hk, hc, hd, hs, hz, r⟩
  · obtain ⟨z, its, n, r, e⟩ := h.ok I.hok
    exact ⟨its, r, ⟨_, n, e, rfl, rfl, rfl⟩, z⟩
  · refine ⟨its.toList, r, ⟨o, n, I.kIn a o hk, hc, hd, by simpa using hs⟩, ?_⟩
    have e := r.length
    simp only [Array.length_toList] at e
    omega
theorem Inv.tuple (I : Inv X pins σ H s) (h : SqT X.K H a xs) : ∃ its : List Value, Vals xs its ∧ IsTup s.heap a its.toArray ∧ xs.length ≤ sizeLine := by
  rcases h with h | ⟨o, its, n, hk, hc, hs, hz, r⟩
  · obtain ⟨z, its, r, p⟩ := h.ok I.hok
    exact ⟨its, r, p, z⟩
  · refine ⟨its.toList, r, ⟨o, I.kIn a o hk, hc, n, by simpa using hs⟩, ?_⟩
    have e := r.length
    simp only [Array.length_toList] at e
    omega
theorem Inv.list_inj (I : Inv X pins σ H s) (h : SqL X.K H a xs) (h' : SqL X.K H a ys) : xs = ys := by
  obtain ⟨its, r, ⟨o, n, e, _, _, d⟩, _⟩ := I.list h
  obtain ⟨its', r', ⟨o', n', e', _, _, d'⟩, _⟩ := I.list h'
  rw [e] at e'; cases e'
  rw [d] at d'
  injection d' with d1 _
  have : its = its' := by simpa using congrArg Array.toList d1
  subst this
  exact r.inj r'
end

/-! ### another wish about exceptions -/
abbrev Cx.wish (X : Cx) (E : Value → Shared → Prop) : Cx := { X with xe := E }
/-- no exception leaves -/
abbrev Cx.nox (X : Cx) : Cx := X.wish fun _ _ => False
theorem Cx.Ok.wish {X : Cx} (ok : X.Ok) (E : Value → Shared → Prop) : (X.wish E).Ok :=
  ⟨ok.mod, ok.kind, ok.glob, ok.blt, ok.above, ok.inj, ok.has, ok.cab, ok.hd, ok.frames, ok.stk, ok.exf, ok.bs, ok.bsz, ok.noex, ok.exfs, ok.funs, ok.frf⟩
theorem Cx.Ok.unwish {X : Cx} {E : Value → Shared → Prop} (ok : (X.wish E).Ok) : X.Ok :=
  ⟨ok.mod, ok.kind, ok.glob, ok.blt, ok.above, ok.inj, ok.has, ok.cab, ok.hd, ok.frames, ok.stk, ok.exf, ok.bs, ok.bsz, ok.noex, ok.exfs, ok.funs, ok.frf⟩
section
variable {X : Cx} {pins : List (Addr × Obj)} {σ : St} {H : Hp} {s : Shared} {E : Value → Shared → Prop}
theorem Inv.wish (I : Inv X pins σ H s) (E : Value → Shared → Prop) : Inv (X.wish E) pins σ H s := ⟨I.ok.wish E, I.os, I.bare, I.base, I.loc, I.cell, I.free, I.freeC, I.pin, I.hok, I.len⟩
theorem Inv.unwish (I : Inv (X.wish E) pins σ H s) : Inv X pins σ H s := ⟨I.ok.unwish, I.os, I.bare, I.base, I.loc, I.cell, I.free, I.freeC, I.pin, I.hok, I.len⟩
theorem SP.unwish {D : Ends} {f : Flow} {s' : Shared} (h : SP (X.wish E) pins D f s') : SP X pins D f s' := by
  cases f with
  | next => obtain ⟨σ', H', I, q⟩ := h; exact ⟨σ', H', I.unwish, q⟩
  | brk => obtain ⟨σ', H', I, q⟩ := h; exact ⟨σ', H', I.unwish, q⟩
  | cont => obtain ⟨σ', H', I, q⟩ := h; exact ⟨σ', H', I.unwish, q⟩
  | ret u => obtain ⟨v, σ', H', I, r, q⟩ := h; exact ⟨v, σ', H', I.unwish, r, q⟩
theorem PSs.nox {st : List Stmt} {t : TS} (h : PSs X.nox st t) : PSs X st t := fun pins s σ H D I hw =>
  wpAny_mono (h pins s σ H D (I.wish _) hw) (fun _ _ q => q.unwish) fun _ _ z => False.elim z
end

/-! ### blocks and small statements -/
section
variable {X : Cx} {st : Stmt} {rest : List Stmt} {t u : TS} {e : Expr} {te : TE} {pos : Pos}
def tNext : TS := fun D σ H => D.nx σ H
def tSeq (t u : TS) : TS := fun D σ H => t { D with nx := u D } σ H
theorem pss_nil : PSs X [] tNext := fun _ _ σ H _ I h => wpAny_execs_nil ⟨σ, H, I, h⟩
theorem pss_cons (h1 : PS X st t) (h2 : PSs X rest u) : PSs X (st :: rest) (tSeq t u) := by
  intro pins s σ H D I h
  refine wpAny_execs_cons (thn (h1 pins s σ H { D with nx := u D } I h) fun f s1 q => ?_)
  cases f with
  | next =>
    obtain ⟨σ', H', I', q⟩ := q
    exact h2 pins s1 σ' H' D I' q
  | ret v => exact q
  | brk => exact q
  | cont => exact q
theorem pss_one (h1 : PS X st t) : PSs X [st] t := by
  intro pins s σ H D I h
  refine wpAny_execs_cons (thn (h1 pins s σ H D I h) fun f s1 q => ?_)
  cases f with
  | next => exact wpAny_execs_nil q
  | ret v => exact q
  | brk => exact q
  | cont => exact q
def tBreak : TS := fun D σ H => D.bk σ H
def tCont : TS := fun D σ H => D.ct σ H
/-- in a def's body nothing is shown -/
theorem Inv.quiet {pins : List (Addr × Obj)} {σ : St} {H : Hp} {s : Shared} (I : Inv X pins σ H s) : interactive X.env = false := by simp [interactive, I.ok.kind]
/-- an expression whose value is dropped -/
def tDrop (te : TE) : TS := fun D σ H => te σ H fun _ H1 => D.nx σ H1
theorem ps_expr (he : PE X e te) (hs : swapsWith e none pos.line X.env = pure false := by rfl) : PS X (.Expr e pos) (tDrop te) := by
  intro pins s σ H D I h
  exact wpAny_Expr_any (thn (he pins s σ H _ I h) fun v s1 ⟨x, H1, I1, r1, q1⟩ => ⟨σ, H1, I1, q1⟩) I.quiet hs
def tRet (te : TE) : TS := fun D σ H => te σ H D.rt
theorem ps_ret (he : PE X e te) : PS X (.Return (some e) pos) (tRet te) := by
  intro pins s σ H D I h
  exact wpAny_Return_some (thn (he pins s σ H _ I h) fun v s1 ⟨x, H1, I1, r1, q1⟩ => ⟨x, σ, H1, I1, r1, q1⟩)
def tRetN : TS := fun D _ H => D.rt .non H
def tIfS (c : TT) (t u : TS) : TS := fun D σ H => c σ H fun b H1 => if b = true then t D σ H1 else u D σ H1
theorem ps_if {c : Expr} {a b : List Stmt} {tc : TT} (hc : PT X c tc) (ha : PSs X a t) (hb : PSs X b u) : PS X (.If c a b pos) (tIfS tc t u) := by
  intro pins s σ H D I h
  refine wpAny_If (thn (hc pins s σ H _ I h) fun d s1 ⟨H1, I1, q1⟩ => ?_)
  cases d with
  | true => exact ha pins s1 σ H1 D I1 q1
  | false => exact hb pins s1 σ H1 D I1 q1
/-- code that the proof never comes to -/
def tNever : TS := fun _ _ _ => False
end

/-! ### targets -/
abbrev TG := V → St → Hp → (St → Hp → Prop) → Prop
abbrev TGs := List V → St → Hp → (St → Hp → Prop) → Prop
def PG (X : Cx) (target : Expr) (t : TG) : Prop :=
  ∀ (pins : List (Addr × Obj)) (s : Shared) (σ : St) (H : Hp) (v : V) (u : Value) (Q : St → Hp → Prop), Inv X pins σ H s → RelV v u → t v σ H Q →
    wpAny (model X.prog X.w) X.A (assign target X.env u) (fun _ s' => ∃ σ' H', Inv X pins σ' H' s' ∧ Q σ' H') X.xe s
/-- several targets, one after another -/
def PGs (X : Cx) (ts : List Expr) (t : TGs) : Prop :=
  ∀ (pins : List (Addr × Obj)) (s : Shared) (σ : St) (H : Hp) (vs : List V) (us : List Value) (Q : St → Hp → Prop), Inv X pins σ H s → Vals vs us → t vs σ H Q →
    wpAny (model X.prog X.w) X.A (assignInOrder ((assignEach ts X.env).map (·.2)) us) (fun _ s' => ∃ σ' H', Inv X pins σ' H' s' ∧ Q σ' H') X.xe s
/-- o[i] = v, by values -/
abbrev TSet := V → V → V → Hp → (Hp → Prop) → Prop
def PSet (X : Cx) (t : TSet) : Prop :=
  ∀ (pins : List (Addr × Obj)) (s : Shared) (σ : St) (H : Hp) (o i v : V) (ov iv u : Value) (Q : Hp → Prop), Inv X pins σ H s → RelV o ov → RelV i iv → RelV v u → t o i v H Q →
    wpAny (model X.prog X.w) X.A (setItem ov iv u) (fun _ s' => ∃ H', Inv X pins σ H' s' ∧ Q H') X.xe s
/-- a op= b, by values -/
abbrev TIp := V → V → Hp → VK → Prop
def PIp (X : Cx) (op : Operator) (t : TIp) : Prop :=
  ∀ (pins : List (Addr × Obj)) (s : Shared) (σ : St) (H : Hp) (x y : V) (v u : Value) (Q : VK), Inv X pins σ H s → RelV x v → RelV y u → t x y H Q →
    wpAny (model X.prog X.w) X.A (inplaceOp op v u) (EP X pins σ Q) X.xe s
section
variable {X : Cx} {pos : Pos}
def gName (i : Nat) : TG := fun v σ H Q => Q (σ.set i (some v)) H
theorem pg_name {i : Nat} {x : Str} (hN : X.N.Nodup) (hi : X.N[i]? = some x) (hx : Loc X.env.scope x) (hf : X.fn x = true ∨ X.env.scope.names.lookup x = some .local := by first | exact .inl rfl | exact .inr rfl | assumption) : PG X (.Name x pos) (gName i) := by
  intro pins s σ H v u Q I r h
  exact wpAny_assign_Name (store_ok I hN hi hx r (fun s' I' => ⟨_, H, I', h⟩) hf)
def gNil : TGs := fun vs σ H Q => vs = [] ∧ Q σ H
def gCons (t : TG) (u : TGs) : TGs := fun vs σ H Q => ∃ v r, vs = v :: r ∧ t v σ H fun σ' H' => u r σ' H' Q
theorem pgs_nil : PGs X [] gNil := by
  intro pins s σ H vs us Q I r h
  obtain ⟨e, h⟩ := h
  subst e
  cases r
  exact assignInOrder_nil ⟨σ, H, I, h⟩
theorem pgs_cons {e : Expr} {es : List Expr} {t : TG} {u : TGs} (h1 : PG X e t) (h2 : PGs X es u)
    (hs : (assignEach (e :: es) X.env).map (·.2) = assign e X.env :: (assignEach es X.env).map (·.2) := by rfl) : PGs X (e :: es) (gCons t u) := by
  intro pins s σ H vs us Q I r h
  obtain ⟨v, vr, e1, h⟩ := h
  subst e1
  cases r with
  | cons r rr =>
    rw [hs]
    refine assignInOrder_cons (thn (h1 pins s σ H _ _ _ I r h) fun _ s1 ⟨σ1, H1, I1, q1⟩ => ?_)
    exact h2 pins s1 σ1 H1 _ _ Q I1 rr q1
/-- (a, b, ..) = a tuple of that length -/
def gTup (K : PySem.W.Frag) (n : Nat) (t : TGs) : TG := fun v σ H Q => ∃ a xs, v = .ref a ∧ SqT K H a xs ∧ xs.length = n ∧ t xs σ H Q
theorem pg_tup {es : List Expr} {k : Nat} {t : TGs} {n : Nat} (hc : X.calm = true) (h : PGs X es t)
    (hn : (assignEach es X.env).length = n := by rfl) (hst : (assignEach es X.env).findIdx? (·.1) = none := by rfl) : PG X (.Tuple es k pos) (gTup X.K n t) := by
  intro pins s σ H v u Q I r hw
  obtain ⟨a, xs, e1, hq, hl, hw⟩ := hw
  subst e1
  cases r
  obtain ⟨its, rv, ht, hz⟩ := I.tuple hq
  refine assign_Tuple_tuple (I.ok.hd hc) ht (by simp [hn, ← hl, rv.length]) hst fun h' hx => ?_
  have I1 : Inv X pins σ H { s with heap := h' } := I.kept (t' := s.toks) fun b o e => hx b o (Nat.ne_of_lt (Heap.lt_size e)) e
  exact h pins _ σ H xs _ Q I1 (by simpa using rv) hw
/-- o[i] = .. -/
def gSub (to ti : TE) (t : TSet) : TG := fun v σ H Q => to σ H fun o H1 => ti σ H1 fun i H2 => t o i v H2 fun H3 => Q σ H3
theorem pg_sub {o i : Expr} {to ti : TE} {t : TSet} (ho : PE X o to) (hi : PE X i ti) (hs : PSet X t)
    (ha : ∀ v, assign (.Subscript o i pos) X.env v = (do
      let ov ← holding [v] (eval o X.env)
      let iv ← holding [v, ov] (eval i X.env)
      standAt pos
      holding [v, ov, iv] (setItem ov iv v)
      release [v, ov, iv] []) := by intro _; rfl) : PG X (.Subscript o i pos) (gSub to ti t) := by
  intro pins s σ H v u Q I r h
  rw [ha]
  refine wpAny_bind (wpAny_holding (thn (ho pins s σ H _ I h) fun ov s1 ⟨x, H1, I1, r1, q1⟩ => ?_))
  refine wpAny_bind (wpAny_holding (thn (hi pins s1 σ H1 _ I1 q1) fun iv s2 ⟨y, H2, I2, r2, q2⟩ => ?_))
  refine wpAny_bind (wpAny_standAt (wpAny_bind (wpAny_holding (thn (hs pins s2 σ H2 x y v ov iv u _ I2 r1 r2 r q2) fun _ s3 ⟨H3, I3, q3⟩ => ?_))))
  exact wpAny_release ⟨σ, H3, I3, q3⟩
/-- target = value -/
def tAsg (te : TE) (g : TG) : TS := fun D σ H => te σ H fun x H1 => g x σ H1 D.nx
theorem ps_asg {tg e : Expr} {te : TE} {g : TG} (he : PE X e te) (hg : PG X tg g) (hs : swapsWithSole [tg] e pos.line X.env = pure false := by rfl) (hw : swappedStores [tg] e X.env = pure none := by rfl)
    (h1 : (assignEach [tg] X.env).map (·.2) = [assign tg X.env] := by rfl) : PS X (.Assign [tg] e pos) (tAsg te g) := by
  intro pins s σ H D I h
  refine wpAny_Assign_stores (thn (he pins s σ H _ I h) fun v s1 ⟨x, H1, I1, r1, q1⟩ => ?_) hs hw
  rw [h1]
  exact thn (hg pins s1 σ H1 x v _ I1 r1 q1) fun _ s2 q => q
/-- name = value -/
theorem ps_set {i : Nat} {x : Str} {e : Expr} {te : TE} {pos' : Pos} (hN : X.N.Nodup) (hi : X.N[i]? = some x) (hx : Loc X.env.scope x) (he : PE X e te) (hs : swapsWith e (some (.Name x pos')) pos.line X.env = pure false := by rfl) (hf : X.fn x = true ∨ X.env.scope.names.lookup x = some .local := by first | exact .inl rfl | exact .inr rfl | assumption) :
    PS X (.Assign [.Name x pos'] e pos) (tAsg te (gName i)) := by
  intro pins s σ H D I h
  refine wpAny_Assign_Name (thn (he pins s σ H _ I h) fun v s1 ⟨y, H1, I1, r1, q1⟩ => ?_) hs
  exact store_ok I1 hN hi hx r1 (fun s2 I2 => ⟨_, H1, I2, q1⟩) hf
/-- a, b = x, y with plain local names: stored from the right; the pair itself is not tracked (the opening rows as in PyProof/Rows/TupAssign.lean:23) -/
def tPar (i j : Nat) (ta : TA) : TS := fun D σ H => ta σ H fun vs H1 => ∃ v w, vs = [v, w] ∧ D.nx ((σ.set i (some v)).set j (some w)) H1
/-- name op= e -/
def tAug (i : Nat) (te : TE) (ti : TIp) : TS := fun D σ H => ∃ x, σ[i]? = some (some x) ∧ te σ H fun y H1 => ti x y H1 fun z H2 => D.nx (σ.set i (some z)) H2
/-- o[i] op= e -/
def tAugS (to ti te : TE) (tget : V → V → Hp → VK → Prop) (tip : TIp) (tset : TSet) : TS := fun D σ H => to σ H fun o H1 => ti σ H1 fun i H2 => tget o i H2 fun x H3 => te σ H3 fun y H4 => tip x y H4 fun z H5 => tset o i z H5 fun H6 => D.nx σ H6
/-- o[i], by values -/
def PGet (X : Cx) (t : V → V → Hp → VK → Prop) : Prop :=
  ∀ (pins : List (Addr × Obj)) (s : Shared) (σ : St) (H : Hp) (o i : V) (ov iv : Value) (Q : VK), Inv X pins σ H s → RelV o ov → RelV i iv → t o i H Q →
    wpAny (model X.prog X.w) X.A (getItem ov iv) (EP X pins σ Q) X.xe s
/-- ints -/
def ipI (f : Int → Int → Int) : TIp := fun x y H Q => ∃ i j, x = .int i ∧ y = .int j ∧ Q (.int (f i j)) H
end

/-! ### while -/
section
variable {X : Cx} {pos : Pos}
/-- the invariant W with its measure -/
def tWhile (c : TT) (tb : TS) : TS := fun D σ H => ∃ W : Nat → St → Hp → Prop, (∃ m, W m σ H) ∧ ∀ m σ H, W m σ H →
  c σ H fun b H1 => if b = true then ∃ N : St → Hp → Prop, (∀ σ' H', N σ' H' → ∃ m', m' < m ∧ W m' σ' H') ∧ tb { D with nx := N, ct := N, bk := D.nx } σ H1 else D.nx σ H1
theorem ps_while {c : Expr} {body : List Stmt} {tc : TT} {tb : TS} (hp : PassesOwn (model X.prog X.w) X.A X.env X.xe) (hc : PT X c tc) (hb : PSs X body tb) : PS X (.While c body [] pos) (tWhile tc tb) := by
  intro pins s σ H D I h
  obtain ⟨W, ⟨m0, w0⟩, turn⟩ := h
  refine wpAny_While (codeAny_whileLoop (fun n s' => ∃ σ' H', Inv X pins σ' H' s' ∧ W n σ' H') ?_ m0 ⟨σ, H, I, w0⟩)
  rintro n s1 ⟨σ1, H1, I1, w1⟩
  refine wpAny_passesOwn hp (thn (hc pins s1 σ1 H1 _ I1 (turn n σ1 H1 w1)) fun b s2 ⟨H2, I2, q2⟩ => ?_)
  cases b with
  | true =>
    obtain ⟨N, hN, q2⟩ := q2
    rw [if_pos rfl]
    refine wpAny_passesOwn hp (thn (hb pins s2 σ1 H2 _ I2 q2) fun f s3 q3 => ?_)
    cases f with
    | next =>
      obtain ⟨σ3, H3, I3, n3⟩ := q3
      obtain ⟨m', hm, w3⟩ := hN σ3 H3 n3
      exact ⟨m', hm, σ3, H3, I3, w3⟩
    | cont =>
      obtain ⟨σ3, H3, I3, n3⟩ := q3
      obtain ⟨m', hm, w3⟩ := hN σ3 H3 n3
      exact ⟨m', hm, σ3, H3, I3, w3⟩
    | brk => exact q3
    | ret v => exact q3
  | false =>
    rw [if_neg Bool.false_ne_true]
    exact wpAny_execs_nil ⟨σ1, H2, I2, q2⟩
end

/-! ### what a loop or a comprehension walks -/
/-- at turn i: it yields x (the heap may grow), or it stops -/
structure It where
  go : Nat → Hp → Prop
  yld : Nat → Hp → V → Hp → Prop
  stop : Nat → Hp → Prop
/-- the iterator's own objects may turn: they are not the frame's, not pinned, younger than the entry (or a comprehension's own) -/
def FpOk (X : Cx) (pins : List (Addr × Obj)) (H : Hp) (b : Addr) : Prop :=
  H b = none ∧ b ≠ X.env.locals ∧ b ∉ X.fs ∧ (b ∈ X.ex ∨ X.s_0.heap.objs.size ≤ b) ∧ (∀ x c, X.env.cells.lookup x = some c → c ≠ b) ∧ ∀ p ∈ X.pn ++ pins, p.1 ≠ b
theorem Inv.fpOk {X : Cx} {pins : List (Addr × Obj)} {σ : St} {H H' : Hp} {s : Shared} {b : Addr} (I : Inv X pins σ H s) (hb : s.heap.objs.size ≤ b) (hn : H' b = none) : FpOk X pins H' b := by
  refine ⟨hn, Nat.ne_of_gt (Nat.lt_of_lt_of_le I.lt hb), I.nofs hb, .inr (Nat.le_trans I.sz hb), fun x c e z => ?_, fun p hp z => ?_⟩
  · obtain ⟨v, q⟩ := I.cell x c e
    exact absurd (Nat.lt_of_lt_of_le q.lt (by rw [z]; exact hb)) (Nat.lt_irrefl _)
  · exact absurd (Nat.lt_of_lt_of_le (Heap.lt_size (I.pin p hp).1) (by rw [z]; exact hb)) (Nat.lt_irrefl _)
structure Turn (P : Program) (w : World) (K : PySem.W.Frag) (tg : Expr) (J : It) (fp : List Addr) (it : Addr) (tn : Nat → Heap → Prop) : Prop where
  mem : it ∈ fp
  obj : ∀ i h, tn i h → ∀ b ∈ fp, ∃ o, h.get? b = some o ∧ ∀ v, o.data ≠ .cell v
  keep : ∀ i h h', tn i h → (∀ b ∈ fp, ∀ o, h.get? b = some o → h'.get? b = some o) → tn i h'
  item : ∀ (X : Cx), X.prog = P → X.w = w → X.K = K → X.calm = true → ∀ (i : Nat) (pins : List (Addr × Obj)) (s : Shared) (σ : St) (H : Hp) (E : Value → Shared → Prop), Inv X pins σ H s → (∀ b ∈ fp, FpOk X pins H b) → tn i s.heap → J.go i H →
    wpAny (model P w) X.A (pyNext (.ref it)) (fun r s1 => ∃ u, r = some u ∧
      wpAny (model P w) X.A (letOwnedTupleGo tg (.ref it) u) (fun _ s2 => ∃ x H', Inv X pins σ H' s2 ∧ RelV x u ∧ J.yld i H x H' ∧ tn (i + 1) s2.heap ∧ ∀ b ∈ fp, H' b = none) E s1) E s
  done : ∀ (X : Cx), X.prog = P → X.w = w → X.K = K → X.calm = true → ∀ (i : Nat) (pins : List (Addr × Obj)) (s : Shared) (σ : St) (H : Hp) (E : Value → Shared → Prop), Inv X pins σ H s → (∀ b ∈ fp, FpOk X pins H b) → tn i s.heap → J.stop i H →
    wpAny (model P w) X.A (pyNext (.ref it)) (fun r s1 => r = none ∧ Inv X pins σ H s1) E s
  self : ∀ (A : Around) (i : Nat) (s : Shared) (Q : Value → Shared → Prop) (E : Value → Shared → Prop), tn i s.heap → Q (.ref it) s → wpAny (model P w) A (pyIter (.ref it)) Q E s
abbrev TI := St → Hp → (It → Hp → Prop) → Prop
/-- an iterator has come -/
def PIE (X : Cx) (pins : List (Addr × Obj)) (σ : St) (tg : Expr) (R : It → Hp → Prop) (itv : Value) (s2 : Shared) : Prop :=
  ∃ (it : Addr) (fp : List Addr) (tn : Nat → Heap → Prop) (J : It) (H' : Hp), itv = .ref it ∧ Inv X pins σ H' s2 ∧ Turn X.prog X.w X.K tg J fp it tn ∧ tn 0 s2.heap ∧ (∀ b ∈ fp, FpOk X pins H' b) ∧ R J H'
def PI (X : Cx) (tg iter : Expr) (wi : TI) : Prop :=
  ∀ (pins : List (Addr × Obj)) (s : Shared) (σ : St) (H : Hp) (R : It → Hp → Prop), Inv X pins σ H s → wi σ H R →
    wpAny (model X.prog X.w) X.A (eval iter X.env) (fun v s1 => wpAny (model X.prog X.w) X.A (pyIter v) (PIE X pins σ tg R) X.xe s1) X.xe s

/-- the step ahead of the store is nothing for an iterator that keeps no tuple -/
theorem go_of {M : Model} {A : Around} {E : Value → Shared → Prop} {s : Shared} {tg : Expr} {it : Addr} {u : Value} {o : Obj} {n : String} {vs : Array Value} {Q : Unit → Shared → Prop} (ho : s.heap.get? it = some o) (hc : o.cls = .type n) (hd : o.data = .fields vs)
    (hn : ["enumerate", "zip", "dict_itemiterator", "dict_reverseitemiterator", "odict_iterator", "itertools.zip_longest", "itertools.pairwise"].contains n = false) (hQ : Q () s) : wpAny M A (letOwnedTupleGo tg (.ref it) u) Q E s := by
  unfold letOwnedTupleGo
  cases tg <;> first
    | exact wpAny_pure hQ
    | (cases u <;> first
        | exact wpAny_pure hQ
        | (refine wpAny_bind (wpAny_load ho ?_)
           rw [hc, hd]
           show wpAny M A (if (["enumerate", "zip", "dict_itemiterator", "dict_reverseitemiterator", "odict_iterator", "itertools.zip_longest", "itertools.pairwise"].contains n && vs[0]? == some (rawInt _)) = true then _ else _) Q E s
           rw [if_neg (by intro h; rw [hn, Bool.false_and] at h; cases h)]
           exact wpAny_pure hQ))

/-- the list at a, as it stands at each turn (a loop may append to it) -/
def Itl (K : PySem.W.Frag) (a : Addr) : It :=
  ⟨fun i H => ∃ xs x, SqL K H a xs ∧ xs[i]? = some x, fun i H x H' => H' = H ∧ ∀ xs, SqL K H a xs → xs[i]? = some x, fun i H => ∃ xs, SqL K H a xs ∧ xs.length ≤ i⟩
def Itt (K : PySem.W.Frag) (a : Addr) : It :=
  ⟨fun i H => ∃ xs x, SqT K H a xs ∧ xs[i]? = some x, fun i H x H' => H' = H ∧ ∀ xs, SqT K H a xs → xs[i]? = some x, fun i H => ∃ xs, SqT K H a xs ∧ xs.length ≤ i⟩
/-- lo, lo + 1, .. (n of them) -/
def Itr (lo : Int) (n : Nat) : It := ⟨fun i _ => i < n, fun i H x H' => H' = H ∧ x = .int (lo + i), fun i _ => n ≤ i⟩
theorem turn_list {P : Program} {w : World} {K : PySem.W.Frag} {tg : Expr} (a it : Addr) : Turn P w K tg (Itl K a) [it] it (fun i h => h.IsListIter it a i) where
  mem := by simp
  obj := fun i h st b hb => by
    have e : b = it := by simpa using hb
    subst e
    obtain ⟨o, e, c, d⟩ := st
    exact ⟨o, e, fun v z => by rw [d] at z; cases z⟩
  keep := fun i h h' st k => st.at fun o e => k it (by simp) o e
  item := by
    intro X hP hw hK hc i pins s σ H E I hf st hg
    subst hP hw hK
    obtain ⟨xs, x, hq, hx⟩ := hg
    obtain ⟨its, rv, p, hz⟩ := I.list hq
    obtain ⟨u, hu, ru⟩ := rv.get hx
    obtain ⟨f0, f1, f2, f3, f4, f5⟩ := hf it (by simp)
    refine wpAny_pyNext_list_item st p.isList (x := u) (by simpa using hu) fun h' st' sb => ?_
    have I1 : Inv X pins σ H { s with heap := h' } := I.turned (t' := s.toks) (fun b o hb e => (sb.2 b hb).trans e) f0 f1 f3 f4 f5
    obtain ⟨o, e, c, d⟩ := id st'
    exact ⟨u, rfl, go_of (s := { s with heap := h' }) e c d (by decide) ⟨x, H, I1, ru, ⟨rfl, fun ys hy => by rw [I.list_inj hy hq]; exact hx⟩, st', fun b hb => (hf b hb).1⟩⟩
  done := by
    intro X hP hw hK hc i pins s σ H E I hf st hg
    subst hP hw hK
    obtain ⟨xs, hq, hx⟩ := hg
    obtain ⟨its, rv, p, hz⟩ := I.list hq
    obtain ⟨f0, f1, f2, f3, f4, f5⟩ := hf it (by simp)
    have hl := rv.length
    exact wpAny_pyNext_list_end (I.ok.hd hc) st p.isList (by simp; omega) fun h' eb => ⟨rfl, I.turned (t' := s.toks) (fun b o hb e => eb b o hb e) f0 f1 f3 f4 f5⟩
  self := fun _ _ _ _ _ st h => wpAny_pyIter_listiter st h
theorem turn_range {P : Program} {w : World} {K : PySem.W.Frag} {tg : Expr} (it : Addr) (lo : Int) (n : Nat) : Turn P w K tg (Itr lo n) [it] it (fun i h => IsRangeIter h it (lo + (i : Nat) * 1) ((n : Int) - (i : Nat)) 1) where
  mem := by simp
  obj := fun i h st b hb => by
    have e : b = it := by simpa using hb
    subst e
    exact ⟨_, st, fun v z => by
      have z' : Data.fields _ = Data.cell v := z
      cases z'⟩
  keep := fun i h h' st k => k it (by simp) _ st
  item := by
    intro X hP hw hK hc i pins s σ H E I hf st hg
    subst hP hw hK
    obtain ⟨f0, f1, f2, f3, f4, f5⟩ := hf it (by simp)
    have W := Walks.range (prog := X.prog) (w := X.w) (I.ok.hd hc) it lo 1 n
    refine W.item i s _ _ hg st fun v h' tk hv st' kk => ?_
    obtain ⟨t, rfl⟩ := hv
    have I1 : Inv X pins σ H { s with heap := h', toks := tk } := I.turned (fun b o hb e => kk b o (by simpa using hb) e) f0 f1 f3 f4 f5
    refine ⟨_, rfl, go_of (s := { s with heap := h', toks := tk }) (n := "range_iterator") st' rfl rfl (by decide) ⟨.int (lo + i), H, I1, ⟨t, ?_⟩, ⟨rfl, rfl⟩, st', fun b hb => (hf b hb).1⟩⟩
    rw [Int.mul_one]
  done := by
    intro X hP hw hK hc i pins s σ H E I hf st hg
    subst hP hw hK
    obtain ⟨f0, f1, f2, f3, f4, f5⟩ := hf it (by simp)
    exact wpAny_pyNext_range_end (I.ok.hd hc) st (by have : n ≤ i := hg; omega) fun h' eb => ⟨rfl, I.turned (t' := s.toks) (fun b o hb e => eb b o hb e) f0 f1 f3 f4 f5⟩
  self := fun _ _ _ _ _ st h => wpAny_pyIter_rangeiter st h
end L2

namespace L2
open PySem PySem.Spec PyProof.Rows
section
variable {X : Cx} {tg : Expr}
def iList (K : PySem.W.Frag) (tl : TE) : TI := fun σ H R => tl σ H fun x H1 => ∃ a, x = .ref a ∧ (∃ xs, SqL K H1 a xs) ∧ R (Itl K a) H1
def iTup (K : PySem.W.Frag) (tl : TE) : TI := fun σ H R => tl σ H fun x H1 => ∃ a, x = .ref a ∧ (∃ xs, SqT K H1 a xs) ∧ R (Itt K a) H1
theorem pi_list {l : Expr} {tl : TE} (hl : PE X l tl) : PI X tg l (iList X.K tl) := by
  intro pins s σ H R I h
  refine thn (hl pins s σ H _ I h) fun v s1 ⟨x, H1, I1, r1, q1⟩ => ?_
  obtain ⟨a, e, ⟨xs, hq⟩, q⟩ := q1
  subst e
  cases r1
  obtain ⟨its, rv, p, hz⟩ := I1.list hq
  refine wpAny_pyIter_list p.isList ?_
  refine ⟨s1.heap.objs.size, [s1.heap.objs.size], _, _, H1, rfl, I1.kept (t' := s1.toks) fun b o e => Heap.get?_push_of_some _ e, turn_list a _, ⟨_, Heap.get?_push_size _ rfl, rfl, rfl⟩, fun b hb => ?_, q⟩
  have e : b = s1.heap.objs.size := by simpa using hb
  subst e
  exact I1.fpOk (Nat.le_refl _) (I1.hok.fresh (Nat.le_refl _))
/-- a range object just made, walked -/
theorem range_it {pins : List (Addr × Obj)} {σ : St} {H : Hp} {s : Shared} {R : It → Hp → Prop} {E : Value → Shared → Prop} {lo hi : Int} {t u v : Tok} {tk : Nat} (I : Inv X pins σ H s) (h1 : -(2 ^ 62) ≤ lo) (h2 : lo < 2 ^ 62) (h3 : -(2 ^ 62) ≤ hi) (h4 : hi < 2 ^ 62)
    (q : R (Itr lo (hi - lo).toNat) H) : wpAny (model X.prog X.w) X.A (pyIter (.ref s.heap.objs.size)) (PIE X pins σ tg R) E { s with heap := s.heap.push { cls := .type "range", data := .fields #[.int lo t, .int hi u, .int 1 v] }, toks := tk } := by
  refine wpAny_pyIter_range (IsRange.new ..) (small_one h1 h2 h3 h4) ?_
  have I1 : Inv X pins σ H { s with heap := s.heap.push { cls := .type "range", data := .fields #[.int lo t, .int hi u, .int 1 v] }, toks := tk } := I.kept fun b o e => Heap.get?_push_of_some _ e
  refine ⟨(s.heap.push { cls := .type "range", data := .fields #[.int lo t, .int hi u, .int 1 v] }).objs.size, [(s.heap.push { cls := .type "range", data := .fields #[.int lo t, .int hi u, .int 1 v] }).objs.size], _, _, H, rfl,
    I1.kept (t' := tk) fun b o e => Heap.get?_push_of_some _ e, turn_range _ lo (hi - lo).toNat, ?_, fun b hb => ?_, q⟩
  · have e1 : lo + ((0 : Nat) : Int) * 1 = lo := by simp
    have e2 : (((hi - lo).toNat : Nat) : Int) - ((0 : Nat) : Int) = Builtin.Range.rangeSize lo hi 1 := by rw [rangeSize_one]; split <;> omega
    show IsRangeIter _ _ (lo + ((0 : Nat) : Int) * 1) ((((hi - lo).toNat : Nat) : Int) - ((0 : Nat) : Int)) 1
    rw [e1, e2]
    exact Heap.get?_push_size _ rfl
  · have e : b = (s.heap.push { cls := .type "range", data := .fields #[.int lo t, .int hi u, .int 1 v] }).objs.size := by simpa using hb
    subst e
    exact I1.fpOk (Nat.le_refl _) (I1.hok.fresh (Nat.le_refl _))
def iRng1 (ta : TA) : TI := fun σ H R => ta σ H fun vs H1 => ∃ j : Int, vs = [.int j] ∧ -(2 ^ 62) ≤ j ∧ j < 2 ^ 62 ∧ R (Itr 0 j.toNat) H1
def iRng2 (ta : TA) : TI := fun σ H R => ta σ H fun vs H1 => ∃ i j : Int, vs = [.int i, .int j] ∧ (-(2 ^ 62) ≤ i ∧ i < 2 ^ 62 ∧ -(2 ^ 62) ≤ j ∧ j < 2 ^ 62) ∧ R (Itr i (j - i).toNat) H1
theorem pi_range1 {a : Expr} {ta : TA} {p pos : Pos} (hg : Gl X "range") (hm : X.mg "range" = none) (ha : PA X [a] ta) (hs : starEach [a] X.env = [(false, eval a X.env)] := by rfl) : PI X tg (.Call (.Name "range" p) [a] [] pos) (iRng1 ta) := by
  intro pins s σ H R I h
  refine Call_ (ld_blt I hg hm boot_range (PyProof.Rows.callWith_type1 (thn (ha pos pins s σ H _ I h) fun us s1 ⟨vs, H1, I1, r1, q1⟩ => ?_) hs rfl))
  obtain ⟨j, e, q1, q2, q⟩ := q1
  subst e
  cases r1 with
  | cons r rr =>
    cases rr
    obtain ⟨t, rfl⟩ := r
    exact call_range_1 (range_it I1 (by omega) (by omega) q1 q2 (by simpa using q))
theorem pi_range2 {a b : Expr} {ta : TA} {p pos : Pos} (hg : Gl X "range") (hm : X.mg "range" = none) (ha : PA X [a, b] ta) (hs : starEach [a, b] X.env = [(false, eval a X.env), (false, eval b X.env)] := by rfl) (hs2 : starEach [b] X.env = [(false, eval b X.env)] := by rfl) :
    PI X tg (.Call (.Name "range" p) [a, b] [] pos) (iRng2 ta) := by
  intro pins s σ H R I h
  refine Call_ (ld_blt I hg hm boot_range (PyProof.Rows.callWith_type1 (thn (ha pos pins s σ H _ I h) fun us s1 ⟨vs, H1, I1, r1, q1⟩ => ?_) (by rw [hs, hs2]) (by rw [hs2]; rfl)))
  obtain ⟨i, j, e, ⟨q1, q2, q3, q4⟩, q⟩ := q1
  subst e
  cases r1 with
  | cons r rr =>
    cases rr with
    | cons r' rr =>
      cases rr
      obtain ⟨t, rfl⟩ := r
      obtain ⟨t', rfl⟩ := r'
      exact call_range_2 (range_it I1 q1 q2 q3 q4 q)

/-! ### for -/
/-- W: the invariant by the turn and a measure; N: what the body is to reach -/
def tFor (wi : TI) (g : TG) (tb : TS) : TS := fun D σ H => wi σ H fun J H1 => ∃ W : Nat → Nat → St → Hp → Prop, (∃ m, W 0 m σ H1) ∧ ∀ i m σ H, W i m σ H →
  (J.stop i H ∧ D.nx σ H) ∨ (J.go i H ∧ ∃ N : St → Hp → Prop, (∀ σ' H', N σ' H' → ∃ m', m' < m ∧ W (i + 1) m' σ' H') ∧ ∀ x H', J.yld i H x H' → g x σ H' fun σ2 H2 => tb { D with nx := N, ct := N, bk := D.nx } σ2 H2)
/-- the records at fp as they stand -/
def pinsAt (fp : List Addr) (h : Heap) : List (Addr × Obj) := fp.filterMap fun b => (h.get? b).map fun o => (b, o)
theorem mem_pinsAt {fp : List Addr} {h : Heap} {b : Addr} {o : Obj} (hb : b ∈ fp) (e : h.get? b = some o) : (b, o) ∈ pinsAt fp h := List.mem_filterMap.mpr ⟨b, hb, by rw [e]; rfl⟩
theorem of_pinsAt {fp : List Addr} {h : Heap} {p : Addr × Obj} (hp : p ∈ pinsAt fp h) : p.1 ∈ fp ∧ h.get? p.1 = some p.2 := by
  obtain ⟨b, hb, e⟩ := List.mem_filterMap.mp hp
  cases q : h.get? b with
  | none => rw [q] at e; cases e
  | some o =>
    rw [q] at e
    have e' : (b, o) = p := Option.some.inj e
    subst e'
    exact ⟨hb, q⟩
theorem Inv.pinned {pins : List (Addr × Obj)} {σ : St} {H : Hp} {s : Shared} {fp : List Addr} (I : Inv X pins σ H s) (hf : ∀ b ∈ fp, FpOk X pins H b) (ho : ∀ b ∈ fp, ∃ o, s.heap.get? b = some o ∧ ∀ v, o.data ≠ .cell v) : Inv X (pins ++ pinsAt fp s.heap) σ H s :=
  I.pins_of fun p hp => (List.mem_append.mp hp).elim (fun z => I.pin p (List.mem_append_right _ z)) fun z => by
    obtain ⟨hb, e⟩ := of_pinsAt z
    obtain ⟨f0, f1, f2, _⟩ := hf p.1 hb
    obtain ⟨o, e', d⟩ := ho p.1 hb
    rw [e] at e'; cases e'
    exact ⟨e, f0, f1, f2, d⟩
theorem Inv.unpinned {pins pl : List (Addr × Obj)} {σ : St} {H : Hp} {s : Shared} (I : Inv X (pins ++ pl) σ H s) : Inv X pins σ H s := I.pins_of fun p hp => I.pin p (List.mem_append_right _ (List.mem_append_left _ hp))
theorem ps_for {iter : Expr} {body : List Stmt} {wi : TI} {g : TG} {tb : TS} {pos : Pos} (hp : PassesOwn (model X.prog X.w) X.A X.env X.xe) (hc : X.calm = true) (hi : PI X tg iter wi) (hg : PG X tg g) (hb : PSs X body tb)
    (hs : ∀ x, foldedSetIterable iter X.env x = pure x := by intro _; rfl) : PS X (.For tg iter body [] pos) (tFor wi g tb) := by
  intro pins s σ H D I h
  refine wpAny_For (thn (hi pins s σ H _ I h) fun v s1 h1 => thn h1 fun itv s2 h2 => ?_) hs
  obtain ⟨it, fp, tn, J, H2, e, I2, T, st2, f2, W, ⟨m0, w0⟩, turn⟩ := h2
  subst e
  -- what stays true of the iterator's objects through the loop
  have stat : ∀ {H' : Hp}, (∀ b ∈ fp, H' b = none) → ∀ b ∈ fp, FpOk X pins H' b := fun hn b hb => ⟨hn b hb, (f2 b hb).2⟩
  refine codeAny_forLoop_any (fun n s' => ∃ i σ' H', Inv X pins σ' H' s' ∧ tn i s'.heap ∧ (∀ b ∈ fp, H' b = none) ∧ W i n σ' H') ?_ m0 ⟨0, σ, H2, I2, st2, fun b hb => (f2 b hb).1, w0⟩
  rintro n s3 ⟨i, σ3, H3, I3, st3, fr3, w3⟩
  rcases turn i n σ3 H3 w3 with ⟨stop, qn⟩ | ⟨go, N, hN, step⟩
  · refine wpAny_passesOwn hp (thn (T.done X rfl rfl rfl hc i pins s3 σ3 H3 X.xe I3 (stat fr3) st3 stop) fun r s4 ⟨hr, I4⟩ => ?_)
    subst hr
    exact wpAny_execs_nil ⟨σ3, H3, I4, qn⟩
  · refine wpAny_passesOwn hp (thn (T.item X rfl rfl rfl hc i pins s3 σ3 H3 X.xe I3 (stat fr3) st3 go) fun r s4 ⟨u, hr, h4⟩ => ?_)
    subst hr
    refine wpAny_passesOwn hp (thn h4 fun _ s5 ⟨x, H5, I5, r5, y5, st5, fr5⟩ => ?_)
    have I5' := I5.pinned (stat fr5) (T.obj _ _ st5)
    refine wpAny_passesOwn hp (thn (hg _ s5 σ3 H5 x u _ I5' r5 (step x H5 y5)) fun _ s6 ⟨σ6, H6, I6, q6⟩ => ?_)
    refine wpAny_passesOwn hp (thn (hb _ s6 σ6 H6 _ I6 q6) fun f s7 q7 => ?_)
    have again : ∀ {σ7 : St} {H7 : Hp}, Inv X (pins ++ pinsAt fp s5.heap) σ7 H7 s7 → N σ7 H7 → ∃ m, m < n ∧ ∃ i σ' H', Inv X pins σ' H' s7 ∧ tn i s7.heap ∧ (∀ b ∈ fp, H' b = none) ∧ W i m σ' H' := fun {σ7 H7} I7 n7 => by
      obtain ⟨m', hm, w7⟩ := hN σ7 H7 n7
      refine ⟨m', hm, i + 1, σ7, H7, I7.unpinned, T.keep _ _ _ st5 fun b hb o e => (I7.pin (b, o) (List.mem_append_right _ (List.mem_append_right _ (mem_pinsAt hb e)))).1, fun b hb => ?_, w7⟩
      obtain ⟨o, e, d⟩ := T.obj _ _ st5 b hb
      exact (I7.pin (b, o) (List.mem_append_right _ (List.mem_append_right _ (mem_pinsAt hb e)))).2.1
    cases f with
    | next => obtain ⟨σ7, H7, I7, n7⟩ := q7; exact again I7 n7
    | cont => obtain ⟨σ7, H7, I7, n7⟩ := q7; exact again I7 n7
    | brk => obtain ⟨σ7, H7, I7, q7⟩ := q7; exact ⟨σ7, H7, I7.unpinned, q7⟩
    | ret v => obtain ⟨x7, σ7, H7, I7, r7, q7⟩ := q7; exact ⟨x7, σ7, H7, I7.unpinned, r7, q7⟩
end

/-! ### the forms one uses -/
/-- over a list that the body leaves as it is -/
theorem for_list {K : PySem.W.Frag} {a : Addr} {xs : List V} {g : TG} {tb : TS} {D : Ends} {σ : St} {H : Hp} (Pv : Nat → St → Hp → Prop) (h0 : Pv 0 σ H) (hl : ∀ i σ H, i ≤ xs.length → Pv i σ H → SqL K H a xs)
    (hs : ∀ i x σ H, xs[i]? = some x → Pv i σ H → g x σ H fun σ2 H2 => tb { D with nx := Pv (i + 1), ct := Pv (i + 1), bk := D.nx } σ2 H2) (hd : ∀ σ H, Pv xs.length σ H → D.nx σ H) :
    ∃ W : Nat → Nat → St → Hp → Prop, (∃ m, W 0 m σ H) ∧ ∀ i m σ H, W i m σ H →
      ((Itl K a).stop i H ∧ D.nx σ H) ∨ ((Itl K a).go i H ∧ ∃ N : St → Hp → Prop, (∀ σ' H', N σ' H' → ∃ m', m' < m ∧ W (i + 1) m' σ' H') ∧ ∀ x H', (Itl K a).yld i H x H' → g x σ H' fun σ2 H2 => tb { D with nx := N, ct := N, bk := D.nx } σ2 H2) := by
  refine ⟨fun i m σ H => m = xs.length - i ∧ i ≤ xs.length ∧ Pv i σ H, ⟨xs.length, by simp, Nat.zero_le _, h0⟩, ?_⟩
  rintro i m σ H ⟨rfl, hi, p⟩
  have q := hl i σ H hi p
  by_cases hlt : i < xs.length
  · refine .inr ⟨⟨xs, xs[i], q, by simp [hlt]⟩, Pv (i + 1), fun σ' H' p' => ⟨xs.length - (i + 1), by omega, rfl, hlt, p'⟩, fun x H' y => ?_⟩
    obtain ⟨e, y⟩ := y
    subst e
    exact hs i x σ _ (y xs q) p
  · have e : i = xs.length := by omega
    subst e
    exact .inl ⟨⟨xs, q, Nat.le_refl _⟩, hd σ H p⟩
theorem for_range {lo : Int} {n : Nat} {g : TG} {tb : TS} {D : Ends} {σ : St} {H : Hp} (Pv : Nat → St → Hp → Prop) (h0 : Pv 0 σ H)
    (hs : ∀ i σ H, i < n → Pv i σ H → g (.int (lo + i)) σ H fun σ2 H2 => tb { D with nx := Pv (i + 1), ct := Pv (i + 1), bk := D.nx } σ2 H2) (hd : ∀ σ H, Pv n σ H → D.nx σ H) :
    ∃ W : Nat → Nat → St → Hp → Prop, (∃ m, W 0 m σ H) ∧ ∀ i m σ H, W i m σ H →
      ((Itr lo n).stop i H ∧ D.nx σ H) ∨ ((Itr lo n).go i H ∧ ∃ N : St → Hp → Prop, (∀ σ' H', N σ' H' → ∃ m', m' < m ∧ W (i + 1) m' σ' H') ∧ ∀ x H', (Itr lo n).yld i H x H' → g x σ H' fun σ2 H2 => tb { D with nx := N, ct := N, bk := D.nx } σ2 H2) := by
  refine ⟨fun i m σ H => m = n - i ∧ i ≤ n ∧ Pv i σ H, ⟨n, by simp, Nat.zero_le _, h0⟩, ?_⟩
  rintro i m σ H ⟨rfl, hi, p⟩
  by_cases hlt : i < n
  · refine .inr ⟨hlt, Pv (i + 1), fun σ' H' p' => ⟨n - (i + 1), by omega, rfl, hlt, p'⟩, fun x H' y => ?_⟩
    obtain ⟨e, y⟩ := y
    subst e y
    exact hs i σ _ hlt p
  · have e : i = n := by omega
    subst e
    exact .inl ⟨Nat.le_refl _, hd σ H p⟩
end L2

namespace L2
open PySem PySem.Spec PyProof.Rows

abbrev R2 := V → V → Hp → VK → Prop
/-- a two-place operation on values: f is binaryOp op, inplaceOp op or compareOp op -/
def OpR (X : Cx) (f : Value → Value → Sem Value) (r : R2) : Prop :=
  ∀ (pins : List (Addr × Obj)) (s : Shared) (σ : St) (H : Hp) (x y : V) (v u : Value) (Q : VK), Inv X pins σ H s → RelV x v → RelV y u → r x y H Q →
    wpAny (model X.prog X.w) X.A (f v u) (EP X pins σ Q) X.xe s
/-- a one-place operation -/
def UnR (X : Cx) (f : Value → Sem Value) (r : V → Hp → VK → Prop) : Prop :=
  ∀ (pins : List (Addr × Obj)) (s : Shared) (σ : St) (H : Hp) (x : V) (v : Value) (Q : VK), Inv X pins σ H s → RelV x v → r x H Q →
    wpAny (model X.prog X.w) X.A (f v) (EP X pins σ Q) X.xe s
/-- a call of a value that is known (a builtin, a type) with values -/
def CallR (X : Cx) (f : Value) (r : List V → Hp → VK → Prop) : Prop :=
  ∀ (pins : List (Addr × Obj)) (s : Shared) (σ : St) (H : Hp) (xs : List V) (us : List Value) (Q : VK), Inv X pins σ H s → Vals xs us → r xs H Q →
    wpAny (model X.prog X.w) X.A (call f us) (EP X pins σ Q) X.xe s
/-- a value's truth -/
def TruR (X : Cx) (r : V → Hp → (Bool → Hp → Prop) → Prop) : Prop :=
  ∀ (pins : List (Addr × Obj)) (s : Shared) (σ : St) (H : Hp) (x : V) (v : Value) (Q : Bool → Hp → Prop), Inv X pins σ H s → RelV x v → r x H Q →
    wpAny (model X.prog X.w) X.A (truthy v) (TP X pins σ Q) X.xe s

def tOp (r : R2) (ta tb : TE) : TE := fun σ H Q => ta σ H fun x H1 => tb σ H1 fun y H2 => r x y H2 Q
def tUn (r : V → Hp → VK → Prop) (ta : TE) : TE := fun σ H Q => ta σ H fun x H1 => r x H1 Q
/-- ints in, under C, and a value out -/
def rI (C : Int → Int → Prop) (g : Int → Int → V) : R2 := fun x y H Q => ∃ i j, x = .int i ∧ y = .int j ∧ C i j ∧ Q (g i j) H
def rI0 (g : Int → Int → V) : R2 := fun x y H Q => ∃ i j, x = .int i ∧ y = .int j ∧ Q (g i j) H
def rU (g : Int → V) : V → Hp → VK → Prop := fun x H Q => ∃ i, x = .int i ∧ Q (g i) H

section
variable {X : Cx} {a b c : Expr} {ta tb tc : TE} {pos : Pos}

theorem binT (ha : PE X a ta) (hb : PE X b tb) {pins : List (Addr × Obj)} {s : Shared} {σ : St} {H : Hp} {R : V → V → Hp → Prop} (I : Inv X pins σ H s)
    (h : ta σ H fun x H1 => tb σ H1 fun y H2 => R x y H2) {Q : Value → Shared → Prop} {f : Value → Value → Sem Value}
    (hf : ∀ v u s2 x y H2, Inv X pins σ H2 s2 → RelV x v → RelV y u → R x y H2 → wpAny (model X.prog X.w) X.A (f v u) Q X.xe s2) :
    wpAny (model X.prog X.w) X.A (eval a X.env) (fun v s₁ => wpAny (model X.prog X.w) X.A (eval b X.env) (fun u s₂ => wpAny (model X.prog X.w) X.A (f v u) Q X.xe s₂) X.xe s₁) X.xe s := by
  refine thn (ha pins s σ H _ I h) fun v s1 ⟨x, H1, I1, r1, q1⟩ => ?_
  refine thn (hb pins s1 σ H1 _ I1 q1) fun u s2 ⟨y, H2, I2, r2, q2⟩ => ?_
  exact hf v u s2 x y H2 I2 r1 r2 q2

theorem pe_op {op : Operator} {r : R2} (ho : OpR X (binaryOp op) r) (ha : PE X a ta) (hb : PE X b tb) : PE X (.BinOp a op b pos) (tOp r ta tb) := by
  intro pins s σ H Q I h
  exact wpAny_BinOp (binT ha hb I h fun v u s2 x y H2 I2 rx ry q => ho pins s2 σ H2 x y v u Q I2 rx ry q)
theorem pe_un {op : UnaryOp} {r : V → Hp → VK → Prop} (ho : UnR X (unaryOp op) r) (ha : PE X a ta) : PE X (.UnaryOp op a pos) (tUn r ta) := by
  intro pins s σ H Q I h
  exact UnaryOp_ (thn (ha pins s σ H _ I h) fun v s1 ⟨x, H1, I1, r1, q1⟩ => ho pins s1 σ H1 x v Q I1 r1 q1)

/-! ### ints -/
theorem opI {f : Value → Value → Sem Value} {C : Int → Int → Prop} {g : Int → Int → Int}
    (rule : ∀ (i j : Int) (t u : Tok) (s : Shared) (Q : Value → Shared → Prop) (E : Value → Shared → Prop), C i j → Q (.int (g i j) s.toks) { s with toks := s.toks + 1 } → wpAny (model X.prog X.w) X.A (f (.int i t) (.int j u)) Q E s) :
    OpR X f (rI C fun i j => .int (g i j)) := by
  intro pins s σ H x y v u Q I rx ry h
  obtain ⟨i, j, rfl, rfl, hc, q⟩ := h
  obtain ⟨t, rfl⟩ := rx
  obtain ⟨t', rfl⟩ := ry
  exact rule i j t t' s _ _ hc ⟨.int (g i j), H, I.tok _, ⟨_, rfl⟩, q⟩
theorem opI0 {f : Value → Value → Sem Value} {g : Int → Int → Int}
    (rule : ∀ (i j : Int) (t u : Tok) (s : Shared) (Q : Value → Shared → Prop) (E : Value → Shared → Prop), Q (.int (g i j) s.toks) { s with toks := s.toks + 1 } → wpAny (model X.prog X.w) X.A (f (.int i t) (.int j u)) Q E s) :
    OpR X f (rI0 fun i j => .int (g i j)) := by
  intro pins s σ H x y v u Q I rx ry h
  obtain ⟨i, j, rfl, rfl, q⟩ := h
  obtain ⟨t, rfl⟩ := rx
  obtain ⟨t', rfl⟩ := ry
  exact rule i j t t' s _ _ ⟨.int (g i j), H, I.tok _, ⟨_, rfl⟩, q⟩
theorem opB0 {f : Value → Value → Sem Value} {g : Int → Int → Bool}
    (rule : ∀ (i j : Int) (t u : Tok) (s : Shared) (Q : Value → Shared → Prop) (E : Value → Shared → Prop), Q (.bool (g i j)) s → wpAny (model X.prog X.w) X.A (f (.int i t) (.int j u)) Q E s) :
    OpR X f (rI0 fun i j => .bl (g i j)) := by
  intro pins s σ H x y v u Q I rx ry h
  obtain ⟨i, j, rfl, rfl, q⟩ := h
  obtain ⟨t, rfl⟩ := rx
  obtain ⟨t', rfl⟩ := ry
  exact rule i j t t' s _ _ ⟨.bl (g i j), H, I, rfl, q⟩

def CDiv (i j : Int) : Prop := 0 < j ∧ j < 1073741824
def CDivN (i j : Int) : Prop := j ≠ 0 ∧ j.natAbs < 1073741824
def CPow (i j : Int) : Prop := 0 ≤ j ∧ j ≤ 1000000 ∧ i.natAbs < 2 ^ 64
def CMul (i j : Int) : Prop := (-(2 ^ 64) < i ∧ i < 2 ^ 64) ∨ (-(2 ^ 64) < j ∧ j < 2 ^ 64)

theorem op_add : OpR X (binaryOp .Add) (rI0 fun i j => .int (i + j)) := opI0 fun _ _ _ _ _ _ _ q => add_int q
theorem op_sub : OpR X (binaryOp .Sub) (rI0 fun i j => .int (i - j)) := opI0 fun _ _ _ _ _ _ _ q => sub_int q
/-- % by a positive divisor of any size -/
theorem op_mod : OpR X (binaryOp .Mod) (rI (fun _ j => 0 < j) fun i j => .int (i % j)) := opI fun i j _ _ _ _ _ hc q => by
  have h1 : (0 : Int) < j := hc
  exact mod_int' (by omega) (by rw [Int.fmod_eq_emod_of_nonneg i (by omega)]; exact q)
theorem op_shl : OpR X (binaryOp .LShift) (rI CPow fun i j => .int (i * 2 ^ j.toNat)) := opI fun _ _ _ _ _ _ _ hc q => lshift_int_small hc.1 hc.2.1 hc.2.2 q

theorem unI {f : Value → Sem Value} {g : Int → Int}
    (rule : ∀ (i : Int) (t : Tok) (s : Shared) (Q : Value → Shared → Prop) (E : Value → Shared → Prop), Q (.int (g i) s.toks) { s with toks := s.toks + 1 } → wpAny (model X.prog X.w) X.A (f (.int i t)) Q E s) :
    UnR X f (rU fun i => .int (g i)) := by
  intro pins s σ H x v Q I rx h
  obtain ⟨i, rfl, q⟩ := h
  obtain ⟨t, rfl⟩ := rx
  exact rule i t s _ _ ⟨.int (g i), H, I.tok _, ⟨_, rfl⟩, q⟩
theorem un_neg : UnR X (unaryOp .USub) (rU fun i => .int (-i)) := unI fun _ _ _ _ _ q => neg_int q

/-! ### bools among ints: n += (a < b) -/
end

/-! ### comparisons -/
/-- the scalars that == tells apart as data does -/
def scal : V → V → Bool
  | .non, .non => true | .non, .int _ => true | .int _, .non => true | .non, .bl _ => true | .bl _, .non => true | .non, .str _ => true | .str _, .non => true
  | .int _, .int _ => true | .bl _, .bl _ => true | .str _, .str _ => true | .byt _, .byt _ => true
  | .int _, .str _ => true | .str _, .int _ => true | .bl _, .str _ => true | .str _, .bl _ => true
  | _, _ => false
def rEq : R2 := fun x y H Q => scal x y = true ∧ Q (.bl (decide (x = y))) H
def rNe : R2 := fun x y H Q => scal x y = true ∧ Q (.bl (!decide (x = y))) H

theorem dec_int {i j : Int} : decide (V.int i = V.int j) = (i == j) := by
  rw [Bool.eq_iff_iff]
  simp
theorem dec_bl {i j : Bool} : decide (V.bl i = V.bl j) = (i == j) := by
  rw [Bool.eq_iff_iff]
  simp
theorem dec_str {i j : Str} : decide (V.str i = V.str j) = (i == j) := by
  rw [Bool.eq_iff_iff]
  simp
theorem dec_byt {i j : Array UInt8} : decide (V.byt i = V.byt j) = (i.toList == j.toList) := by
  rw [Bool.eq_iff_iff]
  cases i
  cases j
  simp

section
variable {X : Cx} {a b c : Expr} {ta tb tc : TE} {pos : Pos}
theorem fin_bl {pins : List (Addr × Obj)} {σ : St} {H : Hp} {s : Shared} {Q : VK} {k k' : Bool} (I : Inv X pins σ H s) (q : Q (.bl k) H) (e : k = k') : EP X pins σ Q (.bool k') s := by
  subst e
  exact ⟨.bl k, H, I, rfl, q⟩
theorem op_eq : OpR X (compareOp .Eq) rEq := by
  intro pins s σ H x y v u Q I rx ry h
  obtain ⟨hs, q⟩ := h
  cases x with
  | non =>
    cases rx
    cases y with
    | non => cases ry; exact PySem.EqNone.eq_none_none (fin_bl I q (by simp))
    | bl j => cases ry; exact PySem.EqNone.eq_none_bool (fin_bl I q (by simp))
    | int j => obtain ⟨t', rfl⟩ := ry; exact PySem.EqNone.eq_none_int (fin_bl I q (by simp))
    | str j => obtain ⟨t', rfl⟩ := ry; exact PySem.EqNone.eq_none_str (fin_bl I q (by simp))
    | _ => exact absurd (show false = true from hs) Bool.false_ne_true
  | bl i =>
    cases rx
    cases y with
    | non => cases ry; exact PySem.EqNone.eq_bool_none (fin_bl I q (by simp))
    | bl j => cases ry; exact eq_bool (fin_bl I q dec_bl)
    | str j => obtain ⟨t', rfl⟩ := ry; exact PySem.EqMixed.eq_bool_str (fin_bl I q (by simp))
    | _ => exact absurd (show false = true from hs) Bool.false_ne_true
  | int i =>
    obtain ⟨t, rfl⟩ := rx
    cases y with
    | non => cases ry; exact PySem.EqNone.eq_int_none (fin_bl I q (by simp))
    | int j => obtain ⟨t', rfl⟩ := ry; exact eq_int (fin_bl I q dec_int)
    | str j => obtain ⟨t', rfl⟩ := ry; exact PySem.EqMixed.eq_int_str (fin_bl I q (by simp))
    | _ => exact absurd (show false = true from hs) Bool.false_ne_true
  | str i =>
    obtain ⟨t, rfl⟩ := rx
    cases y with
    | non => cases ry; exact PySem.EqNone.eq_str_none (fin_bl I q (by simp))
    | bl j => cases ry; exact PySem.EqMixed.eq_str_bool (fin_bl I q (by simp))
    | int j => obtain ⟨t', rfl⟩ := ry; exact PySem.EqMixed.eq_str_int (fin_bl I q (by simp))
    | str j => obtain ⟨t', rfl⟩ := ry; exact eq_str (fin_bl I q dec_str)
    | _ => exact absurd (show false = true from hs) Bool.false_ne_true
  | byt i =>
    obtain ⟨t, rfl⟩ := rx
    cases y with
    | byt j => obtain ⟨t', rfl⟩ := ry; exact PySem.W.eq_bytes (fin_bl I q dec_byt)
    | _ => exact absurd (show false = true from hs) Bool.false_ne_true
  | _ => cases y <;> exact absurd (show false = true from hs) Bool.false_ne_true
theorem op_ne : OpR X (compareOp .NotEq) rNe := by
  intro pins s σ H x y v u Q I rx ry h
  obtain ⟨hs, q⟩ := h
  cases x with
  | non =>
    cases rx
    cases y with
    | non => cases ry; exact PySem.EqNone.ne_none_none (fin_bl I q (by simp))
    | bl j => cases ry; exact PySem.EqNone.ne_none_bool (fin_bl I q (by simp))
    | int j => obtain ⟨t', rfl⟩ := ry; exact PySem.EqNone.ne_none_int (fin_bl I q (by simp))
    | str j => obtain ⟨t', rfl⟩ := ry; exact PySem.EqNone.ne_none_str (fin_bl I q (by simp))
    | _ => exact absurd (show false = true from hs) Bool.false_ne_true
  | bl i =>
    cases rx
    cases y with
    | non => cases ry; exact PySem.EqNone.ne_bool_none (fin_bl I q (by simp))
    | bl j => cases ry; exact ne_bool (fin_bl I q (congrArg not dec_bl))
    | str j => obtain ⟨t', rfl⟩ := ry; exact PySem.EqMixed.ne_bool_str (fin_bl I q (by simp))
    | _ => exact absurd (show false = true from hs) Bool.false_ne_true
  | int i =>
    obtain ⟨t, rfl⟩ := rx
    cases y with
    | non => cases ry; exact PySem.EqNone.ne_int_none (fin_bl I q (by simp))
    | int j => obtain ⟨t', rfl⟩ := ry; exact ne_int (fin_bl I q (congrArg not dec_int))
    | str j => obtain ⟨t', rfl⟩ := ry; exact PySem.EqMixed.ne_int_str (fin_bl I q (by simp))
    | _ => exact absurd (show false = true from hs) Bool.false_ne_true
  | str i =>
    obtain ⟨t, rfl⟩ := rx
    cases y with
    | non => cases ry; exact PySem.EqNone.ne_str_none (fin_bl I q (by simp))
    | bl j => cases ry; exact PySem.EqMixed.ne_str_bool (fin_bl I q (by simp))
    | int j => obtain ⟨t', rfl⟩ := ry; exact PySem.EqMixed.ne_str_int (fin_bl I q (by simp))
    | str j => obtain ⟨t', rfl⟩ := ry; exact ne_str (fin_bl I q (congrArg not dec_str))
    | _ => exact absurd (show false = true from hs) Bool.false_ne_true
  | byt i =>
    obtain ⟨t, rfl⟩ := rx
    cases y with
    | byt j => obtain ⟨t', rfl⟩ := ry; exact PySem.W.ne_bytes (fin_bl I q (congrArg not dec_byt))
    | _ => exact absurd (show false = true from hs) Bool.false_ne_true
  | _ => cases y <;> exact absurd (show false = true from hs) Bool.false_ne_true

theorem op_lt : OpR X (compareOp .Lt) (rI0 fun i j => .bl (decide (i < j))) := opB0 fun _ _ _ _ _ _ _ q => lt_int q
theorem op_le : OpR X (compareOp .LtE) (rI0 fun i j => .bl (decide (i ≤ j))) := opB0 fun _ _ _ _ _ _ _ q => le_int q
theorem op_gt : OpR X (compareOp .Gt) (rI0 fun i j => .bl (decide (j < i))) := opB0 fun _ _ _ _ _ _ _ q => gt_int q

/-- is, is not of two objects that are tracked lists or instances -/
def isObj : HO → Bool
  | .lst _ => true
  | .ins _ _ _ => true
  | _ => false

theorem nomark (b : Expr) {op : CmpOp} (h : op ≠ .In := by decide) (h2 : op ≠ .NotIn := by decide) : behindInMarks op b = false := by
  have e1 : (op == CmpOp.In) = false := by cases op <;> first | rfl | exact absurd rfl h
  have e2 : (op == CmpOp.NotIn) = false := by cases op <;> first | rfl | exact absurd rfl h2
  cases b <;> simp [behindInMarks, e1, e2]
/-- a reading of a value as a test -/
def tTest (t : TE) : TT := fun σ H Q => t σ H fun x H' => ∃ k, x = .bl k ∧ Q k H'
theorem pt_cmpR {op : CmpOp} {r : R2} (ho : OpR X (compareOp op) r) (ha : PE X a ta) (hb : PE X b tb) (hm : behindInMarks op b = false) : PT X (.Compare a [op] [b] pos) (tTest (tOp r ta tb)) := by
  intro pins s σ H Q I h
  refine wpAny_isTrue_Compare1 (thn (ha pins s σ H _ I h) fun v s1 ⟨x, H1, I1, r1, q1⟩ => thn (hb pins s1 σ H1 _ I1 q1) fun u s2 ⟨y, H2, I2, r2, q2⟩ =>
    thn (ho pins s2 σ H2 x y v u _ I2 r1 r2 q2) fun c s3 ⟨z, H3, I3, r3, k, e, q3⟩ => ?_) hm
  subst e
  cases r3
  exact wpAny_truthy_bool ⟨H3, I3, q3⟩
/-- a op1 b op2 c -/
def tChain (r r' : R2) (ta tb tc : TE) : TE := fun σ H Q => ta σ H fun x H1 => tb σ H1 fun y H2 => r x y H2 fun z H3 => ∃ k, z = .bl k ∧
  (if k = true then tc σ H3 fun w' H4 => r' y w' H4 Q else Q (.bl false) H3)
theorem pe_chain {op op' : CmpOp} {r r' : R2} (ho : OpR X (compareOp op) r) (ho' : OpR X (compareOp op') r') (ha : PE X a ta) (hb : PE X b tb) (hc : PE X c tc)
    (hm : lastMarks [op, op'] [b, c] = false := by with_unfolding_all rfl) : PE X (.Compare a [op, op'] [b, c] pos) (tChain r r' ta tb tc) := by
  intro pins s σ H Q I h
  refine Compare_chain (thn (ha pins s σ H _ I h) fun v s1 ⟨x, H1, I1, r1, q1⟩ => chain_link (thn (hb pins s1 σ H1 _ I1 q1) fun u s2 ⟨y, H2, I2, r2, q2⟩ =>
    thn (ho pins s2 σ H2 x y v u _ I2 r1 r2 q2) fun d s3 ⟨z, H3, I3, r3, k, e, q3⟩ => ?_)) hm
  subst e
  cases r3
  refine wpAny_truthy_bool ?_
  cases k with
  | false => exact ite_ff ⟨.bl false, H3, I3, rfl, q3⟩
  | true => exact ite_tt (chain_last (thn (hc pins s3 σ H3 _ I3 q3) fun w' s4 ⟨z', H4, I4, r4, q4⟩ => ho' pins s4 σ H4 y z' u w' Q I4 r2 r4 q4))
theorem pt_chain {op op' : CmpOp} {r r' : R2} (ho : OpR X (compareOp op) r) (ho' : OpR X (compareOp op') r') (ha : PE X a ta) (hb : PE X b tb) (hc : PE X c tc)
    (hm : lastMarks [op, op'] [b, c] = false := by with_unfolding_all rfl) : PT X (.Compare a [op, op'] [b, c] pos) (tTest (tChain r r' ta tb tc)) := by
  intro pins s σ H Q I h
  refine isTrue_chain (thn (ha pins s σ H _ I h) fun v s1 ⟨x, H1, I1, r1, q1⟩ => test_link (thn (hb pins s1 σ H1 _ I1 q1) fun u s2 ⟨y, H2, I2, r2, q2⟩ =>
    thn (ho pins s2 σ H2 x y v u _ I2 r1 r2 q2) fun d s3 ⟨z, H3, I3, r3, k, e, q3⟩ => ?_)) hm
  subst e
  cases r3
  refine wpAny_truthy_bool ?_
  cases k with
  | false =>
    obtain ⟨k', e', q'⟩ := q3
    cases e'
    exact ite_ff ⟨H3, I3, q'⟩
  | true =>
    refine ite_tt (test_last (thn (hc pins s3 σ H3 _ I3 q3) fun w' s4 ⟨z', H4, I4, r4, q4⟩ => thn (ho' pins s4 σ H4 y z' u w' _ I4 r2 r4 q4) fun d' s5 ⟨z2, H5, I5, r5, k2, e2, q5⟩ => ?_))
    subst e2
    cases r5
    exact wpAny_truthy_bool ⟨H5, I5, q5⟩

/-! ### truth -/
/-- a value's truth by the abstract heap -/
def TruV (K : PySem.W.Frag) (x : V) (H : Hp) (k : Bool) : Prop :=
  match x with
  | .non => k = false
  | .bl b => k = b
  | .int i => k = (i != 0)
  | .str y => y.length ≤ sizeLine ∧ k = ((y.length : Int) != 0)
  | .byt y => y.size ≤ sizeLine ∧ k = ((y.size : Int) != 0)
  | .ref p => (∃ xs, SqL K H p xs ∧ k = !xs.isEmpty) ∨ (∃ xs, SqT K H p xs ∧ k = !xs.isEmpty) ∨ ∃ kvs, H p = some (.dK kvs) ∧ k = !kvs.isEmpty
  | _ => False
theorem line63 : (sizeLine : Nat) < 2 ^ 63 := by rw [sizeLine_eq]; decide

/-! ### strs and bytes -/

def PlainIxT (b : Expr) : Prop := ∀ o i, subscripted b false o i = operate [o, i] (getItem o i)

/-! ### scalar builtins, by CallR -/
theorem vals1 {x : V} {us : List Value} (r : Vals [x] us) : ∃ u, us = [u] ∧ RelV x u := by
  cases r with
  | cons r1 r2 => cases r2; exact ⟨_, rfl, r1⟩
theorem call_abs : CallR X (.builtin "abs") (fun xs H Q => ∃ i, xs = [.int i] ∧ Q (.int (if i < 0 then -i else i)) H) := by
  intro pins s σ H xs us Q I r h
  obtain ⟨i, rfl, q⟩ := h
  obtain ⟨u, rfl, t, rfl⟩ := vals1 r
  exact call_abs_int fun u tk => ⟨.int (if i < 0 then -i else i), H, I.tok _, ⟨_, rfl⟩, q⟩
/-- len of a str, a bytes, a list, a tuple -/
def LenV (K : PySem.W.Frag) (x : V) (H : Hp) (n : Nat) : Prop :=
  match x with
  | .str y => y.length ≤ sizeLine ∧ n = y.length
  | .byt y => y.size ≤ sizeLine ∧ n = y.size
  | .ref p => (∃ xs, SqL K H p xs ∧ n = xs.length) ∨ ∃ xs, SqT K H p xs ∧ n = xs.length
  | _ => False
end
end L2

namespace L2
open PySem PySem.Spec PyProof.Rows

/-! ### an instance, its attributes a map -/
structure ObjM (h : Heap) (x dx C : Addr) (mA : Str → Option Value) : Prop where
  obj : h.get? x = some (PySem.W.instObj C dx)
  ns : h.Ns1 dx mA
  ne : dx ≠ x

theorem lookIn_ns {h : Heap} {dx : Addr} {mA : Str → Option Value} (n : h.Ns1 dx mA) : ∃ od, h.get? dx = some od ∧ ∀ name, PySem.W.lookIn name od = some (mA name) := by
  obtain ⟨o, es, ep, ho, hd, hk, _, hm⟩ := n
  refine ⟨o, ho, fun name => ?_⟩
  have e := hm name
  unfold nsFind findBy at e
  rw [← Array.find?_toList] at e
  unfold PySem.W.lookIn
  rw [hd]
  dsimp only
  split
  · rename_i y q
    rw [q] at e
    exact congrArg some e
  · rename_i q
    rw [q] at e
    have a : es.toList.any (·.refKey) = false := by
      rw [List.any_eq_false]
      intro y hy
      obtain ⟨z, t, hkey⟩ := hk y (Array.mem_toList_iff.mp hy)
      simp [DictEntry.refKey, hkey]
    have a' : ¬ es.toList.any (·.refKey) = true := by rw [a]; exact Bool.false_ne_true
    rw [if_neg a']
    exact congrArg some e

theorem ObjM.look {h : Heap} {x dx C : Addr} {mA : Str → Option Value} (I : ObjM h x dx C mA) : ∃ od, PySem.W.InstAt h x (PySem.W.instObj C dx) C (some od) ∧ ∀ name, PySem.W.lookIn name od = some (mA name) :=
  let ⟨od, ho, hl⟩ := lookIn_ns I.ns
  ⟨od, ⟨I.obj, rfl, rfl, ho⟩, hl⟩

section
variable {prog : Program} {w : World} {A : Around} {E : Value → Shared → Prop} {s : Shared} {K : PySem.W.Frag} {x dx C f : Addr} {mA : Str → Option Value} {name : Str} {v : Value}

theorem get_map {expr : Bool} {Q : Value → Shared → Prop} (X : K.In s.heap) (I : ObjM s.heap x dx C mA) (hg : PySem.W.plainGet K C name = true) (hh : PySem.W.hasDictIn K C = true)
    (ha : PySem.W.findIn K (.ref C) name = some none) (hv : mA name = some v) (hv' : PySem.W.handedIn v = true) (h : Q v { s with toks := s.toks + 1 }) :
    wpAny (model prog w) A (getAttr (.ref x) name expr) Q E s := by
  obtain ⟨od, J, hl⟩ := I.look
  exact PySem.W.get_value X J (PySem.W.plainGet_of hg).1 (PySem.W.findObj_own hh ha rfl (by rw [hl, hv])) hv' h

theorem get_meth {pl : Sem Bool} {Q : Value × List Value → Shared → Prop} (X : K.In s.heap) (I : ObjM s.heap x dx C mA) (hg : PySem.W.plainGet K C name = true)
    (hf : PySem.W.findIn K (.ref C) name = some (some (.ref f))) (ht : PySem.W.isFn K (.ref f) = true) (hv : mA name = none) (h : Q (.ref f, [.ref x]) s) :
    wpAny (model prog w) A (getMethod (.ref x) name pl) Q E s := by
  obtain ⟨od, J, hl⟩ := I.look
  exact PySem.W.method_fn X J (PySem.W.plainGet_of hg).1 (PySem.W.plainGet_of hg).2 hf (beq_iff_eq.mp ht) (by show (PySem.W.lookIn name od).map (·.isSome) = some false; rw [hl, hv]; rfl) h

theorem set_map {ns : List Str} {Q : Unit → Shared → Prop} (X : K.In s.heap) (I : ObjM s.heap x dx C mA)
    (hs : PySem.W.findIn K (.ref C) "__setattr__" = some (some (.builtin "object.__setattr__"))) (hp : PySem.W.plainOver K C = true) (ht : PySem.W.takerIn K C name = some none) (hh : PySem.W.hasDictIn K C = true)
    (hw : PySem.Within mA ns) (hsz : ns.length ≤ sizeLine)
    (h : ∀ h', ObjM h' x dx C (fun y => if y = name then some v else mA y) → Heap.SameBut dx s.heap h' → Q () { s with heap := h', toks := s.toks + 2 }) :
    wpAny (model prog w) A (setAttr (.ref x) name v) Q E s := by
  obtain ⟨od, J, hl⟩ := I.look
  refine PySem.W.set_plain X J hs (PySem.W.osa_open (s := { s with toks := s.toks + 1 }) (r := none) X J hp ht fun b => ?_)
  obtain ⟨cd, hc, hd'⟩ := PySem.W.any_some hh
  have hx : s.heap.get? x = some ⟨.ref C, some dx, .plain, #[]⟩ := I.obj
  refine wpAny_bind (wpAny_pure (wpAny_bind (wpAny_bind (wpAny_loadPart hx (wpAny_bind (PySem.W.Looks.here (s := { s with toks := s.toks + 1 }) (PySem.W.looks_clsIn X hc) ?_))))))
  rw [hd']
  refine wpAny_pure (a := some dx) (wpAny_bind (wpAny_pure (wpAny_bind ?_)))
  refine wpAny_nsSet1 (s := { s with toks := s.toks + 1 }) I.ns fun h' hn2 hs2 => ?_
  obtain ⟨oD, esD, epD, hoD, hdD, hcD⟩ := hn2.count (PySem.Within.cons name v hw)
  refine wpAny_bind (wpAny_lookBehind hoD (by rw [hdD]; exact pastItsLine_dict (Nat.le_trans hcD (by rw [List.length_cons]; omega))) ?_)
  exact wpAny_pure (h _ ⟨(hs2.2 _ (Ne.symm I.ne)).trans I.obj, hn2, I.ne⟩ hs2)

/-- C(..): the dict at the heap's end, the instance behind it; then its __init__ -/
theorem make_map {R : Result → Shared → Prop} {vs : List Value} {kw : List (Str × Value)} (X : K.In s.heap) (hm : PySem.W.makesIn K C = true)
    (hi : PySem.W.findIn K (.ref C) "__init__" = some (some (.ref f))) (hf : PySem.W.typeIn K (.ref f) = some (.type "function"))
    (h : codeAny (model prog w) (A.under (.builtin "type.__call__" ⟨.ref C :: vs, kw⟩)) (.call (.ref f) ⟨.ref (s.heap.objs.size + 1) :: vs, kw⟩) (PySem.W.InitBack (s.heap.objs.size + 1) R)
      { s with heap := (s.heap.push PySem.W.emptyDict).push (PySem.W.instObj C s.heap.objs.size) }) :
    codeAny (model prog w) A (.call (.ref C) ⟨vs, kw⟩) R s := by
  obtain ⟨hh, g, d, t, os⟩ := s
  exact PySem.W.make_core (PySem.W.makes_of X hm) (PySem.W.looks_findIn X hi) (fun self => PySem.W.bind_fn X self hf) (.inl rfl) h
end

/-! ### the attributes as a list of pairs -/
def putF (f : Str) (v : V) : List (Str × V) → List (Str × V)
  | [] => [(f, v)]
  | (g, x) :: r => if g = f then (g, v) :: r else (g, x) :: putF f v r
theorem lookup_putF (f g : Str) (v : V) : ∀ fs : List (Str × V), (putF f v fs).lookup g = if g = f then some v else fs.lookup g
  | [] => by
    show List.lookup g [(f, v)] = _
    by_cases h : g = f
    · have hb : (g == f) = true := beq_iff_eq.mpr h
      simp only [List.lookup, hb, if_pos h]
    · have hb : (g == f) = false := beq_eq_false_iff_ne.mpr h
      simp only [List.lookup, hb, if_neg h]
  | (k, x) :: r => by
    have ih := lookup_putF f g v r
    rw [show putF f v ((k, x) :: r) = (if k = f then (k, v) :: r else (k, x) :: putF f v r) from rfl]
    by_cases hk : k = f
    · rw [if_pos hk]
      by_cases h : g = k
      · have hb : (g == k) = true := beq_iff_eq.mpr h
        simp only [List.lookup, hb, if_pos (h.trans hk)]
      · have hb : (g == k) = false := beq_eq_false_iff_ne.mpr h
        simp only [List.lookup, hb, if_neg (fun e : g = f => h (e.trans hk.symm))]
    · rw [if_neg hk]
      by_cases h : g = k
      · have hb : (g == k) = true := beq_iff_eq.mpr h
        simp only [List.lookup, hb, if_neg (fun e : g = f => hk (h.symm.trans e))]
      · have hb : (g == k) = false := beq_eq_false_iff_ne.mpr h
        simp only [List.lookup, hb]
        exact ih
theorem keys_putF (f : Str) (v : V) : ∀ fs : List (Str × V), f ∈ (putF f v fs).map (·.1) ∧ ∀ g, g ∈ fs.map (·.1) → g ∈ (putF f v fs).map (·.1)
  | [] => ⟨by simp [putF], fun g h => by simp at h⟩
  | (k, x) :: r => by
    obtain ⟨i1, i2⟩ := keys_putF f v r
    rw [show putF f v ((k, x) :: r) = (if k = f then (k, v) :: r else (k, x) :: putF f v r) from rfl]
    by_cases hk : k = f
    · rw [if_pos hk]
      subst hk
      exact ⟨by simp, fun g h => by simpa using h⟩
    · rw [if_neg hk]
      refine ⟨?_, fun g h => ?_⟩
      · rw [List.map_cons]
        exact List.mem_cons_of_mem _ i1
      · rw [List.map_cons] at h ⊢
        rcases List.mem_cons.mp h with e | e
        · exact List.mem_cons.mpr (.inl e)
        · exact List.mem_cons_of_mem _ (i2 g e)
theorem length_putF (f : Str) (v : V) : ∀ fs : List (Str × V), (putF f v fs).length ≤ fs.length + 1
  | [] => by simp [putF]
  | (k, x) :: r => by
    have ih := length_putF f v r
    rw [show putF f v ((k, x) :: r) = (if k = f then (k, v) :: r else (k, x) :: putF f v r) from rfl]
    by_cases hk : k = f
    · rw [if_pos hk, List.length_cons, List.length_cons]; omega
    · rw [if_neg hk, List.length_cons, List.length_cons]; omega

theorem RelO.some_of {v : V} {o : Option Value} (r : RelO (some v) o) : ∃ u, o = some u ∧ RelV v u := by
  cases o with
  | none => exact (show False from r).elim
  | some u => exact ⟨u, rfl, r⟩
theorem RelO.none_of {o : Option Value} (r : RelO none o) : o = none := by
  cases o with
  | none => rfl
  | some u => exact (show False from r).elim
theorem handed_of {v : V} {u : Value} (r : RelV v u) : PySem.W.handedIn u = true := by
  cases v with
  | non => cases (show u = Value.none from r); rfl
  | bl b => cases (show u = Value.bool b from r); rfl
  | int i => obtain ⟨t, e⟩ := (show ∃ t, u = Value.int i t from r); cases e; rfl
  | str x => obtain ⟨t, e⟩ := (show ∃ t, u = Value.str x t from r); cases e; rfl
  | byt b => obtain ⟨t, e⟩ := (show ∃ t, u = Value.bytes b t from r); cases e; rfl
  | flt b => obtain ⟨t, e⟩ := (show ∃ t, u = Value.float b t from r); cases e; rfl
  | ref a => cases (show u = Value.ref a from r); rfl
  | ty n => cases (show u = Value.type n from r); rfl

section
variable {P : Program} {w : World} {H H' : Hp} {h h' : Heap} {a C dx : Addr} {fs fs' : List (Str × V)}
theorem ins_get (hok : HOk P w H h) (e : H a = some (.ins C dx fs)) : ∃ mA, ObjM h a dx C mA ∧ (∀ f, RelO (fs.lookup f) (mA f)) ∧ PySem.Within mA (fs.map (·.1)) ∧ fs.length ≤ 1000 ∧ H dx = some (.own a) := by
  obtain ⟨d, z, ne, ob, mA, n, r, q⟩ := (show ObjOk P w H h a (.ins C dx fs) from hok a _ e)
  exact ⟨mA, ⟨ob, n, ne⟩, r, q, z, d⟩
end

/-! ### what of the text a class must have -/
structure Cls (K : PySem.W.Frag) (C : Addr) : Prop where
  pg : PySem.W.plainGet K C Str.empty = true
  hd : PySem.W.hasDictIn K C = true
  po : PySem.W.plainOver K C = true
  sa : PySem.W.findIn K (.ref C) "__setattr__" = some (some (.builtin "object.__setattr__"))
theorem Cls.get {K : PySem.W.Frag} {C : Addr} (c : Cls K C) (f : Str) : PySem.W.plainGet K C f = true := c.pg
/-- no class of it has the name -/
def NoAttr (K : PySem.W.Frag) (C : Addr) (f : Str) : Prop := PySem.W.findIn K (.ref C) f = some none
theorem NoAttr.taker {K : PySem.W.Frag} {C : Addr} {f : Str} (n : NoAttr K C f) : PySem.W.takerIn K C f = some none := by
  unfold PySem.W.takerIn
  rw [show PySem.W.findIn K (.ref C) f = some none from n]
  rfl
/-- a constant of the class -/
structure Con (K : PySem.W.Frag) (C : Addr) (f : Str) (v : V) (u : Value) : Prop where
  at_ : PySem.W.findIn K (.ref C) f = some (some u)
  rel : RelV v u
  get : PySem.W.specialIn K u "__get__" = some none
  cp : PySem.W.copiedNames.contains f = false
/-- a method: a plain def of the class or of one above it -/
structure Meth (K : PySem.W.Frag) (C : Addr) (m : Str) (f : Addr) : Prop where
  at_ : PySem.W.findIn K (.ref C) m = some (some (.ref f))
  fn : PySem.W.isFn K (.ref f) = true
  kp : PySem.W.keepIn K (.ref f) = true

section
variable {X : Cx} {pins : List (Addr × Obj)} {σ : St} {H : Hp} {s : Shared} {a C dx : Addr} {fs : List (Str × V)} {f : Str} {v : V} {A : Around} {E : Value → Shared → Prop}

theorem getattr_ok {b : Bool} {Q : Value → Shared → Prop} (I : Inv X pins σ H s) (e : H a = some (.ins C dx fs)) (c : Cls X.K C) (n : NoAttr X.K C f) (l : fs.lookup f = some v)
    (h : ∀ u s', Inv X pins σ H s' → RelV v u → Q u s') : wpAny (model X.prog X.w) A (getAttr (.ref a) f b) Q E s := by
  obtain ⟨mA, O, r, _, _, _⟩ := ins_get I.hok e
  obtain ⟨u, hu, ru⟩ := RelO.some_of (v := v) (o := mA f) (by rw [← l]; exact r f)
  exact get_map I.kIn O (c.get f) c.hd n hu (handed_of ru) (h u _ (I.tok _) ru)

theorem getmeth_ok {m : Str} {g : Addr} {pl : Sem Bool} {Q : Value × List Value → Shared → Prop} (I : Inv X pins σ H s) (e : H a = some (.ins C dx fs)) (c : Cls X.K C) (k : Meth X.K C m g) (l : fs.lookup m = none)
    (h : Q (.ref g, [.ref a]) s) : wpAny (model X.prog X.w) A (getMethod (.ref a) m pl) Q E s := by
  obtain ⟨mA, O, r, _, _, _⟩ := ins_get I.hok e
  have hn : mA m = none := RelO.none_of (by rw [← l]; exact r m)
  exact get_meth I.kIn O (c.get m) k.at_ k.fn hn h

theorem setattr_ok {y : V} {u : Value} {Q : Unit → Shared → Prop} (I : Inv X pins σ H s) (e : H a = some (.ins C dx fs)) (c : Cls X.K C) (n : NoAttr X.K C f) (hl : fs.length < 1000) (ry : RelV y u)
    (h : ∀ s', Inv X pins σ (upd H a (.ins C dx (putF f y fs))) s' → Q () s') : wpAny (model X.prog X.w) A (setAttr (.ref a) f u) Q E s := by
  obtain ⟨mA, O, r, wi, _, ho⟩ := ins_get I.hok e
  have hz : (fs.map (·.1)).length ≤ sizeLine := by rw [List.length_map, sizeLine_eq]; omega
  refine set_map I.kIn O c.sa c.po n.taker c.hd wi hz fun h' O' sb => h _ ?_
  have hd : ∃ o, h'.get? dx = some o := let ⟨o, _, _, e', _⟩ := O'.ns; ⟨o, e'⟩
  refine I.write (x := a) (e := dx) (by rw [e]; exact True.intro) (.inr ho) (fun b q hb z => (sb.2 b hb).trans z) hd ?_
  refine ⟨by rw [upd_ne O.ne]; exact ho, ?_, O.ne, O'.obj, _, O'.ns, fun g => ?_, fun g hg => ?_⟩
  · have := length_putF f y fs; omega
  · show RelO ((putF f y fs).lookup g) (if g = f then some u else mA g)
    rw [lookup_putF]
    by_cases q : g = f
    · rw [if_pos q, if_pos q]; exact ry
    · rw [if_neg q, if_neg q]; exact r g
  · by_cases q : g = f
    · rw [q]; exact (keys_putF f y fs).1
    · refine (keys_putF f y fs).2 g (wi g fun z => hg ?_)
      show (if g = f then some u else mA g) = none
      rw [if_neg q]; exact z

/-- a new instance, tracked, without attributes -/
theorem Inv.made (I : Inv X pins σ H s) : Inv X pins σ (upd (upd H s.heap.objs.size (.own (s.heap.objs.size + 1))) (s.heap.objs.size + 1) (.ins C s.heap.objs.size []))
    { s with heap := (s.heap.push PySem.W.emptyDict).push (PySem.W.instObj C s.heap.objs.size) } := by
  have e1 : (s.heap.push PySem.W.emptyDict).get? s.heap.objs.size = some PySem.W.emptyDict := Heap.get?_push_size s.heap rfl
  have e2 : ((s.heap.push PySem.W.emptyDict).push (PySem.W.instObj C s.heap.objs.size)).get? (s.heap.objs.size + 1) = some (PySem.W.instObj C s.heap.objs.size) := by
    have := Heap.get?_push_size (s.heap.push PySem.W.emptyDict) (o := PySem.W.instObj C s.heap.objs.size) rfl
    rwa [Heap.size_push] at this
  have e3 : (s.heap.push PySem.W.emptyDict).Ns s.heap.objs.size (fun _ => none) := ⟨PySem.W.emptyDict, #[], _, e1, rfl, (fun e he => absurd he (by simp)), fun _ => rfl⟩
  have I1 := I.laid (a := s.heap.objs.size) (o := .own (s.heap.objs.size + 1)) (h' := s.heap.push PySem.W.emptyDict) (t' := s.toks) (fun b u q => Heap.get?_push_of_some _ q) (Nat.le_refl _) ⟨_, e1⟩
  refine I1.laid (a := s.heap.objs.size + 1) (o := .ins C s.heap.objs.size []) (t' := s.toks) (fun b u q => Heap.get?_push_of_some _ q) (Nat.le_of_eq (Heap.size_push _ _)) ?_
  have ne : s.heap.objs.size ≠ s.heap.objs.size + 1 := Nat.ne_of_lt (Nat.lt_succ_self _)
  refine ⟨by rw [upd_ne ne, upd_same], Nat.zero_le _, ne, e2, fun _ => none, (Heap.Ns1.of_empty e3).at fun o q => Heap.get?_push_of_some _ q, fun _ => True.intro, fun y hy => absurd rfl hy⟩

/-- e.f where nothing but the object is asked: through attributeBase (super) and the last hold -/
theorem attr_of {prog : Program} {w : World} {env : Env} {e : Expr} {f : Str} {pos : Pos} {s : Shared} {Q : Value → Shared → Prop} (hb : attributeBase e f env (eval e env) = eval e env)
    (h : wpAny (model prog w) A (eval e env) (fun o s₁ => wpAny (model prog w) A (getAttr o f true) Q E s₁) E s) : wpAny (model prog w) A (eval (.Attribute e f pos) env) Q E s :=
  Attribute_any_ h (by rw [arm_eval_Attribute, hb])
end

/-! ### readings and rules -/
/-- e.f, an attribute of the instance -/
def tFld (K : PySem.W.Frag) (ta : TE) (f : Str) : TE := fun σ H Q => ta σ H fun x H1 => ∃ a C dx fs v, x = .ref a ∧ H1 a = some (.ins C dx fs) ∧ Cls K C ∧ NoAttr K C f ∧ fs.lookup f = some v ∧ Q v H1
/-- e.f, a constant of the class -/
def tCon (K : PySem.W.Frag) (ta : TE) (f : Str) : TE := fun σ H Q => ta σ H fun x H1 => ∃ a C dx fs v u, x = .ref a ∧ H1 a = some (.ins C dx fs) ∧ Cls K C ∧ Con K C f v u ∧ fs.lookup f = none ∧ Q v H1
/-- e.f = value -/
def sFld (K : PySem.W.Frag) (ta tv : TE) (f : Str) : TS := fun D σ H => tv σ H fun y H1 => ta σ H1 fun x H2 => ∃ a C dx fs, x = .ref a ∧ H2 a = some (.ins C dx fs) ∧ Cls K C ∧ NoAttr K C f ∧ fs.length < 1000 ∧
  D.nx σ (upd H2 a (.ins C dx (putF f y fs)))
/-- an augmented operator on two values -/
def InOp (X : Cx) (op : Operator) (rd : V → V → Hp → VK → Prop) : Prop :=
  ∀ (pins : List (Addr × Obj)) (s : Shared) (σ : St) (H : Hp) (x y : V) (u v : Value) (Q : VK), Inv X pins σ H s → RelV x u → RelV y v → rd x y H Q → wpAny (model X.prog X.w) X.A (inplaceOp op u v) (EP X pins σ Q) X.xe s
/-- e.f op= value -/
def sFldAug (K : PySem.W.Frag) (ta tv : TE) (rd : V → V → Hp → VK → Prop) (f : Str) : TS := fun D σ H => ta σ H fun x H1 => ∃ a C dx fs v, x = .ref a ∧ H1 a = some (.ins C dx fs) ∧ Cls K C ∧ NoAttr K C f ∧ fs.lookup f = some v ∧
  tv σ H1 fun y H2 => rd v y H2 fun z H3 => ∃ dx' fs', H3 a = some (.ins C dx' fs') ∧ fs'.length < 1000 ∧ D.nx σ (upd H3 a (.ins C dx' (putF f z fs')))

section
variable {X : Cx} {o e value : Expr} {f : Str} {pos pos' tpos : Pos} {ta tv : TE}
theorem pe_fld (he : PE X e ta) (hb : attributeBase e f X.env (eval e X.env) = eval e X.env) : PE X (.Attribute e f pos) (tFld X.K ta f) := by
  intro pins s σ H Q I h
  refine attr_of hb (thn (he pins s σ H _ I h) fun u s1 ⟨x, H1, I1, rx, a, C, dx, fs, v, ex, ea, c, n, l, q⟩ => ?_)
  subst ex
  obtain rfl : u = Value.ref a := rx
  exact getattr_ok I1 ea c n l fun u' s2 I2 ru => ⟨v, H1, I2, ru, q⟩
theorem ps_fld (ha : PE X o ta) (hv : PE X value tv) (hs : swapsWith value (some (.Attribute o f pos')) pos.line X.env = pure false) : PS X (.Assign [.Attribute o f pos'] value pos) (sFld X.K ta tv f) := by
  intro pins s σ H D I h
  refine plainObj_wpAny_Assign_Attribute (thn (hv pins s σ H _ I h) fun u s1 ⟨y, H1, I1, ry, q⟩ => thn (ha pins s1 σ H1 _ I1 q) fun ov s2 ⟨x, H2, I2, rx, a, C, dx, fs, ex, ea, c, n, l, q2⟩ => ?_) hs
  subst ex
  obtain rfl : ov = Value.ref a := rx
  exact setattr_ok I2 ea c n l ry fun s3 I3 => ⟨σ, _, I3, q2⟩
def rAdd : V → V → Hp → VK → Prop := fun x y H Q => ∃ i j, x = .int i ∧ y = .int j ∧ Q (.int (i + j)) H
def rSub : V → V → Hp → VK → Prop := fun x y H Q => ∃ i j, x = .int i ∧ y = .int j ∧ Q (.int (i - j)) H

end

/-! ### isinstance -/
section
variable {X : Cx} {pins : List (Addr × Obj)} {σ : St} {H : Hp} {s : Shared} {A : Around} {E : Value → Shared → Prop} {Q : Value → Shared → Prop} {c : Value} {b : Bool}
/-- the type of a value, as the fragment's deciders take it; for an instance its class -/
inductive TyOf (K : PySem.W.Frag) (H : Hp) : V → Value → Prop where
  | non : TyOf K H .non (.type "NoneType")
  | bl (x : Bool) : TyOf K H (.bl x) (.type "bool")
  | int (i : Int) : TyOf K H (.int i) (.type "int")
  | str (x : Str) : TyOf K H (.str x) (.type "str")
  | flt (x : UInt64) : TyOf K H (.flt x) (.type "float")
  | lst {a : Addr} {xs : List V} (e : H a = some (.lst xs)) : TyOf K H (.ref a) (.type "list")
  | frz {a : Addr} {o : Obj} {xs : List V} (e : H a = some (.frz o (.lst xs))) : TyOf K H (.ref a) (.type "list")
  | tup {a : Addr} {xs : List V} (e : H a = some (.tup xs)) : TyOf K H (.ref a) (.type "tuple")
  | dK {a : Addr} {kvs : List (Key × V)} (e : H a = some (.dK kvs)) : TyOf K H (.ref a) (.type "dict")
  | dT {a : Addr} {kvs : List (List Key × V)} (e : H a = some (.dT kvs)) : TyOf K H (.ref a) (.type "dict")
  | ins {a C dx : Addr} {fs : List (Str × V)} (e : H a = some (.ins C dx fs)) (cl : Cls K C) (ha : PySem.W.findIn K (.ref C) "__class__" = some (some (.builtin "object.__class__")))
      (hn : PySem.W.specialIn K (.builtin "object.__class__") "__get__" = some (some (.builtin "getset_descriptor.__get__"))) (htk : PySem.W.takesIn K (.builtin "object.__class__") = some true)
      (hm : PySem.W.mroIn K C (.type "object") = some true) : TyOf K H (.ref a) (.ref C)
end
end L2

namespace L2
open PySem PySem.Spec PyProof.Rows

/-! ### room -/
structure Room (k : Nat) (A : Around) : Prop where
  hd : A.handled = none
  dp : A.depth + 3 * k + 5 < recursionLimit
  un : A.units + 16 * k + 200 < cLine
theorem Room.mono {j k : Nat} {A : Around} (r : Room k A) (h : j ≤ k) : Room j A := ⟨r.hd, by have := r.dp; omega, by have := r.un; omega⟩
theorem Room.deeper {k : Nat} {A : Around} (r : Room (k + 1) A) (env : Env) : Room k (A.deeper env) :=
  ⟨r.hd, by have := r.dp; show A.depth + 1 + 3 * k + 5 < _; omega, by have := r.un; show A.units + 3 + 16 * k + 200 < _; omega⟩
theorem make_depth {A : Around} {C : Addr} {us : List Value} {kw : List (Str × Value)} : (A.under (.builtin "type.__call__" ⟨.ref C :: us, kw⟩)).depth = A.depth + 1 := by
  first | rfl | simp [Around.under, Code.weight, Code.isCreation, Code.isGuard, Code.isCaller, Code.frames, Code.isFrame, guardIds]
theorem make_units {A : Around} {C : Addr} {us : List Value} {kw : List (Str × Value)} : (A.under (.builtin "type.__call__" ⟨.ref C :: us, kw⟩)).units = A.units + 1 := by
  first | rfl | simp [Around.under, Code.cUnits, Code.frames, Code.isFrame]
theorem Room.make {k : Nat} {A : Around} (r : Room (k + 1) A) (C : Addr) (us : List Value) (kw : List (Str × Value)) : Room k (A.under (.builtin "type.__call__" ⟨.ref C :: us, kw⟩)) :=
  ⟨r.hd, by have := r.dp; rw [make_depth]; omega, by have := r.un; rw [make_units]; omega⟩
theorem Room.depth {k : Nat} {A : Around} (r : Room k A) : A.depth < recursionLimit := by have := r.dp; omega

/-! ### argument lists and displays -/
def tNil : TA := fun _ H Q => Q [] H
def tCons (ta : TE) (tr : TA) : TA := fun σ H Q => ta σ H fun x H1 => tr σ H1 fun xs H2 => Q (x :: xs) H2
section
variable {X : Cx} {e : Expr} {es : List Expr} {te : TE} {t : TA} {pos : Pos}
theorem pa_nil : PA X [] tNil := fun _ _ _ _ H Q I h => Calls.spliced_nil ⟨[], H, I, .nil, h⟩
theorem pa_cons (ha : PE X e te) (hr : PA X es t) (hs : starEach (e :: es) X.env = (false, eval e X.env) :: starEach es X.env := by rfl) : PA X (e :: es) (tCons te t) := by
  intro pos pins s σ H Q I h
  rw [hs]
  show wpAny _ _ (spliced ((false, eval e X.env) :: backTo pos (starEach es X.env))) _ _ s
  refine Calls.spliced_cons (thn (ha pins s σ H _ I h) fun u s1 ⟨x, H1, I1, r1, q1⟩ => ?_)
  exact thn (hr pos pins s1 σ H1 _ I1 q1) fun us s2 ⟨xs, H2, I2, r2, q2⟩ => ⟨x :: xs, H2, I2, .cons r1 r2, q2⟩

/-- a tuple, a list of written items -/
def tTup (t : TA) : TE := fun σ H Q => t σ H fun xs H1 => xs.length ≤ sizeLine ∧ ∀ p, H1 p = none → Q (.ref p) (upd H1 p (.tup xs))
def tLst (t : TA) : TE := fun σ H Q => t σ H fun xs H1 => xs.length ≤ sizeLine ∧ ∀ p, H1 p = none → Q (.ref p) (upd H1 p (.lst xs))
theorem pe_lst (h : PA X es t) : PE X (.List es pos) (tLst t) := by
  intro pins s σ H Q I hq
  refine wpAny_List_spliced (thn (h pos pins s σ H _ I hq) fun us s1 ⟨xs, H1, I1, r, z, q⟩ => ⟨by rw [← r.length]; exact z, ?_⟩)
  have hf : H1 s1.heap.objs.size = none := I1.hok.fresh (Nat.le_refl _)
  refine ⟨.ref s1.heap.objs.size, upd H1 s1.heap.objs.size (.lst xs), I1.laid (t' := s1.toks) (fun b u e => Heap.get?_push_of_some _ e) (Nat.le_refl _) ?_, rfl, q _ hf⟩
  exact ⟨z, us, 0, r, Heap.get?_push_size _ rfl⟩
end

/-! ### what a def promises -/
/-- a def's promise: the bound arguments in the parameters' order, the heap, the wanted end, the wanted exception -/
abbrev Sp := List V → Hp → VK → XK → Prop
/-- how an exception lies behind a call (file 08 gives it): the callers' frames, abstract heap and state ahead of the call, the wish, the exception, the state -/
abbrev CXT := List Env → Hp → Shared → XK → Value → Shared → Prop

/-- the state at a call -/
structure Env0 (P : Program) (w : World) (K : PySem.W.Frag) (mg : Str → Option Value) (base : Heap) (A : Around) (outer : List Env) (s : Shared) (H : Hp) : Prop where
  frames : A.frames = some outer
  mod : Mod K mg base
  bs : ∀ b o, base.get? b = some o → s.heap.get? b = some o ∧ H b = none
  bsz : base.objs.size ≤ s.heap.objs.size
  funs : s.heap.FunFrames base outer
  frf : ∀ b ∈ frs outer, H b = none
  hok : HOk P w H s.heap
  bare : AllBare s.gens
/-- a call's end -/
def CE (outer : List Env) (P : Program) (w : World) (H : Hp) (s : Shared) (Q : VK) (u : Value) (s' : Shared) : Prop :=
  ∃ v H', s'.os = s.os ∧ AllBare s'.gens ∧ Un (frs outer) [] H H' s.heap s'.heap ∧ HOk P w H' s'.heap ∧ RelV v u ∧ Q v H'
def CR (CX : CXT) (outer : List Env) (P : Program) (w : World) (H : Hp) (s : Shared) (Q : VK) (E : XK) (r : Result) (s' : Shared) : Prop :=
  match r with
  | .ok (.ret u) => CE outer P w H s Q u s'
  | .ok _ => False
  | .error e => CX outer H s E e s'
structure FnOk (P : Program) (w : World) (K : PySem.W.Frag) (mg : Str → Option Value) (base : Heap) (CX : CXT) (k : Nat) (f : Addr) (fd : FuncData) (ps : List Str) (sp : Sp) : Prop where
  len : ∀ vs H Q E, sp vs H Q E → vs.length = ps.length
  run : ∀ (A : Around) (outer : List Env) (s : Shared) (H : Hp) (args : Args) (us : List Value) (vs : List V) (Q : VK) (E : XK), Room k A → Env0 P w K mg base A outer s H → BindsTo s fd args (ps.zip us) → Vals vs us → sp vs H Q E →
    codeAny (model P w) A (.call (.ref f) args) (CR CX outer P w H s Q E) s

theorem Env0.make {P : Program} {w : World} {K : PySem.W.Frag} {mg : Str → Option Value} {base : Heap} {A : Around} {outer : List Env} {s : Shared} {H : Hp} (e : Env0 P w K mg base A outer s H) (C : Addr) (us : List Value) (kw : List (Str × Value)) :
    Env0 P w K mg base (A.under (.builtin "type.__call__" ⟨.ref C :: us, kw⟩)) outer s H := ⟨by first | exact e.frames | (simpa [Around.under, Code.envs, Code.isFrame, pushEnvs] using e.frames), e.mod, e.bs, e.bsz, e.funs, e.frf, e.hok, e.bare⟩

section
variable {X : Cx} {pins : List (Addr × Obj)} {σ : St} {H : Hp} {s s' : Shared}
/-- from a body: what a callee wants -/
theorem Inv.env0 (I : Inv X pins σ H s) : Env0 X.prog X.w X.K X.mg X.base X.A X.stack s H :=
  ⟨I.ok.frames, I.ok.mod, I.bs, Nat.le_trans I.ok.bsz I.sz, I.stack, I.stkFree, I.hok, I.bare⟩
/-- behind a call -/
theorem Inv.after {Q : VK} {u : Value} (I : Inv X pins σ H s) (h : CE X.stack X.prog X.w H s Q u s') : EP X pins σ Q u s' := by
  obtain ⟨v, H', os, bare, un, hok, r, q⟩ := h
  obtain ⟨hh, g, d, t, os'⟩ := s'
  obtain rfl : os' = s.os := os
  exact ⟨v, H', I.call (h' := hh) (g' := g) (d' := d) (t' := t) (ch := []) un hok bare (fun b z => absurd z (by simp)), r, q⟩
end

/-! ### calls -/
/-- f(..): the written arguments, then the defaults dvs; E: what is wanted of an exception -/
def tCall (sp : Sp) (dvs : List V) (E : XK) (t : TA) : TE := fun σ H Q => t σ H fun vs H1 => sp (vs ++ dvs) H1 Q E
/-- o.m(..) of an instance of the class at C -/
def tMeth (C : Addr) (m : Str) (sp : Sp) (dvs : List V) (E : XK) (ta : TE) (t : TA) : TE := fun σ H Q => ta σ H fun x H1 => ∃ a dx fs, x = .ref a ∧ H1 a = some (.ins C dx fs) ∧ fs.lookup m = none ∧
  t σ H1 fun vs H2 => sp (x :: (vs ++ dvs)) H2 Q E
/-- C(..): a new instance and its dict, then __init__ -/
def tMake (C : Addr) (sp : Sp) (dvs : List V) (E : XK) (t : TA) : TE := fun σ H Q => t σ H fun vs H1 => ∀ x dx, H1 x = none → H1 dx = none → dx ≠ x →
  sp (.ref x :: (vs ++ dvs)) (upd (upd H1 dx (.own x)) x (.ins C dx [])) (fun v H2 => v = .non ∧ Q (.ref x) H2) E

/-- how the parameters are bound: us the positional arguments, kw the keywords' values by name, ds the defaults that fill up -/
def Binds (K : PySem.W.Frag) (fd : FuncData) (ps : List Str) (ds : List Value) : Prop :=
  ∀ (s : Shared) (us : List Value), K.In s.heap → (us ++ ds).length = ps.length → BindsTo s fd ⟨us, []⟩ (ps.zip (us ++ ds))
/-- every parameter is given -/
theorem Binds.all {K : PySem.W.Frag} {fd : FuncData} {ps : List Str} (h : ∀ us : List Value, us.length = ps.length → bindArgs fd ⟨us, []⟩ = pure (ps.zip us)) : Binds K fd ps [] := fun s us _ hl => by
  rw [List.append_nil] at hl ⊢
  exact .of_eq (h us hl)

/-- an exception of a callee reaches what this body wants of exceptions -/
def Passes (CX : CXT) (X : Cx) (E : XK) : Prop := ∀ (pins : List (Addr × Obj)) (σ : St) (H : Hp) (s : Shared) (e : Value) (s' : Shared), Inv X pins σ H s → CX X.stack H s E e s' → X.xe e s'

section
variable {X : Cx} {CX : CXT} {k : Nat} {f C : Addr} {fd : FuncData} {ps : List Str} {sp : Sp} {dvs : List V} {ds : List Value} {E : XK} {x m : Str} {p pos apos : Pos} {e o : Expr} {es : List Expr} {ta : TE} {t : TA}

/-- the callee runs -/
theorem run_fn {pins : List (Addr × Obj)} {σ : St} {H : Hp} {s : Shared} {Q : VK} {us : List Value} {vs : List V} (F : FnOk X.prog X.w X.K X.mg X.base CX k f fd ps sp) (hr : Room k X.A) (hb : Binds X.K fd ps ds) (hd : Vals dvs ds) (hx : Passes CX X E)
    (I : Inv X pins σ H s) (r : Vals vs us) (h : sp (vs ++ dvs) H Q E) : wpAny (model X.prog X.w) X.A (call (.ref f) us) (EP X pins σ Q) X.xe s := by
  have r2 : Vals (vs ++ dvs) (us ++ ds) := r.append hd
  have hl : (us ++ ds).length = ps.length := by rw [← r2.length]; exact F.len _ _ _ _ h
  refine wpAny_call (codeAny_mono (F.run X.A X.stack s H ⟨us, []⟩ (us ++ ds) (vs ++ dvs) Q E hr I.env0 (hb s us I.kIn hl) r2 h) fun r s' hq => ?_)
  cases r with
  | error e => exact hx pins σ H s e s' I hq
  | ok fl =>
    cases fl with
    | ret u => exact I.after hq
    | next => exact False.elim hq
    | brk => exact False.elim hq
    | cont => exact False.elim hq

theorem pe_call (F : FnOk X.prog X.w X.K X.mg X.base CX k f fd ps sp) (hr : Room k X.A) (hg : Gl X x) (hm : X.mg x = some (.ref f)) (hk : PySem.W.keepIn X.K (.ref f) = true) (hb : Binds X.K fd ps ds) (hd : Vals dvs ds) (hx : Passes CX X E)
    (ha : PA X (e :: es) t) (hdb : (x == ("__debug__" : Str)) = false := by decide) (he : starEach (e :: es) X.env = (false, eval e X.env) :: starEach es X.env := by rfl) (hpl : (backTo pos (starEach es X.env)).any (·.1) = false := by rfl) :
    PE X (.Call (.Name x p) (e :: es) [] pos) (tCall sp dvs E t) := by
  intro pins s σ H Q I h
  refine wpAny_Call_Name_kw (ld_glob I hg hm ?_ hdb)
  refine PySem.W.callWith_K (h₀ := X.base) I.ok.mod.kin hk (thn (ha pos pins s σ H _ I h) fun us s1 ⟨vs, H1, I1, r, q⟩ => ⟨I1.kIn, ?_⟩) he hpl
  exact run_fn F hr hb hd hx I1 r q

/-- o.m(e, ..) -/
theorem pe_meth {pl : Sem Bool} (he : PE X o ta) (c : Cls X.K C) (hm : Meth X.K C m f) (F : FnOk X.prog X.w X.K X.mg X.base CX k f fd ps sp) (hr : Room k X.A) (hb : Binds X.K fd ps ds) (hd : Vals dvs ds) (hx : Passes CX X E) (ha : PA X (e :: es) t)
    (hst : starEach (e :: es) X.env = (false, eval e X.env) :: starEach es X.env := by rfl) (hpl : (backTo pos (starEach es X.env)).any (·.1) = false := by rfl)
    (ht : eval (.Call (.Attribute o m apos) (e :: es) [] pos) X.env = (do
      let ov ← eval o X.env
      standAt apos.atName
      let (f, first) ← holding [ov] (getMethod ov m pl)
      callWith pos f first (backTo pos (starEach (e :: es) X.env)) (backToKw pos (keywordEach [] X.env))) := by rfl) :
    PE X (.Call (.Attribute o m apos) (e :: es) [] pos) (tMeth C m sp dvs E ta t) := by
  intro pins s σ H Q I h
  refine PySem.W.methodCall_KW (pl := pl) (thn (he pins s σ H _ I h) fun u s1 ⟨x, H1, I1, rx, a, dx, fs, ex, ea, l, q⟩ => ?_) ht
  subst ex
  obtain rfl : u = Value.ref a := rx
  refine getmeth_ok I1 ea c hm l ?_
  refine PySem.W.callWith_K (first := [.ref a]) (h₀ := X.base) I.ok.mod.kin hm.kp (thn (ha pos pins s1 σ H1 _ I1 q) fun us s2 ⟨vs, H2, I2, r, q2⟩ => ⟨I2.kIn, ?_⟩) hst hpl
  exact run_fn (us := .ref a :: us) (vs := .ref a :: vs) F hr hb hd hx I2 (.cons rfl r) q2

/-- what a class must have to be made -/
structure Mk (K : PySem.W.Frag) (C f : Addr) : Prop where
  makes : PySem.W.makesIn K C = true
  init : PySem.W.findIn K (.ref C) "__init__" = some (some (.ref f))
  fn : PySem.W.isFn K (.ref f) = true
  kp : PySem.W.keepIn K (.ref C) = true

theorem run_make {pins : List (Addr × Obj)} {σ : St} {H : Hp} {s : Shared} {Q : VK} {us : List Value} {vs : List V} (M : Mk X.K C f) (F : FnOk X.prog X.w X.K X.mg X.base CX k f fd ps sp) (hr : Room (k + 1) X.A) (hb : Binds X.K fd ps ds) (hd : Vals dvs ds)
    (hx : Passes CX X E) (I : Inv X pins σ H s) (r : Vals vs us)
    (h : ∀ x dx, H x = none → H dx = none → dx ≠ x → sp (.ref x :: (vs ++ dvs)) (upd (upd H dx (.own x)) x (.ins C dx [])) (fun v H2 => v = .non ∧ Q (.ref x) H2) E) :
    wpAny (model X.prog X.w) X.A (call (.ref C) us) (EP X pins σ Q) X.xe s := by
  have hq := h (s.heap.objs.size + 1) s.heap.objs.size (I.hok.fresh (Nat.le_succ _)) (I.hok.fresh (Nat.le_refl _)) (Nat.ne_of_lt (Nat.lt_succ_self _))
  have I2 := Inv.made (C := C) I
  have r2 : Vals (V.ref (s.heap.objs.size + 1) :: (vs ++ dvs)) (Value.ref (s.heap.objs.size + 1) :: (us ++ ds)) := .cons rfl (r.append hd)
  have hl : (Value.ref (s.heap.objs.size + 1) :: us ++ ds).length = ps.length := by
    have e := r2.length
    rw [F.len _ _ _ _ hq] at e
    exact e.symm
  refine wpAny_call (make_map (f := f) I.kIn M.makes M.init (beq_iff_eq.mp M.fn) (codeAny_mono (F.run _ X.stack _ _ ⟨Value.ref (s.heap.objs.size + 1) :: us, []⟩ (Value.ref (s.heap.objs.size + 1) :: (us ++ ds)) _ _ E (hr.make C us [])
    (I2.env0.make C us []) (hb _ (Value.ref (s.heap.objs.size + 1) :: us) I2.kIn hl) r2 hq) fun r s' hq' => ?_))
  cases r with
  | error e => exact hx pins σ _ _ e s' I2 hq'
  | ok fl =>
    cases fl with
    | ret u =>
      obtain ⟨v, H', I3, rv, ev, q3⟩ := I2.after hq'
      subst ev
      exact ⟨rv, ⟨V.ref (s.heap.objs.size + 1), H', I3, rfl, q3⟩⟩
    | next => exact False.elim hq'
    | brk => exact False.elim hq'
    | cont => exact False.elim hq'
theorem pe_make (M : Mk X.K C f) (F : FnOk X.prog X.w X.K X.mg X.base CX k f fd ps sp) (hr : Room (k + 1) X.A) (hg : Gl X x) (hm : X.mg x = some (.ref C)) (hb : Binds X.K fd ps ds) (hd : Vals dvs ds) (hx : Passes CX X E)
    (ha : PA X (e :: es) t) (hdb : (x == ("__debug__" : Str)) = false := by decide) (he : starEach (e :: es) X.env = (false, eval e X.env) :: starEach es X.env := by rfl) (hpl : (backTo pos (starEach es X.env)).any (·.1) = false := by rfl) :
    PE X (.Call (.Name x p) (e :: es) [] pos) (tMake C sp dvs E t) := by
  intro pins s σ H Q I h
  refine wpAny_Call_Name_kw (ld_glob I hg hm ?_ hdb)
  refine PySem.W.callWith_K (h₀ := X.base) I.ok.mod.kin M.kp (thn (ha pos pins s σ H _ I h) fun us s1 ⟨vs, H1, I1, r, q⟩ => ⟨I1.kIn, ?_⟩) he hpl
  exact run_make M F hr hb hd hx I1 r q
theorem pe_make0 (M : Mk X.K C f) (F : FnOk X.prog X.w X.K X.mg X.base CX k f fd ps sp) (hr : Room (k + 1) X.A) (hg : Gl X x) (hm : X.mg x = some (.ref C)) (hb : Binds X.K fd ps ds) (hd : Vals dvs ds) (hx : Passes CX X E)
    (hdb : (x == ("__debug__" : Str)) = false := by decide) : PE X (.Call (.Name x p) [] [] pos) (tMake C sp dvs E tNil) := by
  intro pins s σ H Q I h
  refine wpAny_Call_Name_kw (ld_glob I hg hm ?_ hdb)
  exact PySem.W.callWith_K0 I.kIn M.kp (run_make (us := []) M F hr hb hd hx I .nil h)
end

/-! ### keywords -/
/-- the values of the keywords, from the left -/
def PK (X : Cx) (kws : List Keyword) (t : TA) : Prop :=
  ∀ (pos : Pos) (pins : List (Addr × Obj)) (s : Shared) (σ : St) (H : Hp) (Q : List V → Hp → Prop), Inv X pins σ H s → t σ H Q → wpAny (model X.prog X.w) X.A (evalAll ((backToKw pos (keywordEach kws X.env)).map (·.2))) (AP X pins σ Q) X.xe s
section
variable {X : Cx} {CX : CXT} {k : Nat} {f C : Addr} {fd : FuncData} {ps ks : List Str} {sp : Sp} {E : XK} {x m : Str} {p pos apos kpos : Pos} {e o : Expr} {es : List Expr} {kws : List Keyword} {te ta : TE} {t tk : TA} {nm : Option Str}

/-- how a call with keywords binds: g puts the positional values us and the keywords' values ws (names ks) in the parameters' order, defaults among them -/
structure KBinds (K : PySem.W.Frag) (fd : FuncData) (ps ks : List Str) (g : List Value → List Value → List Value) (gV : List V → List V → List V) : Prop where
  to : ∀ (s : Shared) (us ws : List Value), K.In s.heap → (g us ws).length = ps.length → BindsTo s fd ⟨us, ks.zip ws⟩ (ps.zip (g us ws))
  rel : ∀ {vs : List V} {us : List Value} {zs : List V} {ws : List Value}, Vals vs us → Vals zs ws → Vals (gV vs zs) (g us ws)
def tCallK (sp : Sp) (gV : List V → List V → List V) (E : XK) (t tk : TA) : TE := fun σ H Q => t σ H fun vs H1 => tk σ H1 fun zs H2 => sp (gV vs zs) H2 Q E
variable {g : List Value → List Value → List Value} {gV : List V → List V → List V}
end

/-! ### a def's body keeps its promise -/
/-- names: the parameters first -/
structure FnScope (N P : List Str) (sc : Scope) : Prop where
  kind : sc.kind = .function
  co : sc.isCoroutine = false
  gen : sc.isGenerator = false
  nd : N.Nodup
  pre : N.take P.length = P
  par : ∀ x ∈ P, sc.names.lookup x = some .local ∨ sc.names.lookup x = some .cell
  nofree : ∀ y ∈ sc.names, y.2 ≠ .free

theorem bindL_out {kindOf : Str → Option NameKind} {x : Str} : ∀ {binds : List (Str × Value)} {m : Str → Option Value}, (∀ v, (x, v) ∉ binds) → bindL kindOf binds m x = m x
  | [], _, _ => rfl
  | (n, v) :: r, m, h => by
    unfold bindL
    rw [bindL_out fun w hw => h w (List.mem_cons_of_mem _ hw)]
    split
    · have : x ≠ n := by rintro rfl; exact h v List.mem_cons_self
      simp [this]
    · rfl
theorem bindC_out {kindOf : Str → Option NameKind} {x : Str} : ∀ {binds : List (Str × Value)} {m : Str → Option Value}, (∀ v, (x, v) ∉ binds) → bindC kindOf binds m x = m x
  | [], _, _ => rfl
  | (n, v) :: r, m, h => by
    unfold bindC
    rw [bindC_out fun w hw => h w (List.mem_cons_of_mem _ hw)]
    split
    · rfl
    · have : x ≠ n := by rintro rfl; exact h v List.mem_cons_self
      simp [this]
theorem bindL_get {kindOf : Str → Option NameKind} {x : Str} {v : Value} : ∀ {P : List Str} {vs : List Value} {i : Nat} {m : Str → Option Value}, P.Nodup → P[i]? = some x → vs[i]? = some v → kindOf x = some .local →
    bindL kindOf (P.zip vs) m x = some v
  | [], _, _, _, _, h, _, _ => by simp at h
  | _ :: _, [], _, _, _, _, h, _ => by simp at h
  | p :: P, w :: vs, 0, m, nd, h1, h2, hk => by
    simp at h1 h2; subst h1; subst h2
    show bindL kindOf ((p, w) :: P.zip vs) m p = _
    unfold bindL
    rw [bindL_out fun v hv => (List.nodup_cons.mp nd).1 (List.of_mem_zip hv).1, if_pos hk]
    simp
  | p :: P, w :: vs, i + 1, m, nd, h1, h2, hk => by
    show bindL kindOf ((p, w) :: P.zip vs) m x = _
    unfold bindL
    exact bindL_get (i := i) (List.nodup_cons.mp nd).2 (by simpa using h1) (by simpa using h2) hk
theorem bindC_get {kindOf : Str → Option NameKind} {x : Str} {v : Value} : ∀ {P : List Str} {vs : List Value} {i : Nat} {m : Str → Option Value}, P.Nodup → P[i]? = some x → vs[i]? = some v → kindOf x ≠ some .local →
    bindC kindOf (P.zip vs) m x = some v
  | [], _, _, _, _, h, _, _ => by simp at h
  | _ :: _, [], _, _, _, _, h, _ => by simp at h
  | p :: P, w :: vs, 0, m, nd, h1, h2, hk => by
    simp at h1 h2; subst h1; subst h2
    show bindC kindOf ((p, w) :: P.zip vs) m p = _
    unfold bindC
    rw [bindC_out fun v hv => (List.nodup_cons.mp nd).1 (List.of_mem_zip hv).1, if_neg hk]
    simp
  | p :: P, w :: vs, i + 1, m, nd, h1, h2, hk => by
    show bindC kindOf ((p, w) :: P.zip vs) m x = _
    unfold bindC
    exact bindC_get (i := i) (List.nodup_cons.mp nd).2 (by simpa using h1) (by simpa using h2) hk

/-- the names' values at the entry -/
def start (N : List Str) (vs : List V) : St := vs.map some ++ List.replicate (N.length - vs.length) none

/-- the context of a def's body, at its entry; an exception leaves the frame, then lies as CX says -/
def cxOf (CX : CXT) (P : Program) (w : World) (K : PySem.W.Frag) (mg : Str → Option Value) (base : Heap) (N : List Str) (qual : Str) (scope : Scope) (f : Addr) (cd : Value) (A : Around) (outer : List Env) (s : Shared) (H : Hp) (E : XK) : Cx where
  prog := P
  w := w
  K := K
  mg := mg
  base := base
  A := A.deeper (envOfC qual scope s.heap.objs.size f cd)
  N := N
  s_0 := s
  H_0 := H
  env := envOfC qual scope s.heap.objs.size f cd
  outer := outer
  stack := envOfC qual scope s.heap.objs.size f cd :: outer
  ex := []
  calm := true
  fn := fun _ => true
  pn := []
  xe := fun e s' => wpAny (model P w) (A.deeper (envOfC qual scope s.heap.objs.size f cd)) (leaving (envOfC qual scope s.heap.objs.size f cd) e) (fun _ s'' => CX outer H s E e s'') (fun e' s'' => CX outer H s E e' s'') s'

theorem cell_has {sc : Scope} {n : Nat} {x : Str} (h : sc.names.lookup x = some .cell) : ∃ c, (cellsFrom n sc.names []).lookup x = some c := by
  have q := PySem.W.cellsFrom_some sc.names n [] (.inl h)
  exact Option.isSome_iff_exists.mp q

theorem inv_start {CX : CXT} {P : Program} {w : World} {K : PySem.W.Frag} {mg : Str → Option Value} {base : Heap} {N ps : List Str} {qual : Str} {scope : Scope} {f : Addr} {cd : Value} {A : Around} {outer : List Env} {s s1 : Shared} {H : Hp} {E : XK} {us : List Value} {vs : List V}
    (S : FnScope N ps scope) (hd : A.handled = none) (e0 : Env0 P w K mg base A outer s H) (hl : vs.length = ps.length) (r : Vals vs us)
    (x : InCallC s s.heap.objs.size (bindL (envOfC qual scope s.heap.objs.size f cd).kindOf (ps.zip us) fun _ => none) (cellsFrom (s.heap.objs.size + 1) scope.names []) (bindC (envOfC qual scope s.heap.objs.size f cd).kindOf (ps.zip us) fun _ => none) s1) :
    Inv (cxOf CX P w K mg base N qual scope f cd A outer s H E) [] (start N vs) H s1 := by
  have hpl : ps.length ≤ N.length := by have := congrArg List.length S.pre; rw [List.length_take] at this; omega
  obtain ⟨h1, tk, rfl, hk⟩ := x.done
  have noA : ∀ b : Addr, b ∉ (cxOf CX P w K mg base N qual scope f cd A outer s H E).ex := fun b z => absurd (show b ∈ ([] : List Addr) from z) (by simp)
  refine ⟨⟨e0.mod, S.kind, rfl, rfl, Nat.le_refl _, fun y z c h1 h2 => ?_, fun y hy => ?_, fun y c _ h => ?_, fun _ => hd, Around.frames_deeper e0.frames, .inr ⟨rfl, rfl⟩, fun b z => absurd z (noA b), e0.bs, e0.bsz, fun b _ _ => noA b, fun b z => absurd z (noA b), e0.funs, e0.frf⟩,
    rfl, e0.bare, Un.kept hk, ⟨_, x.toInCall.ns, fun i y v h1 h2 h3 => ?_⟩, fun y c h => ⟨_, x.cell y c h⟩, e0.hok.fresh (Nat.le_refl _), fun y c h => ?_, fun p hp => absurd (show p ∈ ([] : List (Addr × Obj)) from hp) (by simp), e0.hok.kept hk, ?_⟩
  · exact name_of_addr x.apart (PySem.mem_of_lookup h1) (PySem.mem_of_lookup h2)
  · have hy : scope.names.lookup y = some .cell ∨ scope.names.lookup y = some .free := hy
    rcases hy with hy | hy
    · exact cell_has hy
    · exact absurd rfl (S.nofree _ (PySem.mem_of_lookup hy))
  · exact Nat.le_of_lt (x.above y c (PySem.mem_of_lookup h))
  · have hi : i < vs.length := by
      unfold start at h2
      by_cases hi : i < vs.length
      · exact hi
      · rw [List.getElem?_append_right (by simpa using hi)] at h2
        rw [List.getElem?_replicate] at h2
        split at h2 <;> cases h2
    have ha : vs[i]? = some v := by
      unfold start at h2
      rw [List.getElem?_append_left (by simpa using hi), List.getElem?_map] at h2
      cases e : vs[i]? with
      | none => rw [e] at h2; cases h2
      | some a => rw [e] at h2; cases h2; rfl
    obtain ⟨u, hu, rv⟩ := r.get ha
    have hp : ps[i]? = some y := by
      rw [← S.pre, List.getElem?_take_of_lt (by omega)]; exact h1
    have ndP : ps.Nodup := by rw [← S.pre]; exact S.nd.sublist (List.take_sublist _ _)
    refine ⟨u, rv, ?_⟩
    rcases S.par y (List.mem_of_getElem? hp) with k | k
    · exact .inl ⟨k, bindL_get ndP hp hu k⟩
    · obtain ⟨c, e⟩ := cell_has (n := s.heap.objs.size + 1) k
      refine .inr ⟨.inl k, c, e, ?_⟩
      have q := x.cell y c e
      rw [bindC_get ndP hp hu (by show scope.names.lookup y ≠ _; rw [k]; decide)] at q
      exact q
  · exact e0.hok.fresh (Nat.le_of_lt (x.above y c (PySem.mem_of_lookup h)))
  · unfold start
    show _ = N.length
    rw [List.length_append, List.length_map, List.length_replicate]
    omega

/-- THE RULE: a def (or a method) of the text, by its body. The body's reading t is chosen for each entry; it is run at the parameters' values -/
theorem fn_of {CX : CXT} {P : Program} {w : World} {K : PySem.W.Frag} {mg : Str → Option Value} {base : Heap} {k : Nat} {f : Addr} {name qual : Str} {params : Arguments} {body : List Stmt} {scope : Scope} {dV kV doc pm cdv ct oc : Value} {an od : Option Addr}
    {osl : Array (Option Value)} {N ps : List Str} {sp : Sp} (lk : K.lookup f = some ⟨oc, od, .func (PySem.W.fnOf name qual params body scope dV kV doc pm an cdv ct), osl⟩) (hcd : PySem.W.codeIn K cdv qual = true) (S : FnScope N ps scope)
    (len : ∀ vs H Q E, sp vs H Q E → vs.length = ps.length)
    (hbody : ∀ (A : Around) (outer : List Env) (s : Shared) (H : Hp) (vs : List V) (Q : VK) (E : XK), Room k (A.deeper (envOfC qual scope s.heap.objs.size f cdv)) → sp vs H Q E →
      ∃ t, PSs (cxOf CX P w K mg base N qual scope f cdv A outer s H E) body t ∧ t { nx := fun _ H' => Q .non H', rt := Q } (start N vs) H) :
    FnOk P w K mg base CX (k + 1) f (PySem.W.fnOf name qual params body scope dV kV doc pm an cdv ct) ps sp := by
  refine ⟨len, fun A outer s H args us vs Q E hr e0 hb r hsp => ?_⟩
  have hl := len _ _ _ _ hsp
  have KX : K.In s.heap := e0.mod.kin.keeps fun b o e => (e0.bs b o e).1
  have lim : s.heap.NoLimit := e0.mod.nolimit.keeps fun b o e => (e0.bs b o e).1
  have hkind : ∀ y ∈ ps.zip us, scope.names.lookup y.1 = some .local ∨ (scope.names.lookup y.1 = some .cell ∧ ((cellsFrom (s.heap.objs.size + 1) scope.names []).lookup y.1).isSome = true) := fun ⟨n, v⟩ hy => by
    rcases S.par n (List.of_mem_zip hy).1 with q | q
    · exact .inl q
    · exact .inr ⟨q, PySem.W.cellsFrom_some _ _ _ (.inl q)⟩
  refine codeAny_call_function hr.depth (KX _ _ lk) rfl S.co S.gen rfl (PySem.W.codeRec_of KX hcd) (hb _ _ _ _ ?_)
  refine wpAny_newFunctionEnv_cells S.kind hkind fun env he s1 x => ?_
  subst he
  refine ⟨lim.keeps x.toInCall.keep, codeAny_func ?_⟩
  obtain ⟨t, ht, hq⟩ := hbody A outer s H vs Q E (hr.deeper _) hsp
  have I : Inv (cxOf CX P w K mg base N qual scope f cdv A outer s H E) [] (start N vs) H s1 := inv_start S hr.hd e0 hl r x
  refine wpAny_mono (ht [] s1 (start N vs) H _ I hq) (fun fl s' hs => ?_) fun e s' hs => hs
  have fin : ∀ {σ' : St} {H' : Hp} {v : V} {u : Value}, Inv (cxOf CX P w K mg base N qual scope f cdv A outer s H E) [] σ' H' s' → RelV v u → Q v H' → CE outer P w H s Q u s' :=
    fun {σ' H' v u} J rv q => ⟨v, H', J.os, J.bare, J.base, J.hok, rv, q⟩
  cases fl with
  | ret u =>
    obtain ⟨v, σ', H', J, rv, q⟩ := hs
    exact fin J rv q
  | next =>
    obtain ⟨σ', H', J, q⟩ := hs
    exact fin (v := V.non) (u := Value.none) J rfl q
  | brk =>
    obtain ⟨_, _, _, q⟩ := hs
    exact False.elim q
  | cont =>
    obtain ⟨_, _, _, q⟩ := hs
    exact False.elim q
end L2

namespace L2
open PySem PySem.Spec PyProof.Rows
section
variable {X : Cx} {x : Str} {p pos : Pos} {e : Expr} {es : List Expr} {t : TA} {id T : String} {r : List V → Hp → VK → Prop}

def tCB (r : List V → Hp → VK → Prop) (t : TA) : TE := fun σ H Q => t σ H fun vs H1 => r vs H1 Q
/-- f(e, ..), f a built-in function -/
theorem pe_callB (hc : CallR X (.builtin id) r) (hg : Gl X x) (hm : X.mg x = none) (hv : bootBuiltins x = some (.builtin id)) (ha : PA X (e :: es) t) (hn : x ≠ "__name__" := by decide) (hdb : (x == ("__debug__" : Str)) = false := by decide)
    (he : starEach (e :: es) X.env = (false, eval e X.env) :: starEach es X.env := by rfl) (hpl : (backTo pos (starEach es X.env)).any (·.1) = false := by rfl) : PE X (.Call (.Name x p) (e :: es) [] pos) (tCB r t) := by
  intro pins s σ H Q I h
  refine wpAny_Call_Name_kw (ld_blt I hg hm hv ?_ hn hdb)
  exact PyProof.Rows.callWith_builtin1 (thn (ha pos pins s σ H _ I h) fun us s1 ⟨vs, H1, I1, r1, q1⟩ => hc pins s1 σ H1 vs us Q I1 r1 q1) he hpl
/-- T(e, ..), T a built-in type -/
theorem pe_callTy (hc : CallR X (.type T) r) (hg : Gl X x) (hm : X.mg x = none) (hv : bootBuiltins x = some (.type T)) (ha : PA X (e :: es) t) (hn : x ≠ "__name__" := by decide) (hdb : (x == ("__debug__" : Str)) = false := by decide)
    (he : starEach (e :: es) X.env = (false, eval e X.env) :: starEach es X.env := by rfl) (hpl : (backTo pos (starEach es X.env)).any (·.1) = false := by rfl) : PE X (.Call (.Name x p) (e :: es) [] pos) (tCB r t) := by
  intro pins s σ H Q I h
  refine wpAny_Call_Name_kw (ld_blt I hg hm hv ?_ hn hdb)
  exact PyProof.Rows.callWith_type1 (thn (ha pos pins s σ H _ I h) fun us s1 ⟨vs, H1, I1, r1, q1⟩ => hc pins s1 σ H1 vs us Q I1 r1 q1) he hpl
end
end L2

namespace HT
open PySem PyProof.Rows

/-- t < u of tuples of ints -/
def lexLt : List Int → List Int → Bool
  | [], [] => false
  | [], _ :: _ => true
  | _ :: _, [] => false
  | x :: xs, y :: ys => if x = y then lexLt xs ys else decide (x < y)

section
open PySem.SeqAt
open PySem.AutoSeq1 (wpAny_loadPart')
open PySem.MeetsSeq PySem.MeetsSeq2 PySem.MeetsSeq3

end

section
variable {prog : Program} {w : World} {A : Around} {E : Value → Shared → Prop} {s : Shared}

/-! ### t[a:b], not the whole -/
/-- a slice's bound as a place among n (d where it is left out) -/
def sIx (n d : Nat) : Option Int → Nat
  | none => d
  | some v => if v < 0 then (v + (n : Int)).toNat else min v.toNat n
theorem sIx_nat (n d k : Nat) : sIx n d (some (k : Int)) = min k n := by
  show (if (k : Int) < 0 then ((k : Int) + (n : Int)).toNat else min (k : Int).toNat n) = min k n
  rw [if_neg (by omega), Int.toNat_natCast]

end
end HT

namespace L2
open PySem PySem.Spec PyProof.Rows

/-! ### the parts of a slice -/
abbrev TO := St → Hp → (Option Int → Hp → Prop) → Prop
/-- a slice's part (left out, or an int) -/
def PO (X : Cx) (e : Option Expr) (t : TO) : Prop :=
  ∀ (pins : List (Addr × Obj)) (s : Shared) (σ : St) (H : Hp) (Q : Option Int → Hp → Prop), Inv X pins σ H s → t σ H Q →
    wpAny (model X.prog X.w) X.A (evalPart e X.env) (fun u s' => ∃ o H', Inv X pins σ H' s' ∧ IsPart u o ∧ Q o H') X.xe s
def tNoPart : TO := fun _ H Q => Q none H
def tPart (t : TE) : TO := fun σ H Q => t σ H fun x H1 => ∃ i, x = .int i ∧ Q (some i) H1

section
variable {X : Cx} {e : Expr} {te : TE} {lo hi : Option Expr} {tl th : TO} {pos p2 : Pos}

theorem po_some (h : PE X e te) : PO X (some e) (tPart te) := by
  intro pins s σ H Q I hw
  rw [evalPart_some]
  refine thn (h pins s σ H _ I hw) fun u s1 ⟨x, H1, I1, r1, q1⟩ => ?_
  obtain ⟨i, rfl, q⟩ := q1
  obtain ⟨t, rfl⟩ := r1
  exact ⟨some i, H1, I1, .int i t, q⟩

/-- what a slice of a value is, by values: the slice object stands at sl -/
def SlR (X : Cx) (r : V → Option Int → Option Int → Hp → VK → Prop) : Prop :=
  ∀ (pins : List (Addr × Obj)) (s : Shared) (σ : St) (H : Hp) (x : V) (v vl vu : Value) (lo hi : Option Int) (sl : Addr) (Q : VK), Inv X pins σ H s → RelV x v → s.heap.IsSliceOf sl vl vu .none → IsPart vl lo → IsPart vu hi → r x lo hi H Q →
    ∃ T id, typeLookup (.type T) "__getitem__" = pure (some (.builtin id)) ∧ s.TypeIs v T ∧ wpAny (model X.prog X.w) X.A (getItem v (.ref sl)) (EP X pins σ Q) X.xe s
def tSl (r : V → Option Int → Option Int → Hp → VK → Prop) (te : TE) (tl th : TO) : TE := fun σ H Q => te σ H fun x H1 => tl σ H1 fun l H2 => th σ H2 fun u H3 => r x l u H3 Q
/-- a[lo:hi], any a -/
theorem pe_slice {r : V → Option Int → Option Int → Hp → VK → Prop} (hr : SlR X r) (he : PE X e te) (hl : PO X lo tl) (hu : PO X hi th) : PE X (.Subscript e (.Slice lo hi none p2) pos) (tSl r te tl th) := by
  intro pins s σ H Q I h
  refine Subscript_ (thn (he pins s σ H _ I h) fun v s1 ⟨x, H1, I1, r1, q1⟩ => ?_)
  refine wpAny_Slice (thn (hl pins s1 σ H1 _ I1 q1) fun vl s2 ⟨l, H2, I2, pl, q2⟩ => thn (hu pins s2 σ H2 _ I2 q2) fun vu s3 ⟨u, H3, I3, pu, q3⟩ => ?_)
  rw [evalPart_none]
  refine wpAny_pure ?_
  have I4 : Inv X pins σ H3 { s3 with heap := s3.heap.push { cls := .type "slice", data := .fields #[vl, vu, .none] } } := I3.kept (t' := s3.toks) fun b ob q => Heap.get?_push_of_some _ q
  obtain ⟨T, id, hT, ht, hg⟩ := hr pins { s3 with heap := s3.heap.push { cls := .type "slice", data := .fields #[vl, vu, .none] } } σ H3 x v vl vu l u s3.heap.objs.size Q I4 r1 (Heap.IsSliceOf.new ..) pl pu q3
  show wpAny (model X.prog X.w) X.A (subscriptTail e (.Slice lo hi none p2) v (.ref s3.heap.objs.size)) (EP X pins σ Q) X.xe { s3 with heap := s3.heap.push { cls := .type "slice", data := .fields #[vl, vu, .none] } }
  exact tail_any (ops := [.ref s3.heap.objs.size, v]) ht hT hg (by with_unfolding_all rfl)

/-- the items of xs[lo:hi] -/
def cutV (xs : List V) (lo hi : Option Int) : List V := (xs.drop (HT.sIx xs.length 0 lo)).take (HT.sIx xs.length xs.length hi - HT.sIx xs.length 0 lo)
theorem cutV_length (xs : List V) (lo hi : Option Int) : (cutV xs lo hi).length ≤ xs.length := by
  unfold cutV
  rw [List.length_take, List.length_drop]
  omega
/-- t[lo:hi], not the whole of it (the whole would be t itself) -/
def rSlT (K : PySem.W.Frag) : V → Option Int → Option Int → Hp → VK → Prop := fun x lo hi H Q => ∃ a xs, x = .ref a ∧ SqT K H a xs ∧
  ¬ (HT.sIx xs.length 0 lo = 0 ∧ HT.sIx xs.length xs.length hi = xs.length) ∧ ∀ p, H p = none → Q (.ref p) (upd H p (.tup (cutV xs lo hi)))

/-! ### t < u, t + u -/
def rLtT (K : PySem.W.Frag) : R2 := fun x y H Q => ∃ a b ns ms, x = .ref a ∧ y = .ref b ∧ SqT K H a (ns.map V.int) ∧ SqT K H b (ms.map V.int) ∧ Q (.bl (HT.lexLt ns ms)) H
/-- t + u, t not empty: u empty gives t itself -/
def rCatT (K : PySem.W.Frag) : R2 := fun x y H Q => ∃ a b xs ys, x = .ref a ∧ y = .ref b ∧ SqT K H a xs ∧ SqT K H b ys ∧ xs ≠ [] ∧ xs.length + ys.length ≤ sizeLine ∧
  (ys = [] → Q (.ref a) H) ∧ (ys ≠ [] → ∀ p, H p = none → Q (.ref p) (upd H p (.tup (xs ++ ys))))
end
end L2

namespace L2
open PySem PySem.Spec PyProof.Rows

/-! ### places -/
/-- the place that an index of any sign means -/
def ixN (n : Nat) (i : Int) : Option Nat := if 0 ≤ i then (if i < n then some i.toNat else none) else if -(n : Int) ≤ i then some (i + n).toNat else none
def atI {α : Type} (xs : List α) (i : Int) : Option α := (ixN xs.length i).bind fun j => xs[j]?
theorem ixN_seq {n : Nat} {i : Int} {j : Nat} (h : ixN n i = some j) : seqIndex? i n = some j ∧ j < n ∧ -(n : Int) ≤ i ∧ i < n := by
  unfold ixN at h
  by_cases h0 : 0 ≤ i
  · rw [if_pos h0] at h
    by_cases h1 : i < n
    · rw [if_pos h1] at h
      have e : i.toNat = j := Option.some.inj h
      exact ⟨by rw [seqIndex_of h0 h1, e], by omega, by omega, h1⟩
    · rw [if_neg h1] at h; cases h
  · rw [if_neg h0] at h
    by_cases h1 : -(n : Int) ≤ i
    · rw [if_pos h1] at h
      have e : (i + n).toNat = j := Option.some.inj h
      exact ⟨by rw [seqIndex_neg (by omega) h1, e], by omega, h1, by omega⟩
    · rw [if_neg h1] at h; cases h
theorem atI_get {α : Type} {xs : List α} {i : Int} {v : α} (h : atI xs i = some v) : ∃ j, seqIndex? i xs.length = some j ∧ xs[j]? = some v ∧ j < xs.length ∧ -(xs.length : Int) ≤ i ∧ i < xs.length := by
  unfold atI at h
  cases e : ixN xs.length i with
  | none => rw [e] at h; cases h
  | some j =>
    rw [e] at h
    obtain ⟨h1, h2, h3, h4⟩ := ixN_seq e
    exact ⟨j, h1, h, h2, h3, h4⟩
theorem atI_nat {α : Type} {xs : List α} {j : Nat} {v : α} (h : xs[j]? = some v) : atI xs (j : Int) = some v := by
  have hj : j < xs.length := (List.getElem?_eq_some_iff.mp h).1
  have e : ixN xs.length (j : Int) = some j := by
    unfold ixN
    rw [if_pos (by omega), if_pos (by omega)]; simp
  unfold atI; rw [e]; exact h
theorem atI_last {α : Type} (xs : List α) (v : α) : atI (xs ++ [v]) (-1) = some v := by
  have hl : (xs ++ [v]).length = xs.length + 1 := by simp
  have e : ixN (xs ++ [v]).length (-1) = some xs.length := by
    unfold ixN
    rw [hl, if_neg (by decide), if_pos (by omega)]
    congr 1
    omega
  unfold atI
  rw [e]
  show (xs ++ [v])[xs.length]? = some v
  simp

/-! ### what may be subscripted -/
/-- what stands as an index of a plain subscript -/
def PlainIx (b : Expr) : Prop := ∀ o i, subscripted b false o i = operate [o, i] (getItem o i)
/-- a subscript by values -/
def IxR (X : Cx) (r : R2) : Prop :=
  ∀ (value slice : Expr) (pins : List (Addr × Obj)) (s : Shared) (σ : St) (H : Hp) (x y : V) (v u : Value) (Q : VK), Inv X pins σ H s → RelV x v → RelV y u → r x y H Q →
    subscripted slice false v u = operate [v, u] (getItem v u) → wpAny (model X.prog X.w) X.A (subscriptTail value slice v u) (EP X pins σ Q) X.xe s
/-- a call of a builtin's method by values: the receiver, the arguments -/
def MtR (X : Cx) (id : String) (r : V → List V → Hp → VK → Prop) : Prop :=
  ∀ (pins : List (Addr × Obj)) (s : Shared) (σ : St) (H : Hp) (x : V) (xs : List V) (v : Value) (us : List Value) (Q : VK), Inv X pins σ H s → RelV x v → Vals xs us → r x xs H Q →
    wpAny (model X.prog X.w) X.A (call (.builtin id) (v :: us)) (EP X pins σ Q) X.xe s
section
variable {X : Cx} {a b : Expr} {ta tb : TE} {pos : Pos}
/-- a[b] -/
theorem pe_ix {r : R2} (hr : IxR X r) (ha : PE X a ta) (hb : PE X b tb) (hs : PlainIx b) : PE X (.Subscript a b pos) (tOp r ta tb) := by
  intro pins s σ H Q I h
  exact Subscript_ (binT ha hb I h fun v u s2 x y H2 I2 rx ry q => hr a b pins s2 σ H2 x y v u Q I2 rx ry q (hs _ _))

def rIxL (K : PySem.W.Frag) : R2 := fun x y H Q => ∃ p xs i v, x = .ref p ∧ y = .int i ∧ SqL K H p xs ∧ atI xs i = some v ∧ Q v H
def rIxT (K : PySem.W.Frag) : R2 := fun x y H Q => ∃ p xs i v, x = .ref p ∧ y = .int i ∧ SqT K H p xs ∧ atI xs i = some v ∧ Q v H
def rIxS : R2 := fun x y H Q => ∃ z i c, x = .str z ∧ y = .int i ∧ z.length ≤ sizeLine ∧ atI z.cps.toList i = some c ∧ Q (.str ⟨#[c]⟩) H
theorem ix_list : IxR X (rIxL X.K) := by
  intro value slice pins s σ H x y v u Q I rx ry h hs
  obtain ⟨p, xs, i, z, rfl, rfl, hq, he, q⟩ := h
  cases rx
  obtain ⟨t, rfl⟩ := ry
  obtain ⟨its, r, pl, hz⟩ := I.list hq
  obtain ⟨j, h1, h2, h3, h4, h5⟩ := atI_get he
  obtain ⟨w, ew, rw'⟩ := r.get h2
  have hl := r.length
  have hn := line63
  have fin : EP X pins σ Q w s := ⟨z, H, I, rw', q⟩
  by_cases h0 : 0 ≤ i
  · have hj : i.toNat = j := by
      rw [seqIndex_of h0 h5] at h1
      exact Option.some.inj h1
    exact item_listR pl.isList h0 (by omega) (by rw [hj]; simpa using ew) fin hs
  · have hj : (i + (its.toArray.size : Int)).toNat = j := by
      rw [seqIndex_neg (by omega) h4] at h1
      rw [List.size_toArray, ← hl]
      exact Option.some.inj h1
    exact subscriptTail_builtinR (x := w) pl.isList.typeIs slot_list_getitem.lookup
      (wpAny_getItem_list_neg (Q := fun r s' => r = w ∧ EP X pins σ Q r s') pl.isList (by omega) (by rw [List.size_toArray] <;> omega) (by omega) (by rw [hj]; simpa using ew) ⟨rfl, fin⟩) hs
/-- list, tuple or str -/
def rIx (K : PySem.W.Frag) : R2 := fun x y H Q => rIxL K x y H Q ∨ rIxT K x y H Q ∨ rIxS x y H Q

/-! ### xs[i] = v, any sign -/
/-- the list's object behind a store -/
theorem mapSeq_set (its : List Value) (n j : Nat) (u : Value) : Obj.mapSeq (·.setIfInBounds j u) { cls := .type "list", data := .seq its.toArray n } = { cls := .type "list", data := .seq (its.set j u).toArray n } := by
  simp [Obj.mapSeq]
theorem Inv.lst {pins : List (Addr × Obj)} {σ : St} {H : Hp} {s : Shared} {p : Addr} {xs : List V} (I : Inv X pins σ H s) (h : H p = some (.lst xs)) :
    ∃ (its : List Value) (n : Nat), Vals xs its ∧ s.heap.get? p = some { cls := .type "list", data := .seq its.toArray n } ∧ xs.length ≤ sizeLine := by
  obtain ⟨z, its, n, r, e⟩ := I.hok p _ h
  exact ⟨its, n, r, e, z⟩
/-- the list at p is written by an update of its object -/
theorem Inv.lstUpd {pins : List (Addr × Obj)} {σ : St} {H : Hp} {s : Shared} {p : Addr} {xs ys : List V} {its its' : List Value} {n n' : Nat} {f : Obj → Obj} (I : Inv X pins σ H s) (h : H p = some (.lst xs))
    (ho : s.heap.get? p = some { cls := .type "list", data := .seq its.toArray n }) (hf : f { cls := .type "list", data := .seq its.toArray n } = { cls := .type "list", data := .seq its'.toArray n' }) (r : Vals ys its') (hz : ys.length ≤ sizeLine) (t : Nat) :
    Inv X pins σ (upd H p (.lst ys)) { s with heap := s.heap.update p f, toks := t } := by
  have e : (s.heap.update p f).get? p = some { cls := .type "list", data := .seq its'.toArray n' } := by
    rw [Heap.get?_update_self f ho (by rw [hf] <;> rfl), hf]
  refine I.write (x := p) (e := p) (by rw [h]; trivial) (.inl rfl) (fun b u hb q => (Heap.get?_update_other _ _ (Ne.symm hb)).trans q) ⟨_, e⟩ ?_
  exact ⟨hz, its', n', r, e⟩
def rSetL : V → V → V → Hp → (Hp → Prop) → Prop := fun o i v H Q => ∃ p xs k j, o = .ref p ∧ i = .int k ∧ H p = some (.lst xs) ∧ ixN xs.length k = some j ∧ Q (upd H p (.lst (xs.set j v)))
theorem set_list : PSet X rSetL := by
  intro pins s σ H o i v ov iv u Q I ro ri rv h
  obtain ⟨p, xs, k, j, rfl, rfl, hp, hj, q⟩ := h
  cases ro
  obtain ⟨t, rfl⟩ := ri
  obtain ⟨its, n, r, ho, hz⟩ := I.lst hp
  obtain ⟨h1, h2, h3, h4⟩ := ixN_seq hj
  have hl := r.length
  have hn := line63
  have I' : Inv X pins σ (upd H p (.lst (xs.set j v))) { s with heap := s.heap.update p (Obj.mapSeq (·.setIfInBounds j u)) } :=
    I.lstUpd hp ho (mapSeq_set its n j u) (r.set rv j) (by rw [List.length_set]; exact hz) s.toks
  by_cases h0 : 0 ≤ k
  · have hk : k.toNat = j := by
      rw [seqIndex_of h0 h4] at h1
      exact Option.some.inj h1
    exact PySem.W.ki_setAt ho h0 (by omega) (by rw [List.size_toArray, ← hl]; exact h4) (by rw [hk]; exact ⟨_, I', q⟩)
  · have hk : (k + (its.toArray.size : Int)).toNat = j := by
      rw [seqIndex_neg (by omega) h3] at h1
      rw [List.size_toArray, ← hl]
      exact Option.some.inj h1
    exact PySem.W.ki_setBack ho (by omega) (by rw [List.size_toArray, ← hl]; exact h3) (by omega) (by rw [hk]; exact ⟨_, I', q⟩)

/-! ### slices -/
theorem slice_bounds (lo hi : Option Int) (n : Nat) : (sliceBounds lo hi none n).1 = ((HT.sIx n 0 lo : Nat) : Int) ∧ (sliceBounds lo hi none n).2.1 = ((HT.sIx n n hi : Nat) : Int) ∧ (sliceBounds lo hi none n).2.2 = 1 := by
  refine ⟨?_, ?_, rfl⟩
  · cases lo with
    | none => simp [sliceBounds, HT.sIx]
    | some i =>
      simp only [sliceBounds, HT.sIx, Option.getD_none, show (1 : Int) > 0 by decide, if_true]
      by_cases h : i < 0
      · simp only [h, if_true] <;> omega
      · simp only [h, if_false] <;> omega
  · cases hi with
    | none => simp [sliceBounds, HT.sIx]
    | some i =>
      simp only [sliceBounds, HT.sIx, Option.getD_none, show (1 : Int) > 0 by decide, if_true]
      by_cases h : i < 0
      · simp only [h, if_true] <;> omega
      · simp only [h, if_false] <;> omega
theorem slicePick_cut (its : List Value) (lo hi : Option Int) : slicePick its.toArray lo hi none = ((its.drop (HT.sIx its.length 0 lo)).take (HT.sIx its.length its.length hi - HT.sIx its.length 0 lo)).toArray := by
  obtain ⟨h1, h2, h3⟩ := slice_bounds lo hi its.toArray.size
  unfold slicePick
  rw [h1, h2, h3]
  simp only [sliceRange_one, pick_run, List.size_toArray] <;> rfl
/-- xs[lo:hi] of a list: a new list -/
def rSlL (K : PySem.W.Frag) : V → Option Int → Option Int → Hp → VK → Prop := fun x lo hi H Q => ∃ a xs, x = .ref a ∧ SqL K H a xs ∧ ∀ p, H p = none → Q (.ref p) (upd H p (.lst (cutV xs lo hi)))
theorem sl_list : SlR X (rSlL X.K) := by
  intro pins s σ H x v vl vu lo hi sl Q I rx hs pl pu h
  obtain ⟨a, xs, rfl, hx, q⟩ := h
  cases rx
  obtain ⟨its, r, ht, hz⟩ := I.list hx
  have hlen := r.length
  refine ⟨"list", _, slot_list_getitem.lookup, ht.isList.typeIs, ?_⟩
  refine wpAny_getItem_list_slice ht.isList hs pl pu .none (by simp) ?_ (by rw [List.size_toArray] <;> omega)
  rw [slicePick_cut, ← hlen]
  refine ⟨.ref s.heap.objs.size, _, I.laid (t' := s.toks) (o := .lst (cutV xs lo hi)) (fun b ob q => Heap.get?_push_of_some _ q) (Nat.le_refl _) ?_, rfl, q _ (I.hok.fresh (Nat.le_refl _))⟩
  exact ⟨Nat.le_trans (cutV_length xs lo hi) hz, _, 0, (r.drop (HT.sIx xs.length 0 lo)).take (HT.sIx xs.length xs.length hi - HT.sIx xs.length 0 lo), Heap.get?_push_size _ rfl⟩

/-! ### in, not in: flat items -/
def flatV : V → Bool
  | .non => true
  | .bl _ => true
  | .int _ => true
  | .str _ => true
  | _ => false
/-- == of flat values -/
def eqV : V → V → Bool
  | .non, .non => true
  | .bl a, .bl b => a == b
  | .bl a, .int b => (if a then 1 else 0) == b
  | .int a, .bl b => a == (if b then 1 else 0)
  | .int a, .int b => a == b
  | .str a, .str b => a == b
  | _, _ => false
/-- the items' answers, read off the values (a value's own answer does not lean on its token) -/
def eqU (x : V) (u : Value) : Bool := match u with
  | .none => eqV .non x
  | .bool b => eqV (.bl b) x
  | .int i _ => eqV (.int i) x
  | .str z _ => eqV (.str z) x
  | _ => false
def inV (x : V) (xs : List V) : Bool := xs.any fun y => eqV y x
/-- x in a list or tuple of flat items -/
def rIn (K : PySem.W.Frag) (neg : Bool) : R2 := fun x y H Q => ∃ p xs, y = .ref p ∧ (SqL K H p xs ∨ SqT K H p xs) ∧ flatV x = true ∧ xs.all flatV = true ∧ Q (.bl (if neg then !inV x xs else inV x xs)) H

/-! ### len, list(x), tuple(x) of any list or tuple that is read -/
theorem call_len_seq : CallR X (.builtin "len") (fun xs H Q => ∃ p ys, xs = [.ref p] ∧ (SqL X.K H p ys ∨ SqT X.K H p ys) ∧ Q (.int ys.length) H) := by
  intro pins s σ H xs us Q I r h
  obtain ⟨p, ys, rfl, hq, q⟩ := h
  obtain ⟨u, rfl, rx⟩ := vals1 r
  cases rx
  have hn := line63
  rcases hq with hq | hq
  · obtain ⟨its, r', pl, hz⟩ := I.list hq
    have hlen := r'.length
    exact Calls.call_len_list pl.isList (by simp only [List.size_toArray] <;> omega) ⟨.int ys.length, H, I.tok _, ⟨s.toks + 1, by rw [List.size_toArray, hlen]⟩, q⟩
  · obtain ⟨its, r', pl, hz⟩ := I.tuple hq
    have hlen := r'.length
    exact len_tuple pl (by simp only [List.size_toArray] <;> omega) ⟨.int ys.length, H, I.tok _, ⟨s.toks + 1, by rw [List.size_toArray, hlen]⟩, q⟩
theorem call_list_of : CallR X (.type "list") (fun xs H Q => ∃ p ys, xs = [.ref p] ∧ (SqL X.K H p ys ∨ SqT X.K H p ys) ∧ ∀ l, H l = none → Q (.ref l) (upd H l (.lst ys))) := by
  intro pins s σ H xs us Q I r h
  obtain ⟨p, ys, rfl, hq, q⟩ := h
  obtain ⟨u, rfl, rx⟩ := vals1 r
  cases rx
  have fin : ∀ (its : List Value), Vals ys its → ys.length ≤ sizeLine → ∀ (h' : Heap) (c' : Nat), (∀ b o', s.heap.get? b = some o' → h'.get? b = some o') →
      h'.get? s.heap.objs.size = some { cls := .type "list", dict := none, data := .seq its.toArray c', slots := #[] } → EP X pins σ Q (.ref s.heap.objs.size) { s with heap := h' } := fun its r' hz h' c' kp e =>
    ⟨.ref s.heap.objs.size, _, I.laid (t' := s.toks) kp (Nat.le_refl _) (show ObjOk X.prog X.w _ h' _ (.lst ys) from ⟨hz, its, c', r', e⟩), rfl, q _ (I.hok.fresh (Nat.le_refl _))⟩
  rcases hq with hq | hq
  · obtain ⟨its, r', pl, hz⟩ := I.list hq
    have hlen := r'.length
    obtain ⟨o, ho, hc, n, hd⟩ := pl.isList
    exact call_list_seq p (.inl rfl) ho hc hd (fun h' c' kp e => fin its r' hz h' c' kp e) (by simp only [List.size_toArray] <;> omega)
  · obtain ⟨its, r', pl, hz⟩ := I.tuple hq
    have hlen := r'.length
    obtain ⟨o, ho, hc, n, hd⟩ := pl
    exact call_list_seq p (.inr rfl) ho hc hd (fun h' c' kp e => fin its r' hz h' c' kp e) (by simp only [List.size_toArray] <;> omega)

/-! ### the call of a builtin's method: o.m(..) -/
/-- the value is of that builtin type -/
def tyV (K : PySem.W.Frag) (T : String) (x : V) (H : Hp) : Prop := match x with
  | .str _ => T = "str"
  | .int _ => T = "int"
  | .ref p => (T = "list" ∧ ∃ xs, SqL K H p xs) ∨ (T = "tuple" ∧ ∃ o, K.lookup p = some o ∧ o.cls = .type "tuple" ∧ o.dict = none) ∨
      (T = "dict" ∧ ((∃ kvs, H p = some (.dK kvs)) ∨ ∃ kvs, H p = some (.dT kvs))) ∨ (T = "set" ∧ ∃ S n, H p = some (.set S n))
  | _ => False
theorem tyV_is {pins : List (Addr × Obj)} {σ : St} {H : Hp} {s : Shared} {T : String} {x : V} {v : Value} (I : Inv X pins σ H s) (r : RelV x v) (ty : tyV X.K T x H) :
    s.TypeIs v T ∧ ∀ a, v = .ref a → ∃ ob, s.heap.get? a = some ob ∧ ob.dict = none := by
  cases x with
  | str z =>
    obtain ⟨t, rfl⟩ := r
    cases (show T = "str" from ty)
    exact ⟨typeIs_str s z t, fun _ e => nomatch e⟩
  | int i =>
    obtain ⟨t, rfl⟩ := r
    cases (show T = "int" from ty)
    exact ⟨typeIs_int s i t, fun _ e => nomatch e⟩
  | ref p =>
    cases r
    rcases ty with ⟨rfl, xs, hq⟩ | ⟨rfl, o, hk, hc, hd⟩ | ⟨rfl, hk⟩ | ⟨rfl, S, n, hk⟩
    · obtain ⟨its, _, pl, _⟩ := I.list hq
      refine ⟨pl.isList.typeIs, fun a e => ?_⟩
      cases e
      obtain ⟨o, n, e, c, hd, _⟩ := pl
      exact ⟨o, e, hd⟩
    · refine ⟨⟨o, I.kIn p o hk, hc⟩, fun a e => ?_⟩
      cases e
      exact ⟨o, I.kIn _ o hk, hd⟩
    · have z : ∃ o, s.heap.get? p = some o ∧ o.ExactDict := by
        rcases hk with ⟨kvs, hk⟩ | ⟨kvs, hk⟩
        · obtain ⟨_, _, _, _, o, _, _, e, ex, _⟩ := I.hok p _ hk
          exact ⟨o, e, ex⟩
        · obtain ⟨_, _, _, _, o, _, _, e, ex, _⟩ := I.hok p _ hk
          exact ⟨o, e, ex⟩
      obtain ⟨o, e, ex⟩ := z
      refine ⟨⟨o, e, ex.1⟩, fun a e2 => ?_⟩
      cases e2
      exact ⟨o, e, ex.2.1⟩
    · obtain ⟨o, _, _, _, e, ex, _⟩ := I.hok p _ hk
      refine ⟨⟨o, e, ex.1⟩, fun a e2 => ?_⟩
      cases e2
      exact ⟨o, e, ex.2.1⟩
  | _ => exact False.elim ty
def tBM0 (K : PySem.W.Frag) (T : String) (r : V → List V → Hp → VK → Prop) (to : TE) : TE := fun σ H Q => to σ H fun x H1 => tyV K T x H1 ∧ r x [] H1 Q
def tBM (K : PySem.W.Frag) (T : String) (r : V → List V → Hp → VK → Prop) (to : TE) (t : TA) : TE := fun σ H Q => to σ H fun x H1 => tyV K T x H1 ∧ t σ H1 fun xs H2 => r x xs H2 Q
variable {o e : Expr} {es : List Expr} {to : TE} {t : TA} {name : Str} {apos cpos : Pos} {T id : String} {r : V → List V → Hp → VK → Prop}
theorem pe_bm0 (pa : PlainAttrs T) (slot : Slot T name id) (hty : typeOf (.builtin id) = pure (.type "method_descriptor")) (hm : MtR X id r) (ho : PE X o to)
    (hbase : attributeBase o name X.env (eval o X.env) = eval o X.env := by rfl) (hline : (apos.endLine == cpos.line) = true := by rfl) : PE X (.Call (.Attribute o name apos) [] [] cpos) (tBM0 X.K T r to) := by
  intro pins s σ H Q I h
  refine wpAny_Call_method0_late hbase hline (thn (ho pins s σ H _ I h) fun v s1 ⟨x, H1, I1, r1, ty, q1⟩ => ?_)
  obtain ⟨h1, h2⟩ := tyV_is I1 r1 ty
  exact ⟨T, id, pa, slot, hty, h1, h2, Calls.callWith_builtin rfl (PySem.evalArgs_none (hm pins s1 σ H1 x [] v [] Q I1 r1 .nil q1))⟩
theorem pe_bm (pa : PlainAttrs T) (slot : Slot T name id) (hty : typeOf (.builtin id) = pure (.type "method_descriptor")) (hm : MtR X id r) (ho : PE X o to) (ha : PA X (e :: es) t)
    (hbase : attributeBase o name X.env (eval o X.env) = eval o X.env := by rfl)
    (hfew : ((backTo cpos (starEach (e :: es) X.env)).all (fun x => !x.1) && (backToKw cpos (keywordEach [] X.env)).all (fun x => x.1.isSome)
      && decide ((e :: es).length + ([] : List Keyword).length + (if ([] : List Keyword).isEmpty then 0 else 1) < 30)) = true := by rfl)
    (hline : (apos.endLine == cpos.line) = true := by rfl) (hs : starEach (e :: es) X.env = (false, eval e X.env) :: starEach es X.env := by rfl) (hplain : (backTo cpos (starEach es X.env)).any (·.1) = false := by rfl) :
    PE X (.Call (.Attribute o name apos) (e :: es) [] cpos) (tBM X.K T r to t) := by
  intro pins s σ H Q I h
  refine wpAny_Call_method_late hbase hfew hline rfl (thn (ho pins s σ H _ I h) fun v s1 ⟨x, H1, I1, r1, ty, q1⟩ => ?_)
  obtain ⟨h1, h2⟩ := tyV_is I1 r1 ty
  refine ⟨T, id, pa, slot, hty, h1, h2, ?_⟩
  have hA := ha cpos pins s1 σ H1 _ I1 q1
  rw [hs] at hA ⊢
  refine Calls.callWith_builtin (by show (false || (backTo cpos (starEach es X.env)).any (·.1)) = false; rw [hplain] <;> rfl) (Calls.evalArgs_plain ?_)
  exact thn hA fun us s2 ⟨vs, H2, I2, r2, q2⟩ => hm pins s2 σ H2 x vs v us Q I2 r1 r2 q2
/- xs.append(e), list.index on a module's tuple .. are MtR facts of 06m -/
end
end L2

namespace L2
open PySem PySem.Spec PyProof.Rows

def MtM (X : Cx) (id : String) (r : V → List V → Hp → VK → Prop) : Prop :=
  ∀ (pins : List (Addr × Obj)) (s : Shared) (σ : St) (H : Hp) (x : V) (xs : List V) (v : Value) (us : List Value) (Q : VK), Inv X pins σ H s → RelV x v → Vals xs us → r x xs H Q →
    wpAny (model X.prog X.w) X.A (call (.builtin id) (v :: us)) (EP X pins σ Q) X.xe s

/-! ### lists of values -/
theorem Vals.one : ∀ {x : V} {us : List Value}, Vals [x] us → ∃ u, us = [u] ∧ RelV x u
  | _, _, .cons r .nil => ⟨_, rfl, r⟩
theorem Vals.rep {xs : List V} {us : List Value} (h : Vals xs us) : ∀ k : Nat, Vals (List.replicate k xs).flatten (List.replicate k us).flatten
  | 0 => .nil
  | k + 1 => by
    rw [List.replicate_succ, List.replicate_succ, List.flatten_cons, List.flatten_cons]
    exact Vals.append h (Vals.rep h k)
theorem foldl_rep (its : List Value) : ∀ (k : Nat) (acc : List Value),
    List.foldl (fun x1 x2 => x1 ++ x2) acc.toArray (List.replicate k its.toArray) = (acc ++ (List.replicate k its).flatten).toArray
  | 0, acc => by simp
  | k + 1, acc => by
    have e : acc.toArray ++ its.toArray = (acc ++ its).toArray := by simp
    have e2 : (acc ++ its) ++ (List.replicate k its).flatten = acc ++ (List.replicate (k + 1) its).flatten := by
      rw [List.replicate_succ, List.flatten_cons, List.append_assoc]
    rw [← e2, ← foldl_rep its k (acc ++ its), ← e, List.replicate_succ, List.foldl_cons]

section
variable {X : Cx} {pins : List (Addr × Obj)} {σ : St} {H : Hp} {s : Shared} {l b : Addr} {xs ys zs : List V}

/-! ### the two steps: a tracked list is rewritten, a new list is laid -/
theorem Inv.lset {its its' : List Value} {n : Nat} {f : Array Value → Array Value} {t' : Nat} (I : Inv X pins σ H s) (hH : H l = some (.lst xs))
    (e : s.heap.get? l = some { cls := .type "list", data := .seq its.toArray n }) (hf : f its.toArray = its'.toArray) (hv : Vals ys its') (hz : ys.length ≤ sizeLine) :
    Inv X pins σ (upd H l (.lst ys)) { s with heap := s.heap.update l (Obj.mapSeq f), toks := t' } := by
  have q := PySem.IsL.update e f
  rw [hf] at q
  refine I.write (x := l) (e := l) (by rw [hH]; exact trivial) (.inl rfl) (fun b' u hb hu => (Heap.get?_update_other s.heap (Obj.mapSeq f) (Ne.symm hb)).trans hu) ⟨_, q⟩ ?_
  exact ⟨hz, its', _, hv, q⟩
theorem Inv.lnew {its : List Value} {t' : Nat} (I : Inv X pins σ H s) (hv : Vals ys its) (hz : ys.length ≤ sizeLine) :
    Inv X pins σ (upd H s.heap.objs.size (.lst ys)) { s with heap := s.heap.push { cls := .type "list", data := .seq its.toArray }, toks := t' } :=
  I.laid (fun _ _ q => Heap.get?_push_of_some _ q) (Nat.le_refl _) ⟨hz, its, 0, hv, Heap.get?_push_size _ rfl⟩
theorem Inv.fresh (I : Inv X pins σ H s) : H s.heap.objs.size = none := I.hok.fresh (Nat.le_refl _)
theorem Inv.lstM (I : Inv X pins σ H s) (hH : H l = some (.lst xs)) : xs.length ≤ sizeLine ∧ ∃ (its : List Value) (n : Nat), Vals xs its ∧ xs.length = its.length ∧ s.heap.get? l = some { cls := .type "list", data := .seq its.toArray n } := by
  obtain ⟨z, its, n, r, e⟩ := I.hok l _ hH
  exact ⟨z, its, n, r, r.length, e⟩

theorem notLongL {n : Nat} (h : n ≤ sizeLine) : Builtin.List.listTooLong n = false := by
  unfold Builtin.List.listTooLong
  exact decide_eq_false (by omega)
end

section
variable {X : Cx}

/-! ### methods -/
def rAppend : V → List V → Hp → VK → Prop := fun x vs H Q => ∃ l xs y, x = .ref l ∧ vs = [y] ∧ H l = some (.lst xs) ∧ xs.length < sizeLine ∧ Q .non (upd H l (.lst (xs ++ [y])))
theorem mt_append : MtM X "list.append" rAppend := by
  intro pins s σ H x vs v us Q I rx rv h
  obtain ⟨l, xs, y, rfl, rfl, hH, hz, q⟩ := h
  cases rx
  obtain ⟨u, rfl, ru⟩ := rv.one
  obtain ⟨z, its, n, r, hl, e⟩ := I.lstM hH
  refine call_meets F.slot_list_append ⟨_, e, rfl⟩ F.entry_list_append (F.args_list_append_2 _ _) (PySem.list_append l its.toArray n u (by rw [List.size_toArray]; omega)) ⟨e, ?_⟩
  refine ⟨.non, _, I.lset (its' := its ++ [u]) hH e (by simp) (r.append (.cons ru .nil)) ?_, rfl, q⟩
  rw [List.length_append, List.length_singleton]
  omega

def rExtend : V → List V → Hp → VK → Prop := fun x vs H Q => ∃ l b xs zs, x = .ref l ∧ vs = [.ref b] ∧ H l = some (.lst xs) ∧ H b = some (.lst zs) ∧ xs.length + zs.length ≤ sizeLine ∧ Q .non (upd H l (.lst (xs ++ zs)))
theorem mt_extend : MtM X "list.extend" rExtend := by
  intro pins s σ H x vs v us Q I rx rv h
  obtain ⟨l, b, xs, zs, rfl, rfl, hH, hB, hz, q⟩ := h
  cases rx
  obtain ⟨u, rfl, ru⟩ := rv.one
  cases ru
  obtain ⟨z, its, n, r, hl, e⟩ := I.lstM hH
  obtain ⟨z2, its2, n2, r2, hl2, e2⟩ := I.lstM hB
  have hsz : its.toArray.size + its2.toArray.size ≤ sizeLine := by rw [List.size_toArray, List.size_toArray]; omega
  have hlong : ¬ (!its.toArray.isEmpty && Builtin.List.listTooLong (its.toArray.size + its2.toArray.size)) = true := by
    rw [notLongL hsz, Bool.and_false]
    exact Bool.false_ne_true
  refine call_meets F.slot_list_extend ⟨_, e, rfl⟩ F.entry_list_extend (F.args_list_extend_2 _ _)
    (AutoSeq1.list_extend_list_list_0 l its.toArray n b its2.toArray n2 hlong (by rw [List.size_toArray]; omega) (by omega)) ⟨e, e2, ?_⟩
  refine ⟨.non, _, I.lset (its' := its ++ its2) hH e (by simp) (r.append r2) ?_, rfl, q⟩
  rw [List.length_append]
  omega

def rPop : V → List V → Hp → VK → Prop := fun x vs H Q => ∃ l xs y, x = .ref l ∧ vs = [] ∧ H l = some (.lst xs) ∧ xs[xs.length - 1]? = some y ∧ Q y (upd H l (.lst xs.dropLast))

def rPopAt : V → List V → Hp → VK → Prop := fun x vs H Q => ∃ l xs i k y, x = .ref l ∧ vs = [.int i] ∧ H l = some (.lst xs) ∧ -(2 ^ 63) ≤ i ∧ i < 2 ^ 63 ∧ seqIndex? i xs.length = some k ∧ xs[k]? = some y ∧ Q y (upd H l (.lst (xs.eraseIdx k)))

def rReverse : V → List V → Hp → VK → Prop := fun x vs H Q => ∃ l xs, x = .ref l ∧ vs = [] ∧ H l = some (.lst xs) ∧ Q .non (upd H l (.lst xs.reverse))

def rClear : V → List V → Hp → VK → Prop := fun x vs H Q => ∃ l xs, x = .ref l ∧ vs = [] ∧ H l = some (.lst xs) ∧ Q .non (upd H l (.lst []))

/-! ### list + list, list += list, list * int -/
def rCat : R2 := fun x y H Q => ∃ l b xs zs, x = .ref l ∧ y = .ref b ∧ H l = some (.lst xs) ∧ H b = some (.lst zs) ∧ xs.length + zs.length ≤ sizeLine ∧ ∀ p, H p = none → Q (.ref p) (upd H p (.lst (xs ++ zs)))
theorem op_cat : OpR X (binaryOp .Add) rCat := by
  intro pins s σ H x y v u Q I rx ry h
  obtain ⟨l, b, xs, zs, rfl, rfl, hH, hB, hz, q⟩ := h
  cases rx
  cases ry
  obtain ⟨z, its, n, r, hl, e⟩ := I.lstM hH
  obtain ⟨z2, its2, n2, r2, hl2, e2⟩ := I.lstM hB
  refine PySem.P.add_list e e2 ?_ (by rw [List.size_toArray, List.size_toArray]; omega)
  have ea : its.toArray ++ its2.toArray = (its ++ its2).toArray := by simp
  rw [ea]
  exact ⟨.ref _, _, I.lnew (t' := s.toks) (r.append r2) (by rw [List.length_append]; omega), rfl, q _ I.fresh⟩
/-- a list times an int (a negative one is nothing) -/
def rRep : R2 := fun x y H Q => ∃ l k xs, x = .ref l ∧ y = .int k ∧ H l = some (.lst xs) ∧ -(2 ^ 63) ≤ k ∧ k < 2 ^ 63 ∧ xs.length * k.toNat ≤ sizeLine ∧
  ∀ p, H p = none → Q (.ref p) (upd H p (.lst (List.replicate k.toNat xs).flatten))
theorem len_rep {α : Type} (xs : List α) (k : Nat) : (List.replicate k xs).flatten.length = k * xs.length := by
  induction k with
  | zero => simp
  | succ k ih => rw [List.replicate_succ, List.flatten_cons, List.length_append, ih, Nat.succ_mul, Nat.add_comm]
theorem op_rep : OpR X (binaryOp .Mult) rRep := by
  intro pins s σ H x y v u Q I rx ry h
  obtain ⟨l, k, xs, rfl, rfl, hH, h1, h2, hz, q⟩ := h
  cases rx
  obtain ⟨t, rfl⟩ := ry
  obtain ⟨z, its, n, r, hl, e⟩ := I.lstM hH
  have hlen : its.toArray.size * k.toNat ≤ sizeLine := by rw [List.size_toArray, ← hl]; exact hz
  have hcap : ¬ its.toArray.size * k.toNat > (2 ^ 63 - 1) / 8 := by
    have : (sizeLine : Nat) ≤ (2 ^ 63 - 1) / 8 := by decide
    omega
  have hfit : ¬ (!Builtin.List.listFitsIndex k) = true := by
    rw [fitsIndex_both h1 h2]
    exact Bool.false_ne_true
  have hlong : ¬ Builtin.List.listTooLong (its.toArray.size * k.toNat) = true := by
    rw [notLongL hlen]
    exact Bool.false_ne_true
  have hnew : List.foldl (fun x1 x2 => x1 ++ x2) #[] (List.replicate (if its.toArray.isEmpty = true then 0 else k.toNat) its.toArray) = (List.replicate k.toNat its).flatten.toArray := by
    have f0 : ∀ m : Nat, List.foldl (fun x1 x2 => x1 ++ x2) #[] (List.replicate m its.toArray) = (List.replicate m its).flatten.toArray := fun m => by
      have := foldl_rep its m []
      rw [List.nil_append] at this
      exact this
    rw [f0]
    cases its with
    | nil => simp
    | cons a r' => rw [if_neg (by simp)]
  refine wpAny_binaryOp_repeat_ref (T := "list") (U := "int") (by decide) ⟨_, e, rfl⟩ (fun s' => typeIs_int s' k t) noFill_list_mul F.fills_int_mul F.slot_int_rmul repeat_list F.slot_int_index.lookup
    (call_meets F.slot_int_rmul (typeIs_int s k t) F.entry_int_rmul (F.args_int_rmul_2 _ _) (int___rmul___int_list k t l its.toArray n)
      ⟨e, rfl, ⟨_, e, rfl⟩, call_meets F.slot_list_mul ⟨_, e, rfl⟩ F.entry_list_mul (F.args_list_mul_2 _ _) (AutoListH.list___mul___list_int_3 l its.toArray n k t hfit hcap hlong) ⟨e, ?_⟩⟩)
  rw [hnew]
  exact ⟨.ref _, _, I.lnew (t' := s.toks) (r.rep k.toNat) (by rw [len_rep, Nat.mul_comm]; exact hz), rfl, q _ I.fresh⟩

/-! ### del xs[i] -/
end

/-! ### xs[a:b] = ys -/
section
variable {prog : Program} {w : World} {A : Around} {E : Value → Shared → Prop} {s : Shared}
set_option maxRecDepth 100000 in
end

section
variable {X : Cx}
end
end L2

namespace L2
open PySem PySem.Spec PyProof.Rows

theorem Vals.ints : ∀ {ns : List Int} {us : List Value}, Vals (ns.map V.int) us → IntsAre us ns
  | [], us, h => by
    rw [List.map_nil] at h
    cases h
    exact IntsAre.nil
  | n :: ns, us, h => by
    rw [List.map_cons] at h
    cases h with
    | cons r t =>
      obtain ⟨k, rfl⟩ := r
      exact IntsAre.cons n k (Vals.ints t)
theorem Vals.ref1 {a : Addr} {us : List Value} (r : Vals [V.ref a] us) : us = [Value.ref a] := by
  cases r with
  | cons r t =>
    cases t
    cases r
    rfl

/-! ### the library's walks over a list of ints, kept objects alone -/
section
variable {prog : Program} {w : World} {A : Around} {E : Value → Shared → Prop} {s : Shared} {l : Addr} {its : List Value} {ns : List Int} {Q : Value → Shared → Prop}
theorem sum_raw (hh : A.handled = none) (hl : s.heap.IsList l its.toArray) (hi : IntsAre its ns)
    (h : ∀ h' tk t', (∀ b o, s.heap.get? b = some o → h'.get? b = some o) → Q (.int ns.sum t') { s with heap := h', toks := tk }) : wpAny (model prog w) A (call (.builtin "sum") [.ref l]) Q E s := by
  obtain ⟨xs, e⟩ := hi.allInts.items
  have hn : numsOf (intItems xs).toList = ns := by rw [← e]; exact hi.numsOf
  rw [nums_intItems] at hn
  rw [e] at hl
  refine PySem.sum_intListG hh hl fun h' tk t' hk => ?_
  have := h h' tk t' hk
  rw [preSum_eq, List.take_of_length_le (by simp), hn]; exact this
end

/-! ### the calls, by values (CallR of 03t; MtR of 06l) -/
section
variable {X : Cx}
/-- sum(xs) of a list of ints -/
def rSum (K : PySem.W.Frag) : List V → Hp → VK → Prop := fun vs H Q => ∃ (a : Addr) (ns : List Int), vs = [V.ref a] ∧ SqL K H a (ns.map V.int) ∧ Q (.int ns.sum) H
/-- max(xs), min(xs) of a list of ints -/
def rMax (K : PySem.W.Frag) : List V → Hp → VK → Prop := fun vs H Q => ∃ (a : Addr) (ns : List Int), vs = [V.ref a] ∧ SqL K H a (ns.map V.int) ∧ 0 < ns.length ∧ ∀ m, m ∈ ns → (∀ y, y ∈ ns → y ≤ m) → Q (.int m) H
def rMin (K : PySem.W.Frag) : List V → Hp → VK → Prop := fun vs H Q => ∃ (a : Addr) (ns : List Int), vs = [V.ref a] ∧ SqL K H a (ns.map V.int) ∧ 0 < ns.length ∧ ∀ m, m ∈ ns → (∀ y, y ∈ ns → m ≤ y) → Q (.int m) H
theorem cr_sum (hc : X.calm = true) : CallR X (.builtin "sum") (rSum X.K) := by
  intro pins s σ H vs us Q I r h
  obtain ⟨a, ns, rfl, hs, q⟩ := h
  obtain ⟨its, rv, hl, _⟩ := I.list hs
  rw [Vals.ref1 r]
  exact sum_raw (I.ok.hd hc) hl.isList rv.ints fun h' tk t' hk => ⟨.int _, H, I.kept hk, ⟨_, rfl⟩, q⟩

/-! sorted, sort (fewer than 64 items: the library's own bound) -/
def rSorted (K : PySem.W.Frag) : List V → Hp → VK → Prop := fun vs H Q => ∃ (a : Addr) (ns : List Int), vs = [V.ref a] ∧ SqL K H a (ns.map V.int) ∧ ns.length < 64 ∧
  ∀ (ns' : List Int) (p : Addr), ns'.Perm ns → ns'.Pairwise (· ≤ ·) → H p = none → Q (.ref p) (upd H p (.lst (ns'.map V.int)))
def rSortedS (K : PySem.W.Frag) : List V → Hp → VK → Prop := fun vs H Q => ∃ (a : Addr) (xs : List Str), vs = [V.ref a] ∧ SqL K H a (xs.map V.str) ∧ xs.length < 64 ∧
  ∀ (ys : List Str) (p : Addr), ys.Perm xs → sortedS ys = true → H p = none → Q (.ref p) (upd H p (.lst (ys.map V.str)))
/-- xs.sort(), ints -/
def rSort : V → List V → Hp → VK → Prop := fun x xs H Q => ∃ (a : Addr) (ns : List Int), x = V.ref a ∧ xs = [] ∧ H a = some (.lst (ns.map V.int)) ∧ ns.length < 64 ∧
  ∀ ns' : List Int, ns'.Perm ns → ns'.Pairwise (· ≤ ·) → Q .non (upd H a (.lst (ns'.map V.int)))
end

/-! ### list.index, flat items -/
section
variable {X : Cx}
def rIndex (K : PySem.W.Frag) : V → List V → Hp → VK → Prop := fun x xs H Q => ∃ (a : Addr) (ys : List V) (y : V) (j : Nat) (z : V), x = V.ref a ∧ xs = [y] ∧ SqL K H a ys ∧ flatV y = true ∧ ys.all flatV = true ∧ ys[j]? = some z ∧ eqV z y = true ∧
  (∀ (m : Nat) (z' : V), m < j → ys[m]? = some z' → eqV z' y = false) ∧ Q (.int (j : Nat)) H
end

/-! ### type(x) of an own instance; is, is not of a module's class -/
section
variable {X : Cx}
end

/-! ### any(xs), all(xs) of a list of bools -/
section
variable {X : Cx}
def rAny (K : PySem.W.Frag) : List V → Hp → VK → Prop := fun vs H Q => ∃ (a : Addr) (bs : List Bool), vs = [V.ref a] ∧ SqL K H a (bs.map V.bl) ∧ Q (.bl (bs.any id)) H
def rAll (K : PySem.W.Frag) : List V → Hp → VK → Prop := fun vs H Q => ∃ (a : Addr) (bs : List Bool), vs = [V.ref a] ∧ SqL K H a (bs.map V.bl) ∧ Q (.bl (bs.all id)) H
end

/-! ### == and != of data at any depth: none, bools, ints, texts, lists, tuples -/
mutual
inductive Dp (K : PySem.W.Frag) (H : Hp) : V → PyData → Prop
  | non : Dp K H .non .none
  | bl (b : Bool) : Dp K H (.bl b) (.bool b)
  | int (i : Int) : Dp K H (.int i) (.int i)
  | str (x : Str) : Dp K H (.str x) (.str x)
  | lst {a : Addr} {xs : List V} {ds : List PyData} : SqL K H a xs → DpAll K H xs ds → Dp K H (.ref a) (.list ds)
  | tup {a : Addr} {xs : List V} {ds : List PyData} : SqT K H a xs → DpAll K H xs ds → Dp K H (.ref a) (.tuple ds)
inductive DpAll (K : PySem.W.Frag) (H : Hp) : List V → List PyData → Prop
  | nil : DpAll K H [] []
  | cons {v : V} {vs : List V} {d : PyData} {ds : List PyData} : Dp K H v d → DpAll K H vs ds → DpAll K H (v :: vs) (d :: ds)
end
section
variable {X : Cx} {pins : List (Addr × Obj)} {σ : St} {H : Hp} {s : Shared}
end
section
variable {X : Cx}
def rEqD (K : PySem.W.Frag) : R2 := fun x y H Q => ∃ d e, Dp K H x d ∧ Dp K H y e ∧ SeqAt.shaped d = true ∧ SeqAt.shaped e = true ∧ Q (.bl (PyData.eqv d e)) H
def rNeD (K : PySem.W.Frag) : R2 := fun x y H Q => ∃ d e, Dp K H x d ∧ Dp K H y e ∧ SeqAt.shaped d = true ∧ SeqAt.shaped e = true ∧ Q (.bl (!PyData.eqv d e)) H
end
end L2

namespace L2
open PySem PySem.Spec PyProof.Rows
abbrev CellAt (h : Heap) (c : Addr) (v : Option Value) : Prop := h.IsCell c v
def relS (scope sc : Scope) : Scope :=
  { scope with names := scope.names.map fun (n, k) => if (k == .free && sc.kind == .function && sc.names.lookup n == some .cell) then (n, .cell) else (n, k) }

def cloFrom (cells : List (Str × Addr)) : List (Str × NameKind) → List (Str × Addr) → List (Str × Addr)
  | [], acc => acc
  | (n, k) :: r, acc => if k == .free then cloFrom cells r ((n, (cells.lookup n).getD 0) :: acc) else cloFrom cells r acc

theorem closure_loop (env : Env) (f : Str × NameKind → List (Str × Addr) → Sem (ForInStep (List (Str × Addr))))
    (hf : ∀ n k c, f (n, k) c = if k == .free then (do let a ← cellOf env n; pure (.yield ((n, a) :: c))) else pure (.yield c)) :
    ∀ (names : List (Str × NameKind)) (acc : List (Str × Addr)), (∀ y ∈ names, y.2 = .free → ∃ c, env.cells.lookup y.1 = some c) → forIn names acc f = pure (cloFrom env.cells names acc)
  | [], acc, _ => by rw [List.forIn_nil]; rfl
  | (n, k) :: r, acc, h => by
    rw [List.forIn_cons, hf]
    have ih := fun acc => closure_loop env f hf r acc fun y hy => h y (List.mem_cons_of_mem _ hy)
    unfold cloFrom
    by_cases hk : (k == NameKind.free) = true
    · rw [if_pos hk, if_pos hk]
      obtain ⟨c, hc⟩ := h (n, k) List.mem_cons_self (by simpa using hk)
      have e : cellOf env n = pure c := by unfold cellOf; rw [hc]
      rw [e]
      have e2 : (env.cells.lookup n).getD 0 = c := by rw [hc]; rfl
      rw [e2]
      exact ih _
    · rw [if_neg hk, if_neg hk]
      exact ih _
theorem closure_ok {scope : Scope} {env : Env} (h : ∀ y ∈ scope.names, y.2 = .free → ∃ c, env.cells.lookup y.1 = some c) : closureFor scope env = pure (cloFrom env.cells scope.names []) := by
  simp only [closureFor]
  rw [closure_loop env _ (fun n k c => rfl) scope.names [] h]
  rfl

theorem mem_lookup {α : Type} : ∀ {l : List (Str × α)} {n : Str} {c : α}, (n, c) ∈ l → ∃ c', l.lookup n = some c'
  | (k, v) :: r, n, c, h => by
    rw [List.lookup_cons]
    cases hb : n == k with
    | true => exact ⟨_, rfl⟩
    | false =>
      rcases List.mem_cons.mp h with e | h
      · cases e; simp at hb
      · exact mem_lookup h

theorem cloFrom_mem {cells : List (Str × Addr)} : ∀ {names : List (Str × NameKind)} {acc : List (Str × Addr)} {n : Str} {c : Addr}, (n, c) ∈ cloFrom cells names acc → (n, c) ∈ acc ∨ ((n, .free) ∈ names ∧ c = (cells.lookup n).getD 0)
  | [], _, _, _, h => .inl h
  | (m, k) :: r, acc, n, c, h => by
    unfold cloFrom at h
    split at h
    · rename_i hk
      have hk : k = .free := by simpa using hk
      rcases cloFrom_mem h with h | ⟨h1, h2⟩
      · rcases List.mem_cons.mp h with e | h
        · cases e; exact .inr ⟨hk ▸ List.mem_cons_self, rfl⟩
        · exact .inl h
      · exact .inr ⟨List.mem_cons_of_mem _ h1, h2⟩
    · rcases cloFrom_mem h with h | ⟨h1, h2⟩
      · exact .inl h
      · exact .inr ⟨List.mem_cons_of_mem _ h1, h2⟩
theorem cloFrom_acc {cells : List (Str × Addr)} : ∀ {names : List (Str × NameKind)} {acc : List (Str × Addr)} {p : Str × Addr}, p ∈ acc → p ∈ cloFrom cells names acc
  | [], _, _, h => h
  | (m, k) :: r, acc, p, h => by
    unfold cloFrom
    split
    · exact cloFrom_acc (List.mem_cons_of_mem _ h)
    · exact cloFrom_acc h
theorem cloFrom_has {cells : List (Str × Addr)} : ∀ {names : List (Str × NameKind)} {acc : List (Str × Addr)} {n : Str}, (n, .free) ∈ names → (n, (cells.lookup n).getD 0) ∈ cloFrom cells names acc
  | (m, k) :: r, acc, n, h => by
    unfold cloFrom
    rcases List.mem_cons.mp h with e | h
    · cases e
      exact cloFrom_acc List.mem_cons_self
    · split
      · exact cloFrom_has h
      · exact cloFrom_has h

theorem cells_mem : ∀ {names : List (Str × NameKind)} {h : Heap} {acc : List (Str × Addr)} {x : Str} {c : Addr}, (x, c) ∈ cellsFrom h.objs.size names acc →
    (x, c) ∈ acc ∨ ((x, .cell) ∈ names ∧ h.objs.size ≤ c ∧ CellAt (pushCells h names) c none)
  | [], _, _, _, _, h => .inl h
  | (n, k) :: r, h, acc, x, c, hm => by
    unfold cellsFrom at hm
    unfold pushCells
    split at hm
    · rename_i hk
      rw [if_pos hk]
      have hk : k = .cell := by simpa using hk
      rw [← Heap.size_push h { cls := .type "cell", data := .cell none }] at hm
      rcases cells_mem hm with hm | ⟨h1, h2, h3⟩
      · rcases List.mem_cons.mp hm with e | hm
        · cases e
          exact .inr ⟨hk ▸ List.mem_cons_self, Nat.le_refl _, _, pushCells_keeps r _ _ _ (Heap.get?_push_size _ rfl), rfl⟩
        · exact .inl hm
      · rw [Heap.size_push] at h2
        exact .inr ⟨List.mem_cons_of_mem _ h1, Nat.le_of_succ_le h2, h3⟩
    · rename_i hk
      rw [if_neg hk]
      rcases cells_mem hm with hm | ⟨h1, h2, h3⟩
      · exact .inl hm
      · exact .inr ⟨List.mem_cons_of_mem _ h1, h2, h3⟩
theorem cells_acc : ∀ {names : List (Str × NameKind)} {n : Nat} {acc : List (Str × Addr)} {p : Str × Addr}, p ∈ acc → p ∈ cellsFrom n names acc
  | [], _, _, _, h => h
  | (m, k) :: r, n, acc, p, h => by
    unfold cellsFrom
    split
    · exact cells_acc (List.mem_cons_of_mem _ h)
    · exact cells_acc h
theorem cells_has : ∀ {names : List (Str × NameKind)} {n : Nat} {acc : List (Str × Addr)} {x : Str}, (x, .cell) ∈ names → ∃ c, (x, c) ∈ cellsFrom n names acc
  | (m, k) :: r, n, acc, x, h => by
    unfold cellsFrom
    rcases List.mem_cons.mp h with e | h
    · cases e
      exact ⟨n, cells_acc List.mem_cons_self⟩
    · split
      · exact cells_has h
      · exact cells_has h
theorem cells_inj : ∀ {names : List (Str × NameKind)} {h : Heap} {acc : List (Str × Addr)} {x y : Str} {c : Addr}, (∀ p ∈ acc, p.2 < h.objs.size) → (∀ x y c, (x, c) ∈ acc → (y, c) ∈ acc → x = y) →
    (x, c) ∈ cellsFrom h.objs.size names acc → (y, c) ∈ cellsFrom h.objs.size names acc → x = y
  | [], _, _, _, _, _, _, hi, h1, h2 => hi _ _ _ h1 h2
  | (n, k) :: r, h, acc, x, y, c, hl, hi, h1, h2 => by
    unfold cellsFrom at h1 h2
    split at h1
    · rename_i hk
      rw [if_pos hk] at h2
      rw [← Heap.size_push h { cls := .type "cell", data := .cell none }] at h1 h2
      refine cells_inj (h := h.push _) (fun p hp => ?_) (fun x y c a b => ?_) h1 h2
      · rw [Heap.size_push]
        rcases List.mem_cons.mp hp with rfl | hp
        · exact Nat.lt_succ_self _
        · exact Nat.lt_succ_of_lt (hl p hp)
      · rcases List.mem_cons.mp a with e | a <;> rcases List.mem_cons.mp b with e' | b
        · cases e; cases e'; rfl
        · cases e; exact absurd (hl _ b) (Nat.lt_irrefl _)
        · cases e'; exact absurd (hl _ a) (Nat.lt_irrefl _)
        · exact hi _ _ _ a b
    · rename_i hk
      rw [if_neg hk] at h2
      exact cells_inj hl hi h1 h2

theorem newEnv_comp {M : Model} {A : Around} {E : Value → Shared → Prop} {s : Shared} {scope : Scope} {globals : Addr} {closure : List (Str × Addr)} {qual : Str} {func : Option Addr} {code : Value} {around : Env} {builtins : Addr} {Q : Env → Shared → Prop}
    (h : Q (newEnv scope s.heap.objs.size globals (cellsFrom (s.heap.objs.size + 1) scope.names closure) qual func code (some around) builtins)
      { s with heap := pushCells (s.heap.push { cls := .type "dict", data := .dict #[] }) scope.names }) :
    wpAny M A (newFunctionEnv scope globals closure [] qual func code (some around) builtins) Q E s := by
  simp only [newFunctionEnv, Option.isSome_some, if_true]
  refine wpAny_bind (wpAny_alloc ?_)
  refine wpAny_bind (wpAny_layCells _ (fun n k c => rfl) scope.names closure _ _ ?_)
  rw [show ({ s with heap := s.heap.push { cls := .type "dict", data := .dict #[] } } : Shared).heap.objs.size = s.heap.objs.size + 1 from Heap.size_push ..]
  rw [List.forIn_nil]
  exact wpAny_bind (wpAny_pure (wpAny_pure h))

/-- every name of the written scope, in the scope that runs -/
theorem lookup_relS {sc : Scope} : ∀ {names : List (Str × NameKind)} {x : Str} {k : NameKind},
    (names.map fun (n, k) => if (k == NameKind.free && sc.kind == .function && sc.names.lookup n == some .cell) then (n, NameKind.cell) else (n, k)).lookup x = some k →
    ∃ k', names.lookup x = some k' ∧ (k = k' ∨ (k' = .free ∧ k = .cell))
  | [], _, _, h => by simp at h
  | (n, k₀) :: r, x, k, h => by
    have ih := @lookup_relS sc r x k
    have h' : List.lookup x ((if (k₀ == NameKind.free && sc.kind == .function && sc.names.lookup n == some .cell) = true then (n, NameKind.cell) else (n, k₀)) :: (r.map _)) = some k := h
    cases hx : x == n with
    | true =>
      simp only [List.lookup_cons, hx]
      by_cases hc : (k₀ == NameKind.free && sc.kind == .function && sc.names.lookup n == some .cell) = true
      · rw [if_pos hc] at h'
        simp only [List.lookup_cons, hx] at h'
        cases h'
        simp only [Bool.and_eq_true, beq_iff_eq] at hc
        exact ⟨k₀, rfl, .inr ⟨hc.1.1, rfl⟩⟩
      · rw [if_neg hc] at h'
        simp only [List.lookup_cons, hx] at h'
        cases h'
        exact ⟨_, rfl, .inl rfl⟩
    | false =>
      simp only [List.lookup_cons, hx]
      by_cases hc : (k₀ == NameKind.free && sc.kind == .function && sc.names.lookup n == some .cell) = true
      · rw [if_pos hc] at h'
        simp only [List.lookup_cons, hx] at h'
        exact ih h'
      · rw [if_neg hc] at h'
        simp only [List.lookup_cons, hx] at h'
        exact ih h'

/-- the names of a comprehension's block: its own (with their places in N), or captured -/
structure BlkOk (N : List Str) (sc scope : Scope) (own : List (Str × Nat)) : Prop where
  kind : scope.kind = .function
  uniq : ∀ y ∈ scope.names, scope.names.lookup y.1 = some y.2
  ix : ∀ p ∈ own, N[p.2]? = some p.1
  free : ∀ y ∈ scope.names, y.2 = .free → sc.names.lookup y.1 = some .cell ∨ sc.names.lookup y.1 = some .free
  own : ∀ y ∈ scope.names, y.2 = .local ∨ y.2 = .cell → y.1 ∈ own.map (·.1) ∨ y.1 ∉ N
/-- the slots of the block's own names forgotten -/
def wipe (σ : St) : List Nat → St
  | [] => σ
  | v :: vs => (wipe σ vs).set v none
theorem wipe_length (σ : St) : ∀ vs : List Nat, (wipe σ vs).length = σ.length
  | [] => rfl
  | v :: vs => by unfold wipe; rw [List.length_set, wipe_length σ vs]
theorem wipe_some {σ : St} {i : Nat} {x : V} : ∀ {vs : List Nat}, (wipe σ vs)[i]? = some (some x) → σ[i]? = some (some x) ∧ i ∉ vs
  | [], h => ⟨h, by simp⟩
  | v :: vs, h => by
    unfold wipe at h
    by_cases hi : v = i
    · subst hi
      by_cases hv : v < (wipe σ vs).length
      · rw [List.getElem?_set_self hv] at h; cases h
      · rw [List.getElem?_eq_none (by simpa using hv)] at h; cases h
    · rw [List.getElem?_set_ne hi] at h
      obtain ⟨h1, h2⟩ := wipe_some h
      exact ⟨h1, by simp only [List.mem_cons, not_or]; exact ⟨fun e => hi e.symm, h2⟩⟩

/-- the context of a block that starts at s, its iterator's objects at fp -/
abbrev Cx.blk (X : Cx) (s : Shared) (H : Hp) (scope : Scope) (cenv : Env) (fp : List Addr) : Cx := { X with s_0 := s, H_0 := H, env := cenv, outer := X.stack, ex := fp, fn := fun x => scope.names.lookup x == some .cell, pn := [], xe := fun _ _ => False }
section
variable {X : Cx} {pins : List (Addr × Obj)} {σ : St} {H : Hp} {s : Shared}
theorem block_start {scope : Scope} {own : List (Str × Nat)} {fp : List Addr} (I : Inv X pins σ H s) (ok : BlkOk X.N X.env.scope scope own) (hN : X.N.Nodup) (hfp : ∀ b ∈ fp, FpOk X pins H b ∧ b < s.heap.objs.size) :
    Inv (X.blk s H scope (compEnvC scope (cellsFrom (s.heap.objs.size + 1) scope.names (cloFrom X.env.cells scope.names [])) s.heap.objs.size X.env) fp) [] (wipe σ (own.map (·.2))) H { s with heap := pushCells (s.heap.push { cls := .type "dict", data := .dict #[] }) scope.names } := by
  have hfree : ∀ y ∈ scope.names, y.2 = .free → ∃ c, X.env.cells.lookup y.1 = some c := fun y hy e => by
    rcases ok.free y hy e with k | k
    · exact I.ok.has _ (.inl k)
    · exact I.ok.has _ (.inr k)
  generalize hcenv : compEnvC scope (cellsFrom (s.heap.objs.size + 1) scope.names (cloFrom X.env.cells scope.names [])) s.heap.objs.size X.env = cenv
  have kp : ∀ b o, s.heap.get? b = some o → (pushCells (s.heap.push { cls := .type "dict", data := .dict #[] }) scope.names).get? b = some o := fun b o e => pushCells_keeps _ _ _ _ (Heap.get?_push_of_some _ e)
  have hL : cenv.locals = s.heap.objs.size := by rw [← hcenv]; rfl
  have hcl : cenv.cells = cellsFrom (s.heap.objs.size + 1) scope.names (cloFrom X.env.cells scope.names []) := by rw [← hcenv]; rfl
  have hsc : cenv.scope = relS scope X.env.scope := by rw [← hcenv]; rfl
  rw [← Heap.size_push s.heap { cls := .type "dict", data := .dict #[] }] at hcl
  have cm : ∀ {y c}, (y, c) ∈ cloFrom X.env.cells scope.names [] → X.env.cells.lookup y = some c ∧ c < s.heap.objs.size := fun {y c} hm => by
    rcases cloFrom_mem hm with hm | ⟨h1, rfl⟩
    · cases hm
    · obtain ⟨c, hc⟩ := hfree _ h1 rfl
      rw [hc]
      obtain ⟨w, z⟩ := I.cell _ _ hc
      exact ⟨rfl, z.lt⟩
  have mem : ∀ {y c}, cenv.cells.lookup y = some c → (X.env.cells.lookup y = some c ∧ c < s.heap.objs.size) ∨ (s.heap.objs.size + 1 ≤ c ∧ CellAt (pushCells (s.heap.push { cls := .type "dict", data := .dict #[] }) scope.names) c none) := fun {y c} e => by
    rw [hcl] at e
    rcases cells_mem (PySem.mem_of_lookup e) with hm | ⟨_, h2, h3⟩
    · exact .inl (cm hm)
    · rw [Heap.size_push] at h2; exact .inr ⟨h2, h3⟩
  have look : ∀ {y}, scope.names.lookup y = some .free → ∃ c, cenv.cells.lookup y = some c ∧ X.env.cells.lookup y = some c := fun {y} hl => by
    have hy : (y, NameKind.free) ∈ scope.names := PySem.mem_of_lookup hl
    obtain ⟨c', e'⟩ := mem_lookup (cells_acc (names := scope.names) (n := (s.heap.push { cls := .type "dict", data := .dict #[] }).objs.size) (cloFrom_has (cells := X.env.cells) (acc := []) hy))
    rw [← hcl] at e'
    refine ⟨c', e', ?_⟩
    rw [hcl] at e'
    rcases cells_mem (PySem.mem_of_lookup e') with hm | ⟨h1, _, _⟩
    · exact (cm hm).1
    · have := ok.uniq _ h1
      rw [hl] at this; cases this
  have okB : (X.blk s H scope cenv fp).Ok := by
    refine ⟨I.ok.mod, by show cenv.scope.kind = _; rw [hsc]; exact ok.kind, by show cenv.globals = _; rw [← hcenv]; exact I.ok.glob, by show cenv.builtins = _; rw [← hcenv]; exact I.ok.blt, by show s.heap.objs.size ≤ cenv.locals; rw [hL]; exact Nat.le_refl _,
      fun y z c e1 e2 => ?_, fun y hy => ?_, fun y c z e => ?_, I.ok.hd, I.ok.frames, .inl rfl, fun b hb => ⟨?_, fun y c e z => ?_⟩, I.bs, Nat.le_trans I.ok.bsz I.sz, fun b o e hb => ?_, fun b hb z => ?_, I.stack, I.stkFree⟩
    · have e1 : cenv.cells.lookup y = some c := e1
      have e2 : cenv.cells.lookup z = some c := e2
      rw [hcl] at e1 e2
      refine cells_inj (fun p hp => ?_) (fun y z c a b => I.ok.inj y z c (cm a).1 (cm b).1) (PySem.mem_of_lookup e1) (PySem.mem_of_lookup e2)
      rw [Heap.size_push]
      exact Nat.lt_succ_of_lt (cm (y := p.1) (c := p.2) hp).2
    · show ∃ c, cenv.cells.lookup y = some c
      have key : ∀ k, cenv.kindOf y = some k → (k = .cell ∨ k = .free) → ∃ c, cenv.cells.lookup y = some c := fun k hk hk' => by
        unfold Env.kindOf at hk
        rw [hsc] at hk
        obtain ⟨k', e, r⟩ := lookup_relS hk
        have : k' = .cell ∨ k' = .free := by
          rcases r with rfl | ⟨rfl, _⟩
          · exact hk'
          · exact .inr rfl
        rcases this with rfl | rfl
        · obtain ⟨c, hm⟩ := cells_has (n := (s.heap.push { cls := .type "dict", data := .dict #[] }).objs.size) (acc := cloFrom X.env.cells scope.names []) (PySem.mem_of_lookup e)
          obtain ⟨c', e'⟩ := mem_lookup hm
          exact ⟨c', by rw [hcl]; exact e'⟩
        · obtain ⟨c, h1, _⟩ := look e
          exact ⟨c, h1⟩
      rcases hy with hy | hy
      · exact key _ hy (.inl rfl)
      · exact key _ hy (.inr rfl)
    · have z : (scope.names.lookup y == some NameKind.cell) = true := z
      have z : scope.names.lookup y = some .cell := by simpa using z
      have e : cenv.cells.lookup y = some c := e
      rw [hcl] at e
      rcases cells_mem (PySem.mem_of_lookup e) with hm | ⟨_, h2, _⟩
      · rcases cloFrom_mem hm with hm | ⟨h1, _⟩
        · cases hm
        · have q := ok.uniq _ h1
          rw [z] at q; cases q
      · rw [Heap.size_push] at h2
        exact Nat.le_of_succ_le h2
    · show b ≠ cenv.locals
      rw [hL]; exact Nat.ne_of_lt (hfp b hb).2
    · have e : cenv.cells.lookup y = some c := e
      rcases mem e with ⟨h1, _⟩ | ⟨h1, _⟩
      · exact (hfp b hb).1.2.2.2.2.1 y c h1 z
      · have h2 : s.heap.objs.size + 1 ≤ b := by rw [← z]; exact h1
        exact absurd (Nat.lt_of_lt_of_le (hfp b hb).2 (Nat.le_of_succ_le h2)) (Nat.lt_irrefl _)
    · rcases (hfp b hb).1.2.2.2.1 with z | z
      · exact I.ok.noex b o e z
      · exact absurd (Nat.lt_of_lt_of_le (Heap.lt_size e) (Nat.le_trans I.ok.bsz z)) (Nat.lt_irrefl _)
    · rcases List.mem_cons.mp (I.stkSub b z) with z | z
      · exact (hfp b hb).1.2.1 z
      · exact (hfp b hb).1.2.2.1 z
  refine ⟨okB, rfl, I.bare, Un.kept kp, ⟨fun _ => none, ?_, fun i y av e1 e2 e3 => ?_⟩, fun y c e => ?_, ?_, fun y c e => ?_, fun p hp => ?_, I.hok.kept kp, by rw [wipe_length]; exact I.len⟩
  · show Heap.Ns _ cenv.locals _
    rw [hL]
    exact Heap.Ns.keeps (Heap.Ns.new ..) fun b o e => pushCells_keeps _ _ _ _ e
  · obtain ⟨e2, hne⟩ := wipe_some e2
    have hfr : scope.names.lookup y = some .free ∧ (cenv.kindOf y = some .cell ∨ cenv.kindOf y = some .free) := by
      have key : ∀ k, cenv.scope.names.lookup y = some k → k = .local ∨ k = .cell ∨ k = .free → scope.names.lookup y = some .free ∧ (cenv.kindOf y = some .cell ∨ cenv.kindOf y = some .free) := fun k hk hk' => by
        have hk0 := hk
        rw [hsc] at hk
        obtain ⟨k', e, r⟩ := lookup_relS hk
        have no : ¬ (k' = .local ∨ k' = .cell) := fun hh => by
          rcases ok.own _ (PySem.mem_of_lookup e) hh with e' | e'
          · obtain ⟨p, hp, hpy⟩ := List.mem_map.mp e'
            have e3 := ok.ix p hp
            have : p.1 = y := hpy
            rw [this] at e3
            exact hne (List.mem_map.mpr ⟨p, hp, nodup_ix hN e3 e1⟩)
          · exact e' (List.mem_of_getElem? e1)
        rcases r with rfl | ⟨rfl, rfl⟩
        · rcases hk' with rfl | rfl | rfl
          · exact absurd (.inl rfl) no
          · exact absurd (.inr rfl) no
          · exact ⟨e, .inr hk0⟩
        · exact ⟨e, .inl hk0⟩
      have e3 : Vis cenv.scope y := e3
      rcases e3 with e3 | e3 | e3
      · exact key _ e3 (.inl rfl)
      · exact key _ e3 (.inr (.inl rfl))
      · exact key _ e3 (.inr (.inr rfl))
    obtain ⟨m, hn, hl⟩ := I.loc
    have hvis : Vis X.env.scope y := (ok.free _ (PySem.mem_of_lookup hfr.1) rfl).elim (fun k => .inr (.inl k)) (fun k => .inr (.inr k))
    obtain ⟨w, r, q⟩ := hl i y av e1 e2 hvis
    refine ⟨w, r, .inr ⟨hfr.2, ?_⟩⟩
    obtain ⟨c, h1, h2⟩ := look hfr.1
    rcases q with ⟨k, _⟩ | ⟨_, c', e', z⟩
    · have k : X.env.scope.names.lookup y = some .local := k
      rcases ok.free _ (PySem.mem_of_lookup hfr.1) rfl with k' | k' <;> rw [show X.env.scope.names.lookup y = _ from k'] at k <;> cases k
    · rw [h2] at e'; cases e'
      exact ⟨c, h1, z.keeps kp⟩
  · have e : cenv.cells.lookup y = some c := e
    rcases mem e with ⟨h1, _⟩ | ⟨_, z⟩
    · obtain ⟨w, z⟩ := I.cell y c h1
      exact ⟨w, z.keeps kp⟩
    · exact ⟨_, z⟩
  · show H cenv.locals = none
    rw [hL]; exact I.hok.fresh (Nat.le_refl _)
  · have e : cenv.cells.lookup y = some c := e
    rcases mem e with ⟨h1, _⟩ | ⟨h1, _⟩
    · exact I.freeC y c h1
    · exact I.hok.fresh (Nat.le_of_succ_le h1)
  · exact absurd (show p ∈ ([] : List (Addr × Obj)) ++ [] from hp) (by simp)

/-- an item appended to a tracked list -/
theorem app_ok {E : Value → Shared → Prop} {D : Addr} {xs : List V} {y : V} {v : Value} {Q : Value → Shared → Prop} (I : Inv X pins σ H s) (hD : H D = some (.lst xs)) (hz : xs.length < sizeLine) (r : RelV y v)
    (h : ∀ s', Inv X pins σ (upd H D (.lst (xs ++ [y]))) s' → Q .none s') : wpAny (model X.prog X.w) X.A (call (.builtin "list.append") [.ref D, v]) Q E s := by
  obtain ⟨hz', its, n, ri, e⟩ := I.hok D _ hD
  have hl := ri.length
  refine append_at (hsz := by rw [List.size_toArray]; omega) e fun h' sb ho' => ?_
  refine h { s with heap := h' } (I.write (t' := s.toks) (by rw [hD]; trivial) (.inl rfl) (fun b u hb q => (sb.2 b hb).trans q) ⟨_, ho'⟩ ⟨by rw [List.length_append]; exact hz, its ++ [v], n + 1, ri.append (.cons r .nil), ?_⟩)
  rw [ho']
  simp

/-- a clause's tests -/
def PTs (X : Cx) (ifs : List Expr) (t : TT) : Prop :=
  ∀ (pins : List (Addr × Obj)) (s : Shared) (σ : St) (H : Hp) (Q : Bool → Hp → Prop), Inv X pins σ H s → t σ H Q →
    wpAny (model X.prog X.w) X.A (forIn ifs true fun c r => if r = true then do let ok ← isTrue c X.env (eval c X.env); pure (ForInStep.yield ok) else pure (ForInStep.yield r)) (TP X pins σ Q) X.xe s
def tYes : TT := fun _ H Q => Q true H
theorem pts_nil : PTs X [] tYes := fun _ _ _ H _ I h => wpAny_tests_nil ⟨H, I, h⟩
end

theorem thnF {α : Type} {t : Sem α} {Q Q' : α → Shared → Prop} {M : Model} {A : Around} {E : Value → Shared → Prop} {s : Shared} (h : wpAny M A t Q (fun _ _ => False) s) (hQ : ∀ a s, Q a s → Q' a s) : wpAny M A t Q' E s := wpAny_mono h hQ fun _ _ z => False.elim z

/-- the loop of a list comprehension's block, the target of any form (codeAny_compLoop_tests asks a target that no tuple goes to; statement and proof follow it, PyProof/CompMap.lean:41-61, with the step letOwnedTupleGo kept) -/
theorem compLoop_any {prog : Program} {w : World} {A : Around} {R : Result → Shared → Prop} {s : Shared} {elt target iter : Expr} {ifs : List Expr} {scope : Scope} {pos : Pos} {it acc : Value} {env : Env} (I : Nat → Shared → Prop)
    (turn : ∀ n s, I n s → wpAny (model prog w) A (pyNext it) (fun r s₁ => match r with
      | none => R (.ok .next) s₁
      | some v => wpAny (model prog w) A (letOwnedTupleGo target it v) (fun _ s₁' => wpAny (model prog w) A (assign target env v) (fun _ s₂ =>
          wpAny (model prog w) A (forIn ifs true fun c r => if r = true then do let ok ← isTrue c env (eval c env); pure (ForInStep.yield ok) else pure (ForInStep.yield r)) (fun ok s₃ =>
            if ok = true then wpAny (model prog w) A (eval elt env) (fun x s₄ =>
              wpAny (model prog w) A (call (.builtin "list.append") [acc, x]) (fun _ s₅ => ∃ m, m < n ∧ I m s₅) (notedBy (model prog w) A env fun e s' => R (.error e) s') s₄) (notedBy (model prog w) A env fun e s' => R (.error e) s') s₃
            else ∃ m, m < n ∧ I m s₃) (notedBy (model prog w) A env fun e s' => R (.error e) s') s₂) (notedBy (model prog w) A env fun e s' => R (.error e) s') s₁') (notedBy (model prog w) A env fun e s' => R (.error e) s') s₁) (notedBy (model prog w) A env fun e s' => R (.error e) s') s)
    (n : Nat) (h : I n s) :
    codeAny (model prog w) A (.compLoop (.ListComp elt [⟨target, iter, ifs, 0⟩] scope pos) 0 it acc env) R s := by
  refine codeAny_loop rfl I (fun n s hI => ?_) n h
  show wpAny _ A ((compTurn (.ListComp elt [⟨target, iter, ifs, 0⟩] scope pos) 0 it acc env).onRaise (fun x => do noteFrame x env; theTreesLotGoes x)) _ _ s
  refine wpAny_noted ?_
  rw [compTurn_list]
  refine wpAny_bind (wpAny_standAt (wpAny_bind (wpAny_mono (turn n s hI) (fun r s₁ h₁ => ?_) fun _ _ h' => h')))
  cases r with
  | none => exact wpAny_pure h₁
  | some v =>
    refine wpAny_bind (wpAny_mono h₁ (fun _ s₁' h₁' => ?_) fun _ _ h' => h')
    refine wpAny_bind (wpAny_mono h₁' (fun _ s₂ h₂ => wpAny_bind (wpAny_mono h₂ (fun ok s₃ h₃ => ?_) fun _ _ h' => h')) fun _ _ h' => h')
    cases ok with
    | false => exact wpAny_pure ⟨rfl, h₃⟩
    | true =>
      exact wpAny_bind (wpAny_bind (wpAny_mono h₃ (fun x s₄ h₄ => wpAny_bind (wpAny_mono h₄ (fun _ s₅ h₅ => wpAny_pure (wpAny_pure ⟨rfl, h₅⟩)) fun _ _ h' => h')) fun _ _ h' => h'))

section
variable {X : Cx}
/-- [elt for target in iter if ..]: D the new list; W by the turn and a measure, Nx what a turn is to reach -/
def tLc (wi : TI) (g : TG) (tt : TT) (te : TE) (vs : List Nat) : TE := fun σ H Q => wi σ H fun J H1 => ∀ D, H1 D = none → ∃ W : Nat → Nat → Hp → Prop, (∃ m, W 0 m (upd H1 D (.lst []))) ∧ ∀ i m H, W i m H →
  (J.stop i H ∧ Q (.ref D) H) ∨ (J.go i H ∧ ∃ Nx : Hp → Prop, (∀ H', Nx H' → ∃ m', m' < m ∧ W (i + 1) m' H') ∧ ∀ x H', J.yld i H x H' → g x (wipe σ vs) H' fun σ2 H2 => wipe σ2 vs = wipe σ vs ∧ tt σ2 H2 fun b H3 =>
    if b = true then te σ2 H3 fun y H4 => ∃ acc, H4 D = some (.lst acc) ∧ acc.length < sizeLine ∧ Nx (upd H4 D (.lst (acc ++ [y]))) else Nx H3)
theorem lc_core {pins : List (Addr × Obj)} {s : Shared} {σ : St} {H : Hp} {Q : VK} {elt tg iter : Expr} {ifs : List Expr} {scope : Scope} {own : List (Str × Nat)} {pos pos' : Pos} {wi : TI} {g : TG} {tt : TT} {te : TE} {use : Option (Value → Sem Unit)} {Qf : Value → Shared → Prop}
    (hc : X.calm = true) (hN : X.N.Nodup) (I : Inv X pins σ H s) (hi : PI X tg iter wi) (ok : BlkOk X.N X.env.scope scope own)
    (hg : ∀ (s : Shared) (H : Hp) (C : Addr) (cl : List (Str × Addr)) (fp : List Addr), PG (X.blk s H scope (compEnvC scope cl C X.env) fp) tg g) (ht : ∀ (s : Shared) (H : Hp) (C : Addr) (cl : List (Str × Addr)) (fp : List Addr), PTs (X.blk s H scope (compEnvC scope cl C X.env) fp) ifs tt)
    (he : ∀ (s : Shared) (H : Hp) (C : Addr) (cl : List (Str × Addr)) (fp : List Addr), PE (X.blk s H scope (compEnvC scope cl C X.env) fp) elt te) (hs : ∀ x, foldedSetIterable iter X.env x = pure x)
    (h : tLc wi g tt te (own.map (·.2)) σ H Q)
    (hRR : ∀ D C s' m H', Inv X pins σ H' s' → Q (.ref D) H' → s'.heap.Ns C m → FpOk X pins H' C → compPost (model X.prog X.w) X.A X.xe use Qf (.ref D) C (.ok .next) s') :
    wpAny (model X.prog X.w) X.A (comprehension (.ListComp elt [⟨tg, iter, ifs, 0⟩] scope pos) scope X.env pos' (newList []) false (eval iter X.env) use) Qf X.xe s := by
  have hfree : ∀ y ∈ scope.names, y.2 = .free → ∃ c, X.env.cells.lookup y.1 = some c := fun y hy e => by
    rcases ok.free y hy e with k | k
    · exact I.ok.has _ (.inl k)
    · exact I.ok.has _ (.inr k)
  refine wpAny_comprehension_free (use := use) rfl hs (closure_ok hfree) ok.kind (fun y hy e => by rw [ok.uniq y hy, e])
    (thn (hi pins s σ H _ I h) fun xv s1 hx => thn hx fun itv s2 h2 => ?_)
  obtain ⟨it, fp, tn, J, H2, e, I2, T, st2, f2, q⟩ := h2
  subst e
  refine wpAny_newObj_type (newEnv_comp ?_) (by show 0 ≤ sizeLine; decide)
  generalize hD : s2.heap.objs.size = D
  have hDn : H2 D = none := I2.hok.fresh (Nat.le_of_eq hD)
  obtain ⟨W, ⟨m0, w0⟩, turn⟩ := q D hDn
  -- the new list
  generalize hs3 : ({ s2 with heap := s2.heap.push { cls := .type "list", data := .seq ([] : List Value).toArray } } : Shared) = s3
  have I3 : Inv X pins σ (upd H2 D (.lst [])) s3 := by
    rw [← hs3]
    refine I2.laid (t' := s2.toks) (fun b o e => Heap.get?_push_of_some _ e) (Nat.le_of_eq hD) ⟨Nat.zero_le _, [], 0, .nil, ?_⟩
    rw [← hD]
    exact Heap.get?_push_size _ rfl
  have h3 : s3.heap = s2.heap.push { cls := .type "list", data := .seq ([] : List Value).toArray } := by rw [← hs3]
  have sz : ∀ b ∈ fp, b < s2.heap.objs.size := fun b hb => by
    obtain ⟨o, e, _⟩ := T.obj _ _ st2 b hb
    exact Heap.lt_size e
  have f3 : ∀ b ∈ fp, FpOk X pins (upd H2 D (.lst [])) b ∧ b < s3.heap.objs.size := fun b hb => by
    have hlt := sz b hb
    refine ⟨⟨?_, (f2 b hb).2⟩, by rw [h3, Heap.size_push]; exact Nat.lt_succ_of_lt hlt⟩
    rw [upd_ne (by rw [← hD]; exact Nat.ne_of_lt hlt)]
    exact (f2 b hb).1
  have st3 : tn 0 s3.heap := T.keep _ _ _ st2 fun b _ o e => by rw [h3]; exact Heap.get?_push_of_some _ e
  have I4 := block_start I3 ok hN f3
  have pg := hg s3 (upd H2 D (.lst [])) s3.heap.objs.size (cellsFrom (s3.heap.objs.size + 1) scope.names (cloFrom X.env.cells scope.names [])) fp
  have pt := ht s3 (upd H2 D (.lst [])) s3.heap.objs.size (cellsFrom (s3.heap.objs.size + 1) scope.names (cloFrom X.env.cells scope.names [])) fp
  have pe := he s3 (upd H2 D (.lst [])) s3.heap.objs.size (cellsFrom (s3.heap.objs.size + 1) scope.names (cloFrom X.env.cells scope.names [])) fp
  show codeAny _ _ (.compStart (.ListComp elt [⟨tg, iter, ifs, 0⟩] scope pos) 0 (.ref it) (.ref D) (compEnvC scope (cellsFrom (s3.heap.objs.size + 1) scope.names (cloFrom X.env.cells scope.names [])) s3.heap.objs.size X.env)) (compPost (model X.prog X.w) X.A X.xe use Qf (.ref D) s3.heap.objs.size) { s3 with heap := pushCells (s3.heap.push { cls := .type "dict", data := .dict #[] }) scope.names }
  have nfp : ∀ b ∈ fp, (upd H2 D (.lst [])) b = none := fun b hb => (f3 b hb).1.1
  generalize hce : compEnvC scope (cellsFrom (s3.heap.objs.size + 1) scope.names (cloFrom X.env.cells scope.names [])) s3.heap.objs.size X.env = ce at I4 pg pt pe ⊢
  have cL : ce.locals = s3.heap.objs.size := by subst hce; rfl
  generalize hH3 : upd H2 D (.lst []) = H3 at I3 I4 pg pt pe w0 nfp f3
  generalize hs4 : ({ s3 with heap := pushCells (s3.heap.push { cls := .type "dict", data := .dict #[] }) scope.names } : Shared) = s4 at I4 ⊢
  have st4 : tn 0 s4.heap := T.keep _ _ _ st3 fun b _ o e => by rw [← hs4]; exact pushCells_keeps _ _ _ _ (Heap.get?_push_of_some _ e)
  have stat : ∀ {σ' : St} {H' : Hp} {s' : Shared}, Inv (X.blk s3 H3 scope ce fp) [] σ' H' s' → (∀ b ∈ fp, H' b = none) → ∀ b ∈ fp, FpOk (X.blk s3 H3 scope ce fp) [] H' b := fun {σ' H' s'} I' hn b hb =>
    ⟨hn b hb, (I'.ok.exf b hb).1, I'.ok.exfs b hb, .inl hb, fun x c e => (I'.ok.exf b hb).2 x c e, fun p hp => absurd (show p ∈ ([] : List (Addr × Obj)) ++ [] from hp) (by simp)⟩
  have loop : codeAny (model X.prog X.w) X.A (.compLoop (.ListComp elt [⟨tg, iter, ifs, 0⟩] scope pos) 0 (.ref it) (.ref D) ce) (compPost (model X.prog X.w) X.A X.xe use Qf (.ref D) s3.heap.objs.size) s4 := by
    refine compLoop_any (fun n s' => ∃ i H', Inv (X.blk s3 H3 scope ce fp) [] (wipe σ (own.map (·.2))) H' s' ∧ tn i s'.heap ∧ (∀ b ∈ fp, H' b = none) ∧ W i n H') ?_ m0 ⟨0, H3, I4, st4, nfp, w0⟩
    rintro n s5 ⟨i, H5, I5, st5, n5, w5⟩
    rcases turn i n H5 w5 with ⟨stop, qq⟩ | ⟨go, Nx, hNx, step⟩
    · have td := T.done (X.blk s3 H3 scope ce fp) rfl rfl rfl hc i [] s5 _ H5 (fun _ _ => False) I5 (stat I5 n5) st5 stop
      refine thnF td fun r s6 ⟨hr, I6⟩ => ?_
      subst hr
      -- back in the def's context
      have I7 : Inv X pins σ H5 s6 := I3.call' (ch := fp) I6.os I6.base I6.hok I6.bare fun b hb => ⟨(f3 b hb).1.2.2.2.1, (f3 b hb).1.2.1, (f3 b hb).1.2.2.2.2.1, (f3 b hb).1.2.2.2.2.2⟩
      have nC : H5 s3.heap.objs.size = none := by
        have z : H5 ce.locals = none := I6.free
        rw [cL] at z
        exact z
      obtain ⟨m, hn, _⟩ := I6.loc
      have hn : s6.heap.Ns ce.locals m := hn
      rw [cL] at hn
      exact hRR D s3.heap.objs.size s6 m H5 I7 qq hn (I3.fpOk (Nat.le_refl _) nC)
    · have ti := T.item (X.blk s3 H3 scope ce fp) rfl rfl rfl hc i [] s5 _ H5 (fun _ _ => False) I5 (stat I5 n5) st5 go
      refine thnF ti fun r s6 ⟨u, hr, h6⟩ => ?_
      subst hr
      refine thnF h6 fun _ s7 ⟨x, H7, I7, r7, y7, st7, n7⟩ => ?_
      have I7' := I7.pinned (stat I7 n7) (T.obj _ _ st7)
      refine thnF (pg _ s7 _ H7 x u _ I7' r7 (step x H7 y7)) fun _ s8 ⟨σ8, H8, I8, hw8, q8⟩ => ?_
      refine thnF (pt _ s8 σ8 H8 _ I8 q8) fun b s9 ⟨H9, I9, q9⟩ => ?_
      -- the turn's end
      have fin : ∀ {s' : Shared} {H' : Hp}, Inv (X.blk s3 H3 scope ce fp) ([] ++ pinsAt fp s7.heap) σ8 H' s' → Nx H' → ∃ m, m < n ∧ ∃ i H', Inv (X.blk s3 H3 scope ce fp) [] (wipe σ (own.map (·.2))) H' s' ∧ tn i s'.heap ∧ (∀ b ∈ fp, H' b = none) ∧ W i m H' := fun {s' H'} I' nx => by
        obtain ⟨m', hm, w'⟩ := hNx H' nx
        have pin' : ∀ b ∈ fp, ∀ o, s7.heap.get? b = some o → s'.heap.get? b = some o ∧ H' b = none := fun b hb o e =>
          let z := I'.pin (b, o) (List.mem_append_right _ (List.mem_append_right _ (mem_pinsAt hb e)))
          ⟨z.1, z.2.1⟩
        have hl : (wipe σ (own.map (·.2))).length = σ8.length := by rw [← hw8, wipe_length]
        refine ⟨m', hm, i + 1, H', (I'.unpinned (pins := [])).weak hl (fun j v e => ?_), T.keep _ _ _ st7 fun b hb o e => (pin' b hb o e).1, fun b hb => ?_, w'⟩
        · rw [← hw8] at e
          exact (wipe_some e).1
        · obtain ⟨o, e, _⟩ := T.obj _ _ st7 b hb
          exact (pin' b hb o e).2
      cases b with
      | false =>
        simp only [Bool.false_eq_true, if_false] at q9 ⊢
        exact fin I9 q9
      | true =>
        simp only [if_true] at q9 ⊢
        refine thnF (pe _ s9 σ8 H9 _ I9 q9) fun z s10 ⟨yv, H10, I10, r10, acc, hD10, hz10, nx⟩ => ?_
        exact app_ok (X := X.blk s3 H3 scope ce fp) I10 hD10 hz10 r10 fun s11 I11 => fin I11 nx
  exact codeAny_compStart_list loop (T.self X.A 0 _ _ _ st4 loop)
/-- as a value -/
theorem pe_lc {elt tg iter : Expr} {ifs : List Expr} {scope : Scope} {own : List (Str × Nat)} {pos : Pos} {wi : TI} {g : TG} {tt : TT} {te : TE} (hc : X.calm = true) (hN : X.N.Nodup) (hi : PI X tg iter wi) (ok : BlkOk X.N X.env.scope scope own)
    (hg : ∀ (s : Shared) (H : Hp) (C : Addr) (cl : List (Str × Addr)) (fp : List Addr), PG (X.blk s H scope (compEnvC scope cl C X.env) fp) tg g) (ht : ∀ (s : Shared) (H : Hp) (C : Addr) (cl : List (Str × Addr)) (fp : List Addr), PTs (X.blk s H scope (compEnvC scope cl C X.env) fp) ifs tt)
    (he : ∀ (s : Shared) (H : Hp) (C : Addr) (cl : List (Str × Addr)) (fp : List Addr), PE (X.blk s H scope (compEnvC scope cl C X.env) fp) elt te) (hs : ∀ x, foldedSetIterable iter X.env x = pure x := by intro _; rfl) :
    PE X (.ListComp elt [⟨tg, iter, ifs, 0⟩] scope pos) (tLc wi g tt te (own.map (·.2))) := by
  intro pins s σ H Q I h
  rw [eval_ListComp]
  refine lc_core hc hN I hi ok hg ht he hs h fun D C s' m H' I' q hn f => ⟨m, hn, fun h'' sb => ?_⟩
  obtain ⟨f0, f1, f2, f3, f4, f5⟩ := f
  exact ⟨.ref D, H', I'.turned (t' := s'.toks) (fun b o hb e => (sb.2 b hb).trans e) f0 f1 f3 f4 f5, rfl, q⟩
end

/-! ### the forms one uses -/
/-- over a range: Pv by the turn and the heap (the new list at D within) -/
theorem lc_range {lo : Int} {n : Nat} {g : TG} {tt : TT} {te : TE} {vs : List Nat} {σ : St} {H1 : Hp} {D : Addr} {Qd : Hp → Prop} (Pv : Nat → Hp → Prop) (h0 : Pv 0 (upd H1 D (.lst [])))
    (hs : ∀ i H, i < n → Pv i H → g (.int (lo + i)) (wipe σ vs) H fun σ2 H2 => wipe σ2 vs = wipe σ vs ∧ tt σ2 H2 fun b H3 =>
      if b = true then te σ2 H3 fun y H4 => ∃ acc, H4 D = some (.lst acc) ∧ acc.length < sizeLine ∧ Pv (i + 1) (upd H4 D (.lst (acc ++ [y]))) else Pv (i + 1) H3) (hd : ∀ H, Pv n H → Qd H) :
    ∃ W : Nat → Nat → Hp → Prop, (∃ m, W 0 m (upd H1 D (.lst []))) ∧ ∀ i m H, W i m H →
      ((Itr lo n).stop i H ∧ Qd H) ∨ ((Itr lo n).go i H ∧ ∃ Nx : Hp → Prop, (∀ H', Nx H' → ∃ m', m' < m ∧ W (i + 1) m' H') ∧ ∀ x H', (Itr lo n).yld i H x H' → g x (wipe σ vs) H' fun σ2 H2 => wipe σ2 vs = wipe σ vs ∧ tt σ2 H2 fun b H3 =>
        if b = true then te σ2 H3 fun y H4 => ∃ acc, H4 D = some (.lst acc) ∧ acc.length < sizeLine ∧ Nx (upd H4 D (.lst (acc ++ [y]))) else Nx H3) := by
  refine ⟨fun i m H => m = n - i ∧ i ≤ n ∧ Pv i H, ⟨n, by simp, Nat.zero_le _, h0⟩, ?_⟩
  rintro i m H ⟨rfl, hi, p⟩
  by_cases hlt : i < n
  · refine .inr ⟨hlt, Pv (i + 1), fun H' p' => ⟨n - (i + 1), by omega, rfl, hlt, p'⟩, fun x H' y => ?_⟩
    obtain ⟨e, y⟩ := y
    subst e y
    exact hs i _ hlt p
  · have e : i = n := by omega
    subst e
    exact .inl ⟨Nat.le_refl _, hd H p⟩
/-- over a list that the block leaves as it is -/
theorem lc_list {K : PySem.W.Frag} {a : Addr} {xs : List V} {g : TG} {tt : TT} {te : TE} {vs : List Nat} {σ : St} {H1 : Hp} {D : Addr} {Qd : Hp → Prop} (Pv : Nat → Hp → Prop) (h0 : Pv 0 (upd H1 D (.lst []))) (hl : ∀ i H, i ≤ xs.length → Pv i H → SqL K H a xs)
    (hs : ∀ i x H, xs[i]? = some x → Pv i H → g x (wipe σ vs) H fun σ2 H2 => wipe σ2 vs = wipe σ vs ∧ tt σ2 H2 fun b H3 =>
      if b = true then te σ2 H3 fun y H4 => ∃ acc, H4 D = some (.lst acc) ∧ acc.length < sizeLine ∧ Pv (i + 1) (upd H4 D (.lst (acc ++ [y]))) else Pv (i + 1) H3) (hd : ∀ H, Pv xs.length H → Qd H) :
    ∃ W : Nat → Nat → Hp → Prop, (∃ m, W 0 m (upd H1 D (.lst []))) ∧ ∀ i m H, W i m H →
      ((Itl K a).stop i H ∧ Qd H) ∨ ((Itl K a).go i H ∧ ∃ Nx : Hp → Prop, (∀ H', Nx H' → ∃ m', m' < m ∧ W (i + 1) m' H') ∧ ∀ x H', (Itl K a).yld i H x H' → g x (wipe σ vs) H' fun σ2 H2 => wipe σ2 vs = wipe σ vs ∧ tt σ2 H2 fun b H3 =>
        if b = true then te σ2 H3 fun y H4 => ∃ acc, H4 D = some (.lst acc) ∧ acc.length < sizeLine ∧ Nx (upd H4 D (.lst (acc ++ [y]))) else Nx H3) := by
  refine ⟨fun i m H => m = xs.length - i ∧ i ≤ xs.length ∧ Pv i H, ⟨xs.length, by simp, Nat.zero_le _, h0⟩, ?_⟩
  rintro i m H ⟨rfl, hi, p⟩
  have q := hl i H hi p
  by_cases hlt : i < xs.length
  · refine .inr ⟨⟨xs, xs[i], q, by simp [hlt]⟩, Pv (i + 1), fun H' p' => ⟨xs.length - (i + 1), by omega, rfl, hlt, p'⟩, fun x H' y => ?_⟩
    obtain ⟨e, y⟩ := y
    subst e
    exact hs i x _ (y xs q) p
  · have e : i = xs.length := by omega
    subst e
    exact .inl ⟨⟨xs, q, Nat.le_refl _⟩, hd H p⟩
def blkC (N : List Str) (sc scope : Scope) (own : List (Str × Nat)) : Bool :=
  (match scope.kind with | .function => true | _ => false) && (scope.names.all fun y => decide (scope.names.lookup y.1 = some y.2)) && (own.all fun p => decide (N[p.2]? = some p.1)) &&
    (scope.names.all fun y => match y.2 with
      | .free => (match sc.names.lookup y.1 with | some .cell => true | some .free => true | _ => false)
      | .local => decide (y.1 ∈ own.map (·.1)) || decide (y.1 ∉ N)
      | .cell => decide (y.1 ∈ own.map (·.1)) || decide (y.1 ∉ N)
      | _ => true)
theorem blkOk_by {N : List Str} {sc scope : Scope} {own : List (Str × Nat)} (h : blkC N sc scope own = true) : BlkOk N sc scope own := by
  unfold blkC at h
  simp only [Bool.and_eq_true, List.all_eq_true, decide_eq_true_eq] at h
  obtain ⟨⟨⟨h1, h2⟩, h3⟩, h4⟩ := h
  refine ⟨?_, h2, h3, fun y hy e => ?_, fun y hy e => ?_⟩
  · split at h1
    · assumption
    · cases h1
  · have q := h4 y hy
    simp only [e] at q
    split at q <;> first | exact .inl (by assumption) | exact .inr (by assumption) | cases q
  · have q := h4 y hy
    rcases e with e | e <;> (simp only [e, Bool.or_eq_true, decide_eq_true_eq] at q; exact q)
end L2

namespace L2
open PySem PySem.Spec PyProof.Rows

section
variable {prog : Program} {w : World} {A : Around} {R : Result → Shared → Prop} {s : Shared} {elt t0 i0 t1 i1 : Expr} {ifs0 ifs1 : List Expr} {scope : Scope} {pos : Pos} {it acc : Value} {env : Env}
end

section
variable {X : Cx}
/-- [elt for tg in iter if .. for tg1 in iter1 if ..]: behind the first clause's store and tests the second source's own loop, from which Nx is reached. vs: the block's names; vs1: those of the second target -/
def tLc2 (wi : TI) (g : TG) (tt : TT) (wi1 : TI) (g1 : TG) (tt1 : TT) (te : TE) (vs vs1 : List Nat) : TE := fun σ H Q => wi σ H fun J H1 => ∀ D, H1 D = none → ∃ W : Nat → Nat → Hp → Prop, (∃ m, W 0 m (upd H1 D (.lst []))) ∧ ∀ i m H, W i m H →
  (J.stop i H ∧ Q (.ref D) H) ∨ (J.go i H ∧ ∃ Nx : Hp → Prop, (∀ H', Nx H' → ∃ m', m' < m ∧ W (i + 1) m' H') ∧ ∀ x H', J.yld i H x H' → g x (wipe σ vs) H' fun σ2 H2 => wipe σ2 vs = wipe σ vs ∧ tt σ2 H2 fun b H3 =>
    if b = true then wi1 σ2 H3 fun J1 H4 => ∃ W1 : Nat → Nat → Hp → Prop, (∃ m, W1 0 m H4) ∧ ∀ j k H, W1 j k H →
      (J1.stop j H ∧ Nx H) ∨ (J1.go j H ∧ ∃ Nx1 : Hp → Prop, (∀ H', Nx1 H' → ∃ k', k' < k ∧ W1 (j + 1) k' H') ∧ ∀ x H', J1.yld j H x H' → g1 x (wipe σ2 vs1) H' fun σ3 H5 => wipe σ3 vs1 = wipe σ2 vs1 ∧ tt1 σ3 H5 fun b H6 =>
        if b = true then te σ3 H6 fun y H7 => ∃ acc, H7 D = some (.lst acc) ∧ acc.length < sizeLine ∧ Nx1 (upd H7 D (.lst (acc ++ [y]))) else Nx1 H6)
    else Nx H3)
end
end L2

namespace L2
open PySem PySem.Spec PyProof.Rows

/-! ### lists of pairs as tables -/
section
variable {κ : Type} [DecidableEq κ]
def valV (kvs : List (κ × V)) (k : κ) : Option V := (kvs.find? fun kv => decide (kv.1 = k)).map (·.2)
/-- in its place, or at the end -/
def putK (kvs : List (κ × V)) (k : κ) (v : V) : List (κ × V) :=
  if (kvs.any fun kv => decide (kv.1 = k)) = true then kvs.map (fun kv => if kv.1 = k then (kv.1, v) else kv) else kvs ++ [(k, v)]
def dropK (kvs : List (κ × V)) (k : κ) : List (κ × V) := kvs.filter fun kv => decide (kv.1 ≠ k)

end

/-! ### a tracked dict, its keys ints and texts or tuples of these -/

/-- raw entries of a dict with tuple keys -/
abbrev KT (H : Hp) : List (List Key × V) → List (List Key × Addr × Value) → Prop := Paired fun p q => p.1 = q.1 ∧ H q.2.1 = some (.tup (p.1.map kV)) ∧ RelV p.2 q.2.2

section
variable {P : Program} {w : World} {H : Hp} {h : Heap} {a : Addr}
end

/-- what the dict at a holds at the key y -/
def DGet (H : Hp) (a : Addr) (y : V) (r : Option V) : Prop :=
  (∃ kvs k, Rd H a (.dK kvs) ∧ y = kV k ∧ r = valV kvs k) ∨ ∃ kvs k b, Rd H a (.dT kvs) ∧ y = .ref b ∧ H b = some (.tup (k.map kV)) ∧ r = valV kvs k
/-- the heap behind a[y] = v -/
def DPut (H : Hp) (a : Addr) (y v : V) (H' : Hp) : Prop :=
  (∃ kvs k, H a = some (.dK kvs) ∧ y = kV k ∧ kvs.length < sizeLine ∧ H' = upd H a (.dK (putK kvs k v))) ∨
  ∃ kvs k b, H a = some (.dT kvs) ∧ y = .ref b ∧ H b = some (.tup (k.map kV)) ∧ kvs.length < sizeLine ∧ H' = upd H a (.dT (putK kvs k v))

section
variable {X : Cx} {pins : List (Addr × Obj)} {σ : St} {H : Hp} {s : Shared} {a : Addr} {y v : V} {u r : Value} {o : Option V} {A : Around} {E : Value → Shared → Prop}

end

section
variable {X : Cx} {pins : List (Addr × Obj)} {σ : St} {H : Hp} {s : Shared} {a : Addr} {kvs : List (Key × V)} {k : Key} {u : Value} {A : Around} {E : Value → Shared → Prop}
end

/-! ### readings and rules -/
/-- the element of a subscription, not a slice -/
def NoSl (i : Expr) : Prop := ∀ ov iv, subscripted i false ov iv = operate [ov, iv] (getItem ov iv)

/-- d[y] -/
def tDGet (td ty : TE) : TE := fun σ H Q => td σ H fun x H1 => ty σ H1 fun y H2 => ∃ a v, x = .ref a ∧ DGet H2 a y (some v) ∧ Q v H2
/-- y in d, y not in d -/
def tDIn (ty td : TE) : TE := fun σ H Q => ty σ H fun y H1 => td σ H1 fun x H2 => ∃ a o, x = .ref a ∧ DGet H2 a y o ∧ Q (.bl o.isSome) H2
def tDNotIn (ty td : TE) : TE := fun σ H Q => ty σ H fun y H1 => td σ H1 fun x H2 => ∃ a o, x = .ref a ∧ DGet H2 a y o ∧ Q (.bl (!o.isSome)) H2
/-- d[y] = v -/
def sDPut (td ty tv : TE) : TS := fun D σ H => tv σ H fun v H1 => td σ H1 fun x H2 => ty σ H2 fun y H3 => ∃ a H4, x = .ref a ∧ DPut H3 a y v H4 ∧ D.nx σ H4
/-- d[y] op= v -/
def sDAug (td ty tv : TE) (rd : V → V → Hp → VK → Prop) : TS := fun D σ H => td σ H fun x H1 => ty σ H1 fun y H2 => ∃ a v, x = .ref a ∧ DGet H2 a y (some v) ∧
  tv σ H2 fun y2 H3 => rd v y2 H3 fun z H4 => ∃ H5, DPut H4 a y z H5 ∧ D.nx σ H5
/-- del d[y] -/
def sDDel (td ty : TE) : TS := fun D σ H => td σ H fun x H1 => ty σ H1 fun y H2 => ∃ a kvs k, x = .ref a ∧ H2 a = some (.dK kvs) ∧ y = kV k ∧ (valV kvs k).isSome = true ∧ D.nx σ (upd H2 a (.dK (dropK kvs k)))

section
variable {X : Cx} {o i e value : Expr} {pos pos' tpos : Pos} {td ty tv : TE}
end

/-! ### displays -/
/-- {}, to be a dict of the kind that is wanted -/
def tDNewK : TE := fun _ H Q => ∀ p, H p = none → Q (.ref p) (upd H p (.dK []))
def tDNewT : TE := fun _ H Q => ∀ p, H p = none → Q (.ref p) (upd H p (.dT []))
section
variable {X : Cx} {pos : Pos}
end

/-- the pairs of a display, from the left -/
def tPairs : List (TE × TE) → St → Hp → (List (V × V) → Hp → Prop) → Prop
  | [], _, H, Q => Q [] H
  | (tk, tv) :: r, σ, H, Q => tk σ H fun x H1 => tv σ H1 fun y H2 => tPairs r σ H2 fun ps H3 => Q ((x, y) :: ps) H3
abbrev VV : List (V × V) → List (Value × Value) → Prop := Paired fun p q => RelV p.1 q.1 ∧ RelV p.2 q.2
def PPs (X : Cx) (pos : Pos) (keys : List (Option Expr)) (values : List Expr) (trs : List (TE × TE)) : Prop :=
  ∀ (pins : List (Addr × Obj)) (s : Shared) (σ : St) (H : Hp) (Q : List (V × V) → Hp → Prop), Inv X pins σ H s → tPairs trs σ H Q →
    wpAny (model X.prog X.w) X.A (evalPairs (pairTrees keys values X.env pos)) (fun vs s' => ∃ ps H', Inv X pins σ H' s' ∧ VV ps vs ∧ Q ps H') X.xe s

def mergeK (kvs more : List (Key × V)) : List (Key × V) := more.foldl (fun acc kv => putK acc kv.1 kv.2) kvs
/-- {k: v, ..} with keys ints and texts; the new dict stands empty while the pairs are made -/
def tDisp (trs : List (TE × TE)) : TE := fun σ H Q => ∀ p, H p = none → tPairs trs σ (upd H p (.dK [])) fun ps H2 => H2 p = some (.dK []) ∧ ∃ kvs : List (Key × V), ps = kvs.map (fun kv => (kV kv.1, kv.2)) ∧ kvs.length ≤ 15 ∧ Q (.ref p) (upd H2 p (.dK (mergeK [] kvs)))

/-! ### methods -/
/-- a method call o.m(e) of a built-in, with one argument: what must be seen of the text -/
structure M1 (X : Cx) (o : Expr) (m : Str) (apos : Pos) (e : Expr) (cpos : Pos) : Prop where
  base : attributeBase o m X.env (eval o X.env) = eval o X.env
  few : ((backTo cpos (starEach [e] X.env)).all (fun x => !x.1) && (backToKw cpos (keywordEach [] X.env)).all (fun x => x.1.isSome)
    && decide (([e] : List Expr).length + ([] : List Keyword).length + (if ([] : List Keyword).isEmpty then 0 else 1) < 30)) = true
  line : (apos.endLine == cpos.line) = true
  trees : backTo cpos (starEach [e] X.env) = [(false, eval e X.env)]
structure M2 (X : Cx) (o : Expr) (m : Str) (apos : Pos) (e f : Expr) (cpos : Pos) : Prop where
  base : attributeBase o m X.env (eval o X.env) = eval o X.env
  few : ((backTo cpos (starEach [e, f] X.env)).all (fun x => !x.1) && (backToKw cpos (keywordEach [] X.env)).all (fun x => x.1.isSome)
    && decide (([e, f] : List Expr).length + ([] : List Keyword).length + (if ([] : List Keyword).isEmpty then 0 else 1) < 30)) = true
  line : (apos.endLine == cpos.line) = true
  trees : backTo cpos (starEach [e, f] X.env) = [(false, eval e X.env), (false, eval f X.env)]

/-- a is a dict, whatever its keys -/
def IsD (H : Hp) (a : Addr) : Prop := (∃ kvs, Rd H a (.dK kvs)) ∨ ∃ kvs, Rd H a (.dT kvs)

section
variable {X : Cx} {pins : List (Addr × Obj)} {σ : St} {H : Hp} {s : Shared} {a : Addr} {y d : V} {u r : Value} {o : Option V} {A : Around} {E : Value → Shared → Prop}
end

def tDGet1 (td ty : TE) : TE := fun σ H Q => td σ H fun x H1 => ∃ a, x = .ref a ∧ IsD H1 a ∧ ty σ H1 fun y H2 => ∃ o, DGet H2 a y o ∧ Q (o.getD .non) H2
def tDGet2 (td ty tx : TE) : TE := fun σ H Q => td σ H fun x H1 => ∃ a, x = .ref a ∧ IsD H1 a ∧ ty σ H1 fun y H2 => tx σ H2 fun z H3 => ∃ o, DGet H3 a y o ∧ Q (o.getD z) H3
/-- d.pop(k): there; d.pop(k, x): there or not -/
def tDPop1 (td ty : TE) : TE := fun σ H Q => td σ H fun x H1 => ∃ a, x = .ref a ∧ IsD H1 a ∧ ty σ H1 fun y H2 => ∃ kvs k v, H2 a = some (.dK kvs) ∧ y = kV k ∧ valV kvs k = some v ∧ Q v (upd H2 a (.dK (dropK kvs k)))
def tDPop2 (td ty tx : TE) : TE := fun σ H Q => td σ H fun x H1 => ∃ a, x = .ref a ∧ IsD H1 a ∧ ty σ H1 fun y H2 => tx σ H2 fun z H3 => ∃ kvs k, H3 a = some (.dK kvs) ∧ y = kV k ∧
  (∀ v, valV kvs k = some v → Q v (upd H3 a (.dK (dropK kvs k)))) ∧ (valV kvs k = none → Q z H3)
section
variable {X : Cx} {o e f : Expr} {apos cpos : Pos} {td ty tx : TE}
end

/-! ### dict(d): a copy -/
section
variable {X : Cx} {pins : List (Addr × Obj)} {σ : St} {H : Hp} {s : Shared} {a : Addr} {kvs : List (Key × V)} {A : Around} {E : Value → Shared → Prop}
end

section
variable {X : Cx} {pins : List (Addr × Obj)} {σ : St} {H : Hp} {s : Shared} {a : Addr} {y : V} {u : Value} {A : Around} {E : Value → Shared → Prop}
end
end L2

namespace L2
open PySem PySem.Spec PyProof.Rows

section
variable {prog : Program} {w : World} {A : Around} {E : Value → Shared → Prop}

end

section
variable {X : Cx}
end
end L2

namespace L2
open PySem PySem.Spec PyProof.Rows

section
variable {X : Cx} {pins : List (Addr × Obj)} {σ : St} {H : Hp} {s : Shared} {h' : Heap}
/-- .. and one new object is laid -/
theorem Inv.turnedNew {t' : Nat} {ch : List Addr} {T : Addr} {ob : HO} (I : Inv X pins σ H s) (k : ∀ b o, b ∉ ch → s.heap.get? b = some o → h'.get? b = some o) (hf : ∀ b ∈ ch, FpOk X pins H b) (hT : s.heap.objs.size ≤ T)
    (new : ObjOk X.prog X.w (upd H T ob) h' T ob) : Inv X pins σ (upd H T ob) { s with heap := h', toks := t' } := by
  have hn : H T = none := I.hok.fresh hT
  have nit : ∀ b u, H b = some u → b ∉ ch := fun b u e z => by
    have q := (hf b z).1
    rw [q] at e; cases e
  refine I.step (g' := s.gens) (d' := s.drawn) (ch := ch) (fun b hb => ⟨(hf b hb).2.2.2.1, (hf b hb).2.1, (hf b hb).2.2.2.2.1, (hf b hb).2.2.2.2.2⟩) (fun b o _ _ hc e _ => k b o hc e) (fun b o _ _ hc e _ => ⟨o.slots, k b o hc e⟩)
    (fun b o _ e n => ?_) (fun b o hc e => ⟨o, k b o hc e⟩) (fun b xs e => ?_) (fun b o u e => ?_) (fun b ps e => ⟨#[], ?_⟩) (fun m hm => ?_) (fun b u e => ?_) I.bare
  · rw [upd_ne (Nat.ne_of_lt (Nat.lt_of_lt_of_le (Heap.lt_size e) hT))]; exact n
  · rw [upd_ne (ne_of_none e hn)]; exact e
  · rw [upd_ne (ne_of_none e hn)]; exact e
  · rw [upd_ne (ne_of_none e hn), e]; simp
  · obtain ⟨o, es, ep, ho, r⟩ := hm
    exact ⟨o, es, ep, k _ o (fun z => (hf _ z).2.1 rfl) ho, r⟩
  · by_cases hb : b = T
    · subst hb
      rw [upd_same] at e
      cases e
      exact new
    · rw [upd_ne hb] at e
      refine (I.hok b u e).stay (fun c v hc q => k c v ?_ q) (fun c q => by rw [upd_ne (ne_of_none q hn)]; exact q) fun c xs q => by rw [upd_ne (ne_of_none q hn)]; exact q
      rcases hc with z | z
      · rw [z]; exact nit b u e
      · exact nit c _ z

/-! ### locking a thing while a statement runs -/
end
/-- the statement runs while the thing at d is locked (read, not written); d and what stands there are the reading's choice -/
def tLock (t : TS) : TS := fun D σ H => ∃ d u, H d = some u ∧ Mut (some u) ∧ ∀ od, t ⟨fun σ' H' => H' d = some (.frz od u) ∧ D.nx σ' (upd H' d u), fun v H' => H' d = some (.frz od u) ∧ D.rt v (upd H' d u), fun σ' H' => H' d = some (.frz od u) ∧ D.bk σ' (upd H' d u), fun σ' H' => H' d = some (.frz od u) ∧ D.ct σ' (upd H' d u)⟩ σ (upd H d (.frz od u))
def tLockE (t : TE) : TE := fun σ H Q => ∃ d u, H d = some u ∧ Mut (some u) ∧ ∀ od, t σ (upd H d (.frz od u)) fun v H' => H' d = some (.frz od u) ∧ Q v (upd H' d u)
section
variable {X : Cx}

/-! ### one iterator just laid -/
theorem pi_one {tg : Expr} {pins : List (Addr × Obj)} {σ : St} {H : Hp} {s : Shared} {R : It → Hp → Prop} {J : It} {tn : Nat → Heap → Prop} {tk : Nat} (I : Inv X pins σ H s) (o : Obj)
    (T : Turn X.prog X.w X.K tg J [s.heap.objs.size] s.heap.objs.size tn) (st : tn 0 (s.heap.push o)) (q : R J H) : PIE X pins σ tg R (.ref s.heap.objs.size) { s with heap := s.heap.push o, toks := tk } := by
  refine ⟨s.heap.objs.size, [s.heap.objs.size], tn, J, H, rfl, I.kept fun b ob e => Heap.get?_push_of_some _ e, T, st, fun b hb => ?_, q⟩
  have e : b = s.heap.objs.size := by simpa using hb
  subst e
  exact I.fpOk (Nat.le_refl _) (I.hok.fresh (Nat.le_refl _))
end

/-! ### range with a step -/
/-- lo, lo + c, .. (n of them) -/
def Itc (lo c : Int) (n : Nat) : It := ⟨fun i _ => i < n, fun i H x H' => H' = H ∧ x = .int (lo + (i : Nat) * c), fun i _ => n ≤ i⟩
theorem turn_rangeC {P : Program} {w : World} {K : PySem.W.Frag} {tg : Expr} (it : Addr) (lo c : Int) (n : Nat) : Turn P w K tg (Itc lo c n) [it] it (fun i h => IsRangeIter h it (lo + (i : Nat) * c) ((n : Int) - (i : Nat)) c) where
  mem := by simp
  obj := fun i h st b hb => by
    have e : b = it := by simpa using hb
    subst e
    exact ⟨_, st, fun v z => nomatch z⟩
  keep := fun i h h' st k => k it (by simp) _ st
  item := by
    intro X hP hw hK hc i pins s σ H E I hf st hg
    subst hP hw hK
    obtain ⟨f0, f1, f2, f3, f4, f5⟩ := hf it (by simp)
    have W := Walks.range (prog := X.prog) (w := X.w) (I.ok.hd hc) it lo c n
    refine W.item i s _ _ hg st fun v h' tk hv st' kk => ?_
    obtain ⟨t, rfl⟩ := hv
    have I1 : Inv X pins σ H { s with heap := h', toks := tk } := I.turned (fun b o hb e => kk b o (by simpa using hb) e) f0 f1 f3 f4 f5
    exact ⟨_, rfl, go_of (s := { s with heap := h', toks := tk }) (n := "range_iterator") st' rfl rfl (by decide) ⟨.int (lo + (i : Nat) * c), H, I1, ⟨t, rfl⟩, ⟨rfl, rfl⟩, st', fun b hb => (hf b hb).1⟩⟩
  done := by
    intro X hP hw hK hc i pins s σ H E I hf st hg
    subst hP hw hK
    obtain ⟨f0, f1, f2, f3, f4, f5⟩ := hf it (by simp)
    exact wpAny_pyNext_range_end (I.ok.hd hc) st (by have : n ≤ i := hg; omega) fun h' eb => ⟨rfl, I.turned (t' := s.toks) (fun b o hb e => eb b o hb e) f0 f1 f3 f4 f5⟩
  self := fun A i s Q E st h => wpAny_pyIter_rangeiter st h
/-- range(i, j, c): small bounds, n items -/
def RgC (i j c : Int) (n : Nat) : Prop := c ≠ 0 ∧ c.natAbs < 1073741824 ∧ Builtin.Range.small i j c = true ∧ Builtin.Range.rangeSize i j c = n
theorem RgC.neg {i j : Int} (ha : -(2 ^ 62) ≤ i) (ha' : i < 2 ^ 62) (hb : -(2 ^ 62) ≤ j) (hb' : j < 2 ^ 62) : RgC i j (-1) (i - j).toNat :=
  ⟨by decide, by decide, PySem.W.small_down ha ha' hb hb', PySem.W.rangeSize_downNat i j⟩
def iRng3 (ta : TA) : TI := fun σ H R => ta σ H fun vs H1 => ∃ (i j c : Int) (n : Nat), vs = [.int i, .int j, .int c] ∧ RgC i j c n ∧ R (Itc i c n) H1
section
variable {X : Cx} {tg : Expr}
theorem pi_range3 {a b c : Expr} {ta : TA} {p pos : Pos} (hg : Gl X "range") (hm : X.mg "range" = none) (ha : PA X [a, b, c] ta)
    (hs : starEach [a, b, c] X.env = (false, eval a X.env) :: starEach [b, c] X.env := by rfl) (hpl : (backTo pos (starEach [b, c] X.env)).any (·.1) = false := by rfl) :
    PI X tg (.Call (.Name "range" p) [a, b, c] [] pos) (iRng3 ta) := by
  intro pins s σ H R I h
  refine Call_ (ld_blt I hg hm boot_range (PyProof.Rows.callWith_type1 (thn (ha pos pins s σ H _ I h) fun us s1 ⟨vs, H1, I1, r1, q1⟩ => ?_) hs hpl))
  obtain ⟨i, j, k, n, e, ⟨c0, c1, c2, c3⟩, q⟩ := q1
  subst e
  cases r1 with
  | cons r rr =>
    cases rr with
    | cons r' rr =>
      cases rr with
      | cons r'' rr =>
        cases rr
        obtain ⟨t, rfl⟩ := r
        obtain ⟨t', rfl⟩ := r'
        obtain ⟨t'', rfl⟩ := r''
        refine call_range_3 c0 ?_ (.inl (PyProof.noPylong_small c1))
        refine wpAny_pyIter_range (IsRange.new ..) c2 ?_
        have I2 : Inv X pins σ H1 { s1 with heap := s1.heap.push { cls := .type "range", data := .fields #[.int i t, .int j t', .int k t''] } } := I1.kept (t' := s1.toks) fun b o e => Heap.get?_push_of_some _ e
        refine pi_one (tk := s1.toks) I2 _ (turn_rangeC _ i k n) ?_ q
        have e1 : i + ((0 : Nat) : Int) * k = i := by simp
        have e2 : (n : Int) - ((0 : Nat) : Int) = Builtin.Range.rangeSize i j k := by rw [c3]; simp
        show IsRangeIter _ _ (i + ((0 : Nat) : Int) * k) ((n : Int) - ((0 : Nat) : Int)) k
        rw [e1, e2]
        exact Heap.get?_push_size _ rfl
end
/-- the turns of a step range, for the for loop -/
theorem for_rangeC {lo c : Int} {n : Nat} {g : TG} {tb : TS} {D : Ends} {σ : St} {H : Hp} (Pv : Nat → St → Hp → Prop) (h0 : Pv 0 σ H)
    (hs : ∀ i σ H, i < n → Pv i σ H → g (.int (lo + (i : Nat) * c)) σ H fun σ2 H2 => tb { D with nx := Pv (i + 1), ct := Pv (i + 1), bk := D.nx } σ2 H2) (hd : ∀ σ H, Pv n σ H → D.nx σ H) :
    ∃ W : Nat → Nat → St → Hp → Prop, (∃ m, W 0 m σ H) ∧ ∀ i m σ H, W i m σ H →
      ((Itc lo c n).stop i H ∧ D.nx σ H) ∨ ((Itc lo c n).go i H ∧ ∃ N : St → Hp → Prop, (∀ σ' H', N σ' H' → ∃ m', m' < m ∧ W (i + 1) m' σ' H') ∧ ∀ x H', (Itc lo c n).yld i H x H' → g x σ H' fun σ2 H2 => tb { D with nx := N, ct := N, bk := D.nx } σ2 H2) := by
  refine ⟨fun i m σ H => m = n - i ∧ i ≤ n ∧ Pv i σ H, ⟨n, by simp, Nat.zero_le _, h0⟩, ?_⟩
  rintro i m σ H ⟨rfl, hi, p⟩
  by_cases hlt : i < n
  · refine .inr ⟨hlt, Pv (i + 1), fun σ' H' p' => ⟨n - (i + 1), by omega, rfl, hlt, p'⟩, fun x H' y => ?_⟩
    obtain ⟨e, y⟩ := y
    subst e y
    exact hs i σ _ hlt p
  · have e : i = n := by omega
    subst e
    exact .inl ⟨Nat.le_refl _, hd σ H p⟩

/-! ### reversed(list) -/
/-- the list at a (n items at the start, which the loop leaves there), from its end -/
def Itv (K : PySem.W.Frag) (a : Addr) (n : Nat) : It :=
  ⟨fun i H => i < n ∧ ∃ (xs : List V) (x : V), SqL K H a xs ∧ xs[n - 1 - i]? = some x, fun i H x H' => H' = H ∧ ∀ xs, SqL K H a xs → xs[n - 1 - i]? = some x, fun i _ => n ≤ i⟩
def iRev (K : PySem.W.Frag) (ta : TA) : TI := fun σ H R => ta σ H fun vs H1 => ∃ (a : Addr) (xs : List V), vs = [.ref a] ∧ SqL K H1 a xs ∧ R (Itv K a xs.length) H1
section
variable {X : Cx} {tg : Expr}
end

/-! ### a str -/
def Its (x : Str) : It := ⟨fun i _ => i < x.cps.size, fun i H v H' => H' = H ∧ ∃ c, x.cps[i]? = some c ∧ v = .str ⟨#[c]⟩, fun i _ => x.cps.size ≤ i⟩
def iStr (te : TE) : TI := fun σ H R => te σ H fun v H1 => ∃ x, v = .str x ∧ R (Its x) H1

/-! ### a dict's keys: any dict's entries -/
section
variable {prog : Program} {w : World} {A : Around} {E : Value → Shared → Prop} {s : Shared}
end

/-! ### a locked dict -/
section
variable {X : Cx} {pins : List (Addr × Obj)} {σ : St} {H : Hp} {s : Shared} {d : Addr} {o : Obj}
end

/-- the keys of the locked dict at d, in their order -/
def Itk (d : Addr) (o : Obj) (kvs : List (Key × V)) : It :=
  ⟨fun i H => H d = some (.frz o (.dK kvs)) ∧ i < kvs.length, fun i H x H' => H' = H ∧ ∃ k v, kvs[i]? = some (k, v) ∧ x = kV k, fun i H => H d = some (.frz o (.dK kvs)) ∧ kvs.length ≤ i⟩
/-- .. of tuple keys: the key's own tuple -/
def Itkt (d : Addr) (o : Obj) (kvs : List (List Key × V)) : It :=
  ⟨fun i H => H d = some (.frz o (.dT kvs)) ∧ i < kvs.length, fun i H x H' => H' = H ∧ ∃ (k : List Key) (v : V) (q : Addr), kvs[i]? = some (k, v) ∧ x = .ref q ∧ H q = some (.tup (k.map kV)), fun i H => H d = some (.frz o (.dT kvs)) ∧ kvs.length ≤ i⟩
/-- the values -/
def Itd (d : Addr) (o : Obj) (kvs : List (Key × V)) : It :=
  ⟨fun i H => H d = some (.frz o (.dK kvs)) ∧ i < kvs.length, fun i H x H' => H' = H ∧ ∃ k, kvs[i]? = some (k, x), fun i H => H d = some (.frz o (.dK kvs)) ∧ kvs.length ≤ i⟩
/-- the pairs, each a new tuple -/
def Iti (d : Addr) (o : Obj) (kvs : List (Key × V)) : It :=
  ⟨fun i H => H d = some (.frz o (.dK kvs)) ∧ i < kvs.length, fun i H x H' => ∃ T k v, kvs[i]? = some (k, v) ∧ x = .ref T ∧ H T = none ∧ H' = upd H T (.tup [kV k, v]), fun i H => H d = some (.frz o (.dK kvs)) ∧ kvs.length ≤ i⟩
section
variable {P : Program} {w : World} {K : PySem.W.Frag} {tg : Expr} {d : Addr} {o : Obj} {es : Array DictEntry} {ep : Nat}
end

/-! ### for k in d, d.keys(), d.values(), d.items() -/
/-- the dict is locked (tLock, or by the caller) -/
def iKeys (td : TE) : TI := fun σ H R => td σ H fun x H1 => ∃ d o, x = .ref d ∧ ((∃ kvs, H1 d = some (.frz o (.dK kvs)) ∧ R (Itk d o kvs) H1) ∨ ∃ kvs, H1 d = some (.frz o (.dT kvs)) ∧ R (Itkt d o kvs) H1)
def iVals (td : TE) : TI := fun σ H R => td σ H fun x H1 => ∃ d o kvs, x = .ref d ∧ H1 d = some (.frz o (.dK kvs)) ∧ R (Itd d o kvs) H1
def iItems (td : TE) : TI := fun σ H R => td σ H fun x H1 => ∃ d o kvs, x = .ref d ∧ H1 d = some (.frz o (.dK kvs)) ∧ R (Iti d o kvs) H1
def iKeysM (td : TE) : TI := fun σ H R => td σ H fun x H1 => ∃ d o kvs, x = .ref d ∧ H1 d = some (.frz o (.dK kvs)) ∧ R (Itk d o kvs) H1
section
variable {X : Cx} {tg e : Expr} {td : TE} {apos cpos : Pos}
end

/-! ### enumerate(list) -/
/-- the list at a as it stands at each turn, each item in a new pair -/
def Ite (K : PySem.W.Frag) (a : Addr) : It :=
  ⟨fun i H => ∃ (xs : List V) (x : V), SqL K H a xs ∧ xs[i]? = some x, fun i H v H' => ∃ T x, v = .ref T ∧ H T = none ∧ H' = upd H T (.tup [.int (i : Nat), x]) ∧ ∀ xs, SqL K H a xs → xs[i]? = some x, fun i H => ∃ xs : List V, SqL K H a xs ∧ xs.length ≤ i⟩
theorem turn_enum {P : Program} {w : World} {K : PySem.W.Frag} {elts : List Expr} {kk : Nat} {tpos : Pos} (a e it : Addr) :
    Turn P w K (.Tuple elts kk tpos) (Ite K a) [e, it] e (fun i h => (∃ old, IsEnum h e it ((i : Nat) : Int) old) ∧ h.IsListIter it a i ∧ e ≠ it) where
  mem := by simp
  obj := fun i h st b hb => by
    obtain ⟨⟨old, he⟩, ⟨o, ho, hc, hd⟩, _⟩ := st
    have e' : b = e ∨ b = it := by simpa using hb
    rcases e' with z | z
    · rw [z]; exact ⟨_, he, fun v q => nomatch q⟩
    · rw [z]; exact ⟨o, ho, fun v q => by rw [hd] at q; cases q⟩
  keep := fun i h h' st k => let ⟨⟨old, he⟩, hi, hne⟩ := st; ⟨⟨old, k e (by simp) _ he⟩, hi.at fun o q => k it (by simp) o q, hne⟩
  item := by
    intro X hP hw hK hc i pins s σ H E I hf st hg
    subst hP hw hK
    obtain ⟨⟨old, he⟩, hit, hne⟩ := st
    obtain ⟨xs, x, hq, hx⟩ := hg
    obtain ⟨its, rv, p, hz⟩ := I.list hq
    obtain ⟨u, hu, ru⟩ := rv.get hx
    have hel : e < s.heap.objs.size := Heap.lt_size he
    have hil : it < s.heap.objs.size := by obtain ⟨_, q, _⟩ := hit; exact Heap.lt_size q
    refine wpAny_pyNext_enum_item he hit p.isList (x := u) (by simpa using hu) hne fun h' ho hit' hT hsz hk => ?_
    refine ⟨_, rfl, wpAny_letOwnedTupleGo_enum (s := { s with heap := h', toks := s.toks + 1 }) ho fun h'' he' sb => ?_⟩
    have hT2 : h''.get? s.heap.objs.size = some { cls := .type "tuple", data := .seq #[.int i s.toks, u] } := (sb.2 _ (Nat.ne_of_gt hel)).trans hT
    have new : ObjOk X.prog X.w (upd H s.heap.objs.size (.tup [.int (i : Nat), x])) h'' s.heap.objs.size (.tup [.int (i : Nat), x]) :=
      ⟨by show 2 ≤ sizeLine; decide, [.int i s.toks, u], .cons ⟨_, rfl⟩ (.cons ru .nil), ⟨_, hT2, rfl, _, rfl⟩⟩
    have I1 : Inv X pins σ (upd H s.heap.objs.size (.tup [.int (i : Nat), x])) { s with heap := h'', toks := s.toks + 1 } :=
      I.turnedNew (ch := [e, it]) (fun b ob hb q => (sb.2 b (fun z => hb (by simp [z]))).trans (hk b ob (fun z => hb (by simp [z])) (fun z => hb (by simp [z])) q)) hf (Nat.le_refl _) new
    refine ⟨.ref s.heap.objs.size, _, I1, rfl, ⟨_, x, rfl, I.hok.fresh (Nat.le_refl _), rfl, fun ys hy => by rw [I.list_inj hy hq]; exact hx⟩, ⟨⟨u, ?_⟩, hit'.at fun o q => (sb.2 it (Ne.symm hne)).trans q, hne⟩, fun b hb => ?_⟩
    · have e1 : ((i + 1 : Nat) : Int) = (i : Int) + 1 := by omega
      rw [e1]; exact he'
    · have hb' : b < s.heap.objs.size := by
        have e' : b = e ∨ b = it := by simpa using hb
        rcases e' with z | z
        · rw [z]; exact hel
        · rw [z]; exact hil
      rw [upd_ne (Nat.ne_of_lt hb')]
      exact (hf b hb).1
  done := by
    intro X hP hw hK hc i pins s σ H E I hf st hg
    subst hP hw hK
    obtain ⟨⟨old, he⟩, hit, hne⟩ := st
    obtain ⟨xs, hq, hx⟩ := hg
    obtain ⟨its, rv, p, hz⟩ := I.list hq
    obtain ⟨f0, f1, f2, f3, f4, f5⟩ := hf it (by simp)
    have hl := rv.length
    exact wpAny_pyNext_enum_end (I.ok.hd hc) he hit p.isList (by simp; omega) fun h' eb => ⟨rfl, I.turned (t' := s.toks) (fun b o hb q => eb b o hb q) f0 f1 f3 f4 f5⟩
  self := fun A i s Q E st h => let ⟨⟨_, he⟩, _⟩ := st; wpAny_pyIter_enum he h
def iEnum (K : PySem.W.Frag) (ta : TA) : TI := fun σ H R => ta σ H fun vs H1 => ∃ a xs, vs = [.ref a] ∧ SqL K H1 a xs ∧ R (Ite K a) H1
theorem pi_enum {X : Cx} {e : Expr} {ta : TA} {p pos tpos : Pos} {elts : List Expr} {kk : Nat} (hg : Gl X "enumerate") (hm : X.mg "enumerate" = none) (ha : PA X [e] ta) (hs : starEach [e] X.env = [(false, eval e X.env)] := by rfl) :
    PI X (.Tuple elts kk tpos) (.Call (.Name "enumerate" p) [e] [] pos) (iEnum X.K ta) := by
  intro pins s σ H R I h
  refine Call_ (ld_blt I hg hm boot_enumerate (PyProof.Rows.callWith_type1 (thn (ha pos pins s σ H _ I h) fun us s1 ⟨vs, H1, I1, r1, q1⟩ => ?_) hs rfl))
  obtain ⟨a, xs, ex, hq, q⟩ := q1
  subst ex
  cases r1 with
  | cons r rr =>
    cases rr
    cases r
    obtain ⟨its, rv, p', hz⟩ := I1.list hq
    refine call_enumerate_list p'.isList fun h' he hit hsz hk => wpAny_pyIter_enum he ?_
    have I2 : Inv X pins σ H1 { s1 with heap := h' } := I1.kept (t' := s1.toks) hk
    refine ⟨s1.heap.objs.size + 1, [s1.heap.objs.size + 1, s1.heap.objs.size], _, _, H1, rfl, I2, turn_enum a (s1.heap.objs.size + 1) s1.heap.objs.size, ⟨⟨.none, he⟩, hit, Nat.succ_ne_self _⟩, fun b hb => ?_, q⟩
    have e' : b = s1.heap.objs.size + 1 ∨ b = s1.heap.objs.size := by simpa using hb
    have hle : s1.heap.objs.size ≤ b := by
      rcases e' with z | z
      · rw [z]; exact Nat.le_add_right _ _
      · rw [z]; exact Nat.le_refl _
    exact I1.fpOk hle (I1.hok.fresh hle)
/-! ### zip(list, list) -/
/-- the lists at a and b as they stand at each turn, the items in new pairs -/
def Itz (K : PySem.W.Frag) (a b : Addr) : It :=
  ⟨fun i H => ∃ (xs ys : List V) (x y : V), SqL K H a xs ∧ SqL K H b ys ∧ xs[i]? = some x ∧ ys[i]? = some y,
    fun i H v H' => ∃ T x y, v = .ref T ∧ H T = none ∧ H' = upd H T (.tup [x, y]) ∧ (∀ xs, SqL K H a xs → xs[i]? = some x) ∧ ∀ ys, SqL K H b ys → ys[i]? = some y,
    fun i H => ∃ xs ys : List V, SqL K H a xs ∧ SqL K H b ys ∧ (xs.length ≤ i ∨ ys.length ≤ i)⟩
def iZip (K : PySem.W.Frag) (ta : TA) : TI := fun σ H R => ta σ H fun vs H1 => ∃ a b xs ys, vs = [.ref a, .ref b] ∧ SqL K H1 a xs ∧ SqL K H1 b ys ∧ R (Itz K a b) H1
end L2

section 
namespace Bits
open PySem PyProof.Rows

end Bits
end 

section 
namespace TL
open PySem PySem.Builtin PySem.Builtin.Str PySem.StrLaws

abbrev tl (x : Str) : List Nat := x.cps.toList

/-! ### the list functions -/
/-- S stands at the head of l -/
def pre (S l : List Nat) : Bool := l.take S.length == S
/-- l cut at each S from the left; k signs are still to be passed over -/
def spl (S : List Nat) : Nat → List Nat → List Nat → List (List Nat)
  | _, acc, [] => [acc]
  | 0, acc, c :: r => if pre S (c :: r) = true then acc :: spl S (S.length - 1) [] r else spl S 0 (acc ++ [c]) r
  | k + 1, acc, _ :: r => spl S k acc r
/-- what stands before the first S, and behind it -/
def par (S : List Nat) : List Nat → List Nat → Option (List Nat × List Nat)
  | _, [] => none
  | acc, c :: r => if pre S (c :: r) = true then some (acc, (c :: r).drop S.length) else par S (acc ++ [c]) r

/-! ### the model's split and partition are these -/

/-! ### computing spl and par -/

/-- joined lists -/
def joinL (S : List Nat) : List (List Nat) → List Nat
  | [] => []
  | [p] => p
  | p :: q :: r => p ++ (S ++ joinL S (q :: r))

/-! ### digits -/
/-- the signs of a number -/
def numL (n : Nat) : List Nat := (Nat.toDigits 10 n).map Char.toNat

/-! ### words: x.split() -/
def wstep (st : List (List Nat) × List Nat) (c : Nat) : List (List Nat) × List Nat :=
  if Unicode.isSpace c = true then (if st.2 = [] then st else (st.1 ++ [st.2], [])) else (st.1, st.2 ++ [c])
def wfin (st : List (List Nat) × List Nat) : List (List Nat) := if st.2 = [] then st.1 else st.1 ++ [st.2]
end TL
end 

namespace L2
open PySem PySem.Spec PyProof.Rows

/-- a new list of texts, tracked -/
def rNewStrs (ys : List Str) : Hp → VK → Prop := fun H Q => ∀ p, H p = none → Q (.ref p) (upd H p (.lst (ys.map V.str)))

section
variable {X : Cx} {pins : List (Addr × Obj)} {σ : St} {H : Hp} {s : Shared} {Q : VK}
end

section
variable {X : Cx}

/-! ### of a text alone -/

/-! ### of a text and a text -/

end

section
variable {X : Cx} {o e : Expr} {to te : TE}
def tM0 (r : V → List V → Hp → VK → Prop) (to : TE) : TE := fun σ H Q => to σ H fun x H1 => (∃ a, x = .str a) ∧ r x [] H1 Q
def tM1 (r : V → List V → Hp → VK → Prop) (to te : TE) : TE := fun σ H Q => to σ H fun x H1 => (∃ a, x = .str a) ∧ te σ H1 fun y H2 => r x [y] H2 Q

end
end L2

namespace L2
open PySem PySem.Spec PyProof.Rows

section
variable {X : Cx}
end

/-! ### slices of a text -/

/-- a part, clipped, as the text's slice reckons it -/
def clipS (n d : Nat) : Option Int → Int
  | none => (d : Int)
  | some i => max 0 (min (if i < 0 then i + (n : Int) else i) (n : Int))

/-- z[lo:hi] -/
def cutS (z : Str) (lo hi : Option Int) : Str :=
  ⟨((z.cps.toList.drop (HT.sIx z.length 0 lo)).take (HT.sIx z.length z.length hi - HT.sIx z.length 0 lo)).toArray⟩
def rSlS : V → Option Int → Option Int → Hp → VK → Prop := fun x lo hi H Q => ∃ z, x = .str z ∧ z.length ≤ sizeLine ∧ Q (.str (cutS z lo hi)) H
end L2

namespace Att
open PySem PySem.W PySem.Calls PyProof.Rows

/-! ### the script -/

/-! ### the attachment: holds_open's last premise (the goal 'hc' behind k_head) from a wpAny of the law's body -/

/-! ### rules over ANY heap (no ledger) from facts about the written part K: the library's own take a ledger (News) for what they write -/
section
variable {prog : Program} {w : World} {A : Around} {E : Value → Shared → Prop} {s : Shared} {K : Frag}

/-! the whole heap as the ledger: makes every rule that writes through a ledger a rule over any heap -/
def noObjs (h : Heap) : Heap := { h with objs := #[] }
def ledger (h : Heap) (L d : Addr) : List (Addr × Obj) := (List.range h.objs.size).filterMap fun a => if a = L ∨ a = d then none else (h.get? a).map fun o => (a, o)

end
end Att

namespace L2
open PySem PySem.Spec PyProof.Rows

/-- nothing is tracked but the script, known to the object (or it is an object of the module) -/
def Only (H : Hp) : Prop := ∀ b, H b = none ∨ ∃ o xs, H b = some (.frz o (.lst xs))

end L2

namespace L2
open PySem PySem.Spec PyProof.Rows

abbrev KOf {K : PySem.W.Frag} {h : Heap} (_ : K.In h) : PySem.W.Frag := K

end L2

/- THE LAST THEOREM (shape; LID, My.* are yours):
   My.Adr: a structure of the addresses that your layer names (classes, functions); My.Txt K t: a structure (Prop) of the equations over K;
   My.txt_mk : {K} {implicit addresses ..} (e1 : nsIn K mainGlobals "law" = some (some (.ref f))) (e2 : K.lookup f = some ⟨oc, od, .func (fnOf "law" "law" params body scope dV kV doc pm an cdv ct), sl⟩) (e3 : codeIn K cdv "law" = true) .. : ∃ t, My.Txt K t

set_option maxRecDepth 100000 in
set_option maxHeartbeats 0 in
theorem PySem.Challenge.cw_LID_holds : PySem.Challenge.rw_LID.Holds := by
  w_on; o_law; k_head; (case hw => w_witness2)
  k_fill
  refine L2.walk_of (l := PySem.Challenge.rw_LID) (n := 63) (k := 40) (x := "script") (CX := fun w => ..) (sp := fun _ => My.sp_law) rfl (by decide) rfl ⟨rfl, by decide, by decide⟩ (fun w h Y => PySem.W.kIn_of Y) ?F ?S ?C
  case F =>
    intro w mg fa h KX G hmg
    have T : ∃ t, My.Txt (L2.KOf KX) t := by
      dsimp only [L2.KOf]                          -- K must stand as «<heap const> w.params» for k_is
      refine' My.txt_mk ?e1 ?e2 ?e3 ..
      (case e1 => PySem.W.k_is)                    -- in the order: a name -> its address -> its object -> its parts
      (case e2 => PySem.W.k_is)
      ..
    obtain ⟨t, T⟩ := T
    have e0 := hmg.symm.trans (PySem.W.mg_of KX G T.law)
    cases e0                                       -- fa is the law's own address
    exact ⟨_, fun s u => .of_eq rfl, fun base kb nb => My.law_fn T kb nb⟩     -- if «.of_eq rfl» comes too early: refine' ⟨_, ?b, fun base kb nb => My.law_fn T kb nb⟩; exact fun s u => .of_eq rfl
  case S => exact fun w H a ns hl hO hS => ..
  case C => exact ..
(the tactic k_is has no namespace: write k_is) -/

/-! SHORT WORDS over the layer: a def of the text, its body, what a loop and a test want. -/
namespace L2
open PySem PySem.Spec PyProof.Rows

/-! ### the text by places -/
/-- the j-th statement of a class's body -/
def inClass (s : Stmt) (j : Nat) : Stmt := match s with
  | .ClassDef _ _ _ body _ _ _ _ _ _ _ => body.getD j (.Pass ⟨0, 0, 0, 0⟩)
  | _ => .Pass ⟨0, 0, 0, 0⟩
def defArgs (s : Stmt) : Arguments := match s with
  | .FunctionDef _ a _ _ _ _ _ _ _ _ => a
  | _ => { posonlyargs := [], args := [], vararg := none, kwonlyargs := [], kw_defaults := [], kwarg := none, defaults := [] }
def defBody (s : Stmt) : List Stmt := match s with
  | .FunctionDef _ _ b _ _ _ _ _ _ _ => b
  | _ => []
def defScope (s : Stmt) : Scope := match s with
  | .FunctionDef _ _ _ _ _ _ sc _ _ _ => sc
  | _ => { kind := .function, names := [], isGenerator := false, isCoroutine := false }

/-! ### no exception leaves a def -/
abbrev CX0 : CXT := fun _ _ _ _ _ _ => False
abbrev E0 : XK := fun _ _ _ => False
theorem pass0 {X : Cx} : Passes CX0 X E0 := fun _ _ _ _ _ _ _ h => h.elim

/-! ### a def (or method) of the text as it stands behind the top -/
structure Fun (K : PySem.W.Frag) (x qual : Str) (st : Stmt) (f : Addr) (fd : FuncData) : Prop where
  ex : ∃ (oc : Value) (od : Option Addr) (kV doc pm : Value) (an : Option Addr) (cdv ct : Value) (osl : Array (Option Value)),
    fd = PySem.W.fnOf x qual (defArgs st) (defBody st) (defScope st) .none kV doc pm an cdv ct ∧ K.lookup f = some ⟨oc, od, .func fd, osl⟩ ∧ PySem.W.codeIn K cdv qual = true
  kp : PySem.W.keepIn K (.ref f) = true
section
variable {P : Program} {w : World} {K : PySem.W.Frag} {mg : Str → Option Value} {base : Heap}
/-- THE RULE for a def: its body as a term of rules, and the reading of that term -/
theorem Fun.ok {x qual : Str} {st : Stmt} {f : Addr} {fd : FuncData} {N ps : List Str} {k : Nat} {sp : Sp} (F : Fun K x qual st f fd) (S : FnScope N ps (defScope st)) (len : ∀ vs H Q E, sp vs H Q E → vs.length = ps.length)
    (hbody : ∀ (cdv : Value) (A : Around) (outer : List Env) (s : Shared) (H : Hp) (vs : List V) (Q : VK) (E : XK), Room k (A.deeper (envOfC qual (defScope st) s.heap.objs.size f cdv)) → sp vs H Q E →
      ∃ t, PSs (cxOf CX0 P w K mg base N qual (defScope st) f cdv A outer s H E).nox (defBody st) t ∧ t { nx := fun _ H' => Q .non H', rt := Q } (start N vs) H) : FnOk P w K mg base CX0 (k + 1) f fd ps sp := by
  obtain ⟨oc, od, kV, doc, pm, an, cdv, ct, osl, rfl, lk, hcd⟩ := F.ex
  refine fn_of lk hcd S len fun A outer s H vs Q E hr hsp => ?_
  obtain ⟨t, h, q⟩ := hbody cdv A outer s H vs Q E hr hsp
  exact ⟨t, h.nox, q⟩
/-- how its arguments bind (no defaults): h is «fun _ _ _ _ _ _ us hl => match us, hl with | [_, _], _ => rfl», one _ a parameter -/
theorem Fun.binds {x qual : Str} {st : Stmt} {f : Addr} {fd : FuncData} {ps : List Str} (F : Fun K x qual st f fd)
    (h : ∀ (kV doc pm : Value) (an : Option Addr) (cdv ct : Value) (us : List Value), us.length = ps.length → bindArgs (PySem.W.fnOf x qual (defArgs st) (defBody st) (defScope st) .none kV doc pm an cdv ct) ⟨us, []⟩ = pure (ps.zip us)) : Binds K fd ps [] := by
  obtain ⟨oc, od, kV, doc, pm, an, cdv, ct, osl, rfl, lk, hcd⟩ := F.ex
  exact .all (h kV doc pm an cdv ct)
theorem fun_mk {x qual : Str} {st : Stmt} {f : Addr} {oc : Value} {od an : Option Addr} {osl : Array (Option Value)} {kV doc pm cdv ct : Value} (l : K.lookup f = some ⟨oc, od, .func (PySem.W.fnOf x qual (defArgs st) (defBody st) (defScope st) .none kV doc pm an cdv ct), osl⟩)
    (c : PySem.W.codeIn K cdv qual = true) (k : PySem.W.keepIn K (.ref f) = true) : Fun K x qual st f (PySem.W.fnOf x qual (defArgs st) (defBody st) (defScope st) .none kV doc pm an cdv ct) := ⟨⟨oc, od, kV, doc, pm, an, cdv, ct, osl, rfl, l, c⟩, k⟩
end
theorem small1000 {n : Nat} (h : n ≤ 1000) : n < sizeLine := Nat.lt_of_le_of_lt h (by decide)

/-! ### expressions in short: the name that stands in the i-th slot -/
section
variable {X : Cx}
theorem pv (i : Nat) {x : Str} {pos : Pos} (hN : X.N[i]? = some x := by rfl) (hv : Vis X.env.scope x := by first | exact Or.inl rfl | exact Or.inr (Or.inl rfl) | exact Or.inr (Or.inr rfl)) (hd : (x == ("__debug__" : Str)) = false := by decide)
    (hcd : (x == ("__classdict__" : Str)) = false := by decide) : PE X (.Name x pos) (tVar i) := pe_var hN hv hd hcd
end

/-! ### tests -/
theorem iteF {A B : Prop} (h : B) : if false = true then A else B := by
  rw [if_neg Bool.false_ne_true]
  exact h
theorem iteT {A B : Prop} (h : A) : if true = true then A else B := by
  rw [if_pos rfl]
  exact h
theorem ite2 {c A B : Prop} [Decidable c] (h1 : c → A) (h2 : ¬ c → B) : if c then A else B := by
  by_cases h : c
  · rw [if_pos h]
    exact h1 h
  · rw [if_neg h]
    exact h2 h

/-! ### heaps -/
/-- all that was tracked is as it was -/
def Same (H H' : Hp) : Prop := ∀ b o, H b = some o → H' b = some o
theorem Same.trans {H H1 H2 : Hp} (a : Same H H1) (b : Same H1 H2) : Same H H2 := fun c o h => b c o (a c o h)
theorem Same.free {H H' : Hp} (e : Same H H') {l : Addr} (h : H' l = Option.none) : H l = Option.none := by
  cases q : H l with
  | none => rfl
  | some o =>
    rw [e l o q] at h
    cases h
theorem Same.seq {K : PySem.W.Frag} {H H' : Hp} {a : Addr} {xs : List V} (e : Same H H') (h : SqL K H a xs) : SqL K H' a xs := by
  rcases h with (h | ⟨o, h⟩) | h
  · exact .inl (.inl (e _ _ h))
  · exact .inl (.inr ⟨o, e _ _ h⟩)
  · exact .inr h

/-! ### a dict's pairs: keys that differ -/
section
variable {κ : Type} [DecidableEq κ]
end
/-! ### lists -/
theorem at_of {xs : List V} {z : Int} {j : Nat} {v : V} (e : z = (j : Int)) (h : xs[j]? = some v) : atI xs z = some v := by
  rw [e]
  exact atI_nat h
/-- a new instance and its __init__ leave all that was tracked as it was -/
theorem Same.made {H H1 : Hp} {x dx C : Addr} (nx : H x = Option.none) (nd : H dx = Option.none) (k : ∀ b o, (upd (upd H dx (.own x)) x (.ins C dx [])) b = some o → b ≠ x → H1 b = some o) : Same H H1 := fun b o e =>
  k b o (by rw [upd_ne (ne_of_none e nx), upd_ne (ne_of_none e nd)]; exact e) (ne_of_none e nx)
end L2

set_option maxHeartbeats 1000000
section
set_option Elab.async false
set_option linter.all false
set_option maxRecDepth 100000
set_option maxHeartbeats 2000000
namespace L2
open PySem PySem.Spec PyProof.Rows
open PySem.W (WData Codec OpenSpec Well WellAll ReadsW ReadsAllW)
/-! ### an answer as data -/
mutual
/-- x stands for the datum d, lists and tuples all the way -/
inductive Dw (K : PySem.W.Frag) (H : Hp) : V → WData → Prop
  | non : Dw K H .non .none
  | bl (b : Bool) : Dw K H (.bl b) (.bool b)
  | int (i : Int) : Dw K H (.int i) (.int i)
  | str (x : Str) : Dw K H (.str x) (.str x)
  | byt (b : Array UInt8) : Dw K H (.byt b) (.bytes b.toList)
  | lst {a : Addr} {xs : List V} {ds : List WData} : SqL K H a xs → DwAll K H xs ds → Dw K H (.ref a) (.list ds)
  | tup {a : Addr} {xs : List V} {ds : List WData} : SqT K H a xs → DwAll K H xs ds → Dw K H (.ref a) (.tuple ds)
inductive DwAll (K : PySem.W.Frag) (H : Hp) : List V → List WData → Prop
  | nil : DwAll K H [] []
  | cons {v : V} {vs : List V} {d : WData} {ds : List WData} : Dw K H v d → DwAll K H vs ds → DwAll K H (v :: vs) (d :: ds)
end
theorem dw_ints {K : PySem.W.Frag} {H : Hp} : ∀ ns : List Int, DwAll K H (ns.map V.int) (ns.map WData.int)
  | [] => .nil
  | n :: r => .cons (.int n) (dw_ints r)
theorem ints_dw {K : PySem.W.Frag} {H : Hp} : ∀ (ns : List Int) (xs : List V), DwAll K H xs (ns.map WData.int) → xs = ns.map V.int
  | [], xs, h => by
    cases h
    rfl
  | n :: r, xs, h => by
    cases h with
    | cons h1 h2 =>
      cases h1
      rw [ints_dw r _ h2] <;> rfl
section
variable {P : Program} {w : World} {K : PySem.W.Frag} {H : Hp} {h : Heap} {R : PySem.W.WRecords} {cl : Str → Option Addr}
theorem sqL_at {a : Addr} {xs : List V} (hok : HOk P w H h) (KX : K.In h) (q : SqL K H a xs) : ∃ (its : List Value) (o : Obj) (n : Nat), Vals xs its ∧ h.get? a = some o ∧ o.cls = .type "list" ∧ o.data = .seq its.toArray n := by
  rcases q with q | ⟨o, its, n, e, hc, _, hd, _, hv⟩
  · obtain ⟨_, its, n, hv, e⟩ := (show ObjOk P w H h a (.lst xs) from q.ok hok)
    exact ⟨its, _, n, hv, e, rfl, rfl⟩
  · exact ⟨its.toList, o, n, hv, KX _ _ e, hc, by simp [hd]⟩
theorem sqT_at {a : Addr} {xs : List V} (hok : HOk P w H h) (KX : K.In h) (q : SqT K H a xs) : ∃ (its : List Value) (o : Obj) (n : Nat), Vals xs its ∧ h.get? a = some o ∧ o.cls = .type "tuple" ∧ o.data = .seq its.toArray n := by
  rcases q with q | ⟨o, its, n, e, hc, hd, _, hv⟩
  · obtain ⟨_, its, hv, o, e, hc, n, hd⟩ := (show ObjOk P w H h a (.tup xs) from q.ok hok)
    exact ⟨its, o, n, hv, e, hc, hd⟩
  · exact ⟨its.toList, o, n, hv, KX _ _ e, hc, by simp [hd]⟩
mutual
theorem Dw.reads (hok : HOk P w H h) (KX : K.In h) : ∀ (d : WData) (v : V) (u : Value), Dw K H v d → RelV v u → ∃ as, ReadsW R cl h u d as
  | .none, _, _, x, r => by
    cases x
    cases r
    exact ⟨_, ReadsW.none⟩
  | .bool b, _, _, x, r => by
    cases x
    cases r
    exact ⟨_, ReadsW.bool b⟩
  | .int i, _, _, x, r => by
    cases x
    obtain ⟨t, rfl⟩ := r
    exact ⟨_, ReadsW.int i t⟩
  | .str s, _, _, x, r => by
    cases x
    obtain ⟨t, rfl⟩ := r
    exact ⟨_, ReadsW.str s t⟩
  | .bytes b, _, _, x, r => by
    cases x
    obtain ⟨t, rfl⟩ := r
    exact ⟨_, ReadsW.bytes _ t⟩
  | .list ds, _, _, x, r => by
    cases x with
    | lst hs ha =>
      cases r
      obtain ⟨its, o, n, rv, ho, hc, hd⟩ := sqL_at hok KX hs
      obtain ⟨as, hr⟩ := Dw.readsAll hok KX ds _ its ha rv
      exact ⟨_, ReadsW.list ho hc hd hr⟩
  | .tuple ds, _, _, x, r => by
    cases x with
    | tup hs ha =>
      cases r
      obtain ⟨its, o, n, rv, ho, hc, hd⟩ := sqT_at hok KX hs
      obtain ⟨as, hr⟩ := Dw.readsAll hok KX ds _ its ha rv
      exact ⟨_, ReadsW.tuple ho hc hd hr⟩
  | .float _, _, _, x, _ => by cases x
  | .dict _, _, _, x, _ => by cases x
  | .bytearray _, _, _, x, _ => by cases x
  | .set _, _, _, x, _ => by cases x
  | .frozenset _, _, _, x, _ => by cases x
  | .obj _ _, _, _, x, _ => by cases x
theorem Dw.readsAll (hok : HOk P w H h) (KX : K.In h) : ∀ (ds : List WData) (vs : List V) (us : List Value), DwAll K H vs ds → Vals vs us → ∃ as, ReadsAllW R cl h us ds as
  | [], _, _, x, r => by
    cases x
    cases r
    exact ⟨_, ReadsAllW.nil⟩
  | d :: ds, _, _, x, r => by
    cases x with
    | cons h1 h2 =>
      cases r with
      | cons r1 r2 =>
        obtain ⟨as, q1⟩ := Dw.reads hok KX d _ _ h1 r1
        obtain ⟨bs, q2⟩ := Dw.readsAll hok KX ds _ _ h2 r2
        exact ⟨_, ReadsAllW.cons q1 q2⟩
end
end
/-! ### the arguments -/
mutual
/-- data that a codec tells -/
def plW : WData → Bool
  | .none => true
  | .bool _ => true
  | .int _ => true
  | .str _ => true
  | .bytes _ => true
  | .list xs => plWs xs
  | .tuple xs => plWs xs
  | _ => false
def plWs : List WData → Bool
  | [] => true
  | x :: r => plW x && plWs r
end
theorem plWs_map {α : Type} {f : α → WData} (h : ∀ a, plW (f a) = true) : ∀ l : List α, plWs (l.map f) = true
  | [] => rfl
  | x :: r => by
    show (plW (f x) && plWs (r.map f)) = true
    rw [h x, plWs_map h r] <;> rfl
theorem pl_enc : ∀ (c : Codec) (a : c.denote), plW (c.enc a) = true
  | .unit, _ => rfl
  | .bool, _ => rfl
  | .int _ _, _ => rfl
  | .nat _ _, _ => rfl
  | .u8, _ => rfl
  | .bytes _ _, _ => rfl
  | .text _ _ _ _, _ => rfl
  | .list _ _ c, a => plWs_map (fun x => pl_enc c x) a
  | .pair c d, a => by
    show (plW (c.enc a.1) && (plW (d.enc a.2) && true)) = true
    rw [pl_enc c a.1, pl_enc d a.2] <;> rfl
  | .triple c d e, a => by
    show (plW (c.enc a.1) && (plW (d.enc a.2.1) && (plW (e.enc a.2.2) && true))) = true
    rw [pl_enc c a.1, pl_enc d a.2.1, pl_enc e a.2.2] <;> rfl
  | .option c, none => rfl
  | .option c, some x => pl_enc c x
theorem pl_encAll : ∀ (cs : List Codec) (a : Codec.denoteAll cs), plWs (Codec.encAll cs a) = true
  | [], _ => rfl
  | c :: cs, a => by
    show (plW (c.enc a.1) && plWs (Codec.encAll cs a.2)) = true
    rw [pl_enc c a.1, pl_encAll cs a.2] <;> rfl
theorem weight_mem : ∀ {xs : List WData} {d : WData}, d ∈ xs → d.weight ≤ WData.weightAll xs
  | [], d, h => absurd h (by simp)
  | x :: r, d, h => by
    show d.weight ≤ x.weight + 1 + WData.weightAll r
    rcases List.mem_cons.mp h with e | m
    · rw [e]
      omega
    · have z := weight_mem m
      omega
def toV : Value → V
  | .none => .non
  | .bool b => .bl b
  | .int i _ => .int i
  | .str x _ => .str x
  | .bytes b _ => .byt b
  | .ref a => .ref a
  | _ => .non
/-- a value of the arguments, its objects among A -/
def OkU (A : List Addr) : Value → Prop
  | .none => True
  | .bool _ => True
  | .int _ _ => True
  | .str _ _ => True
  | .bytes _ _ => True
  | .ref a => a ∈ A
  | _ => False
theorem OkU.mono {A B : List Addr} (h : ∀ a ∈ A, a ∈ B) : ∀ {u : Value}, OkU A u → OkU B u := fun {u} x => by
  cases u with
  | ref a => exact h a x
  | none => trivial
  | bool b => trivial
  | int i t => trivial
  | str s t => trivial
  | bytes b t => trivial
  | _ => exact False.elim x
theorem relV_toV {A : List Addr} {u : Value} (x : OkU A u) : RelV (toV u) u := by
  cases u with
  | ref a => rfl
  | none => rfl
  | bool b => rfl
  | int i t => exact ⟨t, rfl⟩
  | str s t => exact ⟨t, rfl⟩
  | bytes b t => exact ⟨t, rfl⟩
  | _ => exact False.elim x
theorem vals_toV {A : List Addr} : ∀ {vs : List Value}, (∀ u ∈ vs, OkU A u) → Vals (vs.map toV) vs
  | [], _ => .nil
  | u :: r, h => .cons (relV_toV (h u (List.mem_cons_self ..))) (vals_toV fun x hx => h x (List.mem_cons_of_mem _ hx))
/-- an object of the arguments -/
def ArgOb (h : Heap) (A : List Addr) (a : Addr) : Prop := ∃ vs : List Value, vs.length ≤ sizeLine ∧ (∀ u ∈ vs, OkU A u) ∧
  (h.get? a = some { cls := .type "list", data := .seq vs.toArray } ∨ h.get? a = some { cls := .type "tuple", data := .seq vs.toArray })
theorem ArgOb.mono {h : Heap} {A B : List Addr} {a : Addr} (k : ∀ a ∈ A, a ∈ B) (x : ArgOb h A a) : ArgOb h B a := by
  obtain ⟨vs, h1, h2, h3⟩ := x
  exact ⟨vs, h1, fun u hu => (h2 u hu).mono k, h3⟩
theorem wellAll_len {P : Params} {h : Heap} : ∀ {vs : List Value} {ds : List WData}, WellAll P h vs ds → vs.length = ds.length
  | _, _, .nil => rfl
  | _, _, .cons _ b => by
    show _ + 1 = _ + 1
    rw [wellAll_len b]
theorem well_list {P : Params} {h : Heap} {v : Value} {ds : List WData} (x : Well P h v (.list ds)) : ∃ (a : Addr) (vs : List Value), v = .ref a ∧ h.get? a = some { cls := .type "list", data := .seq vs.toArray } ∧ WellAll P h vs ds := by
  cases x with
  | list ho hall => exact ⟨_, _, rfl, ho, hall⟩
theorem well_tuple {P : Params} {h : Heap} {v : Value} {ds : List WData} (x : Well P h v (.tuple ds)) : ∃ (a : Addr) (vs : List Value), v = .ref a ∧ h.get? a = some { cls := .type "tuple", data := .seq vs.toArray } ∧ WellAll P h vs ds := by
  cases x with
  | tuple ho hall => exact ⟨_, _, rfl, ho, hall⟩
theorem well_cons {P : Params} {h : Heap} {us : List Value} {d : WData} {ds : List WData} (x : WellAll P h us (d :: ds)) : ∃ (v : Value) (vs : List Value), us = v :: vs ∧ Well P h v d ∧ WellAll P h vs ds := by
  cases x with
  | cons a b => exact ⟨_, _, rfl, a, b⟩
theorem line_of {n : Nat} (h : n ≤ 1048576) : n ≤ sizeLine := Nat.le_trans h (by decide)
section
variable {P : Params} {h : Heap}
mutual
theorem area_one : ∀ (d : WData) (v : Value), Well P h v d → plW d = true → d.weight ≤ 1048576 → ∃ A : List Addr, OkU A v ∧ ∀ a ∈ A, ArgOb h A a
  | .none, _, x, _, _ => by
    cases x
    exact ⟨[], trivial, fun a m => absurd m (by simp)⟩
  | .bool b, _, x, _, _ => by
    cases x
    exact ⟨[], trivial, fun a m => absurd m (by simp)⟩
  | .int i, _, x, _, _ => by
    cases x
    exact ⟨[], trivial, fun a m => absurd m (by simp)⟩
  | .str s, _, x, _, _ => by
    cases x
    exact ⟨[], trivial, fun a m => absurd m (by simp)⟩
  | .bytes b, _, x, _, _ => by
    cases x
    exact ⟨[], trivial, fun a m => absurd m (by simp)⟩
  | .list ds, _, x, p, z => by
    obtain ⟨a, vs, rfl, ho, hall⟩ := well_list x
    have z2 : WData.weightAll ds ≤ 1048576 := z
    obtain ⟨A, h1, h2⟩ := area_all ds _ hall p fun d hd => Nat.le_trans (weight_mem hd) z2
    have k : ∀ b ∈ A, b ∈ a :: A := fun b hb => List.mem_cons_of_mem _ hb
    refine ⟨a :: A, List.mem_cons_self .., fun b hb => ?_⟩
    rcases List.mem_cons.mp hb with e | m
    · rw [e]
      exact ⟨vs, line_of (by rw [wellAll_len hall]; exact Nat.le_trans (PySem.W.length_le_weightAllW ds) z2), fun u hu => (h1 u hu).mono k, .inl ho⟩
    · exact (h2 b m).mono k
  | .tuple ds, _, x, p, z => by
    obtain ⟨a, vs, rfl, ho, hall⟩ := well_tuple x
    have z2 : WData.weightAll ds ≤ 1048576 := z
    obtain ⟨A, h1, h2⟩ := area_all ds _ hall p fun d hd => Nat.le_trans (weight_mem hd) z2
    have k : ∀ b ∈ A, b ∈ a :: A := fun b hb => List.mem_cons_of_mem _ hb
    refine ⟨a :: A, List.mem_cons_self .., fun b hb => ?_⟩
    rcases List.mem_cons.mp hb with e | m
    · rw [e]
      exact ⟨vs, line_of (by rw [wellAll_len hall]; exact Nat.le_trans (PySem.W.length_le_weightAllW ds) z2), fun u hu => (h1 u hu).mono k, .inr ho⟩
    · exact (h2 b m).mono k
  | .float _, _, _, p, _ => Bool.noConfusion (show false = true from p)
  | .dict _, _, _, p, _ => Bool.noConfusion (show false = true from p)
  | .bytearray _, _, _, p, _ => Bool.noConfusion (show false = true from p)
  | .set _, _, _, p, _ => Bool.noConfusion (show false = true from p)
  | .frozenset _, _, _, p, _ => Bool.noConfusion (show false = true from p)
  | .obj _ _, _, _, p, _ => Bool.noConfusion (show false = true from p)
theorem area_all : ∀ (ds : List WData) (vs : List Value), WellAll P h vs ds → plWs ds = true → (∀ d ∈ ds, d.weight ≤ 1048576) → ∃ A : List Addr, (∀ u ∈ vs, OkU A u) ∧ ∀ a ∈ A, ArgOb h A a
  | [], _, x, _, _ => by
    cases x
    exact ⟨[], fun u m => absurd m (by simp), fun a m => absurd m (by simp)⟩
  | d :: ds, _, x, p, z => by
    obtain ⟨v, vs, rfl, x1, x2⟩ := well_cons x
    have q : plW d = true ∧ plWs ds = true := Bool.and_eq_true_iff.mp p
    obtain ⟨A, a1, a2⟩ := area_one d v x1 q.1 (z d (List.mem_cons_self ..))
    obtain ⟨B, b1, b2⟩ := area_all ds vs x2 q.2 fun e he => z e (List.mem_cons_of_mem _ he)
    have kA : ∀ b ∈ A, b ∈ A ++ B := fun b hb => List.mem_append.mpr (.inl hb)
    have kB : ∀ b ∈ B, b ∈ A ++ B := fun b hb => List.mem_append.mpr (.inr hb)
    refine ⟨A ++ B, fun u hu => ?_, fun b hb => ?_⟩
    · rcases List.mem_cons.mp hu with e | m
      · rw [e]
        exact a1.mono kA
      · exact (b1 u m).mono kB
    · rcases List.mem_append.mp hb with m | m
      · exact (a2 b m).mono kA
      · exact (b2 b m).mono kB
end
end
/-- what is tracked of an argument's object -/
def hoOf (o : Obj) : Option HO := match o.data with
  | .seq vs _ => if (o.cls == Value.type "list") = true then some (.frz o (.lst (vs.toList.map toV))) else some (.frz o (.tup (vs.toList.map toV)))
  | _ => none
def argH (K : PySem.W.Frag) (h : Heap) (A : List Addr) : Hp := fun b => if b ∈ A then (if (K.lookup b).isNone = true then (h.get? b).bind hoOf else none) else none
/-- nothing is tracked but what is known to the object -/
def OnlyF (H : Hp) : Prop := ∀ b, H b = none ∨ ∃ o u, H b = some (.frz o u)
theorem hoOf_lst (vs : List Value) : hoOf { cls := .type "list", data := .seq vs.toArray } = some (.frz { cls := .type "list", data := .seq vs.toArray } (.lst (vs.map toV))) := by
  show (if (Value.type "list" == Value.type "list") = true then some (HO.frz { cls := .type "list", data := .seq vs.toArray } (.lst (vs.toArray.toList.map toV))) else some (HO.frz { cls := .type "list", data := .seq vs.toArray } (.tup (vs.toArray.toList.map toV)))) = _
  rw [if_pos (beq_self_eq_true _)]
theorem hoOf_tup (vs : List Value) : hoOf { cls := .type "tuple", data := .seq vs.toArray } = some (.frz { cls := .type "tuple", data := .seq vs.toArray } (.tup (vs.map toV))) := by
  show (if (Value.type "tuple" == Value.type "list") = true then some (HO.frz { cls := .type "tuple", data := .seq vs.toArray } (.lst (vs.toArray.toList.map toV))) else some (HO.frz { cls := .type "tuple", data := .seq vs.toArray } (.tup (vs.toArray.toList.map toV)))) = _
  rw [if_neg (by decide)]
section
variable {P : Program} {w : World} {K : PySem.W.Frag} {h : Heap} {A : List Addr}
theorem argH_at {b : Addr} {o : Obj} (hb : b ∈ A) (hk : K.lookup b = none) (e : h.get? b = some o) : argH K h A b = hoOf o := by
  unfold argH
  rw [if_pos hb, hk, if_pos (show (none : Option Obj).isNone = true from rfl), e] <;> rfl
theorem of_argH {b : Addr} {u : HO} (q : argH K h A b = some u) : b ∈ A ∧ K.lookup b = none := by
  unfold argH at q
  by_cases hb : b ∈ A
  · rw [if_pos hb] at q
    cases hk : K.lookup b with
    | none => exact ⟨hb, rfl⟩
    | some o =>
      rw [hk, if_neg (by simp)] at q
      cases q
  · rw [if_neg hb] at q
    cases q
/-- what stands tracked -/
theorem argH_is (ar : ∀ a ∈ A, ArgOb h A a) {b : Addr} {u : HO} (q : argH K h A b = some u) : K.lookup b = none ∧ ∃ vs : List Value, vs.length ≤ sizeLine ∧ (∀ u ∈ vs, OkU A u) ∧
    ((h.get? b = some { cls := .type "list", data := .seq vs.toArray } ∧ u = .frz { cls := .type "list", data := .seq vs.toArray } (.lst (vs.map toV))) ∨
     (h.get? b = some { cls := .type "tuple", data := .seq vs.toArray } ∧ u = .frz { cls := .type "tuple", data := .seq vs.toArray } (.tup (vs.map toV)))) := by
  obtain ⟨hb, hk⟩ := of_argH q
  obtain ⟨vs, h1, h2, h3⟩ := ar b hb
  refine ⟨hk, vs, h1, h2, ?_⟩
  rcases h3 with e | e
  · rw [argH_at hb hk e, hoOf_lst] at q
    exact .inl ⟨e, (Option.some.inj q).symm⟩
  · rw [argH_at hb hk e, hoOf_tup] at q
    exact .inr ⟨e, (Option.some.inj q).symm⟩
theorem argH_only (ar : ∀ a ∈ A, ArgOb h A a) : OnlyF (argH K h A) := fun b => by
  cases q : argH K h A b with
  | none => exact .inl rfl
  | some u =>
    obtain ⟨_, vs, _, _, ⟨_, e⟩ | ⟨_, e⟩⟩ := argH_is ar q
    · exact .inr ⟨_, _, by rw [e]⟩
    · exact .inr ⟨_, _, by rw [e]⟩
theorem argH_ok (ar : ∀ a ∈ A, ArgOb h A a) : HOk P w (argH K h A) h := fun b u q => by
  obtain ⟨_, vs, h1, h2, ⟨e, rfl⟩ | ⟨e, rfl⟩⟩ := argH_is ar q
  · exact ⟨e, by rw [List.length_map]; exact h1, vs, _, vals_toV h2, e⟩
  · exact ⟨e, by rw [List.length_map]; exact h1, vs, vals_toV h2, _, e, rfl, _, rfl⟩
theorem seq_inj {c c' : Value} {vs us : List Value} (e : (some { cls := c, data := .seq vs.toArray } : Option Obj) = some { cls := c', data := .seq us.toArray }) : c = c' ∧ vs = us := by
  have e1 := Option.some.inj e
  have e2 : c = c' := congrArg Obj.cls e1
  have e3 : Data.seq vs.toArray = Data.seq us.toArray := congrArg Obj.data e1
  injection e3 with e4
  refine ⟨e2, ?_⟩
  have e5 := congrArg Array.toList e4
  simpa using e5
/-- a list argument -/
theorem argL (KX : K.In h) (ar : ∀ a ∈ A, ArgOb h A a) {a : Addr} {vs : List Value} (ha : a ∈ A) (e : h.get? a = some { cls := .type "list", data := .seq vs.toArray }) : (∀ u ∈ vs, OkU A u) ∧ SqL K (argH K h A) a (vs.map toV) := by
  obtain ⟨us, h1, h2, h3⟩ := ar a ha
  have hu : us = vs := by
    rcases h3 with q | q
    · rw [e] at q
      exact (seq_inj q).2.symm
    · rw [e] at q
      exact absurd (Value.type.inj (seq_inj q).1) (by decide)
  subst hu
  refine ⟨h2, ?_⟩
  cases hk : K.lookup a with
  | none => exact .inl (.inr ⟨_, by rw [argH_at ha hk e, hoOf_lst]⟩)
  | some o =>
    have e2 := KX a o hk
    rw [e] at e2
    obtain rfl := Option.some.inj e2
    exact .inr ⟨_, us.toArray, _, hk, rfl, rfl, rfl, by rw [List.size_toArray]; exact h1, by simpa using vals_toV h2⟩
theorem argT (KX : K.In h) (ar : ∀ a ∈ A, ArgOb h A a) {a : Addr} {vs : List Value} (ha : a ∈ A) (e : h.get? a = some { cls := .type "tuple", data := .seq vs.toArray }) : (∀ u ∈ vs, OkU A u) ∧ SqT K (argH K h A) a (vs.map toV) := by
  obtain ⟨us, h1, h2, h3⟩ := ar a ha
  have hu : us = vs := by
    rcases h3 with q | q
    · rw [e] at q
      exact absurd (Value.type.inj (seq_inj q).1) (by decide)
    · rw [e] at q
      exact (seq_inj q).2.symm
  subst hu
  refine ⟨h2, ?_⟩
  cases hk : K.lookup a with
  | none => exact .inl (.inr ⟨_, by rw [argH_at ha hk e, hoOf_tup]⟩)
  | some o =>
    have e2 := KX a o hk
    rw [e] at e2
    obtain rfl := Option.some.inj e2
    exact .inr ⟨_, us.toArray, _, hk, rfl, rfl, by rw [List.size_toArray]; exact h1, by simpa using vals_toV h2⟩
mutual
theorem dw_one {Pm : Params} (KX : K.In h) (ar : ∀ a ∈ A, ArgOb h A a) : ∀ (d : WData) (v : Value), Well Pm h v d → plW d = true → OkU A v → Dw K (argH K h A) (toV v) d
  | .none, _, x, _, _ => by
    cases x
    exact .non
  | .bool b, _, x, _, _ => by
    cases x
    exact .bl b
  | .int i, _, x, _, _ => by
    cases x
    exact .int i
  | .str s, _, x, _, _ => by
    cases x
    exact .str s
  | .bytes b, _, x, _, _ => by
    cases x
    have z := Dw.byt (K := K) (H := argH K h A) b.toArray
    exact z
  | .list ds, _, x, p, hu => by
    obtain ⟨a, vs, rfl, ho, hall⟩ := well_list x
    obtain ⟨h2, hs⟩ := argL KX ar hu ho
    exact .lst hs (dw_all KX ar ds _ hall p h2)
  | .tuple ds, _, x, p, hu => by
    obtain ⟨a, vs, rfl, ho, hall⟩ := well_tuple x
    obtain ⟨h2, hs⟩ := argT KX ar hu ho
    exact .tup hs (dw_all KX ar ds _ hall p h2)
  | .float _, _, _, p, _ => Bool.noConfusion (show false = true from p)
  | .dict _, _, _, p, _ => Bool.noConfusion (show false = true from p)
  | .bytearray _, _, _, p, _ => Bool.noConfusion (show false = true from p)
  | .set _, _, _, p, _ => Bool.noConfusion (show false = true from p)
  | .frozenset _, _, _, p, _ => Bool.noConfusion (show false = true from p)
  | .obj _ _, _, _, p, _ => Bool.noConfusion (show false = true from p)
theorem dw_all {Pm : Params} (KX : K.In h) (ar : ∀ a ∈ A, ArgOb h A a) : ∀ (ds : List WData) (vs : List Value), WellAll Pm h vs ds → plWs ds = true → (∀ u ∈ vs, OkU A u) → DwAll K (argH K h A) (vs.map toV) ds
  | [], _, x, _, _ => by
    cases x
    exact .nil
  | d :: ds, _, x, p, hu => by
    obtain ⟨v, vs, rfl, x1, x2⟩ := well_cons x
    have q : plW d = true ∧ plWs ds = true := Bool.and_eq_true_iff.mp p
    exact .cons (dw_one KX ar d v x1 q.1 (hu _ (List.mem_cons_self ..))) (dw_all KX ar ds vs x2 q.2 fun u m => hu u (List.mem_cons_of_mem _ m))
end
end
/-! ### the call -/
theorem spec_call {P : Program} {w : World} {K : PySem.W.Frag} {mg mb : Str → Option Value} {CX : CXT} {k : Nat} {fa : Addr} {fd : FuncData} {ps : List Str} {sp : Sp} {s₁ : Shared} {vals : List Value} {ds : List WData} {R : PySem.W.WRecords} {cl : Str → Option Addr} {d0 : WData}
    (KX : K.In s₁.heap) (hns : s₁.heap.Ns mainGlobals mg) (hb : s₁.heap.Ns builtinsNs mb) (hbb : ∀ x : Str, x ≠ "__name__" → mb x = bootBuiltins x) (hlim : s₁.heap.NoLimit) (hg : s₁.gens = #[])
    (hwl : WellAll w.params s₁.heap vals ds) (hpl : plWs ds = true) (hwt : ∀ d ∈ ds, d.weight ≤ 1048576) (hr : Room k callerA)
    (F : ∀ base : Heap, K.In base → base.Ns mainGlobals mg → FnOk P w K mg base CX k fa fd ps sp) (hbind : ∀ (s : Shared) (us : List Value), us.length = ps.length → BindsTo s fd ⟨us, []⟩ (ps.zip us)) (hlen : ds.length = ps.length)
    (hsp : ∀ (H : Hp) (xs : List V), OnlyF H → DwAll K H xs ds → sp xs H (fun v H' => Dw K H' v d0) fun _ _ _ => False)
    (hCX : ∀ H e s', CX [] H s₁ (fun _ _ _ => False) e s' → False) :
    codeAny (model P w) callerA (.call (.ref fa) ⟨vals, []⟩) (fun r s' => ∃ u as, r = .ok (.ret u) ∧ ReadsW R cl s'.heap u d0 as ∧ OldK s₁.heap s'.heap ∧ s'.os = s₁.os ∧ AllBare s'.gens) s₁ := by
  obtain ⟨A, ho, ar⟩ := area_all ds vals hwl hpl hwt
  have hO : OnlyF (argH K s₁.heap A) := argH_only ar
  have hok : HOk P w (argH K s₁.heap A) s₁.heap := argH_ok ar
  have hS := dw_all KX ar ds vals hwl hpl ho
  have hV := vals_toV ho
  have hK : ∀ b u, argH K s₁.heap A b = some u → K.lookup b = none := fun b u q => (argH_is ar q).1
  have noA : ∀ {b : Addr} {o : Obj} {es : Array DictEntry} {ep : Nat}, s₁.heap.get? b = some o → o.data = .dict es ep → argH K s₁.heap A b = none := fun {b o es ep} e d => by
    cases q : argH K s₁.heap A b with
    | none => rfl
    | some u =>
      obtain ⟨_, vs, _, _, ⟨e2, _⟩ | ⟨e2, _⟩⟩ := argH_is ar q
      · rw [e2] at e
        cases e
        have d' : Data.seq vs.toArray _ = Data.dict es ep := d
        cases d'
      · rw [e2] at e
        cases e
        have d' : Data.seq vs.toArray _ = Data.dict es ep := d
        cases d'
  generalize argH K s₁.heap A = H at hO hok hS hK noA
  have base_of : ∀ {b : Addr} {o : Obj}, s₁.heap.get? b = some o → H b = none → (hidT s₁.heap H).get? b = some o := fun e n => hidT_get e n
  have nsK : ∀ {b : Addr} {m : Str → Option Value}, s₁.heap.Ns b m → (hidT s₁.heap H).Ns b m := fun {b m} ⟨o, es, ep, e, d, r⟩ => ⟨o, es, ep, base_of e (noA e d), d, r⟩
  have nK : ∀ b o, K.lookup b = some o → H b = none := fun b o e => by
    cases q : H b with
    | none => rfl
    | some u =>
      rw [hK b u q] at e
      cases e
  have hKb : K.In (hidT s₁.heap H) := fun b o e => base_of (KX b o e) (nK b o e)
  have hM : Mod K mg (hidT s₁.heap H) := ⟨hKb, nsK hns, ⟨mb, nsK hb, hbb⟩, let ⟨mc, h1, h2⟩ := hlim; ⟨mc, nsK h1, h2⟩⟩
  have e0 : Env0 P w K mg (hidT s₁.heap H) callerA [] s₁ H := ⟨rfl, hM, fun b o e => of_hidT e, Nat.le_of_eq (hidT_size _ _), trivial, fun b hb => absurd (show b ∈ ([] : List Addr) from hb) (by simp), hok, .of_eq hg⟩
  have hl : vals.length = ps.length := by rw [wellAll_len hwl]; exact hlen
  refine codeAny_mono ((F _ hKb (nsK hns)).run callerA [] s₁ H ⟨vals, []⟩ vals (vals.map toV) _ _ hr e0 (hbind s₁ vals hl) hV (hsp H _ hO hS)) fun r s' x => ?_
  cases r with
  | error e => exact (hCX H e s' x).elim
  | ok fl =>
    cases fl with
    | next => exact False.elim x
    | brk => exact False.elim x
    | cont => exact False.elim x
    | ret u =>
      obtain ⟨v, H', os, bare, un, hok', r', q⟩ := x
      have kept : ∀ b o, s₁.heap.get? b = some o → s'.heap.get? b = some o := fun b o e => by
        cases q2 : H b with
        | none => exact un.keep b o e q2 (by intro z; exact absurd (show b ∈ ([] : List Addr) from z) (by simp)) (by simp)
        | some u2 =>
          rcases hO b with z | ⟨ob, u3, z⟩
          · rw [q2] at z
            cases z
          · have z2 := un.frzs b ob _ z
            obtain ⟨e1, _⟩ := hok b _ z
            obtain ⟨e2, _⟩ := hok' b _ z2
            rw [e] at e1
            cases e1
            exact e2
      have KX' : K.In s'.heap := fun b o e => kept b o (KX b o e)
      obtain ⟨as, hrd⟩ := Dw.reads (R := R) (cl := cl) hok' KX' d0 v u q r'
      exact ⟨u, as, rfl, hrd, OldK.of_keep kept, os, bare⟩
/-! ### the row -/
theorem layable_weight {ds : List WData} (h : WData.layableAll ds = true) : ∀ d ∈ ds, d.weight ≤ 1048576 := fun d hd =>
  (PySem.W.layableW_iff.mp (List.all_eq_true.mp h d hd)).2.2
theorem encAll_len : ∀ (cs : List Codec) (a : Codec.denoteAll cs), (Codec.encAll cs a).length = cs.length
  | [], _ => rfl
  | c :: cs, a => by
    show (Codec.encAll cs a.2).length + 1 = cs.length + 1
    rw [encAll_len cs a.2]
/-- the goal that k_headS leaves (case hc), from the promise of the row's def: whatever the arguments that the codecs let and the row asks for, the def gives what stands for enc (f ..) -/
theorem walk_spec {r : OpenSpec} {k : Nat} {q : Program} {loose : List Str} {XP : (Str → Option Value) → Heap → Prop} {YP : World → Heap → Prop} {d : DefRec} {K : Params → PySem.W.Frag} {CX : World → CXT} {ps : List Str} {sp : World → Sp}
    (hwell : r.wellSaid = true) (hdf : d.params.defaults = []) (hlen : r.args.length = ps.length) (hr : Room k callerA)
    (hY : ∀ (w : World) (h : Heap), YP w h → (K w.params).In h)
    (F : ∀ (w : World) (mg : Str → Option Value) (fa : Addr) (h : Heap), YP w h → (K w.params).In h → h.Ns mainGlobals mg → mg d.name = some (.ref fa) →
      ∃ fd : FuncData, (∀ (s : Shared) (us : List Value), us.length = ps.length → BindsTo s fd ⟨us, []⟩ (ps.zip us)) ∧
        ∀ base : Heap, (K w.params).In base → base.Ns mainGlobals mg → FnOk r.prog w (K w.params) mg base (CX w) k fa fd ps (sp w))
    (hsp : ∀ (w : World) (H : Hp) (xs : List V) (a : Codec.denoteAll r.args), OnlyF H → Codec.withinAll r.args a = true → Codec.app r.args r.asked a = true → DwAll (K w.params) H xs (Codec.encAll r.args a) →
      sp w xs H (fun v H' => Dw (K w.params) H' v (r.ret.enc (Codec.app r.args r.f a))) fun _ _ _ => False)
    (hCX : ∀ (w : World) (H : Hp) (s : Shared) (e : Value) (s' : Shared), CX w [] H s (fun _ _ _ => False) e s' → False) :
    PySem.W.WalkOS q loose XP YP r d [] (fun f vs => PySem.call f vs) := by
  intro w s_0 s₁ mg mb G Y fa o pm cd doc dV kV ho hd hcd hD hmg hg args vals as hpre hlay hrd hwl hlo
  obtain ⟨a, e1, e2⟩ := PySem.W.os_pre_some hpre
  obtain ⟨e3, hwi⟩ := Codec.encAll_of_decAll r.args args a e1
  subst e3
  have KX := hY w _ Y
  obtain ⟨fd, hb, hF⟩ := F w mg fa _ Y KX G.T.g hmg
  refine PySem.W.enter_call (codeAny_mono (spec_call (R := []) (cl := classAt s_0.heap) (d0 := r.ret.enc (Codec.app r.args r.f a)) KX G.T.g G.T.b G.T.builtins G.T.nolimit hg hwl (pl_encAll _ _) (layable_weight hlay) hr hF hb (by rw [encAll_len]; exact hlen)
    (fun H xs hO hS => hsp w H xs a hO hwi e2 hS) fun H e s' => hCX w H s₁ e s') fun r' s' hq => ?_)
  obtain ⟨u, as', rfl, h1, h2, h3, h4⟩ := hq
  exact ⟨.inl ⟨u, _, as', rfl, fun _ => rfl, h1, (OpenSpec.post_iff hwell hwi _ _).mpr rfl, fun z => Bool.noConfusion (show false = true from z)⟩, h2, h3, h4⟩
/-- the same where the promise hangs on the written part alone -/
theorem walk_specK {r : OpenSpec} {k : Nat} {q : Program} {loose : List Str} {XP : (Str → Option Value) → Heap → Prop} {YP : World → Heap → Prop} {d : DefRec} {K : Params → PySem.W.Frag} {CX : CXT} {ps : List Str} {sp : PySem.W.Frag → Sp}
    (hwell : r.wellSaid = true) (hdf : d.params.defaults = []) (hlen : r.args.length = ps.length) (hr : Room k callerA)
    (hY : ∀ (w : World) (h : Heap), YP w h → (K w.params).In h)
    (F : ∀ (w : World) (mg : Str → Option Value) (fa : Addr) (h : Heap), YP w h → (K w.params).In h → h.Ns mainGlobals mg → mg d.name = some (.ref fa) →
      ∃ fd : FuncData, (∀ (s : Shared) (us : List Value), us.length = ps.length → BindsTo s fd ⟨us, []⟩ (ps.zip us)) ∧
        ∀ base : Heap, (K w.params).In base → base.Ns mainGlobals mg → FnOk r.prog w (K w.params) mg base CX k fa fd ps (sp (K w.params)))
    (hsp : ∀ (K : PySem.W.Frag) (H : Hp) (xs : List V) (a : Codec.denoteAll r.args), OnlyF H → Codec.withinAll r.args a = true → Codec.app r.args r.asked a = true → DwAll K H xs (Codec.encAll r.args a) →
      sp K xs H (fun v H' => Dw K H' v (r.ret.enc (Codec.app r.args r.f a))) fun _ _ _ => False)
    (hCX : ∀ (H : Hp) (s : Shared) (e : Value) (s' : Shared), CX [] H s (fun _ _ _ => False) e s' → False) :
    PySem.W.WalkOS q loose XP YP r d [] (fun f vs => PySem.call f vs) :=
  walk_spec (K := K) (CX := fun _ => CX) (sp := fun w => sp (K w.params)) hwell hdf hlen hr hY F (fun w H xs a h1 h2 h3 h4 => hsp (K w.params) H xs a h1 h2 h3 h4) fun _ H s e s' => hCX H s e s'
end L2
end

set_option Elab.async false
set_option linter.all false
namespace HM
open Loft

/-! ### the tridiagonal rows in whole numbers -/
/-- leading minors, one place on: DD h (k+1) is the minor of the first k rows -/
def DD (h : Nat → Int) : Nat → Int
  | 0 => 0
  | 1 => 1
  | k + 2 => 2 * (h k + h (k + 1)) * DD h (k + 1) - h k * h k * DD h k
/-- right sides, the bend before each row's own taken out -/
def SS (h sd : Nat → Int) : Nat → Int
  | 0 => 0
  | k + 1 => DD h (k + 1) * sd (k + 1) - h k * SS h sd k
/-- trailing minors, from the last row on: VV j stands at m + 1 - j -/
def VV (h : Nat → Int) (m : Nat) : Nat → Int
  | 0 => 0
  | 1 => 1
  | j + 2 => 2 * (h (m - 2 - j) + h (m - 1 - j)) * VV h m (j + 1) - h (m - 1 - j) * h (m - 1 - j) * VV h m j
def UU (h : Nat → Int) (m k : Nat) : Int := VV h m (m + 1 - k)
/-- right sides from the last row on: WW j stands at m - j -/
def WW (h sd : Nat → Int) (m : Nat) : Nat → Int
  | 0 => 0
  | j + 1 => VV h m (j + 1) * sd (m - 1 - j) - h (m - 1 - j) * WW h sd m j
def TT (h sd : Nat → Int) (m k : Nat) : Int := WW h sd m (m - k)
/-- the bends times the last minor -/
def BB (h sd : Nat → Int) (m : Nat) : Nat → Int
  | 0 => 0
  | k + 1 => DD h (k + 1) * TT h sd m (k + 1) - h k * UU h m (k + 2) * SS h sd k

theorem UU_top (h : Nat → Int) (m : Nat) : UU h m m = 1 := by
  unfold UU
  rw [show m + 1 - m = 1 by omega]; rfl
theorem UU_over (h : Nat → Int) (m : Nat) : UU h m (m + 1) = 0 := by
  unfold UU
  rw [show m + 1 - (m + 1) = 0 by omega]; rfl
theorem UU_step (h : Nat → Int) {m k : Nat} (hk : k + 2 ≤ m) : UU h m (k + 1) = 2 * (h k + h (k + 1)) * UU h m (k + 2) - h (k + 1) * h (k + 1) * UU h m (k + 3) := by
  unfold UU
  obtain ⟨j, rfl⟩ : ∃ j, m = k + 2 + j := ⟨m - (k + 2), by omega⟩
  rw [show k + 2 + j + 1 - (k + 1) = j + 2 by omega, show k + 2 + j + 1 - (k + 2) = j + 1 by omega, show k + 2 + j + 1 - (k + 3) = j by omega]
  show 2 * (h (k + 2 + j - 2 - j) + h (k + 2 + j - 1 - j)) * _ - h (k + 2 + j - 1 - j) * h (k + 2 + j - 1 - j) * _ = _
  rw [show k + 2 + j - 2 - j = k by omega, show k + 2 + j - 1 - j = k + 1 by omega]
theorem TT_top (h sd : Nat → Int) (m : Nat) : TT h sd m m = 0 := by
  unfold TT
  rw [show m - m = 0 by omega]; rfl
theorem TT_step (h sd : Nat → Int) {m k : Nat} (hk : k + 1 ≤ m) : TT h sd m k = UU h m (k + 1) * sd k - h k * TT h sd m (k + 1) := by
  unfold TT UU
  obtain ⟨j, rfl⟩ : ∃ j, m = k + 1 + j := ⟨m - (k + 1), by omega⟩
  rw [show k + 1 + j - k = j + 1 by omega, show k + 1 + j + 1 - (k + 1) = j + 1 by omega, show k + 1 + j - (k + 1) = j by omega]
  show _ * sd (k + 1 + j - 1 - j) - h (k + 1 + j - 1 - j) * _ = _
  rw [show k + 1 + j - 1 - j = k by omega]
/-- the whole determinant, however it is parted -/
theorem det_parted (h : Nat → Int) (m : Nat) : ∀ r k, k + r + 1 = m → DD h m = UU h m (k + 1) * DD h (k + 1) - h k * h k * UU h m (k + 2) * DD h k
  | 0, k, e => by
    subst e
    rw [show k + 0 + 1 = k + 1 by omega, UU_top, UU_over]
    grind
  | r + 1, k, e => by
    have ih := det_parted h m r (k + 1) (by omega)
    have hU := UU_step h (m := m) (k := k) (by omega)
    have hD : DD h (k + 2) = 2 * (h k + h (k + 1)) * DD h (k + 1) - h k * h k * DD h k := rfl
    rw [show k + 1 + 1 = k + 2 by omega, show k + 1 + 2 = k + 3 by omega] at ih
    rw [ih]
    generalize DD h (k + 2) = d2 at *
    generalize DD h (k + 1) = d1 at *
    generalize DD h k = d0 at *
    generalize UU h m (k + 1) = u1 at *
    generalize UU h m (k + 2) = u2 at *
    generalize UU h m (k + 3) = u3 at *
    clear ih
    subst hU hD
    grind
theorem BB_top (h sd : Nat → Int) (m : Nat) (hm : 1 ≤ m) : BB h sd m m = 0 := by
  obtain ⟨k, rfl⟩ : ∃ k, m = k + 1 := ⟨m - 1, by omega⟩
  show DD h (k + 1) * TT h sd (k + 1) (k + 1) - h k * UU h (k + 1) (k + 1 + 1) * SS h sd k = 0
  rw [TT_top, UU_over]
  grind
/-- each bend times its minor: what the program divides -/
theorem BB_step (h sd : Nat → Int) {m k : Nat} (hk : k + 1 ≤ m) : DD h m * SS h sd k - DD h k * h k * BB h sd m (k + 1) = DD h (k + 1) * BB h sd m k := by
  match k with
  | 0 =>
    show DD h m * 0 - 0 * h 0 * _ = 1 * 0
    grind
  | j + 1 =>
    have hM := det_parted h m (m - (j + 1) - 1) (j + 1) (by omega)
    have hT := TT_step h sd (m := m) (k := j + 1) hk
    have hS : SS h sd (j + 1) = DD h (j + 1) * sd (j + 1) - h j * SS h sd j := rfl
    show DD h m * SS h sd (j + 1) - DD h (j + 1) * h (j + 1) * (DD h (j + 2) * TT h sd m (j + 2) - h (j + 1) * UU h m (j + 3) * SS h sd (j + 1)) = DD h (j + 2) * (DD h (j + 1) * TT h sd m (j + 1) - h j * UU h m (j + 2) * SS h sd j)
    rw [show j + 1 + 1 = j + 2 by omega] at hM hT
    rw [show j + 1 + 2 = j + 3 by omega] at hM
    rw [hM, hT]
    generalize SS h sd (j + 1) = s1 at *
    generalize SS h sd j = s0 at *
    generalize DD h (j + 2) = d2 at *
    generalize DD h (j + 1) = d1 at *
    generalize UU h m (j + 2) = u2 at *
    generalize UU h m (j + 3) = u3 at *
    generalize TT h sd m (j + 2) = t2 at *
    clear hM hT
    subst hS
    grind

/-- the minors are above 0 as long as the gaps are -/
theorem DD_pos (h : Nat → Int) (n : Nat) (hp : ∀ i, i < n → 0 < h i) : ∀ k, k < n → 0 < DD h (k + 1) ∧ h k * DD h k ≤ DD h (k + 1)
  | 0, _ => by
    show (0 : Int) < 1 ∧ h 0 * 0 ≤ 1
    omega
  | k + 1, hk => by
    obtain ⟨h1, h2⟩ := DD_pos h n hp k (by omega)
    have a := hp k (by omega)
    have b := hp (k + 1) hk
    have e : DD h (k + 2) = 2 * (h k + h (k + 1)) * DD h (k + 1) - h k * h k * DD h k := rfl
    rw [show k + 1 + 1 = k + 2 by omega, e]
    generalize DD h (k + 1) = d1 at *
    generalize DD h k = d0 at *
    generalize h k = x at *
    generalize h (k + 1) = y at *
    have q1 : x * (x * d0) ≤ x * d1 := Int.mul_le_mul_of_nonneg_left h2 (by omega)
    have q2 : 0 < x * d1 := Int.mul_pos a h1
    have q3 : 0 < y * d1 := Int.mul_pos b h1
    have q4 : 2 * (x + y) * d1 - x * x * d0 = 2 * (x * d1) + 2 * (y * d1) - x * (x * d0) := by grind
    rw [q4]
    constructor <;> omega
end HM

set_option Elab.async false
set_option linter.all false
namespace HM
open Loft

theorem eq_div {a b c : Rat} (hb : b ≠ 0) (h : a * b = c) : a = c / b := by
  rw [← h, Rat.div_def, Rat.mul_assoc, Rat.mul_inv_cancel _ hb, Rat.mul_one]
theorem mul_div {a b : Rat} (hb : b ≠ 0) : b * (a / b) = a := by
  rw [Rat.div_def, Rat.mul_comm a, ← Rat.mul_assoc, Rat.mul_inv_cancel _ hb, Rat.one_mul]
theorem mul_cancel {a b c : Rat} (hc : c ≠ 0) (h : a * c = b * c) : a = b := by
  rw [eq_div hc h, ← eq_div hc rfl]

/-! ### the specification's lists, by places -/
theorem halves_range {X Y al be c : Nat → Rat} {n : Nat}
    (hal : ∀ j, j + 2 < n → al (j + 1) = -(X (j + 2) - X (j + 1)) / (2 * ((X (j + 1) - X j) + (X (j + 2) - X (j + 1))) + (X (j + 1) - X j) * al j))
    (hbe : ∀ j, j + 2 < n → be (j + 1) = (3 * ((Y (j + 2) - Y (j + 1)) / (X (j + 2) - X (j + 1)) - (Y (j + 1) - Y j) / (X (j + 1) - X j)) - (X (j + 1) - X j) * be j) / (2 * ((X (j + 1) - X j) + (X (j + 2) - X (j + 1))) + (X (j + 1) - X j) * al j))
    (hc : ∀ j, j + 1 < n → c j = al j * c (j + 1) + be j) (hl : c (n - 1) = 0) :
    ∀ r j, j + r + 2 = n → halves (al j) (be j) ((List.range' j (r + 2)).map fun i => (X i, Y i)) = (List.range' j (r + 2)).map c
  | 0, j, e => by
    have h1 := hc j (by omega)
    rw [show n - 1 = j + 1 by omega] at hl
    rw [hl] at h1
    show [be j, 0] = [c j, c (j + 1)]
    rw [hl, h1]
    have : al j * 0 + be j = be j := by grind
    rw [this]
  | r + 1, j, e => by
    have ih := halves_range hal hbe hc hl r (j + 1) (by omega)
    have h1 := hc j (by omega)
    have h2 := hal j (by omega)
    have h3 := hbe j (by omega)
    rw [h2, h3] at ih
    show (al j * (halves _ _ ((List.range' (j + 1) (r + 2)).map fun i => (X i, Y i))).headD 0 + be j) :: halves _ _ ((List.range' (j + 1) (r + 2)).map fun i => (X i, Y i)) = c j :: (List.range' (j + 1) (r + 2)).map c
    rw [ih]
    show (al j * c (j + 1) + be j) :: _ = _
    rw [← h1]

def pc (X Y c : Nat → Rat) (i : Nat) : Piece := ⟨X i, X (i + 1) - X i, Y i, (Y (i + 1) - Y i) / (X (i + 1) - X i) - (X (i + 1) - X i) * (2 * c i + c (i + 1)) / 3, c i, (c (i + 1) - c i) / (3 * (X (i + 1) - X i))⟩
theorem pieces_range (X Y c : Nat → Rat) : ∀ r j, pieces ((List.range' j (r + 1)).map fun i => (X i, Y i)) ((List.range' j (r + 1)).map c) = (List.range' j r).map (pc X Y c)
  | 0, j => rfl
  | r + 1, j => by
    have ih := pieces_range X Y c r (j + 1)
    show pc X Y c j :: pieces ((List.range' (j + 1) (r + 1)).map fun i => (X i, Y i)) ((List.range' (j + 1) (r + 1)).map c) = pc X Y c j :: (List.range' (j + 1) r).map (pc X Y c)
    rw [ih]
theorem find_range (p : Nat → Bool) : ∀ r j k, j ≤ k → k < j + r → (∀ i, j ≤ i → i < k → p i = false) → p k = true → (List.range' j r).find? p = some k
  | 0, j, k, h1, h2, _, _ => by omega
  | r + 1, j, k, h1, h2, h3, h4 => by
    rw [List.range'_succ, List.find?_cons]
    by_cases e : j = k
    · subst e
      rw [h4]
    · rw [h3 j (Nat.le_refl j) (by omega)]
      exact find_range p r (j + 1) k (by omega) (by omega) (fun i a b => h3 i (by omega) b) h4
theorem told_range {X Y c : Nat → Rat} {m k : Nat} {x : Rat} (hk : k < m) (hlo : ∀ i, i < k → X (i + 1) < x) (hhi : x ≤ X (k + 1)) (what : Nat) :
    told ((List.range' 0 m).map (pc X Y c)) x what = if what = 0 then (pc X Y c k).value (x - X k) else if what = 1 then (pc X Y c k).slope (x - X k) else (pc X Y c k).bend (x - X k) := by
  have e : ∀ i, (pc X Y c i).at_ + (pc X Y c i).h = X (i + 1) := fun i => by
    show X i + (X (i + 1) - X i) = X (i + 1)
    grind
  have h : pieceAt ((List.range' 0 m).map (pc X Y c)) x = some (pc X Y c k) := by
    unfold pieceAt
    rw [List.find?_map]
    have : (List.range' 0 m).find? ((fun (p : Piece) => decide (x ≤ p.at_ + p.h)) ∘ pc X Y c) = some k := by
      refine find_range _ m 0 k (Nat.zero_le k) (by omega) (fun i _ hi => ?_) ?_
      · show decide (x ≤ (pc X Y c i).at_ + (pc X Y c i).h) = false
        rw [e, decide_eq_false]
        exact Rat.not_le.mpr (hlo i hi)
      · show decide (x ≤ (pc X Y c k).at_ + (pc X Y c k).h) = true
        rw [e, decide_eq_true hhi]
    rw [this]
    rfl
  unfold told
  rw [h]
  rfl
end HM

set_option Elab.async false
set_option linter.all false
namespace HM
open Loft

theorem nz {a b : Rat} (ha : a ≠ 0) (hb : b ≠ 0) : a * b ≠ 0 := fun z => ha (mul_cancel hb (by rw [z, Rat.zero_mul]))
theorem al_step {h0 h1 d0 d1 d2 : Rat} (e : d2 = 2 * (h0 + h1) * d1 - h0 * h0 * d0) (n1 : d1 ≠ 0) (n2 : d2 ≠ 0) :
    -(h1 * d1) / d2 = -h1 / (2 * (h0 + h1) + h0 * (-(h0 * d0) / d1)) := by
  have a1 := mul_div (a := -(h0 * d0)) n1
  generalize -(h0 * d0) / d1 = a at *
  have k1 : (2 * (h0 + h1) + h0 * a) * d1 = d2 := by grind
  generalize 2 * (h0 + h1) + h0 * a = K at *
  have nK : K ≠ 0 := by
    intro z
    rw [z, Rat.zero_mul] at k1
    exact n2 k1.symm
  refine eq_div nK ?_
  have a2 := mul_div (a := -(h1 * d1)) n2
  generalize -(h1 * d1) / d2 = q at *
  refine mul_cancel n1 ?_
  grind
theorem be_step {h0 h1 d0 d1 d2 P s0 s1 c sd g0 g1 : Rat} (e : d2 = 2 * (h0 + h1) * d1 - h0 * h0 * d0) (n1 : d1 ≠ 0) (n2 : d2 ≠ 0) (nP : P ≠ 0) (nc : c ≠ 0)
    (es : s1 = d1 * sd - h0 * s0) (ed : sd = 6 * (P * (g1 - g0) * c)) :
    s1 / (2 * P * d2 * c) = (3 * (g1 - g0) - h0 * (s0 / (2 * P * d1 * c))) / (2 * (h0 + h1) + h0 * (-(h0 * d0) / d1)) := by
  have a1 := mul_div (a := -(h0 * d0)) n1
  generalize -(h0 * d0) / d1 = a at *
  have k1 : (2 * (h0 + h1) + h0 * a) * d1 = d2 := by grind
  generalize 2 * (h0 + h1) + h0 * a = K at *
  have nK : K ≠ 0 := by
    intro z
    rw [z, Rat.zero_mul] at k1
    exact n2 k1.symm
  have two : (2 : Rat) ≠ 0 := by decide
  have m1 : 2 * P * d1 * c ≠ 0 := nz (nz (nz two nP) n1) nc
  have m2 : 2 * P * d2 * c ≠ 0 := nz (nz (nz two nP) n2) nc
  refine eq_div nK ?_
  have b1 := mul_div (a := s0) m1
  have b2 := mul_div (a := s1) m2
  generalize s0 / (2 * P * d1 * c) = q0 at *
  generalize s1 / (2 * P * d2 * c) = q1 at *
  refine mul_cancel m1 ?_
  grind
theorem c_step {h0 d0 d1 M P s0 b0 b1 c : Rat} (n1 : d1 ≠ 0) (nM : M ≠ 0) (nP : P ≠ 0) (nc : c ≠ 0) (e : M * s0 - d0 * h0 * b1 = d1 * b0) :
    b0 / (2 * P * M * c) = -(h0 * d0) / d1 * (b1 / (2 * P * M * c)) + s0 / (2 * P * d1 * c) := by
  have two : (2 : Rat) ≠ 0 := by decide
  have m1 : 2 * P * d1 * c ≠ 0 := nz (nz (nz two nP) n1) nc
  have m2 : 2 * P * M * c ≠ 0 := nz (nz (nz two nP) nM) nc
  have a1 := mul_div (a := -(h0 * d0)) n1
  have q0 := mul_div (a := b0) m2
  have q1 := mul_div (a := b1) m2
  have q2 := mul_div (a := s0) m1
  generalize -(h0 * d0) / d1 = a at *
  generalize b0 / (2 * P * M * c) = u0 at *
  generalize b1 / (2 * P * M * c) = u1 at *
  generalize s0 / (2 * P * d1 * c) = u2 at *
  refine mul_cancel m2 (mul_cancel n1 ?_)
  grind
theorem val_pc {P M c y0 y1 w0 w1 B0 B1 h x c0 c1 : Rat} (nP : P ≠ 0) (nM : M ≠ 0) (nc : c ≠ 0) (nh : h ≠ 0) (e0 : c0 = B0 / (2 * P * M * c)) (e1 : c1 = B1 / (2 * P * M * c)) (f0 : y0 = w0 / c) (f1 : y1 = w1 / c) :
    y0 + x * (((y1 - y0) / h - h * (2 * c0 + c1) / 3) + x * (c0 + x * ((c1 - c0) / (3 * h)))) = (6 * (P * M) * ((h - x) * w0 + x * w1) + B0 * (h - x) * ((h - x) * (h - x) - h * h) + B1 * x * (x * x - h * h)) / (c * (6 * (P * M) * h)) := by
  have two : (2 : Rat) ≠ 0 := by decide
  have three : (3 : Rat) ≠ 0 := by decide
  have six : (6 : Rat) ≠ 0 := by decide
  have m1 : 2 * P * M * c ≠ 0 := nz (nz (nz two nP) nM) nc
  have m2 : c * (6 * (P * M) * h) ≠ 0 := nz nc (nz (nz six (nz nP nM)) nh)
  have m3 : 3 * h ≠ 0 := nz three nh
  have q0 := mul_div (a := B0) m1
  have q1 := mul_div (a := B1) m1
  rw [← e0] at q0
  rw [← e1] at q1
  have q2 := mul_div (a := w0) nc
  have q3 := mul_div (a := w1) nc
  rw [← f0] at q2
  rw [← f1] at q3
  have q4 := mul_div (a := y1 - y0) nh
  have q5 := mul_div (a := h * (2 * c0 + c1)) three
  have q6 := mul_div (a := c1 - c0) m3
  generalize (y1 - y0) / h = bh at *
  generalize h * (2 * c0 + c1) / 3 = th at *
  generalize (c1 - c0) / (3 * h) = d at *
  refine eq_div m2 ?_
  clear e0 e1 f0 f1
  grind
theorem slope_pc {P M c y0 y1 w0 w1 B0 B1 h x c0 c1 : Rat} (nP : P ≠ 0) (nM : M ≠ 0) (nc : c ≠ 0) (nh : h ≠ 0) (e0 : c0 = B0 / (2 * P * M * c)) (e1 : c1 = B1 / (2 * P * M * c)) (f0 : y0 = w0 / c) (f1 : y1 = w1 / c) :
    ((y1 - y0) / h - h * (2 * c0 + c1) / 3) + x * (2 * c0 + x * (3 * ((c1 - c0) / (3 * h)))) = (6 * (P * M) * (w1 - w0) + B0 * (h * h - 3 * (h - x) * (h - x)) + B1 * (3 * x * x - h * h)) / (c * (6 * (P * M) * h)) := by
  have two : (2 : Rat) ≠ 0 := by decide
  have three : (3 : Rat) ≠ 0 := by decide
  have six : (6 : Rat) ≠ 0 := by decide
  have m1 : 2 * P * M * c ≠ 0 := nz (nz (nz two nP) nM) nc
  have m2 : c * (6 * (P * M) * h) ≠ 0 := nz nc (nz (nz six (nz nP nM)) nh)
  have m3 : 3 * h ≠ 0 := nz three nh
  have q0 := mul_div (a := B0) m1
  have q1 := mul_div (a := B1) m1
  rw [← e0] at q0
  rw [← e1] at q1
  have q2 := mul_div (a := w0) nc
  have q3 := mul_div (a := w1) nc
  rw [← f0] at q2
  rw [← f1] at q3
  have q4 := mul_div (a := y1 - y0) nh
  have q5 := mul_div (a := h * (2 * c0 + c1)) three
  have q6 := mul_div (a := c1 - c0) m3
  generalize (y1 - y0) / h = bh at *
  generalize h * (2 * c0 + c1) / 3 = th at *
  generalize (c1 - c0) / (3 * h) = d at *
  refine eq_div m2 ?_
  clear e0 e1 f0 f1
  grind

/-! ### the batten by places -/
/-- what the program tells, times its divisor: value and slope on the piece k -/
def valI (xi w : Nat → Int) (PM : Int) (B : Nat → Int) (k : Nat) (x : Int) : Int :=
  let g := xi (k + 1) - xi k
  let b := x - xi k
  let a := g - b
  6 * PM * (a * w k + b * w (k + 1)) + B k * a * (a * a - g * g) + B (k + 1) * b * (b * b - g * g)
def slopeI (xi w : Nat → Int) (PM : Int) (B : Nat → Int) (k : Nat) (x : Int) : Int :=
  let g := xi (k + 1) - xi k
  let b := x - xi k
  let a := g - b
  6 * PM * (w (k + 1) - w k) + B k * (g * g - 3 * a * a) + B (k + 1) * (3 * b * b - g * g)

theorem cast_ne {a : Int} (h : 0 < a) : (a : Rat) ≠ 0 := by
  intro z
  have : a = 0 := by exact_mod_cast z
  omega

theorem batten_places {xi w r : Nat → Int} {P : Int} {m : Nat} {c : Rat} (hm : 1 ≤ m) (nc : c ≠ 0) (hP : 0 < P) (hp : ∀ i, i < m → 0 < xi (i + 1) - xi i) (hr : ∀ i, i < m → r i * (xi (i + 1) - xi i) = (w (i + 1) - w i) * P) :
    batten ((List.range' 0 (m + 1)).map fun i => ((xi i : Rat), (w i : Rat) / c)) =
      (List.range' 0 m).map (pc (fun i => (xi i : Rat)) (fun i => (w i : Rat) / c) (fun i => (BB (fun i => xi (i + 1) - xi i) (fun k => 6 * (r k - r (k - 1))) m i : Rat) / (2 * P * (DD (fun i => xi (i + 1) - xi i) m : Rat) * c))) := by
  generalize eh : (fun i => xi (i + 1) - xi i) = h
  generalize es : (fun k => 6 * (r k - r (k - 1))) = sd
  have hh : ∀ i, xi (i + 1) - xi i = h i := fun i => by rw [← eh]
  have hhs : ∀ i, sd i = 6 * (r i - r (i - 1)) := fun i => by rw [← es]
  have hpos : ∀ i, i < m → 0 < h i := fun i hi => by rw [← hh]; exact hp i hi
  have hD := DD_pos h m hpos
  have nP : (P : Rat) ≠ 0 := cast_ne hP
  have nM : (DD h m : Rat) ≠ 0 := by
    obtain ⟨k, rfl⟩ : ∃ k, m = k + 1 := ⟨m - 1, by omega⟩
    exact cast_ne (hD k (by omega)).1
  have dX : ∀ i, (xi (i + 1) : Rat) - (xi i : Rat) = (h i : Rat) := fun i => by rw [← hh]; push_cast; rfl
  have key := halves_range (X := fun i => (xi i : Rat)) (Y := fun i => (w i : Rat) / c) (al := fun j => -((h j : Rat) * (DD h j : Rat)) / (DD h (j + 1) : Rat)) (be := fun j => (SS h sd j : Rat) / (2 * P * (DD h (j + 1) : Rat) * c))
    (c := fun i => (BB h sd m i : Rat) / (2 * P * (DD h m : Rat) * c)) (n := m + 1) ?_ ?_ ?_ ?_ (m - 1) 0 (by omega)
  · unfold batten
    have z1 : (-((h 0 : Rat) * (DD h 0 : Rat)) / (DD h 1 : Rat)) = 0 := by
      show -((h 0 : Rat) * ((0 : Int) : Rat)) / ((1 : Int) : Rat) = 0
      rw [Rat.div_def]
      push_cast
      grind
    have z2 : ((SS h sd 0 : Rat) / (2 * P * (DD h 1 : Rat) * c)) = 0 := by
      show ((0 : Int) : Rat) / _ = 0
      rw [Rat.div_def]
      push_cast
      grind
    try dsimp only at key
    rw [show (0 : Nat) + 1 = 1 by rfl] at key
    rw [z1, z2, show m - 1 + 2 = m + 1 by omega] at key
    rw [key]
    exact pieces_range _ _ _ m 0
  · intro j hj
    have n1 : (DD h (j + 1) : Rat) ≠ 0 := cast_ne (hD j (by omega)).1
    have n2 : (DD h (j + 2) : Rat) ≠ 0 := cast_ne (hD (j + 1) (by omega)).1
    have e : (DD h (j + 2) : Rat) = 2 * ((h j : Rat) + (h (j + 1) : Rat)) * (DD h (j + 1) : Rat) - (h j : Rat) * (h j : Rat) * (DD h j : Rat) := by
      have : DD h (j + 2) = 2 * (h j + h (j + 1)) * DD h (j + 1) - h j * h j * DD h j := rfl
      rw [this]; push_cast; rfl
    try dsimp only
    rw [dX, dX]
    exact al_step e n1 n2
  · intro j hj
    have n1 : (DD h (j + 1) : Rat) ≠ 0 := cast_ne (hD j (by omega)).1
    have n2 : (DD h (j + 2) : Rat) ≠ 0 := cast_ne (hD (j + 1) (by omega)).1
    have e : (DD h (j + 2) : Rat) = 2 * ((h j : Rat) + (h (j + 1) : Rat)) * (DD h (j + 1) : Rat) - (h j : Rat) * (h j : Rat) * (DD h j : Rat) := by
      have : DD h (j + 2) = 2 * (h j + h (j + 1)) * DD h (j + 1) - h j * h j * DD h j := rfl
      rw [this]; push_cast; rfl
    have es' : (SS h sd (j + 1) : Rat) = (DD h (j + 1) : Rat) * (sd (j + 1) : Rat) - (h j : Rat) * (SS h sd j : Rat) := by
      have : SS h sd (j + 1) = DD h (j + 1) * sd (j + 1) - h j * SS h sd j := rfl
      rw [this]; push_cast; rfl
    try dsimp only
    rw [dX, dX]
    refine be_step e n1 n2 nP nc es' ?_
    rw [hhs]
    have r1 := hr (j + 1) (by omega)
    have r0 := hr j (by omega)
    rw [hh] at r0 r1
    have nh0 : (h j : Rat) ≠ 0 := cast_ne (hpos j (by omega))
    have nh1 : (h (j + 1) : Rat) ≠ 0 := cast_ne (hpos (j + 1) (by omega))
    have r1' : (r (j + 1) : Rat) * (h (j + 1) : Rat) = ((w (j + 2) : Rat) - (w (j + 1) : Rat)) * (P : Rat) := by exact_mod_cast r1
    have r0' : (r j : Rat) * (h j : Rat) = ((w (j + 1) : Rat) - (w j : Rat)) * (P : Rat) := by exact_mod_cast r0
    rw [show j + 1 - 1 = j by omega]
    push_cast
    have c0 := mul_div (a := (w j : Rat)) nc
    have c1 := mul_div (a := (w (j + 1) : Rat)) nc
    have c2 := mul_div (a := (w (j + 2) : Rat)) nc
    generalize (w j : Rat) / c = y0 at *
    generalize (w (j + 1) : Rat) / c = y1 at *
    generalize (w (j + 2) : Rat) / c = y2 at *
    have g0 := mul_div (a := y1 - y0) nh0
    have g1 := mul_div (a := y2 - y1) nh1
    generalize (y1 - y0) / (h j : Rat) = q0 at *
    generalize (y2 - y1) / (h (j + 1) : Rat) = q1 at *
    have f1 : (r (j + 1) : Rat) = P * q1 * c := mul_cancel nh1 (by grind)
    have f0 : (r j : Rat) = P * q0 * c := mul_cancel nh0 (by grind)
    rw [f1, f0]
    grind
  · intro j hj
    have n1 : (DD h (j + 1) : Rat) ≠ 0 := cast_ne (hD j (by omega)).1
    have e := BB_step h sd (m := m) (k := j) (by omega)
    try dsimp only
    refine c_step n1 nM nP nc ?_
    exact_mod_cast e
  · show (BB h sd m (m + 1 - 1) : Rat) / _ = 0
    rw [show m + 1 - 1 = m by omega, BB_top h sd m hm, Rat.div_def]
    push_cast
    grind
end HM

set_option Elab.async false
set_option linter.all false
namespace HM
open Loft

section
variable {xi w r : Nat → Int} {P : Int} {m k : Nat} {c : Rat} {x : Int}
theorem told_val (hm : 1 ≤ m) (nc : c ≠ 0) (hP : 0 < P) (hp : ∀ i, i < m → 0 < xi (i + 1) - xi i) (hr : ∀ i, i < m → r i * (xi (i + 1) - xi i) = (w (i + 1) - w i) * P)
    (hk : k < m) (hlo : ∀ i, i < k → xi (i + 1) < x) (hhi : x ≤ xi (k + 1)) :
    told (batten ((List.range' 0 (m + 1)).map fun i => ((xi i : Rat), (w i : Rat) / c))) (x : Rat) 0 =
      (valI xi w (P * DD (fun i => xi (i + 1) - xi i) m) (BB (fun i => xi (i + 1) - xi i) (fun k => 6 * (r k - r (k - 1))) m) k x : Rat) / (c * ((6 * (P * DD (fun i => xi (i + 1) - xi i) m) * (xi (k + 1) - xi k) : Int) : Rat)) := by
  rw [batten_places hm nc hP hp hr]
  have hM : 0 < DD (fun i => xi (i + 1) - xi i) m := by
    obtain ⟨j, rfl⟩ : ∃ j, m = j + 1 := ⟨m - 1, by omega⟩
    exact (DD_pos _ (j + 1) hp j (by omega)).1
  rw [told_range hk (fun i hi => by exact_mod_cast hlo i hi) (by exact_mod_cast hhi) 0, if_pos rfl]
  unfold Piece.value pc valI
  dsimp only
  have nP : (P : Rat) ≠ 0 := cast_ne hP
  have nM := cast_ne hM
  have nh := cast_ne (hp k hk)
  have ex : (xi (k + 1) : Rat) - (xi k : Rat) = ((xi (k + 1) - xi k : Int) : Rat) := by push_cast; rfl
  generalize DD (fun i => xi (i + 1) - xi i) m = M at *
  generalize BB (fun i => xi (i + 1) - xi i) (fun k => 6 * (r k - r (k - 1))) m = B at *
  rw [ex]
  have key := val_pc (P := P) (M := M) (c := c) (w0 := w k) (w1 := w (k + 1)) (B0 := B k) (B1 := B (k + 1)) (h := ((xi (k + 1) - xi k : Int) : Rat)) (x := (x : Rat) - (xi k : Rat)) nP nM nc nh rfl rfl rfl rfl
  rw [key]
  push_cast
  rfl
theorem told_slope (hm : 1 ≤ m) (nc : c ≠ 0) (hP : 0 < P) (hp : ∀ i, i < m → 0 < xi (i + 1) - xi i) (hr : ∀ i, i < m → r i * (xi (i + 1) - xi i) = (w (i + 1) - w i) * P)
    (hk : k < m) (hlo : ∀ i, i < k → xi (i + 1) < x) (hhi : x ≤ xi (k + 1)) :
    told (batten ((List.range' 0 (m + 1)).map fun i => ((xi i : Rat), (w i : Rat) / c))) (x : Rat) 1 =
      (slopeI xi w (P * DD (fun i => xi (i + 1) - xi i) m) (BB (fun i => xi (i + 1) - xi i) (fun k => 6 * (r k - r (k - 1))) m) k x : Rat) / (c * ((6 * (P * DD (fun i => xi (i + 1) - xi i) m) * (xi (k + 1) - xi k) : Int) : Rat)) := by
  rw [batten_places hm nc hP hp hr]
  have hM : 0 < DD (fun i => xi (i + 1) - xi i) m := by
    obtain ⟨j, rfl⟩ : ∃ j, m = j + 1 := ⟨m - 1, by omega⟩
    exact (DD_pos _ (j + 1) hp j (by omega)).1
  rw [told_range hk (fun i hi => by exact_mod_cast hlo i hi) (by exact_mod_cast hhi) 1, if_neg (by decide), if_pos rfl]
  unfold Piece.slope pc slopeI
  dsimp only
  have nP : (P : Rat) ≠ 0 := cast_ne hP
  have nM := cast_ne hM
  have nh := cast_ne (hp k hk)
  have ex : (xi (k + 1) : Rat) - (xi k : Rat) = ((xi (k + 1) - xi k : Int) : Rat) := by push_cast; rfl
  generalize DD (fun i => xi (i + 1) - xi i) m = M at *
  generalize BB (fun i => xi (i + 1) - xi i) (fun k => 6 * (r k - r (k - 1))) m = B at *
  rw [ex]
  have key := slope_pc (P := P) (M := M) (c := c) (w0 := w k) (w1 := w (k + 1)) (B0 := B k) (B1 := B (k + 1)) (h := ((xi (k + 1) - xi k : Int) : Rat)) (x := (x : Rat) - (xi k : Rat)) nP nM nc nh rfl rfl rfl rfl
  rw [key]
  push_cast
  rfl
end

/-! ### the mirror over lists -/
def gx (xs : List Int) (i : Nat) : Int := xs.getD (i + 1) 0 - xs.getD i 0
def gapsL (xs : List Int) : List Int := (List.range (xs.length - 1)).map (gx xs)
def prodL (l : List Int) : Int := l.foldl (fun a b => a * b) 1
def Pof (xs : List Int) : Int := prodL (gapsL xs)
def Mof (xs : List Int) : Int := DD (gx xs) (xs.length - 1)
def rise (xs ws : List Int) (i : Nat) : Int := (ws.getD (i + 1) 0 - ws.getD i 0) * (Pof xs / gx xs i)
def sideOf (xs ws : List Int) (k : Nat) : Int := 6 * (rise xs ws k - rise xs ws (k - 1))
def Bof (xs ws : List Int) (i : Nat) : Int := BB (gx xs) (sideOf xs ws) (xs.length - 1) i
/-- the first piece that goes as far, from the k-th on -/
def pieceFrom (x : Int) : List Int → Nat
  | _ :: b :: r => if x ≤ b then 0 else pieceFrom x (b :: r) + 1
  | _ => 0
def pieceOf (xs : List Int) (x : Int) : Nat := pieceFrom x xs
def valueOf (xs ws : List Int) (x : Int) : Int := valI (fun i => xs.getD i 0) (fun i => ws.getD i 0) (Pof xs * Mof xs) (Bof xs ws) (pieceOf xs x) x
def slopeOf (xs ws : List Int) (x : Int) : Int := slopeI (fun i => xs.getD i 0) (fun i => ws.getD i 0) (Pof xs * Mof xs) (Bof xs ws) (pieceOf xs x) x
def divOf (xs : List Int) (x : Int) : Int := 6 * (Pof xs * Mof xs) * gx xs (pieceOf xs x)

structure Rising (xs : List Int) : Prop where
  two : 2 ≤ xs.length
  up : ∀ i, i + 1 < xs.length → xs.getD i 0 < xs.getD (i + 1) 0
def Within (xs : List Int) (x : Int) : Prop := xs.getD 0 0 ≤ x ∧ x ≤ xs.getD (xs.length - 1) 0

theorem prod_pos : ∀ (l : List Int) (a : Int), 0 < a → (∀ g ∈ l, 0 < g) → 0 < l.foldl (fun a b => a * b) a
  | [], a, h, _ => h
  | g :: l, a, h, hl => prod_pos l (a * g) (Int.mul_pos h (hl g (List.mem_cons_self ..))) fun x hx => hl x (List.mem_cons_of_mem _ hx)
theorem dvd_fold : ∀ (l : List Int) (a g : Int), g ∣ a → g ∣ l.foldl (fun a b => a * b) a
  | [], a, g, h => h
  | b :: l, a, g, h => dvd_fold l (a * b) g (Int.dvd_trans h (Int.dvd_mul_right ..))
theorem prod_dvd : ∀ (l : List Int) (a g : Int), g ∈ l → g ∣ l.foldl (fun a b => a * b) a
  | b :: l, a, g, h => by
    rcases List.mem_cons.mp h with rfl | h
    · exact dvd_fold l _ _ (Int.dvd_mul_left ..)
    · exact prod_dvd l _ g h
theorem gapsL_len (xs : List Int) : (gapsL xs).length = xs.length - 1 := by unfold gapsL; rw [List.length_map, List.length_range]
theorem gapsL_getD (xs : List Int) {i : Nat} (h : i < xs.length - 1) : (gapsL xs)[i]? = some (gx xs i) := by
  unfold gapsL
  rw [List.getElem?_map, List.getElem?_range h]
  rfl
theorem Rising.gx_pos {xs : List Int} (R : Rising xs) {i : Nat} (h : i < xs.length - 1) : 0 < gx xs i := by
  have := R.up i (by omega)
  unfold gx
  omega
theorem Rising.gaps_pos {xs : List Int} (R : Rising xs) : ∀ g ∈ gapsL xs, 0 < g := by
  intro g hg
  unfold gapsL at hg
  obtain ⟨i, hi, rfl⟩ := List.mem_map.mp hg
  exact R.gx_pos (List.mem_range.mp hi)
theorem Rising.P_pos {xs : List Int} (R : Rising xs) : 0 < Pof xs := prod_pos _ 1 (by decide) R.gaps_pos
theorem Rising.dvd {xs : List Int} (R : Rising xs) {i : Nat} (h : i < xs.length - 1) : gx xs i ∣ Pof xs :=
  prod_dvd _ 1 _ (List.mem_map.mpr ⟨i, List.mem_range.mpr h, rfl⟩)
theorem Rising.M_pos {xs : List Int} (R : Rising xs) : 0 < Mof xs := by
  have := R.two
  unfold Mof
  obtain ⟨j, e⟩ : ∃ j, xs.length - 1 = j + 1 := ⟨xs.length - 2, by omega⟩
  rw [e]
  exact (DD_pos _ (j + 1) (fun i hi => R.gx_pos (by omega)) j (by omega)).1
theorem piece_lo (x : Int) : ∀ (xs : List Int) (i : Nat), i < pieceFrom x xs → xs.getD (i + 1) 0 < x
  | [], i, h => absurd h (Nat.not_lt_zero i)
  | [_], i, h => absurd h (Nat.not_lt_zero i)
  | a :: b :: r, i, h => by
    unfold pieceFrom at h
    by_cases e : x ≤ b
    · rw [if_pos e] at h
      omega
    · rw [if_neg e] at h
      cases i with
      | zero =>
        show b < x
        omega
      | succ i => exact piece_lo x (b :: r) i (by omega)
theorem piece_hi (x : Int) : ∀ (xs : List Int), 2 ≤ xs.length → x ≤ xs.getD (xs.length - 1) 0 → pieceFrom x xs < xs.length - 1 ∧ x ≤ xs.getD (pieceFrom x xs + 1) 0
  | [], h, _ => absurd h (by decide)
  | [_], h, _ => absurd h (by simp)
  | a :: b :: r, _, hx => by
    unfold pieceFrom
    by_cases e : x ≤ b
    · rw [if_pos e]
      exact ⟨by simp, e⟩
    · rw [if_neg e]
      match r, hx with
      | [], hx => exact absurd hx e
      | d :: s, hx =>
        obtain ⟨h1, h2⟩ := piece_hi x (b :: d :: s) (by simp) hx
        exact ⟨by simp at h1 ⊢; omega, h2⟩
theorem divOf_pos {xs : List Int} (R : Rising xs) {x : Int} (hx : Within xs x) : 0 < divOf xs x := by
  obtain ⟨h1, _⟩ := piece_hi x xs R.two hx.2
  exact Int.mul_pos (Int.mul_pos (by decide) (Int.mul_pos R.P_pos R.M_pos)) (R.gx_pos h1)
theorem nails_places (xs ws : List Int) (c : Rat) (hl : ws.length = xs.length) : nails xs (ws.map fun (w : Int) => (w : Rat) / c) = (List.range' 0 xs.length).map fun i => ((xs.getD i 0 : Rat), (ws.getD i 0 : Rat) / c) := by
  refine List.ext_getElem (by simp [nails, hl]) fun i h1 h2 => ?_
  have hi : i < xs.length := by simpa using h2
  simp [nails, List.getElem?_eq_getElem hi, List.getElem?_eq_getElem (show i < ws.length by omega)]
section
variable {xs ws : List Int} {c : Rat} {x : Int}
theorem told0 (R : Rising xs) (hl : ws.length = xs.length) (nc : c ≠ 0) (hx : Within xs x) : told (batten (nails xs (ws.map fun (w : Int) => (w : Rat) / c))) (x : Rat) 0 = (valueOf xs ws x : Rat) / (c * (divOf xs x : Rat)) := by
  have h2 := R.two
  obtain ⟨m, e⟩ : ∃ m, xs.length = m + 1 := ⟨xs.length - 1, by omega⟩
  obtain ⟨k1, k2⟩ := piece_hi x xs R.two hx.2
  rw [nails_places xs ws c hl, e]
  have key := told_val (xi := fun i => xs.getD i 0) (w := fun i => ws.getD i 0) (r := rise xs ws) (P := Pof xs) (m := m) (k := pieceFrom x xs) (c := c) (x := x) (by omega) nc R.P_pos
    (fun i hi => R.gx_pos (by omega)) (fun i hi => ?_) (by omega) (fun i hi => piece_lo x xs i hi) k2
  · rw [key]
    unfold valueOf divOf Bof Mof pieceOf
    rw [e]
    rfl
  · have d := R.dvd (i := i) (by omega)
    show (ws.getD (i + 1) 0 - ws.getD i 0) * (Pof xs / gx xs i) * gx xs i = _
    rw [Int.mul_assoc, Int.ediv_mul_cancel d]
theorem told1 (R : Rising xs) (hl : ws.length = xs.length) (nc : c ≠ 0) (hx : Within xs x) : told (batten (nails xs (ws.map fun (w : Int) => (w : Rat) / c))) (x : Rat) 1 = (slopeOf xs ws x : Rat) / (c * (divOf xs x : Rat)) := by
  have h2 := R.two
  obtain ⟨m, e⟩ : ∃ m, xs.length = m + 1 := ⟨xs.length - 1, by omega⟩
  obtain ⟨k1, k2⟩ := piece_hi x xs R.two hx.2
  rw [nails_places xs ws c hl, e]
  have key := told_slope (xi := fun i => xs.getD i 0) (w := fun i => ws.getD i 0) (r := rise xs ws) (P := Pof xs) (m := m) (k := pieceFrom x xs) (c := c) (x := x) (by omega) nc R.P_pos
    (fun i hi => R.gx_pos (by omega)) (fun i hi => ?_) (by omega) (fun i hi => piece_lo x xs i hi) k2
  · rw [key]
    unfold slopeOf divOf Bof Mof pieceOf
    rw [e]
    rfl
  · have d := R.dvd (i := i) (by omega)
    show (ws.getD (i + 1) 0 - ws.getD i 0) * (Pof xs / gx xs i) * gx xs i = _
    rw [Int.mul_assoc, Int.ediv_mul_cancel d]
end
end HM

set_option Elab.async false
set_option linter.all false
namespace HM
open Loft

/-- a table whose numbers may be -/
structure Good (T : Table) : Prop where
  rx : Rising T.xs
  rz : Rising T.zs
  rows : T.ys.length = T.zs.length
  row : ∀ l ∈ T.ys, l.length = T.xs.length

theorem line_nails (T : Table) (k : Nat) : T.line 0 k = nails T.xs ((T.ys.getD k []).map fun (w : Int) => (w : Rat) / 1) := by
  unfold Table.line nails
  rw [if_pos rfl, List.zip_map_right, List.map_map]
  refine List.map_congr_left fun u _ => ?_
  obtain ⟨a, b⟩ := u
  show ((a : Rat), (b : Rat)) = ((a : Rat), (b : Rat) / 1)
  rw [← eq_div (a := (b : Rat)) (b := 1) (c := (b : Rat)) (by decide) (Rat.mul_one _)]
theorem battens_map (T : Table) (G : Good T) (f : List Piece → Rat) : (T.battens 0).map f = T.ys.map fun l => f (batten (nails T.xs (l.map fun (w : Int) => (w : Rat) / 1))) := by
  unfold Table.battens Table.lines
  rw [if_pos rfl, List.map_map, ← G.rows]
  refine List.ext_getElem (by simp) fun i h1 h2 => ?_
  have hi : i < T.ys.length := by simpa using h2
  simp [line_nails, List.getElem?_eq_getElem hi]
section
variable {T : Table} {x z : Int}
theorem one_ne : (1 : Rat) ≠ 0 := by decide
theorem vals_eq (G : Good T) (hx : Within T.xs x) : (T.battens 0).map (fun ps => told ps (x : Rat) 0) = (T.ys.map fun l => valueOf T.xs l x).map fun (w : Int) => (w : Rat) / (divOf T.xs x : Rat) := by
  rw [battens_map T G, List.map_map]
  refine List.map_congr_left fun l hl => ?_
  rw [told0 G.rx (G.row l hl) one_ne hx, Rat.one_mul]
  rfl
theorem slopes_eq (G : Good T) (hx : Within T.xs x) : (T.battens 0).map (fun ps => told ps (x : Rat) 1) = (T.ys.map fun l => slopeOf T.xs l x).map fun (w : Int) => (w : Rat) / (divOf T.xs x : Rat) := by
  rw [battens_map T G, List.map_map]
  refine List.map_congr_left fun l hl => ?_
  rw [told1 G.rx (G.row l hl) one_ne hx, Rat.one_mul]
  rfl
/-- the three that the hull tells, as the program has them -/
def halfI (T : Table) (x z : Int) : Int := valueOf T.zs (T.ys.map fun l => valueOf T.xs l x) z
def alongI (T : Table) (x z : Int) : Int := valueOf T.zs (T.ys.map fun l => slopeOf T.xs l x) z
def upI (T : Table) (x z : Int) : Int := slopeOf T.zs (T.ys.map fun l => valueOf T.xs l x) z
def divI (T : Table) (x z : Int) : Int := divOf T.xs x * divOf T.zs z
theorem divI_pos (G : Good T) (hx : Within T.xs x) (hz : Within T.zs z) : 0 < divI T x z := Int.mul_pos (divOf_pos G.rx hx) (divOf_pos G.rz hz)
theorem up00 (G : Good T) (hx : Within T.xs x) (hz : Within T.zs z) : T.up (x : Rat) (z : Rat) 0 0 = (halfI T x z : Rat) / (divI T x z : Rat) := by
  unfold Table.up
  rw [vals_eq G hx, told0 G.rz (by rw [List.length_map]; exact G.rows) (cast_ne (divOf_pos G.rx hx)) hz]
  unfold halfI divI
  push_cast
  rfl
theorem up10 (G : Good T) (hx : Within T.xs x) (hz : Within T.zs z) : T.up (x : Rat) (z : Rat) 1 0 = (alongI T x z : Rat) / (divI T x z : Rat) := by
  unfold Table.up
  rw [slopes_eq G hx, told0 G.rz (by rw [List.length_map]; exact G.rows) (cast_ne (divOf_pos G.rx hx)) hz]
  unfold alongI divI
  push_cast
  rfl
theorem up01 (G : Good T) (hx : Within T.xs x) (hz : Within T.zs z) : T.up (x : Rat) (z : Rat) 0 1 = (upI T x z : Rat) / (divI T x z : Rat) := by
  unfold Table.up
  rw [vals_eq G hx, told1 G.rz (by rw [List.length_map]; exact G.rows) (cast_ne (divOf_pos G.rx hx)) hz]
  unfold upI divI
  push_cast
  rfl
end
/-! ### quotients -/
theorem div_cast (a : Int) {b : Int} (hb : 0 < b) : (a : Rat) / (b : Rat) = mkRat a b.toNat := by
  have e : b = ((b.toNat : Nat) : Int) := by omega
  have : ((b : Int) : Rat) = ((b.toNat : Nat) : Rat) := by
    conv => lhs; rw [e]
    rfl
  rw [this]
  exact (Rat.mkRat_eq_div ..).symm
theorem number_eq (a : Int) {b : Int} (hb : 0 < b) : LoftHullSeed.number ((a : Rat) / (b : Rat)) = [a / (Nat.gcd b.toNat a.natAbs : Int), b / (Nat.gcd b.toNat a.natAbs : Int)] := by
  unfold LoftHullSeed.number
  have hn : b.toNat ≠ 0 := by omega
  have e : b = ((b.toNat : Nat) : Int) := by omega
  rw [div_cast a hb, Rat.num_mkRat, Rat.den_mkRat, if_neg hn, if_neg hn]
  congr 2
  rw [Int.natCast_ediv, ← e]
/-- the program's rounding: of two the even one -/
def nearI (a b : Int) : Int :=
  let f := a / b
  let t := 2 * (a - f * b)
  if t > b then f + 1 else if t = b ∧ f % 2 = 1 then f + 1 else f
theorem le_div {u a b : Rat} (hb : 0 < b) : u ≤ a / b ↔ u * b ≤ a := by
  rw [← Rat.not_lt, Rat.div_lt_iff hb, Rat.not_lt]
theorem floor_div (a : Int) {b : Int} (hb : 0 < b) : ((a : Rat) / (b : Rat)).floor = a / b := by
  have hb' : (0 : Rat) < (b : Rat) := by exact_mod_cast hb
  have h1 : a / b ≤ ((a : Rat) / (b : Rat)).floor := by
    rw [Rat.le_floor_iff, le_div hb']
    exact_mod_cast Int.ediv_mul_le a (by omega)
  have h2 : ((a : Rat) / (b : Rat)).floor < a / b + 1 := by
    rw [Rat.floor_lt_iff, Rat.div_lt_iff hb']
    exact_mod_cast Int.lt_ediv_add_one_mul_self a hb
  omega
theorem half_up (a : Int) {b : Int} (hb : 0 < b) : (a : Rat) / (b : Rat) + 1 / 2 = ((2 * a + b : Int) : Rat) / ((2 * b : Int) : Rat) := by
  have nb := cast_ne hb
  have two : (2 : Rat) ≠ 0 := by decide
  refine eq_div (by push_cast; exact nz two nb) ?_
  have := mul_div (a := (a : Rat)) nb
  generalize (a : Rat) / (b : Rat) = q at *
  push_cast
  grind
theorem nearest_eq (a : Int) {b : Int} (hb : 0 < b) : nearest ((a : Rat) / (b : Rat)) = nearI a b := by
  unfold nearest nearI
  dsimp only
  rw [half_up a hb, floor_div _ (by omega : (0 : Int) < 2 * b)]
  have d1 := Int.mul_ediv_add_emod a b
  have r1 := Int.emod_nonneg a (by omega : b ≠ 0)
  have r2 := Int.emod_lt_of_pos a hb
  have r3 : a - a / b * b = a % b := by rw [Int.mul_comm] ; omega
  rw [r3]
  generalize a / b = f at *
  generalize a % b = r at *
  have d2 := Int.mul_ediv_add_emod (2 * a + b) (2 * b)
  have r4 := Int.emod_nonneg (2 * a + b) (by omega : 2 * b ≠ 0)
  have r5 := Int.emod_lt_of_pos (2 * a + b) (by omega : 0 < 2 * b)
  generalize (2 * a + b) / (2 * b) = g at *
  generalize (2 * a + b) % (2 * b) = s at *
  -- 2 b g + s = 2 (b f + r) + b
  have key : 2 * b * (g - f) = 2 * r + b - s := by grind
  have hg : g = f ∨ g = f + 1 := by
    have a1 : g - f < 2 := by
      apply Int.lt_of_mul_lt_mul_left (a := 2 * b) _ (by omega)
      omega
    have a2 : -1 < g - f := by
      apply Int.lt_of_mul_lt_mul_left (a := 2 * b) _ (by omega)
      omega
    omega
  have tie : ((g : Rat) = ((2 * a + b : Int) : Rat) / ((2 * b : Int) : Rat)) ↔ s = 0 := by
    have n2 := cast_ne (show 0 < 2 * b by omega)
    constructor
    · intro h
      have h' := mul_div (a := ((2 * a + b : Int) : Rat)) n2
      rw [← h] at h'
      have h'' : 2 * b * g = 2 * a + b := by exact_mod_cast h'
      omega
    · intro h
      refine eq_div n2 ?_
      have h'' : g * (2 * b) = 2 * a + b := by rw [Int.mul_comm]; omega
      exact_mod_cast h''
  rcases hg with rfl | rfl
  · have e1 : 2 * r + b = s := by
      have : 2 * b * (g - g) = 0 := by rw [Int.sub_self, Int.mul_zero]
      omega
    rw [if_neg (fun h => by have := tie.mp h.1; omega), if_neg (by omega), if_neg (by omega)]
  · have e1 : 2 * r = b + s := by
      have : 2 * b * (f + 1 - f) = 2 * b := by rw [show f + 1 - f = 1 by omega, Int.mul_one]
      omega
    by_cases hs : s = 0
    · by_cases hf : f % 2 = 1
      · rw [if_neg (fun h => by omega), if_neg (by omega), if_pos ⟨by omega, hf⟩]
      · rw [if_pos ⟨tie.mpr hs, by omega⟩, if_neg (by omega), if_neg (by omega)]
        omega
    · rw [if_neg (fun h => hs (tie.mp h.1)), if_pos (by omega)]
end HM

set_option Elab.async false
set_option linter.all false
namespace HM
open Loft
theorem rootFrom_spec (n : Nat) : ∀ (k r : Nat), r * r ≤ n → n < (r + 2 ^ k) * (r + 2 ^ k) → rootFrom k r n * rootFrom k r n ≤ n ∧ n < (rootFrom k r n + 1) * (rootFrom k r n + 1)
  | 0, r, h1, h2 => ⟨h1, h2⟩
  | k + 1, r, h1, h2 => by
    show rootFrom k (if (r + 2 ^ k) * (r + 2 ^ k) ≤ n then r + 2 ^ k else r) n * rootFrom k (if (r + 2 ^ k) * (r + 2 ^ k) ≤ n then r + 2 ^ k else r) n ≤ n ∧ n < (rootFrom k (if (r + 2 ^ k) * (r + 2 ^ k) ≤ n then r + 2 ^ k else r) n + 1) * (rootFrom k (if (r + 2 ^ k) * (r + 2 ^ k) ≤ n then r + 2 ^ k else r) n + 1)
    by_cases c : (r + 2 ^ k) * (r + 2 ^ k) ≤ n
    · rw [if_pos c]
      refine rootFrom_spec n k _ c ?_
      rw [Nat.pow_succ] at h2
      rw [show r + 2 ^ k + 2 ^ k = r + 2 ^ k * 2 by omega]
      exact h2
    · rw [if_neg c]
      exact rootFrom_spec n k r h1 (by omega)
theorem root_spec (n : Nat) : root n * root n ≤ n ∧ n < (root n + 1) * (root n + 1) := by
  refine rootFrom_spec n _ 0 (by omega) ?_
  rw [Nat.zero_add, ← Nat.pow_add]
  by_cases h0 : n = 0
  · subst h0
    exact Nat.two_pow_pos _
  · refine Nat.lt_of_lt_of_le (Nat.lt_log2_self (n := n)) ?_
    exact Nat.pow_le_pow_right (by decide) (by omega)
theorem lt_le {a b c : Rat} (h : a < b) (h' : b ≤ c) : a < c := by grind
/-- n less be is at most the root of r -/
def Reach (be r : Rat) (n : Int) : Prop := (n : Rat) ≤ be ∨ ((n : Rat) - be) * ((n : Rat) - be) ≤ r
theorem sq_le {a b : Rat} (h0 : 0 ≤ a) (h : a ≤ b) : a * a ≤ b * b :=
  Rat.le_trans (Rat.mul_le_mul_of_nonneg_left h h0) (Rat.mul_le_mul_of_nonneg_right h (Rat.le_trans h0 h))
theorem Reach.down {be r : Rat} {m n : Int} (hr : 0 ≤ r) (h : Reach be r n) (l : m ≤ n) : Reach be r m := by
  have l' : (m : Rat) ≤ (n : Rat) := by exact_mod_cast l
  by_cases c : (m : Rat) ≤ be
  · exact .inl c
  · refine .inr ?_
    have c' : be < (m : Rat) := Rat.not_le.mp c
    rcases h with h | h
    · exact absurd (Rat.le_trans l' h) c
    · refine Rat.le_trans (sq_le ?_ ?_) h <;> grind
/-- the specification's number is the greatest that is reached -/
theorem reach_spec {v r : Rat} (hr : 0 ≤ r) : ∃ n : Int, Reach (1 / 2 - v) r n ∧ ¬ Reach (1 / 2 - v) r (n + 1) ∧
    lessRoot v r = if (1 / 2 - v) ≤ (n : Rat) ∧ ((n : Rat) - (1 / 2 - v)) * ((n : Rat) - (1 / 2 - v)) = r ∧ n % 2 = 1 then 1 - n else 0 - n := by
  unfold lessRoot
  dsimp only
  generalize 1 / 2 - v = be
  have f1 := Rat.floor_le be
  have f2 := Rat.lt_floor_add_one be
  have g1 := Rat.floor_le r
  have g2 := Rat.lt_floor_add_one r
  have g0 : 0 ≤ r.floor := Rat.le_floor_iff.mpr (by exact_mod_cast hr)
  obtain ⟨s1, s2⟩ := root_spec r.floor.toNat
  generalize hk : root r.floor.toNat = k at *
  have s1' : ((k : Int) : Rat) * ((k : Int) : Rat) ≤ r := by
    refine Rat.le_trans ?_ g1
    have : (k : Int) * (k : Int) ≤ r.floor := by
      have : ((k * k : Nat) : Int) ≤ r.floor := by omega
      rw [Int.natCast_mul] at this
      exact this
    exact_mod_cast this
  have s2' : r < (((k : Int) : Rat) + 1) * (((k : Int) : Rat) + 1) := by
    refine lt_le g2 ?_
    have : r.floor + 1 ≤ ((k : Int) + 1) * ((k : Int) + 1) := by
      have : r.floor + 1 ≤ (((k + 1) * (k + 1) : Nat) : Int) := by omega
      rw [Int.natCast_mul, Int.natCast_add] at this
      exact this
    have h : ((r.floor + 1 : Int) : Rat) ≤ ((((k : Int) + 1) * ((k : Int) + 1) : Int) : Rat) := by exact_mod_cast this
    push_cast at h ⊢
    exact h
  have k0 : (0 : Rat) ≤ ((k : Int) : Rat) := by exact_mod_cast Int.natCast_nonneg k
  generalize hf : be.floor = f at *
  have low : Reach be r (f + (k : Int)) := by
    by_cases c : ((f + (k : Int) : Int) : Rat) ≤ be
    · exact .inl c
    · refine .inr (Rat.le_trans (sq_le (b := ((k : Int) : Rat)) ?_ ?_) s1')
      · have := Rat.not_le.mp c
        grind
      · push_cast
        grind
  have high : ¬ Reach be r (f + (k : Int) + 2) := by
    have e : ((f + (k : Int) + 2 : Int) : Rat) = (f : Rat) + ((k : Int) : Rat) + 2 := by push_cast; rfl
    have f2' : be < (f : Rat) + 1 := by
      have : ((f + 1 : Int) : Rat) = (f : Rat) + 1 := by push_cast; rfl
      rw [this] at f2
      exact f2
    rintro (h | h)
    · rw [e] at h
      grind
    · rw [e] at h
      have : (((k : Int) : Rat) + 1) * (((k : Int) : Rat) + 1) ≤ ((f : Rat) + ((k : Int) : Rat) + 2 - be) * ((f : Rat) + ((k : Int) : Rat) + 2 - be) := by
        refine sq_le ?_ ?_ <;> grind
      exact absurd (lt_le s2' (Rat.le_trans this h)) (Rat.lt_irrefl)
  have dec : ∀ n : Int, (decide ((n : Rat) ≤ be) || decide (((n : Rat) - be) * ((n : Rat) - be) ≤ r)) = true ↔ Reach be r n := fun n => by
    rw [Bool.or_eq_true, decide_eq_true_eq, decide_eq_true_eq]
    rfl
  by_cases c : Reach be r (f + (k : Int) + 1)
  · refine ⟨f + (k : Int) + 1, c, ?_, ?_⟩
    · rw [show f + (k : Int) + 1 + 1 = f + (k : Int) + 2 by omega]
      exact high
    · rw [if_pos ((dec _).mpr c)]
  · refine ⟨f + (k : Int), low, c, ?_⟩
    rw [if_neg (fun h => c ((dec _).mp h))]
/-- whatever way a number was found: it is the specification's if these hold -/
theorem lessRoot_eq {v r : Rat} {N : Int} (hr : 0 ≤ r) (h1 : Reach (1 / 2 - v) r (-N)) (h2 : ¬ Reach (1 / 2 - v) r (-N + 1)) (h3 : ¬ ((1 / 2 - v) ≤ ((-N : Int) : Rat) ∧ (((-N : Int) : Rat) - (1 / 2 - v)) * (((-N : Int) : Rat) - (1 / 2 - v)) = r ∧ (-N) % 2 = 1)) : lessRoot v r = N := by
  obtain ⟨n, a1, a2, a3⟩ := reach_spec (v := v) hr
  have e : n = -N := by
    rcases Int.lt_or_le n (-N) with h | h
    · exact absurd (h1.down hr (show n + 1 ≤ -N by omega)) a2
    · rcases Int.lt_or_le (-N) n with h' | h'
      · exact absurd (a1.down hr (show -N + 1 ≤ n by omega)) h2
      · omega
  subst e
  rw [a3, if_neg h3]
  omega
theorem lessRoot_tie {v r : Rat} {N : Int} (hr : 0 ≤ r) (h1 : Reach (1 / 2 - v) r (1 - N)) (h2 : ¬ Reach (1 / 2 - v) r (1 - N + 1)) (h3 : (1 / 2 - v) ≤ ((1 - N : Int) : Rat) ∧ (((1 - N : Int) : Rat) - (1 / 2 - v)) * (((1 - N : Int) : Rat) - (1 / 2 - v)) = r ∧ (1 - N) % 2 = 1) : lessRoot v r = N := by
  obtain ⟨n, a1, a2, a3⟩ := reach_spec (v := v) hr
  have e : n = 1 - N := by
    rcases Int.lt_or_le n (1 - N) with h | h
    · exact absurd (h1.down hr (show n + 1 ≤ 1 - N by omega)) a2
    · rcases Int.lt_or_le (1 - N) n with h' | h'
      · exact absurd (a1.down hr (show 1 - N + 1 ≤ n by omega)) h2
      · omega
  subst e
  rw [a3, if_pos h3]
  omega
end HM

set_option Elab.async false
set_option linter.all false
namespace HM
open Loft
/-- twice the divisor times (n less a half and the half-breadth) -/
def EI (h d n : Int) : Int := 2 * d * n - d + 2 * h
/-- the square of twice the divisor times the planks' thickness along the breadth -/
def RI (a b d t : Int) : Int := 4 * (t * t) * (d * d + a * a + b * b)
section
variable {h a b d t : Int}
theorem be_eq (hd : 0 < d) (n : Int) : ((n : Rat) - (1 / 2 - (h : Rat) / (d : Rat))) * (2 * (d : Rat)) = (EI h d n : Rat) := by
  have nd := cast_ne hd
  have := mul_div (a := (h : Rat)) nd
  generalize (h : Rat) / (d : Rat) = v at *
  unfold EI
  push_cast
  grind
theorem r_eq (hd : 0 < d) : ((t : Rat) * (t : Rat) * (1 + (a : Rat) / (d : Rat) * ((a : Rat) / (d : Rat)) + (b : Rat) / (d : Rat) * ((b : Rat) / (d : Rat)))) * ((2 * (d : Rat)) * (2 * (d : Rat))) = (RI a b d t : Rat) := by
  have nd := cast_ne hd
  have e1 := mul_div (a := (a : Rat)) nd
  have e2 := mul_div (a := (b : Rat)) nd
  generalize (a : Rat) / (d : Rat) = p at *
  generalize (b : Rat) / (d : Rat) = q at *
  unfold RI
  push_cast
  rw [← e1, ← e2]
  grind
theorem le_mul_iff {x y c : Rat} (hc : 0 < c) : x ≤ y ↔ x * c ≤ y * c := by
  rw [← Rat.not_lt, ← Rat.not_lt, Rat.mul_lt_mul_right hc]
theorem reach_int (hd : 0 < d) (n : Int) : Reach (1 / 2 - (h : Rat) / (d : Rat)) ((t : Rat) * (t : Rat) * (1 + (a : Rat) / (d : Rat) * ((a : Rat) / (d : Rat)) + (b : Rat) / (d : Rat) * ((b : Rat) / (d : Rat)))) n ↔ EI h d n ≤ 0 ∨ EI h d n * EI h d n ≤ RI a b d t := by
  have hd' : (0 : Rat) < 2 * (d : Rat) := by
    have : (0 : Rat) < (d : Rat) := by exact_mod_cast hd
    grind
  have e1 := be_eq (h := h) hd n
  have e2 := r_eq (a := a) (b := b) (t := t) hd
  generalize 1 / 2 - (h : Rat) / (d : Rat) = be at *
  generalize (t : Rat) * (t : Rat) * (1 + (a : Rat) / (d : Rat) * ((a : Rat) / (d : Rat)) + (b : Rat) / (d : Rat) * ((b : Rat) / (d : Rat))) = r at *
  generalize 2 * (d : Rat) = c at *
  unfold Reach
  have i1 : (n : Rat) ≤ be ↔ EI h d n ≤ 0 := by
    rw [show ((n : Rat) ≤ be) ↔ ((n : Rat) - be ≤ 0) by grind, le_mul_iff hd', e1, Rat.zero_mul]
    exact_mod_cast Iff.rfl
  have i2 : ((n : Rat) - be) * ((n : Rat) - be) ≤ r ↔ EI h d n * EI h d n ≤ RI a b d t := by
    rw [le_mul_iff (Rat.mul_pos hd' hd'), e2, show ((n : Rat) - be) * ((n : Rat) - be) * (c * c) = (((n : Rat) - be) * c) * (((n : Rat) - be) * c) by grind, e1]
    exact_mod_cast Iff.rfl
  rw [i1, i2]
theorem tie_int (hd : 0 < d) (n : Int) : ((1 / 2 - (h : Rat) / (d : Rat)) ≤ (n : Rat) ∧ ((n : Rat) - (1 / 2 - (h : Rat) / (d : Rat))) * ((n : Rat) - (1 / 2 - (h : Rat) / (d : Rat))) = (t : Rat) * (t : Rat) * (1 + (a : Rat) / (d : Rat) * ((a : Rat) / (d : Rat)) + (b : Rat) / (d : Rat) * ((b : Rat) / (d : Rat)))) ↔ 0 ≤ EI h d n ∧ EI h d n * EI h d n = RI a b d t := by
  have hd' : (0 : Rat) < 2 * (d : Rat) := by
    have : (0 : Rat) < (d : Rat) := by exact_mod_cast hd
    grind
  have e1 := be_eq (h := h) hd n
  have e2 := r_eq (a := a) (b := b) (t := t) hd
  generalize 1 / 2 - (h : Rat) / (d : Rat) = be at *
  generalize (t : Rat) * (t : Rat) * (1 + (a : Rat) / (d : Rat) * ((a : Rat) / (d : Rat)) + (b : Rat) / (d : Rat) * ((b : Rat) / (d : Rat))) = r at *
  generalize 2 * (d : Rat) = c at *
  have nc : c ≠ 0 := by grind
  have i1 : be ≤ (n : Rat) ↔ 0 ≤ EI h d n := by
    rw [show (be ≤ (n : Rat)) ↔ (0 ≤ (n : Rat) - be) by grind, le_mul_iff hd', e1, Rat.zero_mul]
    exact_mod_cast Iff.rfl
  have i2 : ((n : Rat) - be) * ((n : Rat) - be) = r ↔ EI h d n * EI h d n = RI a b d t := by
    have e3 : ((n : Rat) - be) * ((n : Rat) - be) * (c * c) = (EI h d n : Rat) * (EI h d n : Rat) := by
      rw [← e1]
      grind
    constructor
    · intro z
      rw [z, e2] at e3
      exact_mod_cast e3.symm
    · intro z
      refine mul_cancel (nz nc nc) ?_
      rw [e3, e2]
      exact_mod_cast z
  rw [i1, i2]
theorem RI_nonneg : 0 ≤ RI a b d t := by
  unfold RI
  have q : ∀ z : Int, 0 ≤ z * z := fun z => by
    rcases Int.le_total 0 z with h | h
    · exact Int.mul_nonneg h h
    · have := Int.mul_nonneg (Int.neg_nonneg.mpr h) (Int.neg_nonneg.mpr h)
      rw [Int.neg_mul_neg] at this
      exact this
  exact Int.mul_nonneg (Int.mul_nonneg (by decide) (q t)) (Int.add_nonneg (Int.add_nonneg (q d) (q a)) (q b))
theorem r_nonneg (hd : 0 < d) : 0 ≤ (t : Rat) * (t : Rat) * (1 + (a : Rat) / (d : Rat) * ((a : Rat) / (d : Rat)) + (b : Rat) / (d : Rat) * ((b : Rat) / (d : Rat))) := by
  have hd' : (0 : Rat) < 2 * (d : Rat) := by
    have : (0 : Rat) < (d : Rat) := by exact_mod_cast hd
    grind
  rw [le_mul_iff (Rat.mul_pos hd' hd'), r_eq hd, Rat.zero_mul]
  exact_mod_cast RI_nonneg
/-- in whole numbers: n is the greatest that is reached, and what is told of it -/
theorem lessRoot_int (hd : 0 < d) {n : Int} (h1 : EI h d n ≤ 0 ∨ EI h d n * EI h d n ≤ RI a b d t) (h2 : 0 < EI h d (n + 1) ∧ RI a b d t < EI h d (n + 1) * EI h d (n + 1)) :
    lessRoot ((h : Rat) / (d : Rat)) ((t : Rat) * (t : Rat) * (1 + (a : Rat) / (d : Rat) * ((a : Rat) / (d : Rat)) + (b : Rat) / (d : Rat) * ((b : Rat) / (d : Rat)))) = if 0 ≤ EI h d n ∧ EI h d n * EI h d n = RI a b d t ∧ n % 2 = 1 then 1 - n else -n := by
  have r1 := (reach_int (h := h) (a := a) (b := b) (t := t) hd n).mpr h1
  have r2 : ¬ Reach (1 / 2 - (h : Rat) / (d : Rat)) ((t : Rat) * (t : Rat) * (1 + (a : Rat) / (d : Rat) * ((a : Rat) / (d : Rat)) + (b : Rat) / (d : Rat) * ((b : Rat) / (d : Rat)))) (n + 1) := fun z => by
    rcases (reach_int hd (n + 1)).mp z with z | z <;> omega
  have ti := tie_int (h := h) (a := a) (b := b) (t := t) hd n
  by_cases c : 0 ≤ EI h d n ∧ EI h d n * EI h d n = RI a b d t ∧ n % 2 = 1
  · rw [if_pos c]
    have q := ti.mpr ⟨c.1, c.2.1⟩
    refine lessRoot_tie (N := 1 - n) (r_nonneg hd) ?_ ?_ ?_
    · rw [show 1 - (1 - n) = n by omega]; exact r1
    · rw [show 1 - (1 - n) + 1 = n + 1 by omega]; exact r2
    · rw [show 1 - (1 - n) = n by omega]; exact ⟨q.1, q.2, c.2.2⟩
  · rw [if_neg c]
    refine lessRoot_eq (N := -n) (r_nonneg hd) ?_ ?_ ?_
    · rw [show - -n = n by omega]; exact r1
    · rw [show - -n + 1 = n + 1 by omega]; exact r2
    · rw [show - -n = n by omega]
      rintro ⟨z1, z2, z3⟩
      obtain ⟨y1, y2⟩ := ti.mp ⟨z1, z2⟩
      exact c ⟨y1, y2, z3⟩
end
end HM

set_option Elab.async false
set_option linter.all false
namespace HM
open Loft
/-! ### at a nail -/
section
variable {xs ws : List Int}
theorem Rising.lt (R : Rising xs) : ∀ (r i : Nat), i + r + 1 < xs.length → xs.getD i 0 < xs.getD (i + r + 1) 0
  | 0, i, h => R.up i h
  | r + 1, i, h => Int.lt_trans (R.lt r i (by omega)) (R.up (i + r + 1) (by omega))
theorem Rising.lt' (R : Rising xs) {i j : Nat} (hij : i < j) (hj : j < xs.length) : xs.getD i 0 < xs.getD j 0 := by
  have := R.lt (j - i - 1) i (by omega)
  rwa [show i + (j - i - 1) + 1 = j by omega] at this
theorem Rising.le' (R : Rising xs) {i j : Nat} (hij : i ≤ j) (hj : j < xs.length) : xs.getD i 0 ≤ xs.getD j 0 := by
  rcases Nat.lt_or_ge i j with h | h
  · exact Int.le_of_lt (R.lt' h hj)
  · rw [show i = j by omega]
    exact Int.le_refl _
theorem Rising.within (R : Rising xs) {j : Nat} (hj : j < xs.length) : Within xs (xs.getD j 0) := ⟨R.le' (Nat.zero_le j) hj, R.le' (by omega) (by omega)⟩
theorem Rising.node (R : Rising xs) {j : Nat} (hj : j < xs.length) : j = pieceOf xs (xs.getD j 0) + 1 ∨ (j = 0 ∧ pieceOf xs (xs.getD j 0) = 0) := by
  have h1 := piece_hi (xs.getD j 0) xs R.two (R.within hj).2
  have h2 := piece_lo (xs.getD j 0) xs
  unfold pieceOf
  generalize pieceFrom (xs.getD j 0) xs = k at *
  rcases Nat.lt_trichotomy j (k + 1) with c | c | c
  · right
    rcases Nat.eq_zero_or_pos k with z | z
    · exact ⟨by omega, z⟩
    · exfalso
      have l1 := h2 (k - 1) (by omega)
      rw [show k - 1 + 1 = k by omega] at l1
      have l2 := R.le' (show j ≤ k by omega) (by omega)
      omega
  · exact .inl c
  · have := R.lt' c hj
    omega
theorem value_node (R : Rising xs) {j : Nat} (hj : j < xs.length) (ws : List Int) : valueOf xs ws (xs.getD j 0) = ws.getD j 0 * divOf xs (xs.getD j 0) := by
  have nd := R.node hj
  unfold valueOf divOf valI gx
  generalize pieceOf xs (xs.getD j 0) = k at *
  dsimp only
  generalize Pof xs * Mof xs = PM
  rcases nd with rfl | ⟨rfl, rfl⟩
  · generalize xs.getD (k + 1) 0 = x1
    generalize xs.getD k 0 = x0
    generalize ws.getD (k + 1) 0 = w1
    generalize ws.getD k 0 = w0
    generalize Bof xs ws k = b0
    generalize Bof xs ws (k + 1) = b1
    grind
  · generalize xs.getD (0 + 1) 0 = x1
    generalize xs.getD 0 0 = x0
    generalize ws.getD (0 + 1) 0 = w1
    generalize ws.getD 0 0 = w0
    generalize Bof xs ws 0 = b0
    generalize Bof xs ws (0 + 1) = b1
    grind
end
section
variable {T : Table} {z : Int}
theorem up_node (G : Good T) {j : Nat} (hj : j < T.xs.length) (hz : Within T.zs z) : T.up ((T.xs.getD j 0 : Int) : Rat) (z : Rat) 0 0 = (valueOf T.zs (T.ys.map fun l => l.getD j 0) z : Rat) / (divOf T.zs z : Rat) := by
  have hx := G.rx.within hj
  have e : (T.ys.map fun l => valueOf T.xs l (T.xs.getD j 0)).map (fun (w : Int) => (w : Rat) / (divOf T.xs (T.xs.getD j 0) : Rat)) = (T.ys.map fun l => l.getD j 0).map fun (w : Int) => (w : Rat) / 1 := by
    rw [List.map_map, List.map_map]
    refine List.map_congr_left fun l _ => ?_
    show ((valueOf T.xs l (T.xs.getD j 0) : Int) : Rat) / (divOf T.xs (T.xs.getD j 0) : Rat) = ((l.getD j 0 : Int) : Rat) / 1
    rw [value_node G.rx hj]
    have nd := cast_ne (divOf_pos G.rx hx)
    have m1 := mul_div (a := ((l.getD j 0 * divOf T.xs (T.xs.getD j 0) : Int) : Rat)) nd
    rw [← eq_div (a := ((l.getD j 0 : Int) : Rat)) (b := 1) (c := ((l.getD j 0 : Int) : Rat)) one_ne (Rat.mul_one _)]
    refine mul_cancel nd ?_
    rw [Rat.mul_comm, m1]
    push_cast
    rfl
  unfold Table.up
  rw [vals_eq G hx, e, told0 G.rz (by rw [List.length_map]; exact G.rows) one_ne hz, Rat.one_mul]
def levelL (T : Table) (z : Int) : List Int := (List.range T.xs.length).map fun j => nearI (valueOf T.zs (T.ys.map fun l => l.getD j 0) z) (divOf T.zs z)
theorem map_range {β : Type} (f : Int → β) (l : List Int) : l.map f = (List.range l.length).map fun j => f (l.getD j 0) := by
  refine List.ext_getElem (by simp) fun i h1 h2 => ?_
  have hi : i < l.length := by simpa using h1
  simp [List.getElem?_eq_getElem hi]
theorem level_eq (G : Good T) (hz : Within T.zs z) : T.level (z : Rat) = levelL T z := by
  unfold Table.level levelL
  rw [map_range]
  refine List.map_congr_left fun j hj => ?_
  rw [up_node G (List.mem_range.mp hj) hz, nearest_eq _ (divOf_pos G.rz hz)]
end
/-! ### less a root, as the program has it -/
def lessI (h q d s : Int) : Int := if s * s = 4 * q then nearI (2 * h - s) (2 * d) else (2 * h + d - s - 1) / (2 * d)
theorem ediv_is {x y q r : Int} (hy : 0 < y) (h0 : 0 ≤ r) (h1 : r < y) (e : x = y * q + r) : x / y = q := by
  rw [e, Int.add_comm, Int.add_mul_ediv_left _ _ (by omega), Int.ediv_eq_zero_of_lt h0 h1, Int.zero_add]
theorem sq_mono {x y : Int} (h0 : 0 ≤ x) (h : x ≤ y) : x * x ≤ y * y := Int.mul_le_mul h h h0 (by omega)
theorem sq_smono {x y : Int} (h0 : 0 ≤ x) (h : x < y) : x * x < y * y := by
  have a1 : x * x ≤ x * y := Int.mul_le_mul_of_nonneg_left (Int.le_of_lt h) h0
  have a2 : x * y < y * y := Int.mul_lt_mul_of_pos_right h (by omega)
  omega
theorem lessRoot_prog {h a b d t s : Int} (hd : 0 < d) (hs : 0 ≤ s) (h1 : s * s ≤ RI a b d t) (h2 : RI a b d t < (s + 1) * (s + 1)) :
    lessRoot ((h : Rat) / (d : Rat)) ((t : Rat) * (t : Rat) * (1 + (a : Rat) / (d : Rat) * ((a : Rat) / (d : Rat)) + (b : Rat) / (d : Rat) * ((b : Rat) / (d : Rat)))) = lessI h (t * t * (d * d + a * a + b * b)) d s := by
  have er : RI a b d t = 4 * (t * t * (d * d + a * a + b * b)) := by unfold RI; rw [Int.mul_assoc]
  unfold lessI
  rw [← er]
  have d1 := Int.mul_ediv_add_emod (s + d - 2 * h) (2 * d)
  have r1 := Int.emod_nonneg (s + d - 2 * h) (by omega : 2 * d ≠ 0)
  have r2 := Int.emod_lt_of_pos (s + d - 2 * h) (by omega : 0 < 2 * d)
  have en : ∀ n : Int, EI h d n = 2 * d * n - d + 2 * h := fun n => rfl
  have en1 : EI h d ((s + d - 2 * h) / (2 * d) + 1) = EI h d ((s + d - 2 * h) / (2 * d)) + 2 * d := by rw [en, en, Int.mul_add, Int.mul_one]; omega
  have e0 := en ((s + d - 2 * h) / (2 * d))
  generalize (s + d - 2 * h) / (2 * d) = n at *
  generalize (s + d - 2 * h) % (2 * d) = e at *
  generalize EI h d n = E0 at *
  have eE : E0 = s - e := by omega
  have c1 : E0 ≤ 0 ∨ E0 * E0 ≤ RI a b d t := by
    rcases Int.le_total E0 0 with c | c
    · exact .inl c
    · exact .inr (Int.le_trans (sq_mono c (by omega)) h1)
  have c2 : 0 < EI h d (n + 1) ∧ RI a b d t < EI h d (n + 1) * EI h d (n + 1) := by
    rw [en1]
    exact ⟨by omega, Int.lt_of_lt_of_le h2 (sq_mono (by omega) (by omega))⟩
  rw [lessRoot_int (n := n) hd (by rw [en]; rw [← e0]; exact c1) c2, en n, ← e0]
  by_cases q : s * s = RI a b d t
  · rw [if_pos q]
    have tie : (0 ≤ E0 ∧ E0 * E0 = RI a b d t) ↔ e = 0 := by
      constructor
      · rintro ⟨a1, a2⟩
        rcases Int.lt_or_le E0 s with c | c
        · have := sq_smono a1 c
          omega
        · omega
      · intro z
        have : E0 = s := by omega
        rw [this]
        exact ⟨hs, q⟩
    have tie' : (0 ≤ E0 ∧ E0 * E0 = RI a b d t ∧ n % 2 = 1) ↔ (e = 0 ∧ n % 2 = 1) := by rw [← tie, and_assoc]
    simp only [tie']
    unfold nearI
    dsimp only
    rcases Int.lt_or_le d e with c | c
    · have f : (2 * h - s) / (2 * d) = -n - 1 := ediv_is (r := 3 * d - e) (by omega) (by omega) (by omega) (by
        rw [Int.mul_sub, Int.mul_neg]
        omega)
      rw [f]
      have m : (-n - 1) * (2 * d) = -(2 * d * n) - 2 * d := by rw [Int.sub_mul, Int.neg_mul, Int.mul_comm n, Int.one_mul]
      rw [m, if_neg (by omega), if_pos (by omega)]
      omega
    · have f : (2 * h - s) / (2 * d) = -n := ediv_is (r := d - e) (by omega) (by omega) (by omega) (by
        rw [Int.mul_neg]
        omega)
      rw [f]
      have m : (-n) * (2 * d) = -(2 * d * n) := by rw [Int.neg_mul, Int.mul_comm n]
      rw [m, if_neg (show ¬ (2 * (2 * h - s - -(2 * d * n)) > 2 * d) by omega)]
      by_cases z : e = 0 ∧ n % 2 = 1
      · rw [if_pos z, if_pos (by omega)]
        omega
      · rw [if_neg z, if_neg (by omega)]
  · rw [if_neg q, if_neg (fun z => by
      rcases Int.lt_or_le E0 s with c | c
      · have := sq_smono z.1 c
        omega
      · have : E0 = s := by omega
        rw [this] at z
        exact q z.2.1)]
    refine (ediv_is (r := 2 * d - 1 - e) (by omega) (by omega) (by omega) ?_).symm
    rw [Int.mul_neg]
    omega
/-! ### the whole root by Newton's steps -/
def newt (N g : Int) : Int := (g + N / g) / 2
theorem newt_step {N g : Int} (hN : 0 ≤ N) (hg : 0 ≤ g) (h : N < g * g) : 0 < g ∧ 0 ≤ newt N g ∧ newt N g < g ∧ N < (newt N g + 1) * (newt N g + 1) := by
  have gp : 0 < g := by
    rcases Int.lt_or_le 0 g with c | c
    · exact c
    · have : g = 0 := by omega
      rw [this] at h
      omega
  have d1 := Int.mul_ediv_add_emod N g
  have r1 := Int.emod_nonneg N (by omega : g ≠ 0)
  have r2 := Int.emod_lt_of_pos N gp
  have q0 : 0 ≤ N / g := Int.ediv_nonneg hN hg
  have q1 : N / g < g := Int.ediv_lt_of_lt_mul gp h
  unfold newt
  generalize N / g = q at *
  generalize N % g = r at *
  refine ⟨gp, by omega, by omega, ?_⟩
  have k1 : g + q + 1 ≤ 2 * ((g + q) / 2 + 1) := by omega
  have k2 := sq_mono (show 0 ≤ g + q + 1 by omega) k1
  generalize (g + q) / 2 + 1 = m at *
  have k3 : 4 * (g * (q + 1)) ≤ (g + q + 1) * (g + q + 1) := by
    have p : 0 ≤ (g - (q + 1)) * (g - (q + 1)) := by
      rcases Int.le_total 0 (g - (q + 1)) with c | c
      · exact Int.mul_nonneg c c
      · have := Int.mul_nonneg (Int.neg_nonneg.mpr c) (Int.neg_nonneg.mpr c)
        rwa [Int.neg_mul_neg] at this
    have e : (g + q + 1) * (g + q + 1) = (g - (q + 1)) * (g - (q + 1)) + 4 * (g * (q + 1)) := by grind
    omega
  have k4 : 4 * (m * m) = 2 * m * (2 * m) := by grind
  have k5 : g * (q + 1) = g * q + g := by rw [Int.mul_add, Int.mul_one]
  omega
end HM

set_option Elab.async false
set_option linter.all false
set_option maxRecDepth 100000
set_option maxHeartbeats 2000000
namespace HB
open PySem PySem.Spec PyProof.Rows L2

/-! ### sizes of ints -/
def Bd (n : Nat) (x : Int) : Prop := x.natAbs < 2 ^ n
theorem Bd.bits {n : Nat} {x : Int} (h : Bd n x) : Builtin.Int.intBits x ≤ n := PySem.intBits_le_iff.mpr h
theorem Bd.of {n : Nat} {x : Int} (h : Builtin.Int.intBits x ≤ n) : Bd n x := PySem.intBits_le_iff.mp h
theorem Bd.mono {m n : Nat} {x : Int} (h : Bd m x) (l : m ≤ n) : Bd n x := Nat.lt_of_lt_of_le h (Nat.pow_le_pow_right (by decide) l)
theorem Bd.mul {m n : Nat} {x y : Int} (h : Bd m x) (g : Bd n y) : Bd (m + n) (x * y) := .of (PySem.intBits_mul_le h.bits g.bits)
theorem Bd.add {m n : Nat} {x y : Int} (h : Bd m x) (g : Bd n y) : Bd (max m n + 1) (x + y) := .of (PySem.intBits_add_le h.bits g.bits)
theorem Bd.sub {m n : Nat} {x y : Int} (h : Bd m x) (g : Bd n y) : Bd (max m n + 1) (x - y) := .of (PySem.intBits_sub_le h.bits g.bits)
theorem Bd.neg {m : Nat} {x : Int} (h : Bd m x) : Bd m (-x) := by unfold Bd at *; omega
theorem Bd.le {m : Nat} {x y : Int} (h : Bd m y) (l : x.natAbs ≤ y.natAbs) : Bd m x := Nat.lt_of_le_of_lt l h
theorem Bd.mulOk {m n : Nat} {x y : Int} (h : Bd m x) (g : Bd n y) (l : m + n ≤ 134217728) : IntMulOk x y := .of_le h.bits g.bits l

section
variable {X : Cx}
theorem op_mulM : OpR X (binaryOp .Mult) (rI IntMulOk fun i j => .int (i * j)) := opI fun _ _ _ _ _ _ _ hc q => mul_int q hc
theorem log2_of_Bd {j : Int} (h : Bd 9000 j) : j.natAbs.log2 < 9000 := by
  rcases Nat.eq_zero_or_pos j.natAbs with z | z
  · rw [z]; decide
  · exact (Nat.log2_lt (Nat.ne_of_gt z)).mpr h
theorem op_fdivM : OpR X (binaryOp .FloorDiv) (rI (fun _ j => 0 < j ∧ Bd 9000 j) fun i j => .int (i / j)) := opI fun i j _ _ _ _ _ hc q => by
  have h1 : (0 : Int) < j := hc.1
  exact floordiv_int (by omega) (by rw [Int.fdiv_eq_ediv_of_nonneg i (by omega)]; exact q) (.inl (PyProof.noPylong_of_log2 (log2_of_Bd hc.2)))
end

/-! ### what may be called -/
section
variable (P : Program) (w : World) (K : PySem.W.Frag) (mg : Str → Option Value) (base : Heap)
def FnAt (k : Nat) (x : Str) (ps : List Str) (sp : Sp) : Prop :=
  ∃ (f : Addr) (fd : FuncData), mg x = some (.ref f) ∧ PySem.W.keepIn K (.ref f) = true ∧ Binds K fd ps [] ∧ FnOk P w K mg base CX0 k f fd ps sp
def MtAt (k : Nat) (C : Addr) (m : Str) (ps : List Str) (sp : Sp) : Prop :=
  ∃ (f : Addr) (fd : FuncData), Cls K C ∧ Meth K C m f ∧ Binds K fd ps [] ∧ FnOk P w K mg base CX0 k f fd ps sp
def MkAt (k : Nat) (x : Str) (C : Addr) (ps : List Str) (sp : Sp) : Prop :=
  ∃ (f : Addr) (fd : FuncData), mg x = some (.ref C) ∧ Mk K C f ∧ Binds K fd ps [] ∧ FnOk P w K mg base CX0 k f fd ps sp
end
section
variable {X : Cx} {k : Nat} {x m : Str} {ps : List Str} {sp : Sp} {C : Addr} {p pos apos : Pos} {e o : Expr} {es : List Expr} {ta : TE} {t : TA}
theorem pe_fn (F : FnAt X.prog X.w X.K X.mg X.base k x ps sp) (hr : Room k X.A) (hg : Gl X x) (ha : PA X (e :: es) t) (hdb : (x == ("__debug__" : Str)) = false := by decide)
    (he : starEach (e :: es) X.env = (false, eval e X.env) :: starEach es X.env := by rfl) (hpl : (backTo pos (starEach es X.env)).any (·.1) = false := by rfl) :
    PE X (.Call (.Name x p) (e :: es) [] pos) (tCall sp [] E0 t) := by
  obtain ⟨f, fd, hm, hk, hb, G⟩ := F
  exact pe_call G hr hg hm hk hb .nil pass0 ha hdb he hpl
theorem pe_mt {pl : Sem Bool} (F : MtAt X.prog X.w X.K X.mg X.base k C m ps sp) (hr : Room k X.A) (ho : PE X o ta) (ha : PA X (e :: es) t)
    (hst : starEach (e :: es) X.env = (false, eval e X.env) :: starEach es X.env := by rfl) (hpl : (backTo pos (starEach es X.env)).any (·.1) = false := by rfl)
    (ht : eval (.Call (.Attribute o m apos) (e :: es) [] pos) X.env = (do
      let ov ← eval o X.env
      standAt apos.atName
      let (f, first) ← holding [ov] (getMethod ov m pl)
      callWith pos f first (backTo pos (starEach (e :: es) X.env)) (backToKw pos (keywordEach [] X.env))) := by rfl) :
    PE X (.Call (.Attribute o m apos) (e :: es) [] pos) (tMeth C m sp [] E0 ta t) := by
  obtain ⟨f, fd, c, hm, hb, G⟩ := F
  exact pe_meth (pl := pl) ho c hm G hr hb .nil pass0 ha hst hpl ht
theorem pe_mk (F : MkAt X.prog X.w X.K X.mg X.base k x C ps sp) (hr : Room (k + 1) X.A) (hg : Gl X x) (ha : PA X (e :: es) t) (hdb : (x == ("__debug__" : Str)) = false := by decide)
    (he : starEach (e :: es) X.env = (false, eval e X.env) :: starEach es X.env := by rfl) (hpl : (backTo pos (starEach es X.env)).any (·.1) = false := by rfl) :
    PE X (.Call (.Name x p) (e :: es) [] pos) (tMake C sp [] E0 t) := by
  obtain ⟨f, fd, hm, M, hb, G⟩ := F
  exact pe_make M G hr hg hm hb .nil pass0 ha hdb he hpl
/-- an int of the module -/
theorem pe_gi {i : Int} (h : ∃ t, X.mg x = some (.int i t)) (hg : Gl X x) (hd : (x == ("__debug__" : Str)) = false := by decide) : PE X (.Name x pos) (tC (.int i)) := by
  obtain ⟨t, hm⟩ := h
  exact pe_glob hg hm ⟨t, rfl⟩ hd
end
/-- a list of ints at a -/
abbrev Ints (H : Hp) (a : Addr) (ns : List Int) : Prop := H a = some (.lst (ns.map V.int))
theorem get_ints {ns : List Int} {i : Nat} (h : i < ns.length) : (ns.map V.int)[i]? = some (V.int (ns.getD i 0)) := by
  rw [List.getElem?_map, List.getElem?_eq_getElem h, List.getD_eq_getElem?_getD, List.getElem?_eq_getElem h]
  rfl
theorem at_ints {ns : List Int} {z : Int} {i : Nat} (e : z = (i : Int)) (h : i < ns.length) : atI (ns.map V.int) z = some (V.int (ns.getD i 0)) := at_of e (get_ints h)
end HB

set_option Elab.async false
set_option linter.all false
set_option maxRecDepth 100000
set_option maxHeartbeats 2000000
namespace HB
open PySem PySem.Spec PyProof.Rows L2
/-- a dict of the module, ints to ints: what it holds -/
def GD (K : PySem.W.Frag) (d : Addr) (kvs : List (Int × Int)) : Prop :=
  ∃ (o : Obj) (es : Array DictEntry) (ep : Nat), K.lookup d = some o ∧ o.ExactDict ∧ o.data = .dict es ep ∧ Paired (fun (p : Int × Int) (e : DictEntry) => e.hash = hashInt p.1 ∧ (∃ t, e.key = .int p.1 t) ∧ ∃ t, e.val = .int p.2 t) kvs es.toList
theorem gd_find {i v : Int} {kvs : List (Int × Int)} {es : List DictEntry} (h : Paired (fun (p : Int × Int) (e : DictEntry) => e.hash = hashInt p.1 ∧ (∃ t, e.key = .int p.1 t) ∧ ∃ t, e.val = .int p.2 t) kvs es) : kvs.lookup i = some v →
    ∃ e, es.find? (fun e => keyIs (.inl i) e.key) = some e ∧ ∃ t, e.val = .int v t := by
  induction h with
  | nil => intro hv; cases hv
  | @cons p e ps es' r tl ih =>
    intro hv
    obtain ⟨k, u⟩ := p
    obtain ⟨h1, ⟨t, h2⟩, ⟨t', h3⟩⟩ := r
    by_cases c : i = k
    · subst c
      rw [List.lookup_cons, beq_self_eq_true] at hv
      injection hv with hv
      subst hv
      refine ⟨e, ?_, t', h3⟩
      rw [List.find?_cons, h2, keyIs_int]
    · rw [List.lookup_cons, beq_eq_false_iff_ne.mpr c] at hv
      obtain ⟨e', q1, q2⟩ := ih hv
      refine ⟨e', ?_, q2⟩
      have : keyIs (.inl i) e.key = false := by
        rw [h2]
        show Value.isInt i (.int k t) = false
        cases z : Value.isInt i (.int k t) with
        | false => rfl
        | true =>
          obtain ⟨t2, e2⟩ := Value.isInt_shape (k := i) (v := .int k t) z
          injection e2 with e2 _
          exact absurd e2.symm c
      rw [List.find?_cons, this]
      exact q1
theorem gd_keys {P : Program} {w : World} {kvs : List (Int × Int)} {es : List DictEntry} (h : Paired (fun (p : Int × Int) (e : DictEntry) => e.hash = hashInt p.1 ∧ (∃ t, e.key = .int p.1 t) ∧ ∃ t, e.val = .int p.2 t) kvs es) : ∀ e ∈ es, ∃ k, (mixKind P w).is k e.key = true ∧ e.hash = (mixKind P w).hash k := by
  induction h with
  | nil => intro e he; cases he
  | @cons p e0 ps es' r tl ih =>
    intro e he
    obtain ⟨k, u⟩ := p
    rcases List.mem_cons.mp he with rfl | he
    · obtain ⟨h1, ⟨t, h2⟩, _⟩ := r
      exact ⟨.inl k, by rw [h2]; exact mixKind_int P w k t, h1⟩
    · exact ih e he
def rIxD (K : PySem.W.Frag) : R2 := fun x y H Q => ∃ d kvs i v, x = .ref d ∧ y = .int i ∧ GD K d kvs ∧ kvs.lookup i = some v ∧ Q (.int v) H
theorem ix_dictK {X : Cx} : IxR X (rIxD X.K) := by
  intro value slice pins s σ H x y v u Q I rx ry h hs
  obtain ⟨d, kvs, i, z, rfl, rfl, ⟨o, es, ep, hk, hx, hd, hp⟩, hl, q⟩ := h
  cases rx
  obtain ⟨t, rfl⟩ := ry
  have hm : s.heap.MapOf (mixKind X.prog X.w) d (fun k => findBy (mixKind X.prog X.w).is es k) := ⟨o, es, ep, I.kIn d o hk, hx, hd, fun e he => gd_keys hp e (by simpa using he), fun k => rfl⟩
  obtain ⟨e, h1, t', h2⟩ := gd_find hp hl
  have hf : findBy (mixKind X.prog X.w).is es (.inl i) = some (.int z t') := by
    unfold findBy
    have : es.find? (fun e => (mixKind X.prog X.w).is (Sum.inl i) e.key) = some e := by
      rw [← Array.find?_toList]
      exact h1
    rw [this, ← h2]
    rfl
  exact subscriptTail_builtinR (x := .int z t') hm.typeIs PySem.F.slot_dict_getitem.lookup
    (wpAny_getItem_of (Q := fun r s' => r = .int z t' ∧ EP X pins σ Q r s') (mixKind_int _ _ i t) hm hf ⟨rfl, .int z, H, I.tok _, ⟨t', rfl⟩, q⟩) hs
end HB

set_option Elab.async false
set_option linter.all false
set_option maxRecDepth 100000
set_option maxHeartbeats 2000000
namespace HB
open HM
/-- places that a batten may lie over: as a table has them -/
structure Grd (xs : List Int) : Prop where
  ri : Rising xs
  most : xs.length ≤ 24
  bd : ∀ x ∈ xs, Bd 20 x
theorem bd_one : Bd 1 1 := by unfold Bd; decide
theorem bd_zero (n : Nat) : Bd n 0 := by unfold Bd; exact Nat.two_pow_pos n
theorem bd_two : Bd 2 2 := by unfold Bd; decide
theorem bd_three : Bd 2 3 := by unfold Bd; decide
theorem bd_six : Bd 3 6 := by unfold Bd; decide
theorem getD_bd {n : Nat} {xs : List Int} (h : ∀ x ∈ xs, Bd n x) (i : Nat) : Bd n (xs.getD i 0) := by
  rw [List.getD_eq_getElem?_getD]
  cases e : xs[i]? with
  | none => exact bd_zero n
  | some z => exact h z (List.mem_of_getElem? e)
theorem Grd.x {xs : List Int} (G : Grd xs) (i : Nat) : Bd 20 (xs.getD i 0) := getD_bd G.bd i
theorem Grd.gap {xs : List Int} (G : Grd xs) (i : Nat) : Bd 21 (gx xs i) := (G.x (i + 1)).sub (G.x i)
theorem Grd.gaps {xs : List Int} (G : Grd xs) : ∀ n ∈ gapsL xs, Bd 24 n := fun n hn => by
  unfold gapsL at hn
  obtain ⟨i, _, rfl⟩ := List.mem_map.mp hn
  exact (G.gap i).mono (by decide)
theorem prodL_bd {ns : List Int} (hb : ∀ n ∈ ns, Bd 24 n) : Bd (24 * ns.length + 1) (prodL ns) := by
  have key : ∀ (l : List Int) (a : Int) (m : Nat), Bd m a → (∀ n ∈ l, Bd 24 n) → Bd (24 * l.length + m) (l.foldl (fun a b => a * b) a) := by
    intro l
    induction l with
    | nil => intro a m h _; exact h.mono (by omega)
    | cons x l ih =>
      intro a m h hl
      exact (ih (a * x) (m + 24) (h.mul (hl x (List.mem_cons_self ..))) fun n hn => hl n (List.mem_cons_of_mem _ hn)).mono (by rw [List.length_cons]; omega)
  exact key ns 1 1 bd_one hb
theorem Grd.P {xs : List Int} (G : Grd xs) : Bd 560 (Pof xs) := by
  have h := prodL_bd G.gaps
  rw [gapsL_len] at h
  have := G.most
  exact h.mono (by omega)
theorem dd_bd {h : Nat → Int} (hh : ∀ i, Bd 21 (h i)) : ∀ k, Bd (25 * k + 1) (DD h k) ∧ Bd (25 * (k + 1) + 1) (DD h (k + 1))
  | 0 => ⟨bd_zero _, bd_one.mono (by decide)⟩
  | k + 1 => by
    obtain ⟨h1, h2⟩ := dd_bd hh k
    refine ⟨h2, ?_⟩
    have e : DD h (k + 2) = 2 * (h k + h (k + 1)) * DD h (k + 1) - h k * h k * DD h k := rfl
    rw [show k + 1 + 1 = k + 2 by omega, e]
    have a1 := (bd_two.mul ((hh k).add (hh (k + 1)))).mul h2
    have a2 := ((hh k).mul (hh k)).mul h1
    exact ((a1.mono (n := 25 * k + 50) (by omega)).sub (a2.mono (n := 25 * k + 50) (by omega))).mono (by omega)
theorem vv_bd {h : Nat → Int} {m : Nat} (hh : ∀ i, Bd 21 (h i)) : ∀ k, Bd (25 * k + 1) (VV h m k) ∧ Bd (25 * (k + 1) + 1) (VV h m (k + 1))
  | 0 => ⟨bd_zero _, bd_one.mono (by decide)⟩
  | k + 1 => by
    obtain ⟨h1, h2⟩ := vv_bd (m := m) hh k
    refine ⟨h2, ?_⟩
    have e : VV h m (k + 2) = 2 * (h (m - 2 - k) + h (m - 1 - k)) * VV h m (k + 1) - h (m - 1 - k) * h (m - 1 - k) * VV h m k := rfl
    rw [show k + 1 + 1 = k + 2 by omega, e]
    have a1 := (bd_two.mul ((hh (m - 2 - k)).add (hh (m - 1 - k)))).mul h2
    have a2 := ((hh (m - 1 - k)).mul (hh (m - 1 - k))).mul h1
    exact ((a1.mono (n := 25 * k + 50) (by omega)).sub (a2.mono (n := 25 * k + 50) (by omega))).mono (by omega)
theorem ss_bd {h sd : Nat → Int} {v : Nat} (hh : ∀ i, Bd 21 (h i)) (hs : ∀ i, Bd (v + 570) (sd i)) : ∀ k, Bd (v + 600 + 26 * k) (SS h sd k)
  | 0 => bd_zero _
  | k + 1 => by
    have ih := ss_bd hh hs k
    have d := (dd_bd hh k).2
    have a1 := d.mul (hs (k + 1))
    have a2 := (hh k).mul ih
    exact ((a1.mono (n := v + 625 + 26 * k) (by omega)).sub (a2.mono (n := v + 625 + 26 * k) (by omega))).mono (by omega)
theorem ww_bd {h sd : Nat → Int} {v m : Nat} (hh : ∀ i, Bd 21 (h i)) (hs : ∀ i, Bd (v + 570) (sd i)) : ∀ k, Bd (v + 600 + 26 * k) (WW h sd m k)
  | 0 => bd_zero _
  | k + 1 => by
    have ih := ww_bd (m := m) hh hs k
    have d := (vv_bd (m := m) hh k).2
    have a1 := d.mul (hs (m - 1 - k))
    have a2 := (hh (m - 1 - k)).mul ih
    exact ((a1.mono (n := v + 625 + 26 * k) (by omega)).sub (a2.mono (n := v + 625 + 26 * k) (by omega))).mono (by omega)
theorem bb_bd {h sd : Nat → Int} {v m : Nat} (hm : m ≤ 23) (hh : ∀ i, Bd 21 (h i)) (hs : ∀ i, Bd (v + 570) (sd i)) : ∀ k, k ≤ m → Bd (v + 2000) (BB h sd m k)
  | 0, _ => bd_zero _
  | k + 1, hk => by
    have d := (dd_bd hh k).2
    have t := ww_bd (m := m) hh hs (m - (k + 1))
    have u := (vv_bd (m := m) hh (m + 1 - (k + 2))).1
    have s := ss_bd hh hs k
    have a1 := d.mul t
    have a2 := ((hh k).mul u).mul s
    exact ((a1.mono (n := v + 1999) (by omega)).sub (a2.mono (n := v + 1999) (by omega))).mono (by omega)
section
variable {xs ws : List Int} {v : Nat}
theorem Grd.D (G : Grd xs) {k : Nat} (hk : k ≤ 24) : Bd 601 (DD (gx xs) k) := ((dd_bd G.gap k).1).mono (by omega)
theorem Grd.M (G : Grd xs) : Bd 601 (Mof xs) := G.D (by have := G.most; omega)
theorem Grd.PM (G : Grd xs) : Bd 1161 (Pof xs * Mof xs) := G.P.mul G.M
theorem Bd.ediv {n : Nat} {x : Int} (h : Bd n x) (y : Int) : Bd n (x / y) := h.le (Int.natAbs_ediv_le_natAbs x y)
theorem rise_bd (G : Grd xs) (hw : ∀ x ∈ ws, Bd v x) (i : Nat) : Bd (v + 561) (rise xs ws i) :=
  (((getD_bd hw (i + 1)).sub (getD_bd hw i)).mul (G.P.ediv _)).mono (by omega)
theorem side_bd (G : Grd xs) (hw : ∀ x ∈ ws, Bd v x) (k : Nat) : Bd (v + 570) (sideOf xs ws k) :=
  (bd_six.mul ((rise_bd G hw k).sub (rise_bd G hw (k - 1)))).mono (by omega)
theorem B_bd (G : Grd xs) (hw : ∀ x ∈ ws, Bd v x) {k : Nat} (hk : k ≤ xs.length - 1) : Bd (v + 2000) (Bof xs ws k) :=
  bb_bd (by have := G.most; omega) G.gap (side_bd G hw) k hk
theorem S_bd (G : Grd xs) (hw : ∀ x ∈ ws, Bd v x) {k : Nat} (hk : k ≤ 24) : Bd (v + 1300) (SS (gx xs) (sideOf xs ws) k) :=
  (ss_bd G.gap (side_bd G hw) k).mono (by omega)
theorem within_bd (G : Grd xs) {x : Int} (hx : Within xs x) : Bd 20 x := by
  have a := G.x 0
  have b := G.x (xs.length - 1)
  unfold Within at hx
  unfold Bd at *
  omega
theorem piece_lt (G : Grd xs) {x : Int} (hx : Within xs x) : pieceOf xs x < xs.length - 1 := (piece_hi x xs G.ri.two hx.2).1
theorem val_bd (G : Grd xs) (hw : ∀ x ∈ ws, Bd v x) {x : Int} (hx : Within xs x) : Bd (v + 2100) (valueOf xs ws x) := by
  have hk := piece_lt G hx
  have b0 := B_bd G hw (k := pieceOf xs x) (by omega)
  have b1 := B_bd G hw (k := pieceOf xs x + 1) (by omega)
  have w0 := getD_bd hw (pieceOf xs x)
  have w1 := getD_bd hw (pieceOf xs x + 1)
  have g : Bd 21 (xs.getD (pieceOf xs x + 1) 0 - xs.getD (pieceOf xs x) 0) := G.gap (pieceOf xs x)
  have b : Bd 21 (x - xs.getD (pieceOf xs x) 0) := (within_bd G hx).sub (G.x _)
  have a := g.sub b
  have t1 := (bd_six.mul G.PM).mul ((a.mul w0).add (b.mul w1))
  have t2 := (b0.mul a).mul ((a.mul a).sub (g.mul g))
  have t3 := (b1.mul b).mul ((b.mul b).sub (g.mul g))
  unfold valueOf valI
  exact (((t1.mono (n := v + 2090) (by omega)).add (t2.mono (n := v + 2090) (by omega))).add (t3.mono (n := v + 2090) (by omega))).mono (by omega)
theorem slope_bd (G : Grd xs) (hw : ∀ x ∈ ws, Bd v x) {x : Int} (hx : Within xs x) : Bd (v + 2100) (slopeOf xs ws x) := by
  have hk := piece_lt G hx
  have b0 := B_bd G hw (k := pieceOf xs x) (by omega)
  have b1 := B_bd G hw (k := pieceOf xs x + 1) (by omega)
  have w0 := getD_bd hw (pieceOf xs x)
  have w1 := getD_bd hw (pieceOf xs x + 1)
  have g : Bd 21 (xs.getD (pieceOf xs x + 1) 0 - xs.getD (pieceOf xs x) 0) := G.gap (pieceOf xs x)
  have b : Bd 21 (x - xs.getD (pieceOf xs x) 0) := (within_bd G hx).sub (G.x _)
  have a := g.sub b
  have t1 := (bd_six.mul G.PM).mul (w1.sub w0)
  have t2 := b0.mul ((g.mul g).sub ((bd_three.mul a).mul a))
  have t3 := b1.mul (((bd_three.mul b).mul b).sub (g.mul g))
  unfold slopeOf slopeI
  exact (((t1.mono (n := v + 2090) (by omega)).add (t2.mono (n := v + 2090) (by omega))).add (t3.mono (n := v + 2090) (by omega))).mono (by omega)
theorem div_bd (G : Grd xs) (x : Int) : Bd 1185 (divOf xs x) := (bd_six.mul G.PM).mul (G.gap _)
end
end HB

set_option Elab.async false
set_option linter.all false
set_option maxRecDepth 100000
set_option maxHeartbeats 2000000
namespace HP
open PySem PySem.Spec PyProof.Rows L2 HB HM
def top (i : Nat) : Stmt := PySem.Challenge.pw_boathull_s01_answers.main.body.getD i (.Pass ⟨0, 0, 0, 0⟩)
abbrev sGaps : Stmt := top 1
abbrev sProd : Stmt := top 2
/-- the built-in names that the text leaves as they are -/
structure Blt (mg : Str → Option Value) : Prop where
  len : mg "len" = none
  range : mg "range" = none
  list : mg "list" = none
  abs : mg "abs" = none
  sum : mg "sum" = none
  enumerate : mg "enumerate" = none
section
variable {P : Program} {w : World} {K : PySem.W.Frag} {mg : Str → Option Value} {base : Heap}
/-! ### product_of -/
def spProd (K : PySem.W.Frag) : Sp := fun vs H Q _ => ∃ (a : Addr) (ns : List Int), vs = [.ref a] ∧ SqL K H a (ns.map V.int) ∧ ns.length ≤ 100 ∧ (∀ n ∈ ns, Bd 24 n) ∧ Q (.int (prodL ns)) H
theorem scProd : FnScope ["numbers", "product", "number"] ["numbers"] (defScope sProd) := ⟨rfl, rfl, rfl, by decide +kernel, rfl, by decide +kernel, by decide +kernel⟩
theorem prodL_take {ns : List Int} {i : Nat} {z : Int} (h : ns[i]? = some z) : prodL (ns.take (i + 1)) = prodL (ns.take i) * z := by
  unfold prodL
  rw [List.take_succ, h, List.foldl_append]
  rfl
theorem ok_prod {f : Addr} {fd : FuncData} (F : Fun K "product_of" "product_of" sProd f fd) : FnOk P w K mg base CX0 1 f fd ["numbers"] (spProd K) := by
  refine F.ok scProd (fun vs H Q E h => ?_) (fun cdv A outer s H vs Q E hr h => ?_)
  · obtain ⟨a, ns, rfl, _⟩ := h
    rfl
  · obtain ⟨a, ns, rfl, hS, hl, hb, k⟩ := h
    refine ⟨_, pss_cons (ps_set (i := 1) scProd.nd rfl (Or.inl rfl) pe_int)
      (pss_cons (ps_for PassesOwn.never rfl (pi_list (pv 0)) (pg_name (i := 2) scProd.nd rfl (Or.inl rfl))
        (pss_one (ps_set (i := 1) scProd.nd rfl (Or.inl rfl) (pe_op op_mulM (pv 1) (pv 2)))))
      (pss_one (ps_ret (pv 1)))), ?_⟩
    refine ⟨_, rfl, a, rfl, ⟨_, hS⟩, for_list (K := K) (a := a) (xs := ns.map V.int) (fun i σ H' => H' = H ∧ ∃ v : Option V, σ = [some (.ref a), some (.int (prodL (ns.take i))), v])
      ⟨rfl, none, rfl⟩ (fun i σ H' _ ⟨e, _⟩ => by rw [e]; exact hS) ?_ ?_⟩
    · rintro i y σ H' hi ⟨rfl, v, rfl⟩
      obtain ⟨z, hz, rfl⟩ : ∃ z, ns[i]? = some z ∧ y = V.int z := by
        rw [List.getElem?_map] at hi
        obtain ⟨z, h1, h2⟩ := Option.map_eq_some_iff.mp hi
        exact ⟨z, h1, h2.symm⟩
      have b1 := prodL_bd (ns := ns.take i) fun n hn => hb n (List.mem_of_mem_take hn)
      have b2 := hb z (List.mem_of_getElem? hz)
      have l1 : (ns.take i).length ≤ 100 := by rw [List.length_take]; omega
      refine ⟨_, rfl, _, rfl, _, _, rfl, rfl, b1.mulOk b2 (by omega), ?_⟩
      refine ⟨rfl, some (.int z), ?_⟩
      rw [prodL_take hz]
      rfl
    · rintro σ H' ⟨rfl, v, rfl⟩
      rw [List.length_map, List.take_length]
      exact ⟨_, rfl, k⟩
/-! ### gaps_between -/
def spGaps (K : PySem.W.Frag) : Sp := fun vs H Q _ => ∃ (a : Addr) (ns : List Int), vs = [.ref a] ∧ SqL K H a (ns.map V.int) ∧ 1 ≤ ns.length ∧ ns.length ≤ 100 ∧ ∀ p, H p = none → Q (.ref p) (upd H p (.lst ((gapsL ns).map V.int)))
theorem scGaps : FnScope ["places", "k"] ["places"] (defScope sGaps) := ⟨rfl, rfl, rfl, by decide +kernel, rfl, by decide +kernel, by decide +kernel⟩
theorem ok_gaps {f : Addr} {fd : FuncData} (F : Fun K "gaps_between" "gaps_between" sGaps f fd) (T : Blt mg) : FnOk P w K mg base CX0 1 f fd ["places"] (spGaps K) := by
  refine F.ok scGaps (fun vs H Q E h => ?_) (fun cdv A outer s H vs Q E hr h => ?_)
  · obtain ⟨a, ns, rfl, _⟩ := h
    rfl
  · obtain ⟨a, ns, rfl, hS, hl1, hl, k⟩ := h
    refine ⟨_, pss_one (ps_ret (pe_lc (own := [("k", 1)]) rfl scGaps.nd
      (pi_range1 rfl T.range (pa_cons (pe_op op_sub (pe_callB call_len_seq (by rfl) T.len PySem.boot_len (pa_cons (pv 0) pa_nil)) pe_int) pa_nil))
      (blkOk_by (N := ["places", "k"]) (sc := defScope sGaps) (by decide +kernel))
      (fun s H C cl fp => pg_name (i := 1) scGaps.nd rfl (Or.inl rfl))
      (fun s H C cl fp => pts_nil)
      (fun s H C cl fp => pe_op op_sub (pe_ix (r := rIxL K) ix_list (pv 0) (pe_op op_add (pv 1) pe_int) (fun _ _ => rfl)) (pe_ix (r := rIxL K) ix_list (pv 0) (pv 1) (fun _ _ => rfl))))), ?_⟩
    have hlen : (ns.map V.int).length = ns.length := List.length_map ..
    refine ⟨_, rfl, a, _, rfl, .inl hS, _, _, rfl, rfl, _, rfl, (by omega), (by omega), fun D hD => ?_⟩
    rw [hlen, show ((ns.length : Int) - 1).toNat = ns.length - 1 by omega]
    have hne : ∀ H', (∀ b o, H b = some o → H' b = some o) → SqL K H' a (ns.map V.int) := fun H' e => Same.seq e hS
    refine lc_range (lo := 0) (n := ns.length - 1) (fun i H' => Same H H' ∧ H' = upd H D (.lst (((gapsL ns).take i).map V.int))) ⟨fun b o e => by rw [upd_ne (ne_of_none e hD)]; exact e, rfl⟩ ?_ ?_
    · rintro i H' hi ⟨sm, rfl⟩
      have hs' := Same.seq sm hS
      have e0 : (0 : Int) + (i : Int) = (i : Int) := by omega
      refine ⟨rfl, ?_⟩
      refine ⟨_, rfl, _, rfl, _, _, rfl, rfl, a, _, _, _, rfl, rfl, hs', at_ints (i := i + 1) (by show 0 + (i : Int) + 1 = _; omega) (by omega), _, rfl, _, rfl, a, _, _, _, rfl, rfl, hs', at_ints (i := i) (by omega) (by omega), _, _, rfl, rfl, ?_⟩
      refine ⟨_, upd_same, ?_, ?_, ?_⟩
      · rw [List.length_map, List.length_take]
        exact small1000 (by omega)
      · intro b o e
        rw [upd_upd, upd_ne (ne_of_none e hD)]
        exact e
      · rw [upd_upd, List.take_succ, gapsL_getD ns (by omega), List.map_append]
        rfl
    · rintro H' ⟨sm, rfl⟩
      rw [← gapsL_len, List.take_length]
      exact k D hD
end
end HP

set_option Elab.async false
set_option linter.all false
set_option maxRecDepth 100000
set_option maxHeartbeats 2000000
namespace HP
local macro_rules | `(tactic| walk_at "rd") => `(tactic| repeat (first | refine ⟨_, rfl, ?_⟩ | refine ⟨_, _, rfl, rfl, ?_⟩))
open PySem PySem.Spec PyProof.Rows L2 HB HM
abbrev sMin : Stmt := top 3
abbrev sGInit : Stmt := inClass (top 4) 0
abbrev sGHolds : Stmt := inClass (top 4) 1
abbrev sGPiece : Stmt := inClass (top 4) 2
abbrev sGDiv : Stmt := inClass (top 4) 3
section
variable {P : Program} {w : World} {K : PySem.W.Frag} {mg : Str → Option Value} {base : Heap}
def minorsL (xs : List Int) : List Int := (List.range (xs.length - 1)).map fun k => DD (gx xs) (k + 1)
theorem minorsL_len (xs : List Int) : (minorsL xs).length = xs.length - 1 := by unfold minorsL; rw [List.length_map, List.length_range]
theorem range_getD {g : Nat → Int} {n i : Nat} (h : i < n) : ((List.range n).map g).getD i 0 = g i := by
  rw [List.getD_eq_getElem?_getD, List.getElem?_map, List.getElem?_range h]
  rfl
theorem gaps_get {xs : List Int} {i : Nat} (h : i < xs.length - 1) : (gapsL xs).getD i 0 = gx xs i := range_getD h
theorem minors_get {xs : List Int} {i : Nat} (h : i < xs.length - 1) : (minorsL xs).getD i 0 = DD (gx xs) (i + 1) := range_getD h
/-! ### leading_minors -/
def spMin (K : PySem.W.Frag) : Sp := fun vs H Q _ => ∃ (a : Addr) (xs : List Int), vs = [.ref a] ∧ SqL K H a ((gapsL xs).map V.int) ∧ Grd xs ∧ ∀ p, H p = none → Q (.ref p) (upd H p (.lst ((minorsL xs).map V.int)))
theorem scMin : FnScope ["gaps", "minors", "before", "k", "middle", "minor"] ["gaps"] (defScope sMin) := ⟨rfl, rfl, rfl, by decide +kernel, rfl, by decide +kernel, by decide +kernel⟩
theorem ok_min {f : Addr} {fd : FuncData} (F : Fun K "leading_minors" "leading_minors" sMin f fd) (T : Blt mg) : FnOk P w K mg base CX0 1 f fd ["gaps"] (spMin K) := by
  refine F.ok scMin (fun vs H Q E h => ?_) (fun cdv A outer s H vs Q E hr h => ?_)
  · obtain ⟨a, xs, rfl, _⟩ := h
    rfl
  · obtain ⟨a, xs, rfl, hS, G, k⟩ := h
    refine ⟨_, pss_cons (ps_set (i := 1) scMin.nd rfl (Or.inl rfl) (pe_lst (pa_cons pe_int pa_nil)))
      (pss_cons (ps_set (i := 2) scMin.nd rfl (Or.inl rfl) pe_int)
      (pss_cons (ps_for PassesOwn.never rfl (pi_range2 rfl T.range (pa_cons pe_int (pa_cons (pe_callB call_len_seq (by rfl) T.len PySem.boot_len (pa_cons (pv 0) pa_nil)) pa_nil))) (pg_name (i := 3) scMin.nd rfl (Or.inl rfl))
        (pss_cons (ps_set (i := 4) scMin.nd rfl (Or.inl rfl) (pe_op op_mulM pe_int (pe_op op_add (pe_ix ix_list (pv 0) (pe_op op_sub (pv 3) pe_int) (fun _ _ => rfl)) (pe_ix ix_list (pv 0) (pv 3) (fun _ _ => rfl)))))
        (pss_cons (ps_set (i := 5) scMin.nd rfl (Or.inl rfl) (pe_op op_sub (pe_op op_mulM (pv 4) (pe_ix ix_list (pv 1) (pe_op op_sub (pv 3) pe_int) (fun _ _ => rfl)))
          (pe_op op_mulM (pe_op op_mulM (pe_ix ix_list (pv 0) (pe_op op_sub (pv 3) pe_int) (fun _ _ => rfl)) (pe_ix ix_list (pv 0) (pe_op op_sub (pv 3) pe_int) (fun _ _ => rfl))) (pv 2))))
        (pss_cons (ps_set (i := 2) scMin.nd rfl (Or.inl rfl) (pe_ix ix_list (pv 1) (pe_op op_sub (pv 3) pe_int) (fun _ _ => rfl)))
        (pss_one (ps_expr (pe_bm PySem.F.plainAttrs_list PySem.F.slot_list_append PySem.F.type_list_append mt_append (pv 1) (pa_cons (pv 5) pa_nil))))))))
      (pss_one (ps_ret (pv 1))))), ?_⟩
    have hm := G.most
    have h2 := G.ri.two
    have hlg : ((gapsL xs).map V.int).length = xs.length - 1 := by rw [List.length_map, gapsL_len]
    refine ⟨(by show 1 ≤ sizeLine; decide), fun l hl => ?_⟩
    have s1 : ∀ ys : List V, Same H (upd H l (.lst ys)) := fun ys b o e => by rw [upd_ne (ne_of_none e hl)]; exact e
    refine ⟨_, rfl, a, _, rfl, .inl (Same.seq (s1 _) hS), ?_⟩
    rw [hlg]
    refine ⟨_, _, rfl, ⟨by decide, by decide, by omega, by omega⟩, ?_⟩
    rw [show (((xs.length - 1 : Nat) : Int) - 1).toNat = xs.length - 2 by omega]
    refine for_range (lo := 1) (n := xs.length - 2) (fun i σ H' => (∃ v3 v4 v5 : Option V, σ = [some (.ref a), some (.ref l), some (.int (DD (gx xs) i)), v3, v4, v5]) ∧ H' = upd H l (.lst (((List.range (i + 1)).map fun k => DD (gx xs) (k + 1)).map V.int)))
      ⟨⟨none, none, none, rfl⟩, rfl⟩ ?_ ?_
    · rintro i σ H' hi ⟨⟨v3, v4, v5, rfl⟩, rfl⟩
      have hS' := Same.seq (s1 (((List.range (i + 1)).map fun k => DD (gx xs) (k + 1)).map V.int)) hS
      have a1 : atI ((gapsL xs).map V.int) ((1 : Int) + (i : Int) - 1) = some (V.int (gx xs i)) := by
        rw [← gaps_get (xs := xs) (i := i) (by omega)]
        exact at_ints (by omega) (by rw [gapsL_len]; omega)
      have a2 : atI ((gapsL xs).map V.int) ((1 : Int) + (i : Int)) = some (V.int (gx xs (i + 1))) := by
        rw [← gaps_get (xs := xs) (i := i + 1) (by omega)]
        exact at_ints (by omega) (by rw [gapsL_len]; omega)
      have a3 : atI (((List.range (i + 1)).map fun k => DD (gx xs) (k + 1)).map V.int) ((1 : Int) + (i : Int) - 1) = some (V.int (DD (gx xs) (i + 1))) := by
        have := range_getD (g := fun k => DD (gx xs) (k + 1)) (n := i + 1) (i := i) (by omega)
        rw [← this]
        exact at_ints (by omega) (by rw [List.length_map, List.length_range]; omega)
      have g0 := G.gap i
      have g1 := G.gap (i + 1)
      have d0 := G.D (k := i) (by omega)
      have d1 := G.D (k := i + 1) (by omega)
      -- middle
      walk_at "rd"
      refine ⟨a, _, _, _, rfl, rfl, hS', a1, ?_⟩
      walk_at "rd"
      refine ⟨a, _, _, _, rfl, rfl, hS', a2, ?_⟩
      walk_at "rd"
      refine ⟨bd_two.mulOk (g0.add g1) (by decide), ?_⟩
      -- minor
      walk_at "rd"
      refine ⟨l, _, _, _, rfl, rfl, SqL.of upd_same, a3, _, _, rfl, rfl, (bd_two.mul (g0.add g1)).mulOk d1 (by decide), ?_⟩
      walk_at "rd"
      refine ⟨a, _, _, _, rfl, rfl, hS', a1, ?_⟩
      walk_at "rd"
      refine ⟨a, _, _, _, rfl, rfl, hS', a1, _, _, rfl, rfl, g0.mulOk g0 (by decide), ?_⟩
      walk_at "rd"
      refine ⟨(g0.mul g0).mulOk d0 (by decide), ?_⟩
      walk_at "rd"
      -- before
      refine ⟨l, _, _, _, rfl, rfl, SqL.of upd_same, a3, ?_⟩
      -- append
      refine ⟨_, rfl, .inl ⟨rfl, _, SqL.of upd_same⟩, _, rfl, l, _, _, rfl, rfl, upd_same, ?_, ?_⟩
      · rw [List.length_map, List.length_map, List.length_range]
        exact small1000 (by omega)
      · refine ⟨⟨some (.int (1 + (i : Int))), some (.int (2 * (gx xs i + gx xs (i + 1)))), some (.int (DD (gx xs) (i + 2))), rfl⟩, ?_⟩
        rw [upd_upd, List.range_succ (n := i + 1), List.map_append, List.map_append]
        rfl
    · rintro σ H' ⟨⟨v3, v4, v5, rfl⟩, rfl⟩
      rw [show xs.length - 2 + 1 = xs.length - 1 by omega]
      exact ⟨_, rfl, k l hl⟩
end
end HP

set_option Elab.async false
set_option linter.all false
set_option maxRecDepth 100000
set_option maxHeartbeats 2000000
namespace HP
open PySem PySem.Spec PyProof.Rows L2 HB HM
local macro_rules | `(tactic| walk_at "rd") => `(tactic| repeat (first | refine ⟨_, rfl, ?_⟩ | refine ⟨_, _, rfl, rfl, ?_⟩))
local macro_rules | `(tactic| walk_at "lk") => `(tactic| ((repeat (first | rw [lookup_putF, if_pos rfl] | rw [lookup_putF, if_neg (by decide +kernel)])); all_goals rfl))
/-- all but what stands at p is as it was -/
def Kept (p : Addr) (H H' : Hp) : Prop := ∀ b o, H b = some o → b ≠ p → H' b = some o
theorem Kept.refl {p : Addr} {H : Hp} : Kept p H H := fun b o e _ => e
theorem Kept.new {p l : Addr} {H H' : Hp} {o : HO} (k : Kept p H H') (n : H' l = none) : Kept p H (upd H' l o) := fun b u e hb => by
  have := k b u e hb
  rw [upd_ne (ne_of_none this n)]; exact this
theorem Kept.put {p : Addr} {H H' : Hp} {o : HO} (k : Kept p H H') : Kept p H (upd H' p o) := fun b u e hb => by rw [upd_ne hb]; exact k b u e hb
theorem Kept.same {p : Addr} {H H' H2 : Hp} (k : Kept p H H') (s : Same H' H2) : Kept p H H2 := fun b u e hb => s b u (k b u e hb)
theorem Kept.sq {p a C dx : Addr} {fs : List (Str × V)} {K : PySem.W.Frag} {H H' : Hp} {xs : List V} (k : Kept p H H') (hp : H p = some (.ins C dx fs)) (h : SqL K H a xs) : SqL K H' a xs := by
  rcases h with (h | ⟨o, h⟩) | h
  · exact .inl (.inl (k _ _ h (by rintro rfl; rw [hp] at h; cases h)))
  · exact .inl (.inr ⟨o, k _ _ h (by rintro rfl; rw [hp] at h; cases h)⟩)
  · exact .inr h
theorem Same.new {H : Hp} {l : Addr} {o : HO} (n : H l = none) : Same H (upd H l o) := fun b u e => by rw [upd_ne (ne_of_none e n)]; exact e
theorem Kept.trans {p : Addr} {H H1 H2 : Hp} (a : Kept p H H1) (b : Kept p H1 H2) : Kept p H H2 := fun c o e h => b c o (a c o e h) h
/-- a new object, then a store at p -/
theorem stepNew {p l C dx : Addr} {fs : List (Str × V)} {H : Hp} {o u : HO} (hp : H p = some (.ins C dx fs)) (hl : H l = none) :
    upd (upd H l o) p u p = some u ∧ upd (upd H l o) p u l = some o ∧ Kept p H (upd (upd H l o) p u) ∧ l ≠ p ∧ upd H l o p = some (.ins C dx fs) := by
  have n : l ≠ p := fun e => ne_of_none hp hl e.symm
  exact ⟨upd_same, by rw [upd_ne n, upd_same], (Kept.refl.new hl).put, n, by rw [upd_ne (Ne.symm n)]; exact hp⟩
theorem stepPut {p : Addr} {H : Hp} {u : HO} : upd H p u p = some u ∧ Kept p H (upd H p u) := ⟨upd_same, Kept.refl.put⟩
/-! ### Ground -/
def gf (lp lg lm : Addr) (xs : List Int) : List (Str × V) :=
  putF "bends_divisor" (.int (Pof xs * Mof xs)) (putF "minors" (.ref lm) (putF "gaps_product" (.int (Pof xs)) (putF "gaps" (.ref lg) (putF "places" (.ref lp) []))))
/-- a ground over these places stands at g -/
def GroundAt (CG : Addr) (H : Hp) (g : Addr) (xs : List Int) : Prop :=
  ∃ dx lp lg lm, H g = some (.ins CG dx (gf lp lg lm xs)) ∧ Ints H lp xs ∧ Ints H lg (gapsL xs) ∧ Ints H lm (minorsL xs)
theorem GroundAt.same {CG g : Addr} {H H' : Hp} {xs : List Int} (G : GroundAt CG H g xs) (s : Same H H') : GroundAt CG H' g xs := by
  obtain ⟨dx, lp, lg, lm, h1, h2, h3, h4⟩ := G
  exact ⟨dx, lp, lg, lm, s _ _ h1, s _ _ h2, s _ _ h3, s _ _ h4⟩
structure GTxt (K : PySem.W.Frag) (CG : Addr) : Prop where
  cl : Cls K CG
  n1 : NoAttr K CG "places"
  n2 : NoAttr K CG "gaps"
  n3 : NoAttr K CG "gaps_product"
  n4 : NoAttr K CG "minors"
  n5 : NoAttr K CG "bends_divisor"
theorem gf1 {lp lg lm : Addr} {xs : List Int} : (gf lp lg lm xs).lookup ("places" : Str) = some (V.ref lp) := by unfold gf; walk_at "lk"
theorem gf2 {lp lg lm : Addr} {xs : List Int} : (gf lp lg lm xs).lookup ("gaps" : Str) = some (V.ref lg) := by unfold gf; walk_at "lk"
theorem gf3 {lp lg lm : Addr} {xs : List Int} : (gf lp lg lm xs).lookup ("gaps_product" : Str) = some (V.int (Pof xs)) := by unfold gf; walk_at "lk"
theorem gf4 {lp lg lm : Addr} {xs : List Int} : (gf lp lg lm xs).lookup ("minors" : Str) = some (V.ref lm) := by unfold gf; walk_at "lk"
theorem gf5 {lp lg lm : Addr} {xs : List Int} : (gf lp lg lm xs).lookup ("bends_divisor" : Str) = some (V.int (Pof xs * Mof xs)) := by unfold gf; walk_at "lk"
theorem len_put {f : Str} {v : V} {fs : List (Str × V)} {n : Nat} (h : fs.length < n) : (putF f v fs).length < n + 1 := Nat.lt_of_le_of_lt (length_putF f v fs) (by omega)
def spGInit (K : PySem.W.Frag) (CG : Addr) : Sp := fun vs H Q _ => ∃ (p dx a : Addr) (xs : List Int), vs = [.ref p, .ref a] ∧ H p = some (.ins CG dx []) ∧ SqL K H a (xs.map V.int) ∧ Grd xs ∧
  ∀ H' : Hp, GroundAt CG H' p xs → Kept p H H' → Q .non H'
section
variable {P : Program} {w : World} {K : PySem.W.Frag} {mg : Str → Option Value} {base : Heap}
theorem scGInit : FnScope ["self", "places"] ["self", "places"] (defScope sGInit) := ⟨rfl, rfl, rfl, by decide +kernel, rfl, by decide +kernel, by decide +kernel⟩
theorem ok_ginit {f CG : Addr} {fd : FuncData} (F : Fun K "__init__" "Ground.__init__" sGInit f fd) (B : Blt mg) (T : GTxt K CG) (FG : FnAt P w K mg base 1 "gaps_between" ["places"] (spGaps K)) (FP : FnAt P w K mg base 1 "product_of" ["numbers"] (spProd K)) (FM : FnAt P w K mg base 1 "leading_minors" ["gaps"] (spMin K)) :
    FnOk P w K mg base CX0 2 f fd ["self", "places"] (spGInit K CG) := by
  refine F.ok scGInit (fun vs H Q E h => ?_) (fun cdv A outer s H vs Q E hr h => ?_)
  · obtain ⟨p, dx, a, xs, rfl, _⟩ := h
    rfl
  · obtain ⟨p, dx, a, xs, rfl, hp, hS, G, k⟩ := h
    refine ⟨_, pss_cons (ps_fld (pv 0) (pe_callTy call_list_of rfl B.list boot_list (pa_cons (pv 1) pa_nil)) rfl)
      (pss_cons (ps_fld (pv 0) (pe_fn FG hr rfl (pa_cons (pv 1) pa_nil)) rfl)
      (pss_cons (ps_fld (pv 0) (pe_fn FP hr rfl (pa_cons (pe_fld (pv 0) rfl) pa_nil)) rfl)
      (pss_cons (ps_fld (pv 0) (pe_fn FM hr rfl (pa_cons (pe_fld (pv 0) rfl) pa_nil)) rfl)
      (pss_one (ps_fld (pv 0) (pe_op op_mulM (pe_fld (pv 0) rfl) (pe_ix ix_list (pe_fld (pv 0) rfl) (pe_un un_neg pe_int) (fun _ _ => rfl))) rfl))))), ?_⟩
    have hm := G.most
    have h2 := G.ri.two
    -- places
    refine ⟨_, rfl, a, _, rfl, .inl hS, fun lp hlp => ?_⟩
    obtain ⟨p1, l1, k1, n1, q1⟩ := stepNew (o := .lst (xs.map V.int)) (u := .ins CG dx (putF "places" (.ref lp) [])) hp hlp
    refine ⟨_, rfl, p, CG, dx, [], rfl, q1, T.cl, T.n1, (by show 0 < 1000; decide), ?_⟩
    generalize upd (upd H lp (.lst (xs.map V.int))) p (.ins CG dx (putF "places" (.ref lp) [])) = H1 at p1 l1 k1 ⊢
    -- gaps
    refine ⟨_, rfl, a, xs, rfl, k1.sq hp hS, by omega, by omega, fun lg hlg => ?_⟩
    obtain ⟨p2, g2, k2, n2, q2⟩ := stepNew (o := .lst ((gapsL xs).map V.int)) (u := .ins CG dx (putF "gaps" (.ref lg) (putF "places" (.ref lp) []))) p1 hlg
    refine ⟨_, rfl, p, CG, dx, _, rfl, q2, T.cl, T.n2, len_put (n := 999) (by show 0 < 999; decide), ?_⟩
    have l2 := k2 _ _ l1 n1
    generalize upd (upd H1 lg (.lst ((gapsL xs).map V.int))) p (.ins CG dx (putF "gaps" (.ref lg) (putF "places" (.ref lp) []))) = H2 at p2 l2 g2 k2 ⊢
    -- gaps_product
    refine ⟨_, rfl, p, CG, dx, _, _, rfl, p2, T.cl, T.n2, by walk_at "lk", lg, gapsL xs, rfl, SqL.of g2, by rw [gapsL_len]; omega, G.gaps, ?_⟩
    refine ⟨_, rfl, p, CG, dx, _, rfl, p2, T.cl, T.n3, len_put (n := 999) (len_put (n := 998) (by show 0 < 998; decide)), ?_⟩
    obtain ⟨p3, k3⟩ := stepPut (p := p) (H := H2) (u := .ins CG dx (putF "gaps_product" (.int (prodL (gapsL xs))) (putF "gaps" (.ref lg) (putF "places" (.ref lp) []))))
    have l3 := k3 _ _ l2 n1
    have g3 := k3 _ _ g2 n2
    generalize upd H2 p (.ins CG dx (putF "gaps_product" (.int (prodL (gapsL xs))) (putF "gaps" (.ref lg) (putF "places" (.ref lp) [])))) = H3 at p3 l3 g3 k3 ⊢
    -- minors
    refine ⟨_, rfl, p, CG, dx, _, _, rfl, p3, T.cl, T.n2, by walk_at "lk", lg, xs, rfl, SqL.of g3, G, fun lm hlm => ?_⟩
    obtain ⟨p4, m4, k4, n4, q4⟩ := stepNew (o := .lst ((minorsL xs).map V.int)) (u := .ins CG dx (putF "minors" (.ref lm) (putF "gaps_product" (.int (prodL (gapsL xs))) (putF "gaps" (.ref lg) (putF "places" (.ref lp) []))))) p3 hlm
    refine ⟨_, rfl, p, CG, dx, _, rfl, q4, T.cl, T.n4, len_put (n := 999) (len_put (n := 998) (len_put (n := 997) (by show 0 < 997; decide))), ?_⟩
    have l4 := k4 _ _ l3 n1
    have g4 := k4 _ _ g3 n2
    generalize upd (upd H3 lm (.lst ((minorsL xs).map V.int))) p (.ins CG dx (putF "minors" (.ref lm) (putF "gaps_product" (.int (prodL (gapsL xs))) (putF "gaps" (.ref lg) (putF "places" (.ref lp) []))))) = H4 at p4 l4 g4 m4 k4 ⊢
    -- bends_divisor
    have al : atI ((minorsL xs).map V.int) (-1) = some (V.int (Mof xs)) := by
      have e : (minorsL xs).map V.int = ((List.range (xs.length - 2)).map fun k => DD (gx xs) (k + 1)).map V.int ++ [V.int (Mof xs)] := by
        unfold minorsL Mof
        rw [show xs.length - 1 = xs.length - 2 + 1 by omega, List.range_succ, List.map_append, List.map_append]
        rfl
      rw [e]
      exact atI_last _ _
    refine ⟨_, rfl, p, CG, dx, _, _, rfl, p4, T.cl, T.n3, by walk_at "lk", _, rfl, p, CG, dx, _, _, rfl, p4, T.cl, T.n4, by walk_at "lk", _, rfl, lm, _, _, _, rfl, rfl, SqL.of m4, al, _, _, rfl, rfl, G.P.mulOk G.M (by decide), ?_⟩
    refine ⟨_, rfl, p, CG, dx, _, rfl, p4, T.cl, T.n5, len_put (n := 999) (len_put (n := 998) (len_put (n := 997) (len_put (n := 996) (by show 0 < 996; decide)))), ?_⟩
    obtain ⟨p5, k5⟩ := stepPut (p := p) (H := H4) (u := .ins CG dx (gf lp lg lm xs))
    exact k _ ⟨dx, lp, lg, lm, p5, k5 _ _ l4 n1, k5 _ _ g4 n2, k5 _ _ m4 n4⟩ ((((k1.trans k2).trans k3).trans k4).trans k5)

/-! ### Ground.holds -/
def inB (xs : List Int) (x : Int) : Bool := decide (xs.getD 0 0 ≤ x) && decide (x ≤ xs.getD (xs.length - 1) 0)
theorem inB_iff {xs : List Int} {x : Int} : inB xs x = true ↔ Within xs x := by
  unfold inB HM.Within
  rw [Bool.and_eq_true, decide_eq_true_eq, decide_eq_true_eq]
theorem last_ints {ns : List Int} (h : 1 ≤ ns.length) : atI (ns.map V.int) (-1) = some (V.int (ns.getD (ns.length - 1) 0)) := by
  have e : ixN (ns.map V.int).length (-1) = some (ns.length - 1) := by
    unfold ixN
    rw [List.length_map, if_neg (by decide), if_pos (by omega)]
    congr 1
    omega
  unfold atI
  rw [e]
  exact get_ints (by omega)
def spGHolds (CG : Addr) : Sp := fun vs H Q _ => ∃ (g : Addr) (xs : List Int) (x : Int), vs = [.ref g, .int x] ∧ GroundAt CG H g xs ∧ Grd xs ∧ Q (.bl (inB xs x)) H
theorem scGHolds : FnScope ["self", "place"] ["self", "place"] (defScope sGHolds) := ⟨rfl, rfl, rfl, by decide +kernel, rfl, by decide +kernel, by decide +kernel⟩
theorem ok_gholds {f CG : Addr} {fd : FuncData} (F : Fun K "holds" "Ground.holds" sGHolds f fd) (T : GTxt K CG) : FnOk P w K mg base CX0 1 f fd ["self", "place"] (spGHolds CG) := by
  refine F.ok scGHolds (fun vs H Q E h => ?_) (fun cdv A outer s H vs Q E hr h => ?_)
  · obtain ⟨g, xs, x, rfl, _⟩ := h
    rfl
  · obtain ⟨g, xs, x, rfl, ⟨dx, lp, lg, lm, hg, hlp, hlg, hlm⟩, G, k⟩ := h
    have h2 := G.ri.two
    refine ⟨_, pss_one (ps_ret (pe_chain op_le op_le (pe_ix ix_list (pe_fld (pv 0) rfl) pe_int (fun _ _ => rfl)) (pv 1) (pe_ix ix_list (pe_fld (pv 0) rfl) (pe_un un_neg pe_int) (fun _ _ => rfl)))), ?_⟩
    refine ⟨_, rfl, g, CG, dx, _, _, rfl, hg, T.cl, T.n1, gf1, lp, _, _, _, rfl, rfl, SqL.of hlp, at_ints (i := 0) rfl (by omega), _, rfl, _, _, rfl, rfl, _, rfl, ?_⟩
    refine ite2 (fun e => ?_) (fun e => ?_)
    · refine ⟨_, rfl, g, CG, dx, _, _, rfl, hg, T.cl, T.n1, gf1, _, rfl, lp, _, _, _, rfl, rfl, SqL.of hlp, last_ints (by omega), _, _, rfl, rfl, ?_⟩
      unfold inB at k
      rw [e, Bool.true_and] at k
      exact k
    · unfold inB at k
      rw [Bool.not_eq_true] at e
      rw [e, Bool.false_and] at k
      exact k
/-! ### Ground.piece_at -/
def spGPiece (CG : Addr) : Sp := fun vs H Q _ => ∃ (g : Addr) (xs : List Int) (x : Int), vs = [.ref g, .int x] ∧ GroundAt CG H g xs ∧ Grd xs ∧ Within xs x ∧ Q (.int (pieceOf xs x : Nat)) H
theorem scGPiece : FnScope ["self", "place", "k"] ["self", "place"] (defScope sGPiece) := ⟨rfl, rfl, rfl, by decide +kernel, rfl, by decide +kernel, by decide +kernel⟩
theorem ok_gpiece {f CG : Addr} {fd : FuncData} (F : Fun K "piece_at" "Ground.piece_at" sGPiece f fd) (T : GTxt K CG) : FnOk P w K mg base CX0 1 f fd ["self", "place"] (spGPiece CG) := by
  refine F.ok scGPiece (fun vs H Q E h => ?_) (fun cdv A outer s H vs Q E hr h => ?_)
  · obtain ⟨g, xs, x, rfl, _⟩ := h
    rfl
  · obtain ⟨g, xs, x, rfl, ⟨dx, lp, lg, lm, hg, hlp, hlg, hlm⟩, G, hx, k⟩ := h
    have h2 := G.ri.two
    obtain ⟨k1, k2⟩ := piece_hi x xs h2 hx.2
    refine ⟨_, pss_cons (ps_set (i := 2) scGPiece.nd rfl (Or.inl rfl) pe_int)
      (pss_cons (ps_while PassesOwn.never (pt_cmpR op_lt (pe_ix ix_list (pe_fld (pv 0) rfl) (pe_op op_add (pv 2) pe_int) (fun _ _ => rfl)) (pv 1) (nomark _))
        (pss_one (ps_set (i := 2) scGPiece.nd rfl (Or.inl rfl) (pe_op op_add (pv 2) pe_int))))
      (pss_one (ps_ret (pv 2)))), ?_⟩
    refine ⟨fun m σ H' => ∃ i : Nat, m + i = pieceOf xs x ∧ σ = [some (.ref g), some (.int x), some (.int (i : Nat))] ∧ H' = H, ⟨pieceOf xs x, 0, rfl, rfl, rfl⟩, ?_⟩
    rintro m σ H' ⟨i, hi, rfl, rfl⟩
    have hi' : i + 1 < xs.length := by unfold pieceOf at hi; omega
    refine ⟨_, rfl, g, CG, dx, _, _, rfl, hg, T.cl, T.n1, gf1, _, rfl, _, _, rfl, rfl, lp, _, _, _, rfl, rfl, SqL.of hlp, at_ints (i := i + 1) (by show (i : Int) + 1 = _; omega) hi', _, rfl, _, _, rfl, rfl, _, rfl, ?_⟩
    refine ite2 (fun e => ?_) (fun e => ?_)
    · have e' := of_decide_eq_true e
      have lt : i < pieceOf xs x := by
        rcases Nat.lt_or_ge i (pieceOf xs x) with z | z
        · exact z
        · have : i = pieceFrom x xs := by unfold pieceOf at z hi; omega
          rw [this] at e'
          omega
      refine ⟨fun σ' H'' => σ' = [some (.ref g), some (.int x), some (.int ((i + 1 : Nat) : Int))] ∧ H'' = H', fun σ' H'' ⟨a, b⟩ => ⟨m - 1, by omega, i + 1, by omega, a, b⟩, ?_⟩
      exact ⟨_, rfl, _, _, rfl, rfl, rfl, rfl⟩
    · have e' : ¬ xs.getD (i + 1) 0 < x := fun z => e (decide_eq_true z)
      have ee : i = pieceOf xs x := by
        rcases Nat.lt_or_ge i (pieceOf xs x) with z | z
        · exact absurd (piece_lo x xs i z) e'
        · omega
      subst ee
      exact ⟨_, rfl, k⟩
/-! ### Ground.divisor_at -/
def spGDiv (CG : Addr) : Sp := fun vs H Q _ => ∃ (g : Addr) (xs : List Int) (x : Int), vs = [.ref g, .int x] ∧ GroundAt CG H g xs ∧ Grd xs ∧ Within xs x ∧ Q (.int (divOf xs x)) H
theorem scGDiv : FnScope ["self", "place"] ["self", "place"] (defScope sGDiv) := ⟨rfl, rfl, rfl, by decide +kernel, rfl, by decide +kernel, by decide +kernel⟩
theorem gf_no {lp lg lm : Addr} {xs : List Int} {m : Str} (h : m ≠ "places" ∧ m ≠ "gaps" ∧ m ≠ "gaps_product" ∧ m ≠ "minors" ∧ m ≠ "bends_divisor") : (gf lp lg lm xs).lookup m = none := by
  unfold gf
  rw [lookup_putF, if_neg h.2.2.2.2, lookup_putF, if_neg h.2.2.2.1, lookup_putF, if_neg h.2.2.1, lookup_putF, if_neg h.2.1, lookup_putF, if_neg h.1]
  rfl
theorem gaps_at {xs : List Int} {i : Nat} (h : i < xs.length - 1) : atI ((gapsL xs).map V.int) ((i : Nat) : Int) = some (V.int (gx xs i)) := by
  rw [← gaps_get h]
  exact at_ints rfl (by rw [gapsL_len]; exact h)
theorem ok_gdiv {f CG : Addr} {fd : FuncData} (F : Fun K "divisor_at" "Ground.divisor_at" sGDiv f fd) (T : GTxt K CG) (MP : MtAt P w K mg base 1 CG "piece_at" ["self", "place"] (spGPiece CG)) : FnOk P w K mg base CX0 2 f fd ["self", "place"] (spGDiv CG) := by
  refine F.ok scGDiv (fun vs H Q E h => ?_) (fun cdv A outer s H vs Q E hr h => ?_)
  · obtain ⟨g, xs, x, rfl, _⟩ := h
    rfl
  · obtain ⟨g, xs, x, rfl, GA, G, hx, k⟩ := h
    have GA' := GA
    obtain ⟨dx, lp, lg, lm, hg, hlp, hlg, hlm⟩ := GA'
    refine ⟨_, pss_one (ps_ret (pe_op op_mulM (pe_op op_mulM pe_int (pe_fld (pv 0) rfl)) (pe_ix ix_list (pe_fld (pv 0) rfl) (pe_mt MP hr (pv 0) (pa_cons (pv 1) pa_nil)) (fun _ _ => rfl)))), ?_⟩
    refine ⟨_, rfl, g, CG, dx, _, _, rfl, hg, T.cl, T.n5, gf5, _, _, rfl, rfl, bd_six.mulOk G.PM (by decide), _, rfl, g, CG, dx, _, _, rfl, hg, T.cl, T.n2, gf2, _, rfl, g, dx, _, rfl, hg, gf_no (by decide +kernel), _, rfl, g, xs, x, rfl, GA, G, hx, ?_⟩
    exact ⟨lg, _, _, _, rfl, rfl, SqL.of hlg, gaps_at (piece_lt G hx), _, _, rfl, rfl, (bd_six.mul G.PM).mulOk (G.gap _) (by decide), k⟩
end
end HP

set_option Elab.async false
set_option linter.all false
set_option maxRecDepth 100000
set_option maxHeartbeats 2000000
namespace HP
open PySem PySem.Spec PyProof.Rows L2 HB HM
/-! ### a list is put aside while an expression is walked -/
def hide (H : Hp) (D : Addr) : Hp := fun b => if b = D then none else H b
section
variable {H H' : Hp} {D b : Addr} {o : HO}
theorem hide_self : hide H D D = none := if_pos rfl
theorem hide_ne (h : b ≠ D) : hide H D b = H b := if_neg h
theorem hide_some (h : hide H D b = some o) : b ≠ D ∧ H b = some o := by
  by_cases c : b = D
  · rw [c, hide_self] at h
    cases h
  · rw [hide_ne c] at h
    exact ⟨c, h⟩
theorem hide_none (h : H b = none) : hide H D b = none := by
  by_cases c : b = D
  · rw [c, hide_self]
  · rw [hide_ne c]
    exact h
theorem hide_upd (h : H D = none) : hide (upd H D o) D = H := by
  funext x
  by_cases c : x = D
  · rw [c, hide_self, h]
  · rw [hide_ne c, upd_ne c]
theorem hide_same (s : Same H H') : Same (hide H D) (hide H' D) := fun x o e => by
  obtain ⟨c, e⟩ := hide_some e
  rw [hide_ne c]
  exact s _ _ e
end
def tHide (t : TE) : TE := fun σ H Q => ∃ D xs, H D = some (.lst xs) ∧ t σ (hide H D) (fun v H' => H' D = none → Q v (upd H' D (.lst xs)))
theorem pe_hide {X : Cx} {e : Expr} {t : TE} (h : PE X e t) : PE X e (tHide t) := by
  intro pins s σ H Q I hw
  obtain ⟨D, xs, hD, ht⟩ := hw
  have hok := I.hok D _ hD
  obtain ⟨hz, its, n, rv, hobj⟩ := id hok
  have nL : D ≠ X.env.locals := ne_of_none hD I.free
  have nC : ∀ x c, X.env.cells.lookup x = some c → c ≠ D := fun x c e z => by
    have := I.freeC x c e
    rw [z, hD] at this
    cases this
  have nF : D ∉ X.fs := fun hb => by
    obtain ⟨_, o, ho, _⟩ := I.ok.funs.mem hb
    have := I.base.free D o ho (I.ok.frf D hb) fun z => I.ok.exfs D z hb
    rw [hD] at this
    cases this
  have nP : ∀ p ∈ X.pn ++ pins, p.1 ≠ D := fun p hp z => by
    have := (I.pin p hp).2.1
    rw [z, hD] at this
    cases this
  have I' : L2.Inv X ((D, { cls := .type "list", data := .seq its.toArray n }) :: pins) σ (hide H D) s := by
    refine ⟨I.ok, I.os, I.bare, ⟨I.base.keep, I.base.slot, fun b o e z hx => hide_none (I.base.free b o e z hx), I.base.there, fun b ys e => ?_, fun b o u e => ?_, fun b ps e => ?_⟩, I.loc, I.cell, hide_none I.free, fun x c e => hide_none (I.freeC x c e), fun p hp => ?_, fun b o e => ?_, I.len⟩
    · have := I.base.tups b ys e
      rw [hide_ne (ne_of this hD (by intro z; cases z))]
      exact this
    · have := I.base.frzs b o u e
      rw [hide_ne (ne_of this hD (by intro z; cases z))]
      exact this
    · obtain ⟨more, this⟩ := I.base.tbls b ps e
      refine ⟨more, ?_⟩
      rw [hide_ne (ne_of this hD (by intro z; cases z))]
      exact this
    · have old : p ∈ X.pn ++ pins → _ := fun hp => (⟨(I.pin p hp).1, hide_none (I.pin p hp).2.1, (I.pin p hp).2.2.1, (I.pin p hp).2.2.2.1, (I.pin p hp).2.2.2.2⟩ : s.heap.get? p.1 = some p.2 ∧ hide H D p.1 = none ∧ p.1 ≠ X.env.locals ∧ p.1 ∉ X.fs ∧ ∀ v, p.2.data ≠ .cell v)
      rcases List.mem_append.mp hp with q | q
      · exact old (List.mem_append_left _ q)
      · rcases List.mem_cons.mp q with q | q
        · subst q
          exact ⟨hobj, hide_self, nL, nF, fun v z => by cases z⟩
        · exact old (List.mem_append_right _ q)
    · obtain ⟨c, e⟩ := hide_some e
      refine (I.hok b o e).stay (fun _ _ _ q => q) (fun x q => ?_) (fun x ys q => ?_)
      · rw [hide_ne (ne_of q hD (by intro z; cases z))]
        exact q
      · rw [hide_ne (ne_of q hD (by intro z; cases z))]
        exact q
  refine thn (h _ s σ (hide H D) _ I' ht) fun u s' ⟨v, H', I2, r, q⟩ => ?_
  have pD := I2.pin (D, { cls := .type "list", data := .seq its.toArray n }) (List.mem_append_right _ (List.mem_cons_self ..))
  have fD : H' D = none := pD.2.1
  refine ⟨v, upd H' D (.lst xs), ?_, r, q fD⟩
  have sm : ∀ {b : Addr} {o : HO}, H' b = some o → upd H' D (.lst xs) b = some o := fun {b o} e => by
    rw [upd_ne (ne_of_none e fD)]
    exact e
  refine ⟨I2.ok, I2.os, I2.bare, ⟨I2.base.keep, I2.base.slot, fun b o e z hx => ?_, I2.base.there, fun b ys e => sm (I2.base.tups b ys e), fun b o u e => sm (I2.base.frzs b o u e), fun b ps e => ?_⟩, I2.loc, I2.cell, ?_, fun x c e => ?_, fun p hp => ?_, fun b o e => ?_, I2.len⟩
  · have c : b ≠ D := fun c => by
      have := I.base.free b o e z hx
      rw [c, hD] at this
      cases this
    rw [upd_ne c]
    exact I2.base.free b o e z hx
  · obtain ⟨more, this⟩ := I2.base.tbls b ps e
    exact ⟨more, sm this⟩
  · rw [upd_ne (Ne.symm nL)]
    exact I2.free
  · rw [upd_ne (nC x c e)]
    exact I2.freeC x c e
  · obtain ⟨a1, a2, a3⟩ := I2.pin p (by
      rcases List.mem_append.mp hp with q | q
      · exact List.mem_append_left _ q
      · exact List.mem_append_right _ (List.mem_cons_of_mem _ q))
    refine ⟨a1, ?_, a3⟩
    rw [upd_ne (nP p hp)]
    exact a2
  · by_cases c : b = D
    · subst c
      rw [upd_same] at e
      injection e with e
      subst e
      exact ⟨hz, its, n, rv, pD.1⟩
    · rw [upd_ne c] at e
      exact (I2.hok b o e).stay (fun _ _ _ q => q) (fun x q => sm q) (fun x ys q => sm q)
end HP

set_option Elab.async false
set_option linter.all false
set_option maxRecDepth 100000
set_option maxHeartbeats 2000000
namespace HP
open PySem PySem.Spec PyProof.Rows L2 HB HM
local macro_rules | `(tactic| walk_at "rd") => `(tactic| repeat (first | refine ⟨_, rfl, ?_⟩ | refine ⟨_, _, rfl, rfl, ?_⟩))
local macro_rules | `(tactic| walk_at "lk") => `(tactic| ((repeat (first | rw [lookup_putF, if_pos rfl] | rw [lookup_putF, if_neg (by decide +kernel)])); all_goals rfl))
abbrev sRise : Stmt := top 5
abbrev sSides : Stmt := top 6
abbrev sBends : Stmt := top 7
abbrev sBInit : Stmt := inClass (top 8) 0
abbrev sBVal : Stmt := inClass (top 8) 1
abbrev sBSlope : Stmt := inClass (top 8) 2
section
variable {P : Program} {w : World} {K : PySem.W.Frag} {mg : Str → Option Value} {base : Heap}
/-- values that a batten may go through -/
structure Vs (xs ws : List Int) : Prop where
  len : ws.length = xs.length
  bd : ∀ x ∈ ws, Bd 6000 x
/-! ### scaled_rise -/
def spRise (K : PySem.W.Frag) (CG : Addr) : Sp := fun vs H Q _ => ∃ (g a : Addr) (xs ws : List Int) (i : Nat), vs = [.ref g, .ref a, .int (i : Nat)] ∧ GroundAt CG H g xs ∧ Grd xs ∧ SqL K H a (ws.map V.int) ∧ Vs xs ws ∧ i < xs.length - 1 ∧ Q (.int (rise xs ws i)) H
theorem scRise : FnScope ["ground", "values", "k"] ["ground", "values", "k"] (defScope sRise) := ⟨rfl, rfl, rfl, by decide +kernel, rfl, by decide +kernel, by decide +kernel⟩
theorem ok_rise {f CG : Addr} {fd : FuncData} (F : Fun K "scaled_rise" "scaled_rise" sRise f fd) (T : GTxt K CG) : FnOk P w K mg base CX0 1 f fd ["ground", "values", "k"] (spRise K CG) := by
  refine F.ok scRise (fun vs H Q E h => ?_) (fun cdv A outer s H vs Q E hr h => ?_)
  · obtain ⟨g, a, xs, ws, i, rfl, _⟩ := h
    rfl
  · obtain ⟨g, a, xs, ws, i, rfl, ⟨dx, lp, lg, lm, hg, hlp, hlg, hlm⟩, G, hS, W, hi, k⟩ := h
    have hl := W.len
    refine ⟨_, pss_one (ps_ret (pe_op op_mulM (pe_op op_sub (pe_ix ix_list (pv 1) (pe_op op_add (pv 2) pe_int) (fun _ _ => rfl)) (pe_ix ix_list (pv 1) (pv 2) (fun _ _ => rfl)))
      (pe_op op_fdivM (pe_fld (pv 0) rfl) (pe_ix ix_list (pe_fld (pv 0) rfl) (pv 2) (fun _ _ => rfl))))), ?_⟩
    walk_at "rd"
    refine ⟨a, _, _, _, rfl, rfl, hS, at_ints (i := i + 1) (by show (i : Int) + 1 = _; omega) (by omega), ?_⟩
    walk_at "rd"
    refine ⟨a, _, _, _, rfl, rfl, hS, at_ints (i := i) rfl (by omega), ?_⟩
    walk_at "rd"
    refine ⟨g, CG, dx, _, _, rfl, hg, T.cl, T.n3, gf3, ?_⟩
    walk_at "rd"
    refine ⟨g, CG, dx, _, _, rfl, hg, T.cl, T.n2, gf2, ?_⟩
    walk_at "rd"
    refine ⟨lg, _, _, _, rfl, rfl, SqL.of hlg, gaps_at hi, ?_⟩
    walk_at "rd"
    refine ⟨⟨G.ri.gx_pos hi, (G.gap i).mono (by decide)⟩, ?_⟩
    walk_at "rd"
    exact ⟨((getD_bd W.bd (i + 1)).sub (getD_bd W.bd i)).mulOk (G.P.ediv _) (by decide), k⟩
/-! ### eliminated_sides -/
def sidesL (xs ws : List Int) : List Int := (List.range (xs.length - 1)).map (SS (gx xs) (sideOf xs ws))
def spSides (K : PySem.W.Frag) (CG : Addr) : Sp := fun vs H Q _ => ∃ (g a : Addr) (xs ws : List Int), vs = [.ref g, .ref a] ∧ GroundAt CG H g xs ∧ Grd xs ∧ SqL K H a (ws.map V.int) ∧ Vs xs ws ∧ ∀ p, H p = none → Q (.ref p) (upd H p (.lst ((sidesL xs ws).map V.int)))
theorem scSides : FnScope ["ground", "values", "sides", "k", "side"] ["ground", "values"] (defScope sSides) := ⟨rfl, rfl, rfl, by decide +kernel, rfl, by decide +kernel, by decide +kernel⟩
theorem minors_at {xs : List Int} {z : Int} {i : Nat} (e : z = (i : Int)) (h : i < xs.length - 1) : atI ((minorsL xs).map V.int) z = some (V.int (DD (gx xs) (i + 1))) := by
  rw [← minors_get h]
  exact at_ints e (by rw [minorsL_len]; exact h)
theorem gaps_at' {xs : List Int} {z : Int} {i : Nat} (e : z = (i : Int)) (h : i < xs.length - 1) : atI ((gapsL xs).map V.int) z = some (V.int (gx xs i)) := by
  rw [e]
  exact gaps_at h
theorem ok_sides {f CG : Addr} {fd : FuncData} (F : Fun K "eliminated_sides" "eliminated_sides" sSides f fd) (B : Blt mg) (T : GTxt K CG) (FR : FnAt P w K mg base 1 "scaled_rise" ["ground", "values", "k"] (spRise K CG)) : FnOk P w K mg base CX0 2 f fd ["ground", "values"] (spSides K CG) := by
  refine F.ok scSides (fun vs H Q E h => ?_) (fun cdv A outer s H vs Q E hr h => ?_)
  · obtain ⟨g, a, xs, ws, rfl, _⟩ := h
    rfl
  · obtain ⟨g, a, xs, ws, rfl, GA, G, hS, W, k⟩ := h
    have hl := W.len
    have hm := G.most
    have h2 := G.ri.two
    refine ⟨_, pss_cons (ps_set (i := 2) scSides.nd rfl (Or.inl rfl) (pe_lst (pa_cons pe_int pa_nil)))
      (pss_cons (ps_for PassesOwn.never rfl (pi_range2 rfl B.range (pa_cons pe_int (pa_cons (pe_callB call_len_seq (by rfl) B.len PySem.boot_len (pa_cons (pe_fld (pv 0) rfl) pa_nil)) pa_nil))) (pg_name (i := 3) scSides.nd rfl (Or.inl rfl))
        (pss_cons (ps_set (i := 4) scSides.nd rfl (Or.inl rfl) (pe_op op_mulM pe_int (pe_op op_sub (pe_fn FR hr rfl (pa_cons (pv 0) (pa_cons (pv 1) (pa_cons (pv 3) pa_nil)))) (pe_fn FR hr rfl (pa_cons (pv 0) (pa_cons (pv 1) (pa_cons (pe_op op_sub (pv 3) pe_int) pa_nil)))))))
        (pss_one (ps_expr (pe_bm PySem.F.plainAttrs_list PySem.F.slot_list_append PySem.F.type_list_append mt_append (pv 2)
          (pa_cons (pe_op op_sub (pe_op op_mulM (pe_ix ix_list (pe_fld (pv 0) rfl) (pe_op op_sub (pv 3) pe_int) (fun _ _ => rfl)) (pv 4))
            (pe_op op_mulM (pe_ix ix_list (pe_fld (pv 0) rfl) (pe_op op_sub (pv 3) pe_int) (fun _ _ => rfl)) (pe_ix ix_list (pv 2) (pe_op op_sub (pv 3) pe_int) (fun _ _ => rfl)))) pa_nil))))))
      (pss_one (ps_ret (pv 2)))), ?_⟩
    refine ⟨(by show 1 ≤ sizeLine; decide), fun l hl' => ?_⟩
    have s1 : ∀ ys : List V, Same H (upd H l (.lst ys)) := fun ys => Same.new hl'
    have GA1 := GA.same (s1 ([0].map V.int))
    obtain ⟨dx, lp, lg, lm, hg, hlp, hlg, hlm⟩ := GA1
    refine ⟨_, rfl, g, CG, dx, _, _, rfl, hg, T.cl, T.n2, gf2, lg, _, rfl, .inl (SqL.of hlg), ?_⟩
    rw [show ((gapsL xs).map V.int).length = xs.length - 1 by rw [List.length_map, gapsL_len]]
    refine ⟨_, _, rfl, ⟨by decide, by decide, by omega, by omega⟩, ?_⟩
    rw [show (((xs.length - 1 : Nat) : Int) - 1).toNat = xs.length - 2 by omega]
    refine for_range (lo := 1) (n := xs.length - 2) (fun i σ H' => (∃ v3 v4 : Option V, σ = [some (.ref g), some (.ref a), some (.ref l), v3, v4]) ∧ H' = upd H l (.lst (((List.range (i + 1)).map (SS (gx xs) (sideOf xs ws))).map V.int)))
      ⟨⟨none, none, rfl⟩, rfl⟩ ?_ ?_
    · rintro i σ H' hi ⟨⟨v3, v4, rfl⟩, rfl⟩
      have sm := s1 (((List.range (i + 1)).map (SS (gx xs) (sideOf xs ws))).map V.int)
      have hS' := Same.seq sm hS
      have GA' := GA.same sm
      have GA'' := GA'
      obtain ⟨dx, lp, lg, lm, hg, hlp, hlg, hlm⟩ := GA''
      have a3 : atI (((List.range (i + 1)).map (SS (gx xs) (sideOf xs ws))).map V.int) ((1 : Int) + (i : Int) - 1) = some (V.int (SS (gx xs) (sideOf xs ws) i)) := by
        have := range_getD (g := SS (gx xs) (sideOf xs ws)) (n := i + 1) (i := i) (by omega)
        rw [← this]
        exact at_ints (by omega) (by rw [List.length_map, List.length_range]; omega)
      walk_at "rd"
      refine ⟨g, a, xs, ws, i + 1, by show [V.ref g, V.ref a, V.int (1 + (i : Int))] = [V.ref g, V.ref a, V.int ((i + 1 : Nat) : Int)]; rw [show ((i + 1 : Nat) : Int) = 1 + (i : Int) by omega], GA', G, hS', W, by omega, ?_⟩
      walk_at "rd"
      refine ⟨g, a, xs, ws, i, by show [V.ref g, V.ref a, V.int (1 + (i : Int) - 1)] = [V.ref g, V.ref a, V.int (i : Int)]; rw [show (1 : Int) + (i : Int) - 1 = i by omega], GA', G, hS', W, by omega, ?_⟩
      walk_at "rd"
      have r1 := rise_bd G W.bd (i + 1)
      have r0 := rise_bd G W.bd i
      have d1 := G.D (k := i + 1) (by omega)
      have s0 := S_bd G W.bd (k := i) (by omega)
      have g0 := G.gap i
      have sb : Bd 6570 (6 * (rise xs ws (i + 1) - rise xs ws i)) := (bd_six.mul (r1.sub r0)).mono (by decide)
      refine ⟨bd_six.mulOk (r1.sub r0) (by decide), ?_⟩
      refine ⟨_, rfl, .inl ⟨rfl, _, SqL.of upd_same⟩, ?_⟩
      walk_at "rd"
      refine ⟨g, CG, dx, _, _, rfl, hg, T.cl, T.n4, gf4, ?_⟩
      walk_at "rd"
      refine ⟨lm, _, _, _, rfl, rfl, SqL.of hlm, minors_at (i := i) (by omega) (by omega), ?_⟩
      walk_at "rd"
      refine ⟨d1.mulOk sb (by decide), ?_⟩
      walk_at "rd"
      refine ⟨g, CG, dx, _, _, rfl, hg, T.cl, T.n2, gf2, ?_⟩
      walk_at "rd"
      refine ⟨lg, _, _, _, rfl, rfl, SqL.of hlg, gaps_at' (i := i) (by omega) (by omega), ?_⟩
      walk_at "rd"
      refine ⟨l, _, _, _, rfl, rfl, SqL.of upd_same, a3, ?_⟩
      walk_at "rd"
      refine ⟨g0.mulOk s0 (by decide), ?_⟩
      walk_at "rd"
      refine ⟨l, _, _, rfl, rfl, upd_same, ?_, ?_⟩
      · rw [List.length_map, List.length_map, List.length_range]
        exact small1000 (by omega)
      · refine ⟨⟨_, _, rfl⟩, ?_⟩
        rw [upd_upd, List.range_succ (n := i + 1), List.map_append, List.map_append]
        rfl
    · rintro σ H' ⟨⟨v3, v4, rfl⟩, rfl⟩
      rw [show xs.length - 2 + 1 = xs.length - 1 by omega]
      exact ⟨_, rfl, k l hl'⟩
end
end HP

set_option Elab.async false
set_option linter.all false
set_option maxRecDepth 100000
set_option maxHeartbeats 2000000
namespace HP
open PySem PySem.Spec PyProof.Rows L2 HB HM
local macro_rules | `(tactic| walk_at "rd") => `(tactic| repeat (first | refine ⟨_, rfl, ?_⟩ | refine ⟨_, _, rfl, rfl, ?_⟩))
local macro_rules | `(tactic| walk_at "lk") => `(tactic| ((repeat (first | rw [lookup_putF, if_pos rfl] | rw [lookup_putF, if_neg (by decide +kernel)])); all_goals rfl))
section
variable {P : Program} {w : World} {K : PySem.W.Frag} {mg : Str → Option Value} {base : Heap}
/-! ### bends_through -/
def bendsL (xs ws : List Int) : List Int := (List.range xs.length).map (Bof xs ws)
/-- the bends behind i turns -/
def bl (xs ws : List Int) (i : Nat) : List Int := (List.range xs.length).map fun j => if xs.length - 1 - i ≤ j then Bof xs ws j else 0
theorem bl_len (xs ws : List Int) (i : Nat) : (bl xs ws i).length = xs.length := by unfold bl; rw [List.length_map, List.length_range]
theorem bl_start {xs ws : List Int} (h : 2 ≤ xs.length) : (List.replicate xs.length [V.int 0]).flatten = (bl xs ws 0).map V.int := by
  rw [List.flatten_replicate_singleton]
  refine List.ext_getElem? fun j => ?_
  unfold bl
  rw [List.getElem?_map, List.getElem?_map, List.getElem?_replicate]
  by_cases hj : j < xs.length
  · rw [if_pos hj, List.getElem?_range hj]
    show some (V.int 0) = some (V.int (if xs.length - 1 - 0 ≤ j then Bof xs ws j else 0))
    by_cases hj2 : xs.length - 1 - 0 ≤ j
    · rw [if_pos hj2, show j = xs.length - 1 by omega]
      unfold Bof
      rw [BB_top _ _ _ (by omega)]
    · rw [if_neg hj2]
  · rw [if_neg hj, List.getElem?_eq_none (by rw [List.length_range]; omega)]
    rfl
theorem bl_end {xs ws : List Int} (h : 2 ≤ xs.length) : bl xs ws (xs.length - 2) = bendsL xs ws := by
  unfold bl bendsL
  refine List.map_congr_left fun j hj => ?_
  by_cases e : xs.length - 1 - (xs.length - 2) ≤ j
  · rw [if_pos e]
  · rw [if_neg e, show j = 0 by omega]
    rfl
theorem bl_step {xs ws : List Int} {i : Nat} (h : i < xs.length - 2) : ((bl xs ws i).map V.int).set (xs.length - 2 - i) (V.int (Bof xs ws (xs.length - 2 - i))) = (bl xs ws (i + 1)).map V.int := by
  refine List.ext_getElem? fun j => ?_
  by_cases hj : j < xs.length
  · have g : ∀ t, ((bl xs ws t).map V.int)[j]? = some (V.int (if xs.length - 1 - t ≤ j then Bof xs ws j else 0)) := fun t => by
      unfold bl
      rw [List.getElem?_map, List.getElem?_map, List.getElem?_range hj]
      rfl
    by_cases e : xs.length - 2 - i = j
    · subst e
      rw [List.getElem?_set_self (by rw [List.length_map, bl_len]; exact hj), g, if_pos (by omega)]
    · rw [List.getElem?_set_ne e, g, g]
      by_cases e2 : xs.length - 1 - i ≤ j
      · rw [if_pos e2, if_pos (by omega)]
      · rw [if_neg e2, if_neg (by omega)]
  · rw [List.getElem?_eq_none (by rw [List.length_set, List.length_map, bl_len]; omega), List.getElem?_eq_none (by rw [List.length_map, bl_len]; omega)]
theorem ixN_nat {n : Nat} {z : Int} {i : Nat} (e : z = (i : Int)) (h : i < n) : ixN n z = some i := by
  unfold ixN
  rw [if_pos (by omega), if_pos (by omega)]
  congr 1
  omega
def spBends (K : PySem.W.Frag) (CG : Addr) : Sp := fun vs H Q _ => ∃ (g a : Addr) (xs ws : List Int), vs = [.ref g, .ref a] ∧ GroundAt CG H g xs ∧ Grd xs ∧ SqL K H a (ws.map V.int) ∧ Vs xs ws ∧ ∀ p H', Same H H' → Ints H' p (bendsL xs ws) → H p = none → Q (.ref p) H'
theorem scBends : FnScope ["ground", "values", "sides", "minors", "bends", "k", "rest"] ["ground", "values"] (defScope sBends) := ⟨rfl, rfl, rfl, by decide +kernel, rfl, by decide +kernel, by decide +kernel⟩
theorem ok_bends {f CG : Addr} {fd : FuncData} (F : Fun K "bends_through" "bends_through" sBends f fd) (B : Blt mg) (T : GTxt K CG) (FS : FnAt P w K mg base 2 "eliminated_sides" ["ground", "values"] (spSides K CG)) : FnOk P w K mg base CX0 3 f fd ["ground", "values"] (spBends K CG) := by
  refine F.ok scBends (fun vs H Q E h => ?_) (fun cdv A outer s H vs Q E hr h => ?_)
  · obtain ⟨g, a, xs, ws, rfl, _⟩ := h
    rfl
  · obtain ⟨g, a, xs, ws, rfl, GA, G, hS, W, k⟩ := h
    have hl := W.len
    have hm := G.most
    have h2 := G.ri.two
    refine ⟨_, pss_cons (ps_set (i := 2) scBends.nd rfl (Or.inl rfl) (pe_fn FS hr rfl (pa_cons (pv 0) (pa_cons (pv 1) pa_nil))))
      (pss_cons (ps_set (i := 3) scBends.nd rfl (Or.inl rfl) (pe_fld (pv 0) rfl))
      (pss_cons (ps_set (i := 4) scBends.nd rfl (Or.inl rfl) (pe_op op_rep (pe_lst (pa_cons pe_int pa_nil)) (pe_callB call_len_seq (by rfl) B.len PySem.boot_len (pa_cons (pv 1) pa_nil))))
      (pss_cons (ps_for PassesOwn.never rfl (pi_range3 rfl B.range (pa_cons (pe_op op_sub (pe_callB call_len_seq (by rfl) B.len PySem.boot_len (pa_cons (pe_fld (pv 0) rfl) pa_nil)) pe_int) (pa_cons pe_int (pa_cons (pe_un un_neg pe_int) pa_nil)))) (pg_name (i := 5) scBends.nd rfl (Or.inl rfl))
        (pss_cons (ps_set (i := 6) scBends.nd rfl (Or.inl rfl) (pe_op op_sub (pe_op op_mulM (pe_ix ix_list (pv 3) (pe_un un_neg pe_int) (fun _ _ => rfl)) (pe_ix ix_list (pv 2) (pv 5) (fun _ _ => rfl)))
          (pe_op op_mulM (pe_op op_mulM (pe_ix ix_list (pv 3) (pe_op op_sub (pv 5) pe_int) (fun _ _ => rfl)) (pe_ix ix_list (pe_fld (pv 0) rfl) (pv 5) (fun _ _ => rfl))) (pe_ix ix_list (pv 4) (pe_op op_add (pv 5) pe_int) (fun _ _ => rfl)))))
        (pss_one (ps_asg (pe_op op_fdivM (pv 6) (pe_ix ix_list (pv 3) (pv 5) (fun _ _ => rfl))) (pg_sub (pv 4) (pv 5) set_list)))))
      (pss_one (ps_ret (pv 4)))))), ?_⟩
    -- sides
    refine ⟨_, rfl, _, rfl, g, a, xs, ws, rfl, GA, G, hS, W, fun ls hls => ?_⟩
    have s1 : Same H (upd H ls (.lst ((sidesL xs ws).map V.int))) := Same.new hls
    have x1 : Ints (upd H ls (.lst ((sidesL xs ws).map V.int))) ls (sidesL xs ws) := upd_same
    generalize upd H ls (.lst ((sidesL xs ws).map V.int)) = H1 at s1 x1 ⊢
    -- minors
    have GA1 := GA.same s1
    have GA1' := GA1
    obtain ⟨dx, lp, lg, lm, hg, hlp, hlg, hlm⟩ := GA1'
    refine ⟨_, rfl, g, CG, dx, _, _, rfl, hg, T.cl, T.n4, gf4, ?_⟩
    -- bends
    refine ⟨(by show 1 ≤ sizeLine; decide), fun l1 hl1 => ?_⟩
    have s2 : Same H1 (upd H1 l1 (.lst [V.int 0])) := Same.new hl1
    refine ⟨_, rfl, a, _, rfl, .inl (Same.seq (s1.trans s2) hS), l1, _, _, rfl, rfl, upd_same, ?_⟩
    rw [show ((ws.map V.int).length : Int) = ((xs.length : Nat) : Int) by rw [List.length_map, hl]]
    refine ⟨by omega, by omega, by rw [sizeLine_eq]; show 1 * _ ≤ _; omega, fun l hl' => ?_⟩
    rw [Int.toNat_natCast, bl_start h2]
    have s3 : Same H1 (upd (upd H1 l1 (.lst [V.int 0])) l (.lst ((bl xs ws 0).map V.int))) := s2.trans (Same.new hl')
    have b3 : Ints (upd (upd H1 l1 (.lst [V.int 0])) l (.lst ((bl xs ws 0).map V.int))) l (bl xs ws 0) := upd_same
    have nl : H1 l = none := s2.free hl'
    generalize upd (upd H1 l1 (.lst [V.int 0])) l (.lst ((bl xs ws 0).map V.int)) = H2 at s3 b3 ⊢
    -- the loop
    refine ⟨_, rfl, g, CG, dx, _, _, rfl, s3 _ _ hg, T.cl, T.n2, gf2, lg, _, rfl, .inl (SqL.of (s3 _ _ hlg)), ?_⟩
    rw [show ((gapsL xs).map V.int).length = xs.length - 1 by rw [List.length_map, gapsL_len]]
    refine ⟨_, _, rfl, rfl, _, rfl, ((xs.length - 1 : Nat) : Int) - 1, 0, -1, xs.length - 2, rfl, ?_, ?_⟩
    · have := RgC.neg (i := ((xs.length - 1 : Nat) : Int) - 1) (j := 0) (by omega) (by omega) (by decide) (by decide)
      rw [show (((xs.length - 1 : Nat) : Int) - 1 - 0).toNat = xs.length - 2 by omega] at this
      exact this
    refine for_rangeC (lo := ((xs.length - 1 : Nat) : Int) - 1) (c := -1) (n := xs.length - 2) (fun i σ H' => (∃ v5 v6 : Option V, σ = [some (.ref g), some (.ref a), some (.ref ls), some (.ref lm), some (.ref l), v5, v6]) ∧ Same H1 H' ∧ Ints H' l (bl xs ws i))
      ⟨⟨none, none, rfl⟩, s3, b3⟩ ?_ ?_
    · rintro i σ H' hi ⟨⟨v5, v6, rfl⟩, sm, hb⟩
      have ek : ((xs.length - 1 : Nat) : Int) - 1 + (i : Nat) * (-1) = ((xs.length - 2 - i : Nat) : Int) := by omega
      obtain ⟨k1, ek1⟩ : ∃ k1, xs.length - 2 - i = k1 + 1 := ⟨xs.length - 3 - i, by omega⟩
      have hg' := sm _ _ hg
      have hlg' := sm _ _ hlg
      have hlm' := sm _ _ hlm
      have hls' := sm _ _ x1
      have aS : atI ((sidesL xs ws).map V.int) (((xs.length - 1 : Nat) : Int) - 1 + (i : Nat) * (-1)) = some (V.int (SS (gx xs) (sideOf xs ws) (k1 + 1))) := by
        have := range_getD (g := SS (gx xs) (sideOf xs ws)) (n := xs.length - 1) (i := k1 + 1) (by omega)
        rw [← this]
        exact at_ints (by omega) (by unfold sidesL; rw [List.length_map, List.length_range]; omega)
      have aL : atI ((minorsL xs).map V.int) (-1) = some (V.int (Mof xs)) := by
        have := last_ints (ns := minorsL xs) (by rw [minorsL_len]; omega)
        rw [this, minorsL_len, minors_get (by omega)]
        unfold Mof
        rw [show xs.length - 1 - 1 + 1 = xs.length - 1 by omega]
      have aB : atI ((bl xs ws i).map V.int) (((xs.length - 1 : Nat) : Int) - 1 + (i : Nat) * (-1) + 1) = some (V.int (Bof xs ws (k1 + 2))) := by
        have := range_getD (g := fun j => if xs.length - 1 - i ≤ j then Bof xs ws j else 0) (n := xs.length) (i := k1 + 2) (by omega)
        rw [if_pos (by omega)] at this
        rw [← this]
        exact at_ints (by omega) (by unfold bl; rw [List.length_map, List.length_range]; omega)
      walk_at "rd"
      refine ⟨lm, _, _, _, rfl, rfl, SqL.of hlm', aL, ?_⟩
      walk_at "rd"
      refine ⟨ls, _, _, _, rfl, rfl, SqL.of hls', aS, ?_⟩
      walk_at "rd"
      have bS := S_bd G W.bd (k := k1 + 1) (by omega)
      have bB := B_bd G W.bd (k := k1 + 2) (by omega)
      have bD1 := G.D (k := k1 + 1) (by omega)
      have bD2 := G.D (k := k1 + 2) (by omega)
      refine ⟨G.M.mulOk bS (by decide), ?_⟩
      walk_at "rd"
      refine ⟨lm, _, _, _, rfl, rfl, SqL.of hlm', minors_at (i := k1) (by omega) (by omega), ?_⟩
      walk_at "rd"
      refine ⟨g, CG, dx, _, _, rfl, hg', T.cl, T.n2, gf2, ?_⟩
      walk_at "rd"
      refine ⟨lg, _, _, _, rfl, rfl, SqL.of hlg', gaps_at' (i := k1 + 1) (by omega) (by omega), ?_⟩
      walk_at "rd"
      refine ⟨bD1.mulOk (G.gap _) (by decide), ?_⟩
      walk_at "rd"
      refine ⟨l, _, _, _, rfl, rfl, SqL.of hb, aB, ?_⟩
      walk_at "rd"
      refine ⟨(bD1.mul (G.gap _)).mulOk bB (by decide), ?_⟩
      walk_at "rd"
      refine ⟨lm, _, _, _, rfl, rfl, SqL.of hlm', minors_at (i := k1 + 1) (by omega) (by omega), ?_⟩
      walk_at "rd"
      have dpos : 0 < DD (gx xs) (k1 + 2) := (DD_pos (gx xs) (xs.length - 1) (fun i hi => G.ri.gx_pos hi) (k1 + 1) (by omega)).1
      refine ⟨⟨dpos, bD2.mono (by decide)⟩, ?_⟩
      walk_at "rd"
      have st : Mof xs * SS (gx xs) (sideOf xs ws) (k1 + 1) - DD (gx xs) (k1 + 1) * gx xs (k1 + 1) * Bof xs ws (k1 + 2) = DD (gx xs) (k1 + 2) * Bof xs ws (k1 + 1) :=
        BB_step (gx xs) (sideOf xs ws) (m := xs.length - 1) (k := k1 + 1) (by omega)
      have dv : (Mof xs * SS (gx xs) (sideOf xs ws) (k1 + 1) - DD (gx xs) (k1 + 1) * gx xs (k1 + 1) * Bof xs ws (k1 + 2)) / DD (gx xs) (k1 + 2) = Bof xs ws (k1 + 1) := by
        rw [st, Int.mul_ediv_cancel_left _ (by omega)]
      refine ⟨l, _, _, k1 + 1, rfl, rfl, hb, ixN_nat (by omega) (by rw [List.length_map, bl_len]; omega), ⟨_, _, rfl⟩, ?_, ?_⟩
      · intro b o e
        rw [upd_ne (ne_of_none e nl)]
        exact sm b o e
      · show upd _ l _ l = _
        rw [upd_same, ← bl_step hi, ek1]
        exact congrArg (fun z => some (HO.lst (((bl xs ws i).map V.int).set (k1 + 1) (V.int z)))) dv
    · rintro σ H' ⟨⟨v5, v6, rfl⟩, sm, hb⟩
      rw [bl_end h2] at hb
      exact ⟨_, rfl, k l H' (s1.trans sm) hb (s1.free nl)⟩
end
end HP

set_option Elab.async false
set_option linter.all false
set_option maxRecDepth 100000
set_option maxHeartbeats 2000000
namespace HP
open PySem PySem.Spec PyProof.Rows L2 HB HM
local macro_rules | `(tactic| walk_at "rd") => `(tactic| repeat (first | refine ⟨_, rfl, ?_⟩ | refine ⟨_, _, rfl, rfl, ?_⟩))
local macro_rules | `(tactic| walk_at "lk") => `(tactic| ((repeat (first | rw [lookup_putF, if_pos rfl] | rw [lookup_putF, if_neg (by decide +kernel)])); all_goals rfl))
section
variable {P : Program} {w : World} {K : PySem.W.Frag} {mg : Str → Option Value} {base : Heap}
/-! ### Batten -/
theorem GroundAt.kept {CG g p C dx : Addr} {fs : List (Str × V)} {H H' : Hp} {xs : List Int} (G : GroundAt CG H g xs) (hp : H p = some (.ins C dx fs)) (hne : g ≠ p) (k : Kept p H H') : GroundAt CG H' g xs := by
  obtain ⟨d, lp, lg, lm, h1, h2, h3, h4⟩ := G
  have ne : ∀ {l : Addr} {ys : List V}, H l = some (.lst ys) → l ≠ p := fun h e => by rw [e, hp] at h; cases h
  exact ⟨d, lp, lg, lm, k _ _ h1 hne, k _ _ h2 (ne h2), k _ _ h3 (ne h3), k _ _ h4 (ne h4)⟩
theorem GroundAt.apart {CG g p C dx : Addr} {H : Hp} {xs : List Int} (G : GroundAt CG H g xs) (hp : H p = some (.ins C dx [])) : g ≠ p := by
  obtain ⟨d, lp, lg, lm, h1, _⟩ := G
  rintro rfl
  rw [hp] at h1
  injection h1 with e
  injection e with _ _ e
  have : ([] : List (Str × V)).lookup ("places" : Str) = some (V.ref lp) := by rw [e]; exact gf1
  cases this
def bf (g ln lb : Addr) : List (Str × V) := putF "bends" (.ref lb) (putF "nails" (.ref ln) (putF "ground" (.ref g) []))
theorem bf1 {g ln lb : Addr} : (bf g ln lb).lookup ("ground" : Str) = some (V.ref g) := by unfold bf; walk_at "lk"
theorem bf2 {g ln lb : Addr} : (bf g ln lb).lookup ("nails" : Str) = some (V.ref ln) := by unfold bf; walk_at "lk"
theorem bf3 {g ln lb : Addr} : (bf g ln lb).lookup ("bends" : Str) = some (V.ref lb) := by unfold bf; walk_at "lk"
theorem bf_no {g ln lb : Addr} {m : Str} (h : m ≠ "ground" ∧ m ≠ "nails" ∧ m ≠ "bends") : (bf g ln lb).lookup m = none := by
  unfold bf
  rw [lookup_putF, if_neg h.2.2, lookup_putF, if_neg h.2.1, lookup_putF, if_neg h.1]
  rfl
/-- a batten over these places through these values stands at b -/
def BattenAt (CG CB : Addr) (H : Hp) (b : Addr) (xs ws : List Int) : Prop :=
  ∃ g dx ln lb, H b = some (.ins CB dx (bf g ln lb)) ∧ GroundAt CG H g xs ∧ Ints H ln ws ∧ Ints H lb (bendsL xs ws)
theorem BattenAt.same {CG CB b : Addr} {H H' : Hp} {xs ws : List Int} (B : BattenAt CG CB H b xs ws) (s : Same H H') : BattenAt CG CB H' b xs ws := by
  obtain ⟨g, dx, ln, lb, h1, h2, h3, h4⟩ := B
  exact ⟨g, dx, ln, lb, s _ _ h1, h2.same s, s _ _ h3, s _ _ h4⟩
structure BTxt (K : PySem.W.Frag) (CB : Addr) : Prop where
  cl : Cls K CB
  n1 : NoAttr K CB "ground"
  n2 : NoAttr K CB "nails"
  n3 : NoAttr K CB "bends"
def spBInit (K : PySem.W.Frag) (CG CB : Addr) : Sp := fun vs H Q _ => ∃ (p dx g a : Addr) (xs ws : List Int), vs = [.ref p, .ref g, .ref a] ∧ H p = some (.ins CB dx []) ∧ GroundAt CG H g xs ∧ Grd xs ∧ SqL K H a (ws.map V.int) ∧ Vs xs ws ∧
  ∀ H' : Hp, BattenAt CG CB H' p xs ws → Kept p H H' → Q .non H'
theorem scBInit : FnScope ["self", "ground", "values"] ["self", "ground", "values"] (defScope sBInit) := ⟨rfl, rfl, rfl, by decide +kernel, rfl, by decide +kernel, by decide +kernel⟩
theorem ok_binit {f CG CB : Addr} {fd : FuncData} (F : Fun K "__init__" "Batten.__init__" sBInit f fd) (B : Blt mg) (T : BTxt K CB) (FB : FnAt P w K mg base 3 "bends_through" ["ground", "values"] (spBends K CG)) :
    FnOk P w K mg base CX0 4 f fd ["self", "ground", "values"] (spBInit K CG CB) := by
  refine F.ok scBInit (fun vs H Q E h => ?_) (fun cdv A outer s H vs Q E hr h => ?_)
  · obtain ⟨p, dx, g, a, xs, ws, rfl, _⟩ := h
    rfl
  · obtain ⟨p, dx, g, a, xs, ws, rfl, hp, GA, G, hS, W, k⟩ := h
    refine ⟨_, pss_cons (ps_fld (pv 0) (pv 1) rfl)
      (pss_cons (ps_fld (pv 0) (pe_callTy call_list_of rfl B.list boot_list (pa_cons (pv 2) pa_nil)) rfl)
      (pss_one (ps_fld (pv 0) (pe_fn FB hr rfl (pa_cons (pv 1) (pa_cons (pv 2) pa_nil))) rfl))), ?_⟩
    have ng := GA.apart hp
    refine ⟨_, rfl, _, rfl, p, CB, dx, [], rfl, hp, T.cl, T.n1, (by show 0 < 1000; decide), ?_⟩
    obtain ⟨p1, k1⟩ := stepPut (p := p) (H := H) (u := .ins CB dx (putF "ground" (.ref g) []))
    generalize upd H p (.ins CB dx (putF "ground" (.ref g) [])) = H1 at p1 k1 ⊢
    refine ⟨_, rfl, a, _, rfl, .inl (k1.sq hp hS), fun ln hln => ?_⟩
    obtain ⟨p2, l2, k2, n2, q2⟩ := stepNew (o := .lst (ws.map V.int)) (u := .ins CB dx (putF "nails" (.ref ln) (putF "ground" (.ref g) []))) p1 hln
    refine ⟨_, rfl, p, CB, dx, _, rfl, q2, T.cl, T.n2, len_put (n := 999) (by show 0 < 999; decide), ?_⟩
    generalize upd (upd H1 ln (.lst (ws.map V.int))) p (.ins CB dx (putF "nails" (.ref ln) (putF "ground" (.ref g) []))) = H2 at p2 l2 k2 ⊢
    have k12 := k1.trans k2
    have GA2 := GA.kept hp ng k12
    refine ⟨_, rfl, _, rfl, g, a, xs, ws, rfl, GA2, G, k12.sq hp hS, W, fun lb H3 s3 hb hn => ?_⟩
    have p3 := s3 _ _ p2
    refine ⟨_, rfl, p, CB, dx, _, rfl, p3, T.cl, T.n3, len_put (n := 999) (len_put (n := 998) (by show 0 < 998; decide)), ?_⟩
    have nb : lb ≠ p := ne_of hb p3 (by intro z; cases z)
    obtain ⟨p4, k4⟩ := stepPut (p := p) (H := H3) (u := .ins CB dx (bf g ln lb))
    exact k _ ⟨g, dx, ln, lb, p4, (GA2.same s3).kept p3 ng k4, k4 _ _ (s3 _ _ l2) n2, k4 _ _ hb nb⟩ ((k12.same s3).trans k4)
def spBVal (CG CB : Addr) (val : List Int → List Int → Int → Int) : Sp := fun vs H Q _ => ∃ (b : Addr) (xs ws : List Int) (x : Int), vs = [.ref b, .int x] ∧ BattenAt CG CB H b xs ws ∧ Grd xs ∧ Vs xs ws ∧ HM.Within xs x ∧ Q (.int (val xs ws x)) H
theorem scBVal : FnScope ["self", "place", "k", "gap", "behind", "ahead", "straight", "bent_before", "bent_after"] ["self", "place"] (defScope sBVal) := ⟨rfl, rfl, rfl, by decide +kernel, rfl, by decide +kernel, by decide +kernel⟩
theorem scBSlope : FnScope ["self", "place", "k", "gap", "behind", "ahead", "straight", "bent_before", "bent_after"] ["self", "place"] (defScope sBSlope) := ⟨rfl, rfl, rfl, by decide +kernel, rfl, by decide +kernel, by decide +kernel⟩
theorem bends_at {xs ws : List Int} {z : Int} {i : Nat} (e : z = (i : Int)) (h : i < xs.length) : atI ((bendsL xs ws).map V.int) z = some (V.int (Bof xs ws i)) := by
  have := range_getD (g := Bof xs ws) (n := xs.length) (i := i) h
  rw [← this]
  exact at_ints e (by unfold bendsL; rw [List.length_map, List.length_range]; exact h)
theorem ok_bval {f CG CB : Addr} {fd : FuncData} (F : Fun K "value_at" "Batten.value_at" sBVal f fd) (TG : GTxt K CG) (T : BTxt K CB) (MP : MtAt P w K mg base 1 CG "piece_at" ["self", "place"] (spGPiece CG)) :
    FnOk P w K mg base CX0 2 f fd ["self", "place"] (spBVal CG CB valueOf) := by
  refine F.ok scBVal (fun vs H Q E h => ?_) (fun cdv A outer s H vs Q E hr h => ?_)
  · obtain ⟨b, xs, ws, x, rfl, _⟩ := h
    rfl
  · obtain ⟨b, xs, ws, x, rfl, ⟨g, dx, ln, lb, hb, GA, hn, hbe⟩, G, W, hx, k⟩ := h
    have GA' := GA
    obtain ⟨dg, lp, lg, lm, hg, hlp, hlg, hlm⟩ := GA'
    refine ⟨_, pss_cons (ps_set (i := 2) scBVal.nd rfl (Or.inl rfl) (pe_mt MP hr (pe_fld (pv 0) rfl) (pa_cons (pv 1) pa_nil)))
      (pss_cons (ps_set (i := 3) scBVal.nd rfl (Or.inl rfl) (pe_ix ix_list (pe_fld (pe_fld (pv 0) rfl) rfl) (pv 2) (fun _ _ => rfl)))
      (pss_cons (ps_set (i := 4) scBVal.nd rfl (Or.inl rfl) (pe_op op_sub (pv 1) (pe_ix ix_list (pe_fld (pe_fld (pv 0) rfl) rfl) (pv 2) (fun _ _ => rfl))))
      (pss_cons (ps_set (i := 5) scBVal.nd rfl (Or.inl rfl) (pe_op op_sub (pv 3) (pv 4)))
      (pss_cons (ps_set (i := 6) scBVal.nd rfl (Or.inl rfl) (pe_op op_add (pe_op op_mulM (pv 5) (pe_ix ix_list (pe_fld (pv 0) rfl) (pv 2) (fun _ _ => rfl))) (pe_op op_mulM (pv 4) (pe_ix ix_list (pe_fld (pv 0) rfl) (pe_op op_add (pv 2) pe_int) (fun _ _ => rfl)))))
      (pss_cons (ps_set (i := 7) scBVal.nd rfl (Or.inl rfl) (pe_op op_mulM (pe_op op_mulM (pe_ix ix_list (pe_fld (pv 0) rfl) (pv 2) (fun _ _ => rfl)) (pv 5)) (pe_op op_sub (pe_op op_mulM (pv 5) (pv 5)) (pe_op op_mulM (pv 3) (pv 3)))))
      (pss_cons (ps_set (i := 8) scBVal.nd rfl (Or.inl rfl) (pe_op op_mulM (pe_op op_mulM (pe_ix ix_list (pe_fld (pv 0) rfl) (pe_op op_add (pv 2) pe_int) (fun _ _ => rfl)) (pv 4)) (pe_op op_sub (pe_op op_mulM (pv 4) (pv 4)) (pe_op op_mulM (pv 3) (pv 3)))))
      (pss_one (ps_ret (pe_op op_add (pe_op op_add (pe_op op_mulM (pe_op op_mulM pe_int (pe_fld (pe_fld (pv 0) rfl) rfl)) (pv 6)) (pv 7)) (pv 8))))))))))
      , ?_⟩
    have hk := piece_lt G hx
    have hl := W.len
    have ek : ((pieceOf xs x : Nat) : Int) + 1 = ((pieceOf xs x + 1 : Nat) : Int) := by omega
    have b0 := B_bd G W.bd (k := pieceOf xs x) (by omega)
    have b1 := B_bd G W.bd (k := pieceOf xs x + 1) (by omega)
    have w0 := getD_bd W.bd (pieceOf xs x)
    have w1 := getD_bd W.bd (pieceOf xs x + 1)
    have bg : Bd 21 (gx xs (pieceOf xs x)) := G.gap (pieceOf xs x)
    have bb : Bd 21 (x - xs.getD (pieceOf xs x) 0) := (within_bd G hx).sub (G.x _)
    have ba := bg.sub bb
    -- k
    refine ⟨_, rfl, b, CB, dx, _, _, rfl, hb, T.cl, T.n1, bf1, g, dg, _, rfl, hg, gf_no (by decide +kernel), _, rfl, g, xs, x, rfl, GA, G, hx, ?_⟩
    -- gap
    refine ⟨_, rfl, b, CB, dx, _, _, rfl, hb, T.cl, T.n1, bf1, g, CG, dg, _, _, rfl, hg, TG.cl, TG.n2, gf2, _, rfl, lg, _, _, _, rfl, rfl, SqL.of hlg, gaps_at hk, ?_⟩
    -- behind
    refine ⟨_, rfl, _, rfl, b, CB, dx, _, _, rfl, hb, T.cl, T.n1, bf1, g, CG, dg, _, _, rfl, hg, TG.cl, TG.n1, gf1, _, rfl, lp, _, _, _, rfl, rfl, SqL.of hlp, at_ints (i := pieceOf xs x) rfl (by omega), _, _, rfl, rfl, ?_⟩
    -- ahead
    walk_at "rd"
    -- straight
    refine ⟨b, CB, dx, _, _, rfl, hb, T.cl, T.n2, bf2, _, rfl, ln, _, _, _, rfl, rfl, SqL.of hn, at_ints (i := pieceOf xs x) rfl (by omega), _, _, rfl, rfl, ba.mulOk w0 (by decide), ?_⟩
    walk_at "rd"
    refine ⟨b, CB, dx, _, _, rfl, hb, T.cl, T.n2, bf2, ?_⟩
    walk_at "rd"
    refine ⟨ln, _, _, _, rfl, rfl, SqL.of hn, at_ints (i := pieceOf xs x + 1) ek (by omega), _, _, rfl, rfl, bb.mulOk w1 (by decide), ?_⟩
    walk_at "rd"
    -- bent_before
    refine ⟨b, CB, dx, _, _, rfl, hb, T.cl, T.n3, bf3, ?_⟩
    walk_at "rd"
    refine ⟨lb, _, _, _, rfl, rfl, SqL.of hbe, bends_at (i := pieceOf xs x) rfl (by omega), ?_⟩
    walk_at "rd"
    refine ⟨b0.mulOk ba (by decide), ?_⟩
    walk_at "rd"
    refine ⟨ba.mulOk ba (by decide), ?_⟩
    walk_at "rd"
    refine ⟨bg.mulOk bg (by decide), ?_⟩
    walk_at "rd"
    refine ⟨(b0.mul ba).mulOk ((ba.mul ba).sub (bg.mul bg)) (by decide), ?_⟩
    -- bent_after
    walk_at "rd"
    refine ⟨b, CB, dx, _, _, rfl, hb, T.cl, T.n3, bf3, ?_⟩
    walk_at "rd"
    refine ⟨lb, _, _, _, rfl, rfl, SqL.of hbe, bends_at (i := pieceOf xs x + 1) ek (by omega), ?_⟩
    walk_at "rd"
    refine ⟨b1.mulOk bb (by decide), ?_⟩
    walk_at "rd"
    refine ⟨bb.mulOk bb (by decide), ?_⟩
    walk_at "rd"
    refine ⟨bg.mulOk bg (by decide), ?_⟩
    walk_at "rd"
    refine ⟨(b1.mul bb).mulOk ((bb.mul bb).sub (bg.mul bg)) (by decide), ?_⟩
    -- return
    walk_at "rd"
    refine ⟨b, CB, dx, _, _, rfl, hb, T.cl, T.n1, bf1, g, CG, dg, _, _, rfl, hg, TG.cl, TG.n5, gf5, ?_⟩
    walk_at "rd"
    refine ⟨bd_six.mulOk G.PM (by decide), ?_⟩
    walk_at "rd"
    refine ⟨(bd_six.mul G.PM).mulOk ((ba.mul w0).add (bb.mul w1)) (by decide), ?_⟩
    walk_at "rd"
    exact k
theorem ok_bslope {f CG CB : Addr} {fd : FuncData} (F : Fun K "slope_at" "Batten.slope_at" sBSlope f fd) (TG : GTxt K CG) (T : BTxt K CB) (MP : MtAt P w K mg base 1 CG "piece_at" ["self", "place"] (spGPiece CG)) :
    FnOk P w K mg base CX0 2 f fd ["self", "place"] (spBVal CG CB slopeOf) := by
  refine F.ok scBSlope (fun vs H Q E h => ?_) (fun cdv A outer s H vs Q E hr h => ?_)
  · obtain ⟨b, xs, ws, x, rfl, _⟩ := h
    rfl
  · obtain ⟨b, xs, ws, x, rfl, ⟨g, dx, ln, lb, hb, GA, hn, hbe⟩, G, W, hx, k⟩ := h
    have GA' := GA
    obtain ⟨dg, lp, lg, lm, hg, hlp, hlg, hlm⟩ := GA'
    refine ⟨_, pss_cons (ps_set (i := 2) scBSlope.nd rfl (Or.inl rfl) (pe_mt MP hr (pe_fld (pv 0) rfl) (pa_cons (pv 1) pa_nil)))
      (pss_cons (ps_set (i := 3) scBSlope.nd rfl (Or.inl rfl) (pe_ix ix_list (pe_fld (pe_fld (pv 0) rfl) rfl) (pv 2) (fun _ _ => rfl)))
      (pss_cons (ps_set (i := 4) scBSlope.nd rfl (Or.inl rfl) (pe_op op_sub (pv 1) (pe_ix ix_list (pe_fld (pe_fld (pv 0) rfl) rfl) (pv 2) (fun _ _ => rfl))))
      (pss_cons (ps_set (i := 5) scBSlope.nd rfl (Or.inl rfl) (pe_op op_sub (pv 3) (pv 4)))
      (pss_cons (ps_set (i := 6) scBSlope.nd rfl (Or.inl rfl) (pe_op op_sub (pe_ix ix_list (pe_fld (pv 0) rfl) (pe_op op_add (pv 2) pe_int) (fun _ _ => rfl)) (pe_ix ix_list (pe_fld (pv 0) rfl) (pv 2) (fun _ _ => rfl))))
      (pss_cons (ps_set (i := 7) scBSlope.nd rfl (Or.inl rfl) (pe_op op_mulM (pe_ix ix_list (pe_fld (pv 0) rfl) (pv 2) (fun _ _ => rfl)) (pe_op op_sub (pe_op op_mulM (pv 3) (pv 3)) (pe_op op_mulM (pe_op op_mulM pe_int (pv 5)) (pv 5)))))
      (pss_cons (ps_set (i := 8) scBSlope.nd rfl (Or.inl rfl) (pe_op op_mulM (pe_ix ix_list (pe_fld (pv 0) rfl) (pe_op op_add (pv 2) pe_int) (fun _ _ => rfl)) (pe_op op_sub (pe_op op_mulM (pe_op op_mulM pe_int (pv 4)) (pv 4)) (pe_op op_mulM (pv 3) (pv 3)))))
      (pss_one (ps_ret (pe_op op_add (pe_op op_add (pe_op op_mulM (pe_op op_mulM pe_int (pe_fld (pe_fld (pv 0) rfl) rfl)) (pv 6)) (pv 7)) (pv 8))))))))))
      , ?_⟩
    have hk := piece_lt G hx
    have hl := W.len
    have ek : ((pieceOf xs x : Nat) : Int) + 1 = ((pieceOf xs x + 1 : Nat) : Int) := by omega
    have b0 := B_bd G W.bd (k := pieceOf xs x) (by omega)
    have b1 := B_bd G W.bd (k := pieceOf xs x + 1) (by omega)
    have w0 := getD_bd W.bd (pieceOf xs x)
    have w1 := getD_bd W.bd (pieceOf xs x + 1)
    have bg : Bd 21 (gx xs (pieceOf xs x)) := G.gap (pieceOf xs x)
    have bb : Bd 21 (x - xs.getD (pieceOf xs x) 0) := (within_bd G hx).sub (G.x _)
    have ba := bg.sub bb
    refine ⟨_, rfl, b, CB, dx, _, _, rfl, hb, T.cl, T.n1, bf1, g, dg, _, rfl, hg, gf_no (by decide +kernel), _, rfl, g, xs, x, rfl, GA, G, hx, ?_⟩
    refine ⟨_, rfl, b, CB, dx, _, _, rfl, hb, T.cl, T.n1, bf1, g, CG, dg, _, _, rfl, hg, TG.cl, TG.n2, gf2, _, rfl, lg, _, _, _, rfl, rfl, SqL.of hlg, gaps_at hk, ?_⟩
    refine ⟨_, rfl, _, rfl, b, CB, dx, _, _, rfl, hb, T.cl, T.n1, bf1, g, CG, dg, _, _, rfl, hg, TG.cl, TG.n1, gf1, _, rfl, lp, _, _, _, rfl, rfl, SqL.of hlp, at_ints (i := pieceOf xs x) rfl (by omega), _, _, rfl, rfl, ?_⟩
    walk_at "rd"
    -- straight
    refine ⟨b, CB, dx, _, _, rfl, hb, T.cl, T.n2, bf2, ?_⟩
    walk_at "rd"
    refine ⟨ln, _, _, _, rfl, rfl, SqL.of hn, at_ints (i := pieceOf xs x + 1) ek (by omega), ?_⟩
    walk_at "rd"
    refine ⟨b, CB, dx, _, _, rfl, hb, T.cl, T.n2, bf2, ?_⟩
    walk_at "rd"
    refine ⟨ln, _, _, _, rfl, rfl, SqL.of hn, at_ints (i := pieceOf xs x) rfl (by omega), ?_⟩
    walk_at "rd"
    -- bent_before
    refine ⟨b, CB, dx, _, _, rfl, hb, T.cl, T.n3, bf3, ?_⟩
    walk_at "rd"
    refine ⟨lb, _, _, _, rfl, rfl, SqL.of hbe, bends_at (i := pieceOf xs x) rfl (by omega), ?_⟩
    walk_at "rd"
    refine ⟨bg.mulOk bg (by decide), ?_⟩
    walk_at "rd"
    refine ⟨bd_three.mulOk ba (by decide), ?_⟩
    walk_at "rd"
    refine ⟨(bd_three.mul ba).mulOk ba (by decide), ?_⟩
    walk_at "rd"
    refine ⟨b0.mulOk ((bg.mul bg).sub ((bd_three.mul ba).mul ba)) (by decide), ?_⟩
    -- bent_after
    walk_at "rd"
    refine ⟨b, CB, dx, _, _, rfl, hb, T.cl, T.n3, bf3, ?_⟩
    walk_at "rd"
    refine ⟨lb, _, _, _, rfl, rfl, SqL.of hbe, bends_at (i := pieceOf xs x + 1) ek (by omega), ?_⟩
    walk_at "rd"
    refine ⟨bd_three.mulOk bb (by decide), ?_⟩
    walk_at "rd"
    refine ⟨(bd_three.mul bb).mulOk bb (by decide), ?_⟩
    walk_at "rd"
    refine ⟨bg.mulOk bg (by decide), ?_⟩
    walk_at "rd"
    refine ⟨b1.mulOk (((bd_three.mul bb).mul bb).sub (bg.mul bg)) (by decide), ?_⟩
    -- return
    walk_at "rd"
    refine ⟨b, CB, dx, _, _, rfl, hb, T.cl, T.n1, bf1, g, CG, dg, _, _, rfl, hg, TG.cl, TG.n5, gf5, ?_⟩
    walk_at "rd"
    refine ⟨bd_six.mulOk G.PM (by decide), ?_⟩
    walk_at "rd"
    refine ⟨(bd_six.mul G.PM).mulOk (w1.sub w0) (by decide), ?_⟩
    walk_at "rd"
    exact k
end
end HP

set_option Elab.async false
set_option linter.all false
set_option maxRecDepth 100000
set_option maxHeartbeats 2000000
namespace HP
open PySem PySem.Spec PyProof.Rows L2 HB HM
local macro_rules | `(tactic| walk_at "rd") => `(tactic| repeat (first | refine ⟨_, rfl, ?_⟩ | refine ⟨_, _, rfl, rfl, ?_⟩))
abbrev sGcd : Stmt := top 10
abbrev sLow : Stmt := top 11
abbrev sNear : Stmt := top 12
section
variable {P : Program} {w : World} {K : PySem.W.Frag} {mg : Str → Option Value} {base : Heap}
/-! ### common_divisor -/
def spGcd : Sp := fun vs H Q _ => ∃ (a b : Nat), vs = [.int (a : Int), .int (b : Int)] ∧ Q (.int (Nat.gcd b a : Nat)) H
theorem scGcd : FnScope ["first", "second", "rest"] ["first", "second"] (defScope sGcd) := ⟨rfl, rfl, rfl, by decide +kernel, rfl, by decide +kernel, by decide +kernel⟩
theorem ok_gcd {f : Addr} {fd : FuncData} (F : Fun K "common_divisor" "common_divisor" sGcd f fd) : FnOk P w K mg base CX0 1 f fd ["first", "second"] spGcd := by
  refine F.ok scGcd (fun vs H Q E h => ?_) (fun cdv A outer s H vs Q E hr h => ?_)
  · obtain ⟨a, b, rfl, _⟩ := h
    rfl
  · obtain ⟨a, b, rfl, k⟩ := h
    refine ⟨_, pss_cons (ps_while PassesOwn.never (pt_cmpR op_ne (pv 1) pe_int (nomark _))
        (pss_cons (ps_set (i := 2) scGcd.nd rfl (Or.inl rfl) (pe_op op_mod (pv 0) (pv 1)))
        (pss_cons (ps_set (i := 0) scGcd.nd rfl (Or.inl rfl) (pv 1))
        (pss_one (ps_set (i := 1) scGcd.nd rfl (Or.inl rfl) (pv 2))))))
      (pss_one (ps_ret (pv 0))), ?_⟩
    refine ⟨fun m σ H' => ∃ (c : Nat) (v : Option V), σ = [some (.int (c : Int)), some (.int (m : Int)), v] ∧ Nat.gcd m c = Nat.gcd b a ∧ H' = H, ⟨b, a, none, rfl, rfl, rfl⟩, ?_⟩
    rintro m σ H' ⟨c, v, rfl, hg, rfl⟩
    refine ⟨_, rfl, rfl, _, rfl, ?_⟩
    refine ite2 (fun e => ?_) (fun e => ?_)
    · have hm : m ≠ 0 := fun z => by
        subst z
        exact absurd e (by decide)
      refine ⟨fun σ' H'' => σ' = [some (.int (m : Int)), some (.int ((c % m : Nat) : Int)), some (.int ((c % m : Nat) : Int))] ∧ H'' = H', fun σ' H'' ⟨a1, b1⟩ => ⟨c % m, Nat.mod_lt _ (by omega), m, _, a1, ?_, b1⟩, ?_⟩
      · rw [← hg, Nat.gcd_rec m c]
      · refine ⟨_, rfl, _, rfl, _, _, rfl, rfl, (by omega), _, rfl, _, rfl, ?_, rfl⟩
        show [some (V.int (m : Int)), some (V.int ((c : Int) % (m : Int))), some (V.int ((c : Int) % (m : Int)))] = _
        rw [Int.natCast_emod]
    · have hm : m = 0 := by
        rcases Nat.eq_zero_or_pos m with z | z
        · exact z
        · refine absurd ?_ e
          show (!decide (V.int (m : Int) = V.int 0)) = true
          rw [decide_eq_false (fun q => by injection q with q; omega)]
          rfl
      subst hm
      rw [Nat.gcd_zero_left] at hg
      refine ⟨_, rfl, ?_⟩
      rw [hg]
      exact k
/-! ### lowest_terms -/
theorem boot_abs' : bootBuiltins "abs" = some (.builtin "abs") := by decide +kernel
def lowL (a b : Int) : List Int := [a / (Nat.gcd b.toNat a.natAbs : Int), b / (Nat.gcd b.toNat a.natAbs : Int)]
def spLow : Sp := fun vs H Q _ => ∃ (a b : Int), vs = [.int a, .int b] ∧ 0 < b ∧ Bd 9000 b ∧ ∀ p, H p = none → Q (.ref p) (upd H p (.lst ((lowL a b).map V.int)))
theorem scLow : FnScope ["over", "under", "shared"] ["over", "under"] (defScope sLow) := ⟨rfl, rfl, rfl, by decide +kernel, rfl, by decide +kernel, by decide +kernel⟩
theorem ok_low {f : Addr} {fd : FuncData} (F : Fun K "lowest_terms" "lowest_terms" sLow f fd) (B : Blt mg) (FG : FnAt P w K mg base 1 "common_divisor" ["first", "second"] spGcd) : FnOk P w K mg base CX0 2 f fd ["over", "under"] spLow := by
  refine F.ok scLow (fun vs H Q E h => ?_) (fun cdv A outer s H vs Q E hr h => ?_)
  · obtain ⟨a, b, rfl, _⟩ := h
    rfl
  · obtain ⟨a, b, rfl, hb, hbd, k⟩ := h
    refine ⟨_, pss_cons (ps_set (i := 2) scLow.nd rfl (Or.inl rfl) (pe_fn FG hr rfl (pa_cons (pe_callB call_abs (by rfl) B.abs boot_abs' (pa_cons (pv 0) pa_nil)) (pa_cons (pv 1) pa_nil))))
      (pss_one (ps_ret (pe_lst (pa_cons (pe_op op_fdivM (pv 0) (pv 2)) (pa_cons (pe_op op_fdivM (pv 1) (pv 2)) pa_nil))))), ?_⟩
    have e1 : (if a < 0 then -a else a) = (a.natAbs : Int) := by split <;> omega
    have e2 : b = (b.toNat : Int) := by omega
    refine ⟨_, rfl, _, rfl, _, rfl, a.natAbs, b.toNat, ?_, ?_⟩
    · show [V.int (if a < 0 then -a else a), V.int b] = _
      rw [e1, ← e2]
    have gpos : 0 < Nat.gcd b.toNat a.natAbs := Nat.gcd_pos_of_pos_left _ (by omega)
    have gle : Nat.gcd b.toNat a.natAbs ≤ b.toNat := Nat.gcd_le_left _ (by omega)
    have gb : (0 : Int) < ((Nat.gcd b.toNat a.natAbs : Nat) : Int) ∧ Bd 9000 ((Nat.gcd b.toNat a.natAbs : Nat) : Int) := ⟨by omega, hbd.le (by omega)⟩
    refine ⟨_, rfl, _, rfl, _, _, rfl, rfl, gb, _, rfl, _, rfl, _, _, rfl, rfl, gb, ?_⟩
    exact ⟨(by show 2 ≤ sizeLine; decide), fun p hp => k p hp⟩
/-! ### nearest -/
def spNear : Sp := fun vs H Q _ => ∃ (a b : Int), vs = [.int a, .int b] ∧ 0 < b ∧ Bd 9000 b ∧ Bd 1000000 a ∧ Q (.int (nearI a b)) H
theorem scNear : FnScope ["over", "under", "below", "twice_rest"] ["over", "under"] (defScope sNear) := ⟨rfl, rfl, rfl, by decide +kernel, rfl, by decide +kernel, by decide +kernel⟩
theorem ok_near {f : Addr} {fd : FuncData} (F : Fun K "nearest" "nearest" sNear f fd) : FnOk P w K mg base CX0 1 f fd ["over", "under"] spNear := by
  refine F.ok scNear (fun vs H Q E h => ?_) (fun cdv A outer s H vs Q E hr h => ?_)
  · obtain ⟨a, b, rfl, _⟩ := h
    rfl
  · obtain ⟨a, b, rfl, hb, hbd, had, k⟩ := h
    refine ⟨_, pss_cons (ps_set (i := 2) scNear.nd rfl (Or.inl rfl) (pe_op op_fdivM (pv 0) (pv 1)))
      (pss_cons (ps_set (i := 3) scNear.nd rfl (Or.inl rfl) (pe_op op_mulM pe_int (pe_op op_sub (pv 0) (pe_op op_mulM (pv 2) (pv 1)))))
      (pss_cons (ps_if (pt_cmpR op_gt (pv 3) (pv 1) (nomark _)) (pss_one (ps_ret (pe_op op_add (pv 2) pe_int))) pss_nil)
      (pss_cons (ps_if (pw_and (pt_cmpR op_eq (pv 3) (pv 1) (nomark _)) (pw_and1 (pt_cmpR op_eq (pe_op op_mod (pv 2) pe_int) pe_int (nomark _)))).pt (pss_one (ps_ret (pe_op op_add (pv 2) pe_int))) pss_nil)
      (pss_one (ps_ret (pv 2)))))), ?_⟩
    have bq := had.ediv b
    have bm := bq.mul hbd
    refine ⟨_, rfl, _, rfl, _, _, rfl, rfl, ⟨hb, hbd⟩, ?_⟩
    refine ⟨_, rfl, _, rfl, _, rfl, _, _, rfl, rfl, bq.mulOk hbd (by decide), _, _, rfl, rfl, _, _, rfl, rfl, bd_two.mulOk (had.sub bm) (by decide), ?_⟩
    unfold nearI at k
    refine ⟨_, rfl, _, rfl, _, _, rfl, rfl, _, rfl, ite2 (fun e => ?_) (fun e => ?_)⟩
    · have e' := of_decide_eq_true e
      rw [if_pos (by exact e')] at k
      exact ⟨_, rfl, _, _, rfl, rfl, k⟩
    · have e' : ¬ (b < 2 * (a - a / b * b)) := fun z => e (decide_eq_true z)
      rw [if_neg (by exact e')] at k
      refine ⟨_, rfl, _, rfl, rfl, _, rfl, ite2 (fun c => ?_) (fun c => ?_)⟩
      · have c' := of_decide_eq_true c
        injection c' with c'
        refine ⟨_, rfl, _, _, rfl, rfl, (by show (0 : Int) < 2; decide), rfl, _, rfl, ite2 (fun d => ?_) (fun d => ?_)⟩
        · have d' := of_decide_eq_true d
          injection d' with d'
          rw [if_pos ⟨c', d'⟩] at k
          exact ⟨_, rfl, _, _, rfl, rfl, k⟩
        · rw [if_neg (fun q => d (decide_eq_true (congrArg V.int q.2)))] at k
          exact ⟨_, rfl, k⟩
      · rw [if_neg (fun q => c (decide_eq_true (congrArg V.int q.1)))] at k
        exact iteF ⟨_, rfl, k⟩
end
end HP

set_option Elab.async false
set_option linter.all false
set_option maxRecDepth 100000
set_option maxHeartbeats 2000000
namespace HP
open PySem PySem.Spec PyProof.Rows L2 HB HM
local macro_rules | `(tactic| walk_at "rd") => `(tactic| repeat (first | refine ⟨_, rfl, ?_⟩ | refine ⟨_, _, rfl, rfl, ?_⟩))
abbrev sRoot : Stmt := top 14
abbrev sLess : Stmt := top 15
/-! ### int.bit_length -/
def rBits : V → List V → Hp → VK → Prop := fun x xs H Q => ∃ a, x = .int a ∧ xs = [] ∧ Q (.int (Builtin.Int.intBits a : Nat)) H
theorem mt_bits {X : Cx} : MtR X "int.bit_length" rBits := by
  intro pins s σ H x xs v us Q I rx rs h
  obtain ⟨a, rfl, rfl, q⟩ := h
  obtain ⟨t, rfl⟩ := rx
  cases rs
  exact call_int_bit_length ⟨.int _, H, I.tok _, ⟨_, rfl⟩, q⟩
section
variable {P : Program} {w : World} {K : PySem.W.Frag} {mg : Str → Option Value} {base : Heap}
/-! ### whole_root -/
def rootI (N : Int) : Int := (Loft.root N.toNat : Nat)
theorem root_uniq {N g : Int} (hN : 0 ≤ N) (h0 : 0 ≤ g) (h1 : g * g ≤ N) (h2 : N < (g + 1) * (g + 1)) : g = rootI N := by
  obtain ⟨r1, r2⟩ := root_spec N.toNat
  unfold rootI
  generalize Loft.root N.toNat = r at *
  have r1' : (r : Int) * (r : Int) ≤ N := by
    have : ((r * r : Nat) : Int) ≤ (N.toNat : Int) := by exact_mod_cast r1
    rw [Int.natCast_mul] at this
    omega
  have r2' : N < ((r : Int) + 1) * ((r : Int) + 1) := by
    have : (N.toNat : Int) < (((r + 1) * (r + 1) : Nat) : Int) := by exact_mod_cast r2
    rw [Int.natCast_mul, Int.natCast_add] at this
    have e : ((1 : Nat) : Int) = 1 := rfl
    rw [e] at this
    omega
  rcases Int.lt_trichotomy g (r : Int) with c | c | c
  · have := sq_mono (show 0 ≤ g + 1 by omega) (show g + 1 ≤ (r : Int) by omega)
    omega
  · exact c
  · have := sq_mono (show 0 ≤ (r : Int) + 1 by omega) (show (r : Int) + 1 ≤ g by omega)
    omega
theorem root_spec' {N : Int} (hN : 0 ≤ N) : 0 ≤ rootI N ∧ rootI N * rootI N ≤ N ∧ N < (rootI N + 1) * (rootI N + 1) := by
  obtain ⟨r1, r2⟩ := root_spec N.toNat
  unfold rootI
  generalize Loft.root N.toNat = r at *
  refine ⟨by omega, ?_, ?_⟩
  · have : ((r * r : Nat) : Int) ≤ (N.toNat : Int) := by exact_mod_cast r1
    rw [Int.natCast_mul] at this
    omega
  · have : (N.toNat : Int) < (((r + 1) * (r + 1) : Nat) : Int) := by exact_mod_cast r2
    rw [Int.natCast_mul, Int.natCast_add] at this
    have e : ((1 : Nat) : Int) = 1 := rfl
    rw [e] at this
    omega
theorem root_bd {N : Int} {n : Nat} (hN : 0 ≤ N) (h : Bd n N) : Bd n (rootI N) := by
  obtain ⟨a, b, c⟩ := root_spec' hN
  refine h.le ?_
  rcases Int.lt_or_le (rootI N) 1 with q | q
  · omega
  · have := Int.mul_le_mul_of_nonneg_left q a
    omega
/-- the first guess -/
def guess0 (N : Int) : Int := 1 * 2 ^ (((Builtin.Int.intBits N : Nat) + 1 : Int) / 2).toNat
theorem guess0_ok {N : Int} (hN : 0 ≤ N) (hb : Bd 17000 N) : 0 ≤ guess0 N ∧ N < (guess0 N + 1) * (guess0 N + 1) ∧ Bd 9000 (guess0 N) := by
  have h1 : Bd (Builtin.Int.intBits N) N := Bd.of (Nat.le_refl _)
  have h2 := hb.bits
  generalize eb : Builtin.Int.intBits N = b at *
  unfold guess0
  rw [eb]
  generalize eh : (((b : Nat) : Int) + 1) / 2 = h
  obtain ⟨k, rfl⟩ : ∃ k : Nat, h = (k : Int) := ⟨h.toNat, by omega⟩
  rw [Int.toNat_natCast, Int.one_mul]
  have e1 : (2 : Int) ^ k = ((2 ^ k : Nat) : Int) := by push_cast; rfl
  rw [e1]
  have hk : b ≤ k + k := by omega
  have hk2 : k ≤ 8999 := by omega
  refine ⟨Int.natCast_nonneg _, ?_, ?_⟩
  · have a1 : N.natAbs < 2 ^ b := h1
    have a2 : 2 ^ b ≤ 2 ^ (k + k) := Nat.pow_le_pow_right (by decide) hk
    rw [Nat.pow_add] at a2
    generalize 2 ^ k = g at *
    have a3 : N.natAbs < (g + 1) * (g + 1) := by
      have : g * g ≤ (g + 1) * (g + 1) := Nat.mul_le_mul (by omega) (by omega)
      omega
    have a4 : (N.natAbs : Int) < (((g + 1) * (g + 1) : Nat) : Int) := by exact_mod_cast a3
    rw [Int.natCast_mul, Int.natCast_add] at a4
    have e : ((1 : Nat) : Int) = 1 := rfl
    rw [e] at a4
    omega
  · unfold Bd
    rw [Int.natAbs_natCast]
    exact Nat.pow_lt_pow_right (by decide) (by omega)
def spRoot : Sp := fun vs H Q _ => ∃ N : Int, vs = [.int N] ∧ 0 ≤ N ∧ Bd 17000 N ∧ Q (.int (rootI N)) H
theorem scRoot : FnScope ["number", "guess"] ["number"] (defScope sRoot) := ⟨rfl, rfl, rfl, by decide +kernel, rfl, by decide +kernel, by decide +kernel⟩
theorem ok_root {f : Addr} {fd : FuncData} (F : Fun K "whole_root" "whole_root" sRoot f fd) : FnOk P w K mg base CX0 1 f fd ["number"] spRoot := by
  refine F.ok scRoot (fun vs H Q E h => ?_) (fun cdv A outer s H vs Q E hr h => ?_)
  · obtain ⟨N, rfl, _⟩ := h
    rfl
  · obtain ⟨N, rfl, hN, hB, k⟩ := h
    refine ⟨_, pss_cons (ps_set (i := 1) scRoot.nd rfl (Or.inl rfl) (pe_op op_shl pe_int (pe_op op_fdivM (pe_op op_add (pe_bm0 PySem.F.plainAttrs_int PySem.F.slot_int_bit_length PySem.F.type_int_bit_length mt_bits (pv 0)) pe_int) pe_int)))
      (pss_cons (ps_while PassesOwn.never (pt_cmpR op_gt (pe_op op_mulM (pv 1) (pv 1)) (pv 0) (nomark _))
        (pss_one (ps_set (i := 1) scRoot.nd rfl (Or.inl rfl) (pe_op op_fdivM (pe_op op_add (pv 1) (pe_op op_fdivM (pv 0) (pv 1))) pe_int))))
      (pss_one (ps_ret (pv 1)))), ?_⟩
    have two_ok : (0 : Int) < 2 ∧ Bd 9000 2 := ⟨by decide, bd_two.mono (by decide)⟩
    have hbits := hB.bits
    refine ⟨_, rfl, rfl, N, rfl, rfl, ?_⟩
    refine ⟨_, _, rfl, rfl, _, _, rfl, rfl, two_ok, ?_⟩
    refine ⟨_, _, rfl, rfl, ⟨by omega, by omega, by decide⟩, ?_⟩
    obtain ⟨g1, g2, g3⟩ := guess0_ok hN hB
    refine ⟨fun m σ H' => ∃ g : Int, m = g.toNat ∧ σ = [some (.int N), some (.int g)] ∧ 0 ≤ g ∧ N < (g + 1) * (g + 1) ∧ Bd 9000 g ∧ H' = H, ⟨_, _, rfl, rfl, g1, g2, g3, rfl⟩, ?_⟩
    rintro m σ H' ⟨g, rfl, rfl, g1, g2, g3, rfl⟩
    refine ⟨_, rfl, _, rfl, _, _, rfl, rfl, g3.mulOk g3 (by decide), _, rfl, _, _, rfl, rfl, _, rfl, ?_⟩
    refine ite2 (fun e => ?_) (fun e => ?_)
    · have e' : N < g * g := of_decide_eq_true e
      obtain ⟨s0, s1, s2, s3⟩ := newt_step hN g1 e'
      refine ⟨fun σ' H'' => σ' = [some (.int N), some (.int (newt N g))] ∧ H'' = H', fun σ' H'' ⟨a1, b1⟩ => ⟨(newt N g).toNat, by omega, _, rfl, a1, s1, s3, g3.le (by omega), b1⟩, ?_⟩
      refine ⟨_, rfl, _, rfl, _, rfl, _, _, rfl, rfl, ⟨s0, g3⟩, _, _, rfl, rfl, _, _, rfl, rfl, two_ok, rfl, rfl⟩
    · have e' : ¬ N < g * g := fun z => e (decide_eq_true z)
      refine ⟨_, rfl, ?_⟩
      rw [root_uniq hN g1 (by omega) g2]
      exact k
/-! ### nearest_less_root -/
def lessR (h q d : Int) : Int := lessI h q d (rootI (4 * q))
def spLess : Sp := fun vs H Q _ => ∃ h q d : Int, vs = [.int h, .int q, .int d] ∧ 0 ≤ q ∧ Bd 16000 q ∧ 0 < d ∧ Bd 8000 d ∧ Bd 100000 h ∧ Q (.int (lessR h q d)) H
theorem scLess : FnScope ["over", "square", "under", "twice_root"] ["over", "square", "under"] (defScope sLess) := ⟨rfl, rfl, rfl, by decide +kernel, rfl, by decide +kernel, by decide +kernel⟩
theorem bd_four : Bd 3 4 := by unfold Bd; decide
theorem ok_less {f : Addr} {fd : FuncData} (F : Fun K "nearest_less_root" "nearest_less_root" sLess f fd) (FR : FnAt P w K mg base 1 "whole_root" ["number"] spRoot) (FN : FnAt P w K mg base 1 "nearest" ["over", "under"] spNear) :
    FnOk P w K mg base CX0 2 f fd ["over", "square", "under"] spLess := by
  refine F.ok scLess (fun vs H Q E h => ?_) (fun cdv A outer s H vs Q E hr h => ?_)
  · obtain ⟨h, q, d, rfl, _⟩ := h
    rfl
  · obtain ⟨h, q, d, rfl, hq, bq, hd, bd, bh, k⟩ := h
    refine ⟨_, pss_cons (ps_set (i := 3) scLess.nd rfl (Or.inl rfl) (pe_fn FR hr rfl (pa_cons (pe_op op_mulM pe_int (pv 1)) pa_nil)))
      (pss_cons (ps_if (pt_cmpR op_eq (pe_op op_mulM (pv 3) (pv 3)) (pe_op op_mulM pe_int (pv 1)) (nomark _)) (pss_one (ps_ret (pe_fn FN hr rfl (pa_cons (pe_op op_sub (pe_op op_mulM pe_int (pv 0)) (pv 3)) (pa_cons (pe_op op_mulM pe_int (pv 2)) pa_nil))))) pss_nil)
      (pss_one (ps_ret (pe_op op_fdivM (pe_op op_sub (pe_op op_sub (pe_op op_add (pe_op op_mulM pe_int (pv 0)) (pv 2)) (pv 3)) pe_int) (pe_op op_mulM pe_int (pv 2)))))), ?_⟩
    have h4 : (0 : Int) ≤ 4 * q := by omega
    have b4 : Bd 16003 (4 * q) := (bd_four.mul bq).mono (by decide)
    have br := root_bd h4 b4
    have b2d := bd_two.mul bd
    refine ⟨_, rfl, _, _, rfl, rfl, bd_four.mulOk bq (by decide), 4 * q, rfl, h4, b4.mono (by decide), ?_⟩
    unfold lessR lessI at k
    refine ⟨_, rfl, _, rfl, _, _, rfl, rfl, br.mulOk br (by decide), _, rfl, _, _, rfl, rfl, bd_four.mulOk bq (by decide), rfl, _, rfl, ite2 (fun e => ?_) (fun e => ?_)⟩
    · have e' := of_decide_eq_true e
      injection e' with e'
      rw [if_pos (by exact e')] at k
      refine ⟨_, rfl, _, _, rfl, rfl, bd_two.mulOk bh (by decide), _, rfl, _, _, rfl, rfl, _, rfl, _, _, rfl, rfl, bd_two.mulOk bd (by decide), ?_⟩
      exact ⟨_, _, rfl, by omega, b2d.mono (by decide), ((bd_two.mul bh).sub br).mono (by decide), k⟩
    · rw [if_neg (fun z => e (decide_eq_true (congrArg V.int z)))] at k
      exact ⟨_, rfl, _, _, rfl, rfl, bd_two.mulOk bh (by decide), _, rfl, _, _, rfl, rfl, _, rfl, _, _, rfl, rfl, _, _, rfl, rfl, _, rfl, _, _, rfl, rfl, bd_two.mulOk bd (by decide), _, _, rfl, rfl, ⟨by omega, b2d.mono (by decide)⟩, k⟩
end
end HP

set_option Elab.async false
set_option linter.all false
set_option maxRecDepth 100000
set_option maxHeartbeats 2000000
namespace HP
open PySem PySem.Spec PyProof.Rows L2 HB HM
local macro_rules | `(tactic| walk_at "rd") => `(tactic| repeat (first | refine ⟨_, rfl, ?_⟩ | refine ⟨_, _, rfl, rfl, ?_⟩))
local macro_rules | `(tactic| walk_at "lk") => `(tactic| ((repeat (first | rw [lookup_putF, if_pos rfl] | rw [lookup_putF, if_neg (by decide +kernel)])); all_goals rfl))
abbrev sRows : Stmt := top 20
abbrev sCols : Stmt := top 21
/-- item by item -/
inductive All2 {α : Type} (R : Addr → α → Prop) : List Addr → List α → Prop
  | nil : All2 R [] []
  | cons {a : Addr} {as : List Addr} {x : α} {xs : List α} : R a x → All2 R as xs → All2 R (a :: as) (x :: xs)
theorem All2.len {α : Type} {R : Addr → α → Prop} {as : List Addr} {xs : List α} (h : All2 R as xs) : as.length = xs.length := by
  induction h with
  | nil => rfl
  | cons _ _ ih => rw [List.length_cons, List.length_cons, ih]
theorem All2.imp {α : Type} {R S : Addr → α → Prop} {as : List Addr} {xs : List α} (h : All2 R as xs) (f : ∀ a x, R a x → S a x) : All2 S as xs := by
  induction h with
  | nil => exact .nil
  | cons r _ ih => exact .cons (f _ _ r) ih
theorem All2.snoc {α : Type} {R : Addr → α → Prop} {as : List Addr} {xs : List α} {a : Addr} {x : α} (h : All2 R as xs) (r : R a x) : All2 R (as ++ [a]) (xs ++ [x]) := by
  induction h with
  | nil => exact .cons r .nil
  | cons q _ ih => exact .cons q ih
theorem All2.get {α : Type} {R : Addr → α → Prop} {as : List Addr} {xs : List α} {i : Nat} {a : Addr} (h : All2 R as xs) (e : as[i]? = some a) : ∃ x, xs[i]? = some x ∧ R a x := by
  induction h generalizing i with
  | nil => simp at e
  | cons q t ih =>
    cases i with
    | zero =>
      simp at e
      subst e
      exact ⟨_, rfl, q⟩
    | succ i =>
      obtain ⟨x, h1, h2⟩ := ih (i := i) (by simpa using e)
      exact ⟨x, by simpa using h1, h2⟩
/-- over a range with a step -/
theorem lc_rangeC {lo c : Int} {n : Nat} {g : TG} {tt : TT} {te : TE} {vs : List Nat} {σ : L2.St} {H1 : Hp} {D : Addr} {Qd : Hp → Prop} (Pv : Nat → Hp → Prop) (h0 : Pv 0 (upd H1 D (.lst [])))
    (hs : ∀ i H, i < n → Pv i H → g (.int (lo + (i : Nat) * c)) (wipe σ vs) H fun σ2 H2 => wipe σ2 vs = wipe σ vs ∧ tt σ2 H2 fun b H3 =>
      if b = true then te σ2 H3 fun y H4 => ∃ acc, H4 D = some (.lst acc) ∧ acc.length < sizeLine ∧ Pv (i + 1) (upd H4 D (.lst (acc ++ [y]))) else Pv (i + 1) H3) (hd : ∀ H, Pv n H → Qd H) :
    ∃ W : Nat → Nat → Hp → Prop, (∃ m, W 0 m (upd H1 D (.lst []))) ∧ ∀ i m H, W i m H →
      ((Itc lo c n).stop i H ∧ Qd H) ∨ ((Itc lo c n).go i H ∧ ∃ Nx : Hp → Prop, (∀ H', Nx H' → ∃ m', m' < m ∧ W (i + 1) m' H') ∧ ∀ x H', (Itc lo c n).yld i H x H' → g x (wipe σ vs) H' fun σ2 H2 => wipe σ2 vs = wipe σ vs ∧ tt σ2 H2 fun b H3 =>
        if b = true then te σ2 H3 fun y H4 => ∃ acc, H4 D = some (.lst acc) ∧ acc.length < sizeLine ∧ Nx (upd H4 D (.lst (acc ++ [y]))) else Nx H3) := by
  refine ⟨fun i m H => m = n - i ∧ i ≤ n ∧ Pv i H, ⟨n, by omega, Nat.zero_le _, h0⟩, ?_⟩
  rintro i m H ⟨rfl, hi, p⟩
  by_cases hlt : i < n
  · refine .inr ⟨hlt, Pv (i + 1), fun H' p' => ⟨n - (i + 1), by omega, rfl, hlt, p'⟩, fun x H' y => ?_⟩
    obtain ⟨e, y⟩ := y
    subst e y
    exact hs i _ hlt p
  · have e : i = n := by omega
    subst e
    exact .inl ⟨Nat.le_refl _, hd H p⟩
theorem RgC.up {n c : Nat} (h1 : 1 ≤ c) (h2 : c ≤ 1000) (h3 : n ≤ 1000) : RgC 0 ((n * c : Nat) : Int) (c : Int) n := by
  have hb : n * c ≤ 1000000 := Nat.le_trans (Nat.mul_le_mul h3 h2) (by decide)
  have size : Builtin.Range.rangeSize 0 ((n * c : Nat) : Int) (c : Int) = n := by
    rw [PyProof.Rows.rangeSize_pos (by omega) (by omega)]
    have e : ((n * c : Nat) : Int) + c - 1 = (c - 1) + c * (n : Int) := by rw [Int.natCast_mul, Int.mul_comm]; omega
    rw [e, Int.add_mul_ediv_left _ _ (by omega), Int.ediv_eq_zero_of_lt (by omega) (by omega)]
    omega
  refine ⟨by omega, by omega, ?_, size⟩
  unfold Builtin.Range.small
  rw [size]
  simp only [Builtin.Range.rangeFitsLong, Bool.and_eq_true, Bool.or_eq_true, decide_eq_true_eq, beq_iff_eq]
  have hz : ((n * c : Nat) : Int) ≤ 1000000 := by omega
  have hz0 : 0 ≤ ((n * c : Nat) : Int) := by omega
  clear size
  generalize ((n * c : Nat) : Int) = z at *
  rw [if_pos (by omega), Bool.and_eq_true, decide_eq_true_eq, decide_eq_true_eq]
  omega
section
variable {P : Program} {w : World} {K : PySem.W.Frag} {mg : Str → Option Value} {base : Heap}
/-! ### level_rows -/
def rowsOf (ys : List Int) (st n : Nat) : List (List Int) := (List.range n).map fun j => (ys.drop (j * st)).take st
theorem rowsOf_len (ys : List Int) (st n : Nat) : (rowsOf ys st n).length = n := by unfold rowsOf; rw [List.length_map, List.length_range]
theorem rowsOf_get {ys : List Int} {st n i : Nat} (h : i < n) : (rowsOf ys st n)[i]? = some ((ys.drop (i * st)).take st) := by
  unfold rowsOf
  rw [List.getElem?_map, List.getElem?_range h]
  rfl
theorem cut_nat {xs : List V} {a b : Int} {i j : Nat} (ea : a = (i : Int)) (eb : b = (j : Int)) (hij : i ≤ j) (hj : j ≤ xs.length) : cutV xs (some a) (some b) = (xs.drop i).take (j - i) := by
  unfold cutV
  rw [ea, eb, HT.sIx_nat, HT.sIx_nat, Nat.min_eq_left hj, Nat.min_eq_left (Nat.le_trans hij hj)]
def spRows (K : PySem.W.Frag) : Sp := fun vs H Q _ => ∃ (a : Addr) (ys : List Int) (st n : Nat), vs = [.ref a, .int (st : Nat)] ∧ SqL K H a (ys.map V.int) ∧ ys.length = n * st ∧ 1 ≤ st ∧ st ≤ 100 ∧ n ≤ 100 ∧
  ∀ (D : Addr) (H' : Hp) (rs : List Addr), Same H H' → H' D = some (.lst (rs.map V.ref)) → All2 (Ints H') rs (rowsOf ys st n) → Q (.ref D) H'
theorem scRows : FnScope ["halves", "stations", "first"] ["halves", "stations"] (defScope sRows) := ⟨rfl, rfl, rfl, by decide +kernel, rfl, by decide +kernel, by decide +kernel⟩
theorem ok_rows {f : Addr} {fd : FuncData} (F : Fun K "level_rows" "level_rows" sRows f fd) (B : Blt mg) : FnOk P w K mg base CX0 1 f fd ["halves", "stations"] (spRows K) := by
  refine F.ok scRows (fun vs H Q E h => ?_) (fun cdv A outer s H vs Q E hr h => ?_)
  · obtain ⟨a, ys, st, n, rfl, _⟩ := h
    rfl
  · obtain ⟨a, ys, st, n, rfl, hS, hl, h1, h2, h3, k⟩ := h
    refine ⟨_, pss_one (ps_ret (pe_lc (own := [("first", 2)]) rfl scRows.nd
      (pi_range3 rfl B.range (pa_cons pe_int (pa_cons (pe_callB call_len_seq (by rfl) B.len PySem.boot_len (pa_cons (pv 0) pa_nil)) (pa_cons (pv 1) pa_nil))))
      (blkOk_by (N := ["halves", "stations", "first"]) (sc := defScope sRows) (by decide +kernel))
      (fun s H C cl fp => pg_name (i := 2) scRows.nd rfl (Or.inl rfl))
      (fun s H C cl fp => pts_nil)
      (fun s H C cl fp => pe_slice (r := rSlL K) sl_list (pv 0) (po_some (pv 2)) (po_some (pe_op op_add (pv 2) (pv 1)))))), ?_⟩
    refine ⟨_, rfl, a, _, rfl, .inl hS, _, rfl, 0, _, _, n, rfl, ?_, fun D hD => ?_⟩
    · rw [List.length_map, hl]
      exact RgC.up h1 (by omega) (by omega)
    refine lc_rangeC (lo := 0) (c := (st : Int)) (n := n) (fun i H' => Same H H' ∧ ∃ rs : List Addr, H' D = some (.lst (rs.map V.ref)) ∧ All2 (fun r l => Ints H' r l ∧ r ≠ D) rs ((rowsOf ys st n).take i))
      ⟨Same.new hD, [], upd_same, .nil⟩ ?_ ?_
    · rintro i H' hi ⟨sm, rs, hrs, R⟩
      refine ⟨rfl, ?_⟩
      have hS' := Same.seq sm hS
      have hst : i * st + st ≤ n * st := by
        have := Nat.mul_le_mul_right st (show i + 1 ≤ n from hi)
        rw [Nat.succ_mul] at this
        exact this
      refine ⟨_, rfl, _, rfl, _, rfl, _, rfl, _, rfl, _, _, rfl, rfl, _, rfl, a, _, rfl, hS', fun p hp => ?_⟩
      have cut : cutV (ys.map V.int) (some (0 + (i : Nat) * (st : Int))) (some (0 + (i : Nat) * (st : Int) + (st : Int))) = ((ys.drop (i * st)).take st).map V.int := by
        rw [cut_nat (i := i * st) (j := i * st + st) (by rw [Int.natCast_mul]; omega) (by rw [Int.natCast_add, Int.natCast_mul]; omega) (by omega) (by rw [List.length_map, hl]; exact hst), Nat.add_sub_cancel_left, ← List.map_drop, ← List.map_take]
      have nD : D ≠ p := ne_of_none hrs hp
      refine ⟨rs.map V.ref, by rw [upd_ne nD]; exact hrs, ?_, ?_, rs ++ [p], ?_, ?_⟩
      · rw [List.length_map, R.len, List.length_take]
        exact small1000 (by omega)
      · intro b o e
        have := sm b o e
        rw [upd_ne (ne_of_none e hD), upd_ne (ne_of_none this hp)]
        exact this
      · rw [upd_same, List.map_append]
        rfl
      · rw [List.take_succ, rowsOf_get hi]
        refine (R.imp fun r l ⟨h, ne⟩ => ⟨(by show upd _ D _ r = _; rw [upd_ne ne, upd_ne (ne_of_none h hp)]; exact h), ne⟩).snoc ⟨?_, Ne.symm nD⟩
        show upd _ D _ p = _
        rw [upd_ne (Ne.symm nD), upd_same, cut]
    · rintro H' ⟨sm, rs, hrs, R⟩
      rw [List.take_of_length_le (by rw [rowsOf_len]; exact Nat.le_refl _)] at R
      exact k D H' rs sm hrs (R.imp fun r l h => h.1)
/-! ### station_rows -/
def strV (xs : List V) (i st m : Nat) : List V := (List.range m).map fun k => xs.getD (i + st * k) .non
theorem vals_pick {xs : List V} {its : List Value} (r : Vals xs its) : ∀ ks : List Nat, (∀ k ∈ ks, k < xs.length) → Vals (ks.map fun k => xs.getD k .non) (ks.filterMap (its.toArray[·]?))
  | [], _ => .nil
  | k :: ks, h => by
    have hk := h k (List.mem_cons_self ..)
    obtain ⟨u, hu, ru⟩ := r.get (List.getElem?_eq_getElem hk)
    have e : its.toArray[k]? = some u := by rw [List.getElem?_toArray]; exact hu
    rw [List.filterMap_cons, e, List.map_cons]
    refine .cons ?_ (vals_pick r ks fun j hj => h j (List.mem_cons_of_mem _ hj))
    rw [List.getD_eq_getElem?_getD, List.getElem?_eq_getElem hk]
    exact ru
theorem pick_stride {xs : List V} {its : List Value} (r : Vals xs its) {i st m : Nat} (hl : xs.length = m * st) (hi : i < st) : Vals (strV xs i st m) (slicePick its.toArray (some (i : Int)) none (some (st : Int))).toList := by
  have hlen := r.length
  have hst : (0 : Int) < (st : Int) := by omega
  have key : sliceRange (sliceBounds (some (i : Int)) none (some (st : Int)) its.toArray.size).1 (sliceBounds (some (i : Int)) none (some (st : Int)) its.toArray.size).2.1 (sliceBounds (some (i : Int)) none (some (st : Int)) its.toArray.size).2.2 = (List.range m).map fun k => i + st * k := by
    have hz : its.toArray.size = m * st := by rw [List.size_toArray]; omega
    rw [hz]
    simp only [sliceBounds, Option.getD_some, if_pos (show (st : Int) > 0 from hst), if_neg (show ¬ ((i : Int) < 0) by omega)]
    unfold sliceRange
    dsimp only
    rw [if_pos (show (st : Int) > 0 from hst)]
    have mk : ∀ c : Int, c.toNat = m → (∀ z : Int, (z = (i : Int) ∨ m = 0) → (List.range c.toNat).map (fun (k : Nat) => (z + (st : Int) * (k : Int)).toNat) = (List.range m).map fun k => i + st * k) := fun c hc z hzi => by
      rw [hc]
      refine List.map_congr_left fun k hk => ?_
      have := List.mem_range.mp hk
      rcases hzi with rfl | q
      · have : (i : Int) + (st : Int) * (k : Int) = ((i + st * k : Nat) : Int) := by push_cast; rfl
        rw [this, Int.toNat_natCast]
      · omega
    rcases Nat.eq_zero_or_pos m with q | q
    · subst q
      refine mk _ ?_ _ (.inr rfl)
      rw [if_neg (by rw [Nat.zero_mul]; omega)]
      rfl
    · have hm : st ≤ m * st := Nat.le_mul_of_pos_left st q
      have ei : max 0 (min (i : Int) ((m * st : Nat) : Int)) = (i : Int) := by omega
      rw [ei]
      refine mk _ ?_ _ (.inl rfl)
      rw [if_pos (by omega)]
      have e : ((m * st : Nat) : Int) - (i : Int) + (st : Int) - 1 = (st : Int) * (m : Int) + ((st : Int) - 1 - (i : Int)) := by rw [Int.natCast_mul, Int.mul_comm]; omega
      rw [ediv_is hst (q := (m : Int)) (r := (st : Int) - 1 - (i : Int)) (by omega) (by omega) e, Int.toNat_natCast]
  unfold slicePick
  rw [key, List.toList_toArray]
  have := vals_pick r ((List.range m).map fun k => i + st * k) fun k hk => by
    obtain ⟨j, hj, rfl⟩ := List.mem_map.mp hk
    have hj' := List.mem_range.mp hj
    have : st * (j + 1) ≤ st * m := Nat.mul_le_mul_left st hj'
    rw [Nat.mul_succ] at this
    rw [hl, Nat.mul_comm m]
    omega
  rw [List.map_map] at this
  exact this
section
variable {X : Cx} {e st : Expr} {te : TE} {lo : Option Expr} {tl ts : TO} {pos p2 : Pos}
def tSlS (K : PySem.W.Frag) (te : TE) (tl ts : TO) : TE := fun σ H Q => te σ H fun x H1 => tl σ H1 fun l H2 => ts σ H2 fun u H3 =>
  ∃ (a : Addr) (xs : List V) (i st m : Nat), x = .ref a ∧ l = some (i : Int) ∧ u = some (st : Int) ∧ SqL K H3 a xs ∧ xs.length = m * st ∧ i < st ∧ ∀ p, H3 p = none → Q (.ref p) (upd H3 p (.lst (strV xs i st m)))
/-- a[lo::st] of a list -/
theorem pe_sliceS {K : PySem.W.Frag} (he : PE X e te) (hl : PO X lo tl) (hu : PO X (some st) ts) (hK : X.K = K := by rfl) : PE X (.Subscript e (.Slice lo none (some st) p2) pos) (tSlS K te tl ts) := by
  subst hK
  intro pins s σ H Q I h
  refine Subscript_ (thn (he pins s σ H _ I h) fun v s1 ⟨x, H1, I1, r1, q1⟩ => ?_)
  refine wpAny_Slice (thn (hl pins s1 σ H1 _ I1 q1) fun vl s2 ⟨l, H2, I2, pl, q2⟩ => ?_)
  rw [evalPart_none]
  refine wpAny_pure ?_
  refine thn (hu pins s2 σ H2 _ I2 q2) fun vu s3 ⟨u, H3, I3, pu, q3⟩ => ?_
  obtain ⟨a, xs, i, st', m, rfl, rfl, rfl, hx, hlen', hi, q⟩ := q3
  cases r1
  have I4 : Inv X pins σ H3 { s3 with heap := s3.heap.push { cls := .type "slice", data := .fields #[vl, .none, vu] } } := I3.kept (t' := s3.toks) fun b ob q => Heap.get?_push_of_some _ q
  show wpAny (model X.prog X.w) X.A (subscriptTail e (.Slice lo none (some st) p2) (.ref a) (.ref s3.heap.objs.size)) (EP X pins σ Q) X.xe { s3 with heap := s3.heap.push { cls := .type "slice", data := .fields #[vl, .none, vu] } }
  generalize hs4 : ({ s3 with heap := s3.heap.push { cls := .type "slice", data := .fields #[vl, .none, vu] } } : Shared) = s4 at I4
  have hsl : s4.heap.IsSliceOf s3.heap.objs.size vl .none vu := by
    subst hs4
    exact Heap.IsSliceOf.new ..
  obtain ⟨its, r, ht, hz⟩ := I4.list hx
  have hlen := r.length
  refine tail_any (ops := [.ref a, .ref s3.heap.objs.size]) ht.isList.typeIs slot_list_getitem.lookup ?_ (by with_unfolding_all rfl)
  refine wpAny_getItem_list_slice ht.isList hsl pl .none pu (by intro z; injection z with z; omega) ?_ (by rw [List.size_toArray] <;> omega)
  have rv := pick_stride r hlen' hi
  refine ⟨.ref s4.heap.objs.size, _, I4.laid (t' := s4.toks) (o := .lst (strV xs i st' m)) (fun b ob q => Heap.get?_push_of_some _ q) (Nat.le_refl _) ?_, rfl, q _ (I4.hok.fresh (Nat.le_refl _))⟩
  refine ⟨?_, _, 0, rv, ?_⟩
  · have : (strV xs i st' m).length ≤ xs.length := by
      unfold strV
      rw [List.length_map, List.length_range, hlen']
      exact Nat.le_mul_of_pos_right m (by omega)
    exact Nat.le_trans this hz
  · exact Heap.get?_push_size _ rfl
end
def colsOf (ys : List Int) (st n : Nat) : List (List Int) := (List.range st).map fun j => (List.range n).map fun i => ys.getD (j + st * i) 0
theorem colsOf_len (ys : List Int) (st n : Nat) : (colsOf ys st n).length = st := by unfold colsOf; rw [List.length_map, List.length_range]
theorem colsOf_get {ys : List Int} {st n j : Nat} (h : j < st) : (colsOf ys st n)[j]? = some ((List.range n).map fun i => ys.getD (j + st * i) 0) := by
  unfold colsOf
  rw [List.getElem?_map, List.getElem?_range h]
  rfl
theorem strV_ints {ys : List Int} {j st n : Nat} (hl : ys.length = n * st) (hj : j < st) : strV (ys.map V.int) j st n = ((List.range n).map fun i => ys.getD (j + st * i) 0).map V.int := by
  unfold strV
  rw [List.map_map]
  refine List.map_congr_left fun k hk => ?_
  have hk' := List.mem_range.mp hk
  have b : j + st * k < ys.length := by
    have : st * (k + 1) ≤ st * n := Nat.mul_le_mul_left st hk'
    rw [Nat.mul_succ] at this
    rw [hl, Nat.mul_comm n]
    omega
  show (ys.map V.int).getD (j + st * k) .non = V.int (ys.getD (j + st * k) 0)
  rw [List.getD_eq_getElem?_getD, get_ints b]
  rfl
def spCols (K : PySem.W.Frag) : Sp := fun vs H Q _ => ∃ (a : Addr) (ys : List Int) (st n : Nat), vs = [.ref a, .int (st : Nat)] ∧ SqL K H a (ys.map V.int) ∧ ys.length = n * st ∧ st ≤ 100 ∧
  ∀ (D : Addr) (H' : Hp) (rs : List Addr), Same H H' → H' D = some (.lst (rs.map V.ref)) → All2 (Ints H') rs (colsOf ys st n) → Q (.ref D) H'
theorem scCols : FnScope ["halves", "stations", "first"] ["halves", "stations"] (defScope sCols) := ⟨rfl, rfl, rfl, by decide +kernel, rfl, by decide +kernel, by decide +kernel⟩
theorem ok_cols {f : Addr} {fd : FuncData} (F : Fun K "station_rows" "station_rows" sCols f fd) (B : Blt mg) : FnOk P w K mg base CX0 1 f fd ["halves", "stations"] (spCols K) := by
  refine F.ok scCols (fun vs H Q E h => ?_) (fun cdv A outer s H vs Q E hr h => ?_)
  · obtain ⟨a, ys, st, n, rfl, _⟩ := h
    rfl
  · obtain ⟨a, ys, st, n, rfl, hS, hl, h2, k⟩ := h
    refine ⟨_, pss_one (ps_ret (pe_lc (own := [("first", 2)]) rfl scCols.nd
      (pi_range1 rfl B.range (pa_cons (pv 1) pa_nil))
      (blkOk_by (N := ["halves", "stations", "first"]) (sc := defScope sCols) (by decide +kernel))
      (fun s H C cl fp => pg_name (i := 2) scCols.nd rfl (Or.inl rfl))
      (fun s H C cl fp => pts_nil)
      (fun s H C cl fp => pe_sliceS (K := K) (pv 0) (po_some (pv 2)) (po_some (pv 1))))), ?_⟩
    refine ⟨_, rfl, _, rfl, (by omega), (by omega), fun D hD => ?_⟩
    rw [Int.toNat_natCast]
    refine lc_range (lo := 0) (n := st) (fun i H' => Same H H' ∧ ∃ rs : List Addr, H' D = some (.lst (rs.map V.ref)) ∧ All2 (fun r l => Ints H' r l ∧ r ≠ D) rs ((colsOf ys st n).take i))
      ⟨Same.new hD, [], upd_same, .nil⟩ ?_ ?_
    · rintro i H' hi ⟨sm, rs, hrs, R⟩
      refine ⟨rfl, ?_⟩
      have hS' := Same.seq sm hS
      refine ⟨_, rfl, _, rfl, _, rfl, _, rfl, _, rfl, a, _, i, st, n, rfl, by rw [Int.zero_add], rfl, hS', by rw [List.length_map]; exact hl, hi, fun p hp => ?_⟩
      have nD : D ≠ p := ne_of_none hrs hp
      refine ⟨rs.map V.ref, by rw [upd_ne nD]; exact hrs, ?_, ?_, rs ++ [p], ?_, ?_⟩
      · rw [List.length_map, R.len, List.length_take]
        exact small1000 (by omega)
      · intro b o e
        have := sm b o e
        rw [upd_ne (ne_of_none e hD), upd_ne (ne_of_none this hp)]
        exact this
      · rw [upd_same, List.map_append]
        rfl
      · rw [List.take_succ, colsOf_get hi]
        refine (R.imp fun r l ⟨h, ne⟩ => ⟨(by show upd _ D _ r = _; rw [upd_ne ne, upd_ne (ne_of_none h hp)]; exact h), ne⟩).snoc ⟨?_, Ne.symm nD⟩
        show upd _ D _ p = _
        rw [upd_ne (Ne.symm nD), upd_same, strV_ints hl hi]
    · rintro H' ⟨sm, rs, hrs, R⟩
      rw [List.take_of_length_le (by rw [colsOf_len]; exact Nat.le_refl _)] at R
      exact k D H' rs sm hrs (R.imp fun r l h => h.1)
end
end HP

set_option Elab.async false
set_option linter.all false
set_option maxRecDepth 100000
set_option maxHeartbeats 2000000
namespace HP
open PySem PySem.Spec PyProof.Rows L2 HB HM
local macro_rules | `(tactic| walk_at "rd") => `(tactic| repeat (first | refine ⟨_, rfl, ?_⟩ | refine ⟨_, _, rfl, rfl, ?_⟩))
local macro_rules | `(tactic| walk_at "lk") => `(tactic| ((repeat (first | rw [lookup_putF, if_pos rfl] | rw [lookup_putF, if_neg (by decide +kernel)])); all_goals rfl))
abbrev sSInit : Stmt := inClass (top 18) 0
abbrev sSDiv : Stmt := inClass (top 18) 1
abbrev sSHalf : Stmt := inClass (top 18) 2
abbrev sSAlong : Stmt := inClass (top 18) 3
abbrev sSUp : Stmt := inClass (top 18) 4
abbrev sSNear : Stmt := inClass (top 18) 5
abbrev sSBevel : Stmt := inClass (top 18) 6
abbrev sSIns : Stmt := inClass (top 18) 7
theorem pe_fldK {X : Cx} {K : PySem.W.Frag} {e : Expr} {f : Str} {pos : Pos} {ta : TE} (he : PE X e ta) (hb : attributeBase e f X.env (eval e X.env) = eval e X.env) (hK : X.K = K := by rfl) : PE X (.Attribute e f pos) (tFld K ta f) := by
  subst hK
  exact pe_fld he hb
theorem ne_ins {H : Hp} {a p C d C' d' : Addr} {fs fs' : List (Str × V)} (m : Str) {v : V} (h1 : H a = some (.ins C d fs)) (h2 : H p = some (.ins C' d' fs')) (e1 : fs.lookup m = some v) (e2 : fs'.lookup m = none) : a ≠ p := by
  rintro rfl
  rw [h1] at h2
  injection h2 with e
  injection e with _ _ e
  rw [e, e2] at e1
  cases e1
theorem GroundAt.kept' {CG g p C dx : Addr} {fs : List (Str × V)} {H H' : Hp} {xs : List Int} (G : GroundAt CG H g xs) (hp : H p = some (.ins C dx fs)) (hn : fs.lookup ("places" : Str) = none) (k : Kept p H H') : GroundAt CG H' g xs := by
  have G' := G
  obtain ⟨d, lp, lg, lm, h1, _⟩ := G'
  exact G.kept hp (ne_ins "places" h1 hp gf1 hn) k
theorem BattenAt.kept' {CG CB b p C dx : Addr} {fs : List (Str × V)} {H H' : Hp} {xs ws : List Int} (B : BattenAt CG CB H b xs ws) (hp : H p = some (.ins C dx fs)) (hn : fs.lookup ("places" : Str) = none) (hn2 : fs.lookup ("ground" : Str) = none) (k : Kept p H H') : BattenAt CG CB H' b xs ws := by
  obtain ⟨g, d, ln, lb, h1, h2, h3, h4⟩ := B
  have ne : ∀ {l : Addr} {ys : List V}, H l = some (.lst ys) → l ≠ p := fun h e => by rw [e, hp] at h; cases h
  exact ⟨g, d, ln, lb, k _ _ h1 (ne_ins "ground" h1 hp bf1 hn2), h2.kept' hp hn k, k _ _ h3 (ne h3), k _ _ h4 (ne h4)⟩
theorem All2.mem {α : Type} {R : Addr → α → Prop} {as : List Addr} {xs : List α} {S : α → Prop} (h : All2 R as xs) (f : ∀ x ∈ xs, S x) : All2 (fun a x => S x ∧ R a x) as xs := by
  induction h with
  | nil => exact .nil
  | cons r _ ih => exact .cons ⟨f _ (List.mem_cons_self ..), r⟩ (ih fun x hx => f x (List.mem_cons_of_mem _ hx))
/-- a list of ints is no list of objects -/
theorem ints_off {H : Hp} {D l : Addr} {bs : List Addr} {ns : List Int} (hD : H D = some (.lst (bs.map V.ref))) (h : Ints H l ns) (h1 : 1 ≤ ns.length) : l ≠ D := by
  rintro rfl
  rw [show H l = some (.lst (ns.map V.int)) from h] at hD
  injection hD with e
  injection e with e
  cases ns with
  | nil => simp at h1
  | cons n ns =>
    cases bs with
    | nil => simp at e
    | cons b bs =>
      rw [List.map_cons, List.map_cons] at e
      injection e with e1 _
      cases e1
theorem GroundAt.off {CG g D : Addr} {bs : List Addr} {H : Hp} {xs : List Int} {z : List V} (U : GroundAt CG H g xs) (G : Grd xs) (hD : H D = some (.lst (bs.map V.ref))) : GroundAt CG (upd H D (.lst z)) g xs := by
  obtain ⟨d, lp, lg, lm, h1, h2, h3, h4⟩ := U
  have t := G.ri.two
  refine ⟨d, lp, lg, lm, ?_, ?_, ?_, ?_⟩
  · rw [upd_ne (ne_of h1 hD (by intro z; cases z))]; exact h1
  · show upd _ D _ lp = _
    rw [upd_ne (ints_off hD h2 (by omega))]; exact h2
  · show upd _ D _ lg = _
    rw [upd_ne (ints_off hD h3 (by rw [gapsL_len]; omega))]; exact h3
  · show upd _ D _ lm = _
    rw [upd_ne (ints_off hD h4 (by rw [minorsL_len]; omega))]; exact h4
theorem BattenAt.off {CG CB b D : Addr} {bs : List Addr} {H : Hp} {xs ws : List Int} {z : List V} (U : BattenAt CG CB H b xs ws) (G : Grd xs) (W : Vs xs ws) (hD : H D = some (.lst (bs.map V.ref))) : BattenAt CG CB (upd H D (.lst z)) b xs ws := by
  obtain ⟨g, d, ln, lb, h1, h2, h3, h4⟩ := U
  have t := G.ri.two
  have t2 := W.len
  refine ⟨g, d, ln, lb, ?_, h2.off G hD, ?_, ?_⟩
  · rw [upd_ne (ne_of h1 hD (by intro z; cases z))]; exact h1
  · show upd _ D _ ln = _
    rw [upd_ne (ints_off hD h3 (by omega))]; exact h3
  · show upd _ D _ lb = _
    rw [upd_ne (ints_off hD h4 (by unfold bendsL; rw [List.length_map, List.length_range]; omega))]; exact h4
/-! ### Hull -/
structure GoodT (T : Loft.Table) : Prop where
  gx : Grd T.xs
  gz : Grd T.zs
  rows : T.ys.length = T.zs.length
  row : ∀ l ∈ T.ys, l.length = T.xs.length ∧ ∀ v ∈ l, Bd 20 v
theorem GoodT.good {T : Loft.Table} (G : GoodT T) : Good T := ⟨G.gx.ri, G.gz.ri, G.rows, fun l hl => (G.row l hl).1⟩
theorem GoodT.vs {T : Loft.Table} (G : GoodT T) {l : List Int} (hl : l ∈ T.ys) : Vs T.xs l := ⟨(G.row l hl).1, fun v hv => ((G.row l hl).2 v hv).mono (by decide)⟩
theorem GoodT.vals {T : Loft.Table} (G : GoodT T) {x : Int} (hx : HM.Within T.xs x) : Vs T.zs (T.ys.map fun l => valueOf T.xs l x) := ⟨by rw [List.length_map]; exact G.rows, fun v hv => by
  obtain ⟨l, hl, rfl⟩ := List.mem_map.mp hv
  exact (val_bd G.gx (G.row l hl).2 hx).mono (by decide)⟩
theorem GoodT.slopes {T : Loft.Table} (G : GoodT T) {x : Int} (hx : HM.Within T.xs x) : Vs T.zs (T.ys.map fun l => slopeOf T.xs l x) := ⟨by rw [List.length_map]; exact G.rows, fun v hv => by
  obtain ⟨l, hl, rfl⟩ := List.mem_map.mp hv
  exact (slope_bd G.gx (G.row l hl).2 hx).mono (by decide)⟩
/-! ### Section -/
def sf (gu : Addr) (d : Int) (b1 b2 : Addr) : List (Str × V) := putF "slopes_up" (.ref b2) (putF "halves_up" (.ref b1) (putF "divisor_along" (.int d) (putF "upward" (.ref gu) [])))
theorem sf1 {gu : Addr} {d : Int} {b1 b2 : Addr} : (sf gu d b1 b2).lookup ("upward" : Str) = some (V.ref gu) := by unfold sf; walk_at "lk"
theorem sf2 {gu : Addr} {d : Int} {b1 b2 : Addr} : (sf gu d b1 b2).lookup ("divisor_along" : Str) = some (V.int d) := by unfold sf; walk_at "lk"
theorem sf3 {gu : Addr} {d : Int} {b1 b2 : Addr} : (sf gu d b1 b2).lookup ("halves_up" : Str) = some (V.ref b1) := by unfold sf; walk_at "lk"
theorem sf4 {gu : Addr} {d : Int} {b1 b2 : Addr} : (sf gu d b1 b2).lookup ("slopes_up" : Str) = some (V.ref b2) := by unfold sf; walk_at "lk"
theorem sf_no {gu : Addr} {d : Int} {b1 b2 : Addr} {m : Str} (h : m ≠ "upward" ∧ m ≠ "divisor_along" ∧ m ≠ "halves_up" ∧ m ≠ "slopes_up") : (sf gu d b1 b2).lookup m = none := by
  unfold sf
  rw [lookup_putF, if_neg h.2.2.2, lookup_putF, if_neg h.2.2.1, lookup_putF, if_neg h.2.1, lookup_putF, if_neg h.1]
  rfl
/-- the section of this table's hull at x stands at s -/
def SectAt (CG CB CS : Addr) (H : Hp) (s : Addr) (T : Loft.Table) (x : Int) : Prop :=
  ∃ ds gu b1 b2, H s = some (.ins CS ds (sf gu (divOf T.xs x) b1 b2)) ∧ GroundAt CG H gu T.zs ∧ BattenAt CG CB H b1 T.zs (T.ys.map fun l => valueOf T.xs l x) ∧ BattenAt CG CB H b2 T.zs (T.ys.map fun l => slopeOf T.xs l x)
theorem SectAt.same {CG CB CS s : Addr} {H H' : Hp} {T : Loft.Table} {x : Int} (U : SectAt CG CB CS H s T x) (sm : Same H H') : SectAt CG CB CS H' s T x := by
  obtain ⟨ds, gu, b1, b2, h1, h2, h3, h4⟩ := U
  exact ⟨ds, gu, b1, b2, sm _ _ h1, h2.same sm, h3.same sm, h4.same sm⟩
structure STxt (K : PySem.W.Frag) (CS : Addr) : Prop where
  cl : Cls K CS
  n1 : NoAttr K CS "upward"
  n2 : NoAttr K CS "divisor_along"
  n3 : NoAttr K CS "halves_up"
  n4 : NoAttr K CS "slopes_up"
section
variable {P : Program} {w : World} {K : PySem.W.Frag} {mg : Str → Option Value} {base : Heap}
def spSInit (CG CB CS : Addr) : Sp := fun vs H Q _ => ∃ (p ds L gu : Addr) (bs : List Addr) (T : Loft.Table) (x : Int), vs = [.ref p, .ref L, .ref gu, .int x] ∧ H p = some (.ins CS ds []) ∧ H L = some (.lst (bs.map V.ref)) ∧ All2 (fun b l => BattenAt CG CB H b T.xs l) bs T.ys ∧ GroundAt CG H gu T.zs ∧ GoodT T ∧ HM.Within T.xs x ∧
  ∀ H' : Hp, SectAt CG CB CS H' p T x → Kept p H H' → Q .non H'
theorem scSInit : FnScope ["self", "levels", "upward", "x", "level"] ["self", "levels", "upward", "x"] (defScope sSInit) := ⟨rfl, rfl, rfl, by decide +kernel, rfl, by decide +kernel, by decide +kernel⟩
theorem ok_sinit {f CG CB CS : Addr} {fd : FuncData} (F : Fun K "__init__" "Section.__init__" sSInit f fd) (T : STxt K CS) (TB : BTxt K CB) (MB : MkAt P w K mg base 4 "Batten" CB ["self", "ground", "values"] (spBInit K CG CB)) (MV : MtAt P w K mg base 2 CB "value_at" ["self", "place"] (spBVal CG CB valueOf))
    (MS : MtAt P w K mg base 2 CB "slope_at" ["self", "place"] (spBVal CG CB slopeOf)) (MD : MtAt P w K mg base 2 CG "divisor_at" ["self", "place"] (spGDiv CG)) :
    FnOk P w K mg base CX0 6 f fd ["self", "levels", "upward", "x"] (spSInit CG CB CS) := by
  refine F.ok scSInit (fun vs H Q E h => ?_) (fun cdv A outer s H vs Q E hr h => ?_)
  · obtain ⟨p, ds, L, gu, bs, t, x, rfl, _⟩ := h
    rfl
  · obtain ⟨p, ds, L, gu, bs, t, x, rfl, hp, hL, Bs, GU, G, hx, k⟩ := h
    refine ⟨_, pss_cons (ps_fld (pv 0) (pv 2) rfl)
      (pss_cons (ps_fld (pv 0) (pe_mt MD (hr.mono (by decide)) (pe_fld (pe_ix ix_list (pv 1) pe_int (fun _ _ => rfl)) rfl) (pa_cons (pv 3) pa_nil)) rfl)
      (pss_cons (ps_fld (pv 0) (pe_mk MB hr rfl (pa_cons (pv 2) (pa_cons (pe_lc (own := [("level", 4)]) rfl scSInit.nd (pi_list (pv 1))
        (blkOk_by (N := ["self", "levels", "upward", "x", "level"]) (sc := defScope sSInit) (by decide +kernel))
        (fun s H C cl fp => pg_name (i := 4) scSInit.nd rfl (Or.inl rfl))
        (fun s H C cl fp => pts_nil)
        (fun s H C cl fp => pe_mt MV (hr.mono (by decide)) (pv 4) (pa_cons (pv 3) pa_nil))) pa_nil))) rfl)
      (pss_one (ps_fld (pv 0) (pe_mk MB hr rfl (pa_cons (pv 2) (pa_cons (pe_lc (own := [("level", 4)]) rfl scSInit.nd (pi_list (pv 1))
        (blkOk_by (N := ["self", "levels", "upward", "x", "level"]) (sc := defScope sSInit) (by decide +kernel))
        (fun s H C cl fp => pg_name (i := 4) scSInit.nd rfl (Or.inl rfl))
        (fun s H C cl fp => pts_nil)
        (fun s H C cl fp => pe_mt MS (hr.mono (by decide)) (pv 4) (pa_cons (pv 3) pa_nil))) pa_nil))) rfl)))), ?_⟩
    have hmz := G.gz.most
    have hrz := G.rows
    have h2z := G.gz.ri.two
    have off : ∀ {H1 : Hp} {fs : List (Str × V)}, H1 p = some (.ins CS ds fs) → ∀ {l : Addr} {ys : List V}, H1 l = some (.lst ys) → l ≠ p := fun h1 _ _ h e => by rw [e, h1] at h; cases h
    -- upward
    refine ⟨_, rfl, _, rfl, p, CS, ds, [], rfl, hp, T.cl, T.n1, (by show 0 < 1000; decide), ?_⟩
    obtain ⟨p1, k1⟩ := stepPut (p := p) (H := H) (u := .ins CS ds (putF "upward" (.ref gu) []))
    have GU1 := GU.kept' hp rfl k1
    have Bs1 := Bs.imp fun b l q => q.kept' hp rfl rfl k1
    have hL1 := k1 _ _ hL (off hp hL)
    generalize upd H p (.ins CS ds (putF "upward" (.ref gu) [])) = H1 at p1 k1 GU1 Bs1 hL1 ⊢
    -- divisor_along
    obtain ⟨b0, eb0⟩ : ∃ b0, bs[0]? = some b0 := ⟨bs[0]'(by rw [Bs.len]; omega), List.getElem?_eq_getElem _⟩
    obtain ⟨l0, _, BA0⟩ := Bs1.get eb0
    obtain ⟨g0, db0, ln0, lb0, hb0, GA0, _⟩ := BA0
    have GA0' := GA0
    obtain ⟨dg0, _, _, _, hg0, _⟩ := GA0'
    refine ⟨_, rfl, L, _, _, _, rfl, rfl, SqL.of hL1, at_of (j := 0) (v := V.ref b0) rfl (by rw [List.getElem?_map, eb0]; rfl), b0, CB, db0, _, _, rfl, hb0, TB.cl, TB.n1, bf1, g0, dg0, _, rfl, hg0, gf_no (by decide +kernel), _, rfl, g0, t.xs, x, rfl, GA0, G.gx, hx, ?_⟩
    refine ⟨_, rfl, p, CS, ds, _, rfl, p1, T.cl, T.n2, len_put (n := 999) (by show 0 < 999; decide), ?_⟩
    obtain ⟨p2, k2⟩ := stepPut (p := p) (H := H1) (u := .ins CS ds (putF "divisor_along" (.int (divOf t.xs x)) (putF "upward" (.ref gu) [])))
    have lk1 : ∀ m : Str, m ≠ "upward" → (putF "upward" (V.ref gu) []).lookup m = none := fun m hm => by rw [lookup_putF, if_neg hm]; rfl
    have GU2 := GU1.kept' p1 (lk1 _ (by decide +kernel)) k2
    have Bs2 := Bs1.imp fun b l q => q.kept' p1 (lk1 _ (by decide +kernel)) (lk1 _ (by decide +kernel)) k2
    have hL2 := k2 _ _ hL1 (off p1 hL1)
    have k02 := k1.trans k2
    generalize upd H1 p (.ins CS ds (putF "divisor_along" (.int (divOf t.xs x)) (putF "upward" (.ref gu) []))) = H2 at p2 k2 GU2 Bs2 hL2 k02 ⊢
    -- halves_up
    refine ⟨_, rfl, _, rfl, L, rfl, ⟨_, SqL.of hL2⟩, fun D hD => ?_⟩
    refine lc_list (K := K) (a := L) (xs := bs.map V.ref) (fun i H' => H' = upd H2 D (.lst (((t.ys.map fun l => valueOf t.xs l x).take i).map V.int))) rfl
      (fun i H' _ e => by rw [e]; exact Same.seq (Same.new hD) (SqL.of hL2)) ?_ ?_
    · rintro i y H' hi rfl
      obtain ⟨b, hb, rfl⟩ : ∃ b, bs[i]? = some b ∧ y = V.ref b := by
        rw [List.getElem?_map] at hi
        obtain ⟨r, h1, h2⟩ := Option.map_eq_some_iff.mp hi
        exact ⟨r, h1, h2.symm⟩
      obtain ⟨l, hl, BA⟩ := Bs2.get hb
      have BA1 := BA.same (Same.new (o := .lst (((t.ys.map fun l => valueOf t.xs l x).take i).map V.int)) hD)
      have BA2 := BA1
      obtain ⟨g, db, ln, lb, hb1, _⟩ := BA2
      refine ⟨rfl, _, rfl, b, db, _, rfl, hb1, bf_no (by decide +kernel), _, rfl, b, t.xs, l, x, rfl, BA1, G.gx, G.vs (List.mem_of_getElem? hl), hx, ?_⟩
      refine ⟨_, upd_same, ?_, ?_⟩
      · rw [List.length_map, List.length_take, List.length_map]
        exact small1000 (by omega)
      · rw [upd_upd, List.take_succ, List.getElem?_map, hl, List.map_append]
        rfl
    rintro H' rfl
    rw [List.length_map, Bs.len, List.take_of_length_le (by rw [List.length_map]; exact Nat.le_refl _)]
    intro bt db hbt hdb ne
    have s1 : Same H2 (upd H2 D (.lst ((t.ys.map fun l => valueOf t.xs l x).map V.int))) := Same.new hD
    have sa : Same (upd H2 D (.lst ((t.ys.map fun l => valueOf t.xs l x).map V.int))) (upd (upd (upd H2 D (.lst ((t.ys.map fun l => valueOf t.xs l x).map V.int))) db (.own bt)) bt (.ins CB db [])) := (Same.new hdb).trans (Same.new (by rw [upd_ne (Ne.symm ne)]; exact hbt))
    refine ⟨bt, db, gu, D, t.zs, _, rfl, upd_same, (GU2.same s1).same sa, G.gz, SqL.of (sa _ _ upd_same), G.vals hx, fun H3 BA kp => ⟨rfl, ?_⟩⟩
    have s3 : Same H2 H3 := s1.trans (Same.made hbt hdb kp)
    have p3 := s3 _ _ p2
    refine ⟨_, rfl, p, CS, ds, _, rfl, p3, T.cl, T.n3, len_put (n := 999) (len_put (n := 998) (by show 0 < 998; decide)), ?_⟩
    obtain ⟨p4, k4⟩ := stepPut (p := p) (H := H3) (u := .ins CS ds (putF "halves_up" (.ref bt) (putF "divisor_along" (.int (divOf t.xs x)) (putF "upward" (.ref gu) []))))
    have lk2 : ∀ m : Str, m ≠ "upward" → m ≠ "divisor_along" → (putF "divisor_along" (.int (divOf t.xs x)) (putF "upward" (V.ref gu) [])).lookup m = none := fun m hm hm2 => by rw [lookup_putF, if_neg hm2, lookup_putF, if_neg hm]; rfl
    have GU4 := (GU2.same s3).kept' p3 (lk2 _ (by decide +kernel) (by decide +kernel)) k4
    have Bs4 := Bs2.imp fun b l q => (q.same s3).kept' p3 (lk2 _ (by decide +kernel) (by decide +kernel)) (lk2 _ (by decide +kernel) (by decide +kernel)) k4
    have BT4 := BA.kept' p3 (lk2 _ (by decide +kernel) (by decide +kernel)) (lk2 _ (by decide +kernel) (by decide +kernel)) k4
    have hL4 := k4 _ _ (s3 _ _ hL2) (off p3 (s3 _ _ hL2))
    have k04 := (k02.same s3).trans k4
    generalize upd H3 p (.ins CS ds (putF "halves_up" (.ref bt) (putF "divisor_along" (.int (divOf t.xs x)) (putF "upward" (.ref gu) [])))) = H4 at p4 k4 GU4 Bs4 BT4 hL4 k04 ⊢
    clear s3 sa s1 kp BA hD hbt hdb ne
    -- slopes_up
    refine ⟨_, rfl, _, rfl, L, rfl, ⟨_, SqL.of hL4⟩, fun D hD => ?_⟩
    refine lc_list (K := K) (a := L) (xs := bs.map V.ref) (fun i H' => H' = upd H4 D (.lst (((t.ys.map fun l => slopeOf t.xs l x).take i).map V.int))) rfl
      (fun i H' _ e => by rw [e]; exact Same.seq (Same.new hD) (SqL.of hL4)) ?_ ?_
    · rintro i y H' hi rfl
      obtain ⟨b, hb, rfl⟩ : ∃ b, bs[i]? = some b ∧ y = V.ref b := by
        rw [List.getElem?_map] at hi
        obtain ⟨r, h1, h2⟩ := Option.map_eq_some_iff.mp hi
        exact ⟨r, h1, h2.symm⟩
      obtain ⟨l, hl, BA⟩ := Bs4.get hb
      have BA1 := BA.same (Same.new (o := .lst (((t.ys.map fun l => slopeOf t.xs l x).take i).map V.int)) hD)
      have BA2 := BA1
      obtain ⟨g, db, ln, lb, hb1, _⟩ := BA2
      refine ⟨rfl, _, rfl, b, db, _, rfl, hb1, bf_no (by decide +kernel), _, rfl, b, t.xs, l, x, rfl, BA1, G.gx, G.vs (List.mem_of_getElem? hl), hx, ?_⟩
      refine ⟨_, upd_same, ?_, ?_⟩
      · rw [List.length_map, List.length_take, List.length_map]
        exact small1000 (by omega)
      · rw [upd_upd, List.take_succ, List.getElem?_map, hl, List.map_append]
        rfl
    rintro H' rfl
    rw [List.length_map, Bs.len, List.take_of_length_le (by rw [List.length_map]; exact Nat.le_refl _)]
    intro b2 db hbt hdb ne
    have s1 : Same H4 (upd H4 D (.lst ((t.ys.map fun l => slopeOf t.xs l x).map V.int))) := Same.new hD
    have sa : Same (upd H4 D (.lst ((t.ys.map fun l => slopeOf t.xs l x).map V.int))) (upd (upd (upd H4 D (.lst ((t.ys.map fun l => slopeOf t.xs l x).map V.int))) db (.own b2)) b2 (.ins CB db [])) := (Same.new hdb).trans (Same.new (by rw [upd_ne (Ne.symm ne)]; exact hbt))
    refine ⟨b2, db, gu, D, t.zs, _, rfl, upd_same, (GU4.same s1).same sa, G.gz, SqL.of (sa _ _ upd_same), G.slopes hx, fun H5 BA kp => ⟨rfl, ?_⟩⟩
    have s5 : Same H4 H5 := s1.trans (Same.made hbt hdb kp)
    have p5 := s5 _ _ p4
    refine ⟨_, rfl, p, CS, ds, _, rfl, p5, T.cl, T.n4, len_put (n := 999) (len_put (n := 998) (len_put (n := 997) (by show 0 < 997; decide))), ?_⟩
    obtain ⟨p6, k6⟩ := stepPut (p := p) (H := H5) (u := .ins CS ds (sf gu (divOf t.xs x) bt b2))
    have lk3 : ∀ m : Str, m ≠ "upward" → m ≠ "divisor_along" → m ≠ "halves_up" → (putF "halves_up" (.ref bt) (putF "divisor_along" (.int (divOf t.xs x)) (putF "upward" (V.ref gu) []))).lookup m = none := fun m hm hm2 hm3 => by rw [lookup_putF, if_neg hm3, lookup_putF, if_neg hm2, lookup_putF, if_neg hm]; rfl
    have q1 := lk3 "places" (by decide +kernel) (by decide +kernel) (by decide +kernel)
    have q2 := lk3 "ground" (by decide +kernel) (by decide +kernel) (by decide +kernel)
    exact k _ ⟨ds, gu, bt, b2, p6, (GU4.same s5).kept' p5 q1 k6, (BT4.same s5).kept' p5 q1 q2 k6, BA.kept' p5 q1 q2 k6⟩ ((k04.same s5).trans k6)
/-! ### divisor, half_breadth, slope_along, slope_up -/
def spSTell (CG CB CS : Addr) (val : Loft.Table → Int → Int → Int) : Sp := fun vs H Q _ => ∃ (s : Addr) (T : Loft.Table) (x z : Int), vs = [.ref s, .int z] ∧ SectAt CG CB CS H s T x ∧ GoodT T ∧ HM.Within T.xs x ∧ HM.Within T.zs z ∧ Q (.int (val T x z)) H
theorem scSDiv : FnScope ["self", "z"] ["self", "z"] (defScope sSDiv) := ⟨rfl, rfl, rfl, by decide +kernel, rfl, by decide +kernel, by decide +kernel⟩
theorem scSHalf : FnScope ["self", "z"] ["self", "z"] (defScope sSHalf) := ⟨rfl, rfl, rfl, by decide +kernel, rfl, by decide +kernel, by decide +kernel⟩
theorem scSAlong : FnScope ["self", "z"] ["self", "z"] (defScope sSAlong) := ⟨rfl, rfl, rfl, by decide +kernel, rfl, by decide +kernel, by decide +kernel⟩
theorem scSUp : FnScope ["self", "z"] ["self", "z"] (defScope sSUp) := ⟨rfl, rfl, rfl, by decide +kernel, rfl, by decide +kernel, by decide +kernel⟩
theorem ok_sdiv {f CG CB CS : Addr} {fd : FuncData} (F : Fun K "divisor" "Section.divisor" sSDiv f fd) (T : STxt K CS) (MD : MtAt P w K mg base 2 CG "divisor_at" ["self", "place"] (spGDiv CG)) : FnOk P w K mg base CX0 3 f fd ["self", "z"] (spSTell CG CB CS divI) := by
  refine F.ok scSDiv (fun vs H Q E h => ?_) (fun cdv A outer s H vs Q E hr h => ?_)
  · obtain ⟨s, t, x, z, rfl, _⟩ := h
    rfl
  · obtain ⟨s, t, x, z, rfl, ⟨ds, gu, b1, b2, hs, GU, B1, B2⟩, G, hx, hz, k⟩ := h
    have GU' := GU
    obtain ⟨du, _, _, _, hgu, _⟩ := GU'
    refine ⟨_, pss_one (ps_ret (pe_op op_mulM (pe_fld (pv 0) rfl) (pe_mt MD hr (pe_fld (pv 0) rfl) (pa_cons (pv 1) pa_nil)))), ?_⟩
    refine ⟨_, rfl, s, CS, ds, _, _, rfl, hs, T.cl, T.n2, sf2, ?_⟩
    exact ⟨_, rfl, s, CS, ds, _, _, rfl, hs, T.cl, T.n1, sf1, gu, du, _, rfl, hgu, gf_no (by decide +kernel), _, rfl, gu, _, z, rfl, GU, G.gz, hz, _, _, rfl, rfl, (div_bd G.gx x).mulOk (div_bd G.gz z) (by decide), k⟩
theorem ok_shalf {f CG CB CS : Addr} {fd : FuncData} (F : Fun K "half_breadth" "Section.half_breadth" sSHalf f fd) (T : STxt K CS) (MV : MtAt P w K mg base 2 CB "value_at" ["self", "place"] (spBVal CG CB valueOf)) : FnOk P w K mg base CX0 3 f fd ["self", "z"] (spSTell CG CB CS halfI) := by
  refine F.ok scSHalf (fun vs H Q E h => ?_) (fun cdv A outer s H vs Q E hr h => ?_)
  · obtain ⟨s, t, x, z, rfl, _⟩ := h
    rfl
  · obtain ⟨s, t, x, z, rfl, ⟨ds, gu, b1, b2, hs, GU, B1, B2⟩, G, hx, hz, k⟩ := h
    have BA := B1
    obtain ⟨g, db, ln, lb, hb1, _⟩ := BA
    refine ⟨_, pss_one (ps_ret (pe_mt MV hr (pe_fld (pv 0) rfl) (pa_cons (pv 1) pa_nil))), ?_⟩
    exact ⟨_, rfl, s, CS, ds, _, _, rfl, hs, T.cl, T.n3, sf3, _, db, _, rfl, hb1, bf_no (by decide +kernel), _, rfl, _, t.zs, _, z, rfl, B1, G.gz, G.vals hx, hz, k⟩
theorem ok_salong {f CG CB CS : Addr} {fd : FuncData} (F : Fun K "slope_along" "Section.slope_along" sSAlong f fd) (T : STxt K CS) (MV : MtAt P w K mg base 2 CB "value_at" ["self", "place"] (spBVal CG CB valueOf)) : FnOk P w K mg base CX0 3 f fd ["self", "z"] (spSTell CG CB CS alongI) := by
  refine F.ok scSAlong (fun vs H Q E h => ?_) (fun cdv A outer s H vs Q E hr h => ?_)
  · obtain ⟨s, t, x, z, rfl, _⟩ := h
    rfl
  · obtain ⟨s, t, x, z, rfl, ⟨ds, gu, b1, b2, hs, GU, B1, B2⟩, G, hx, hz, k⟩ := h
    have BA := B2
    obtain ⟨g, db, ln, lb, hb1, _⟩ := BA
    refine ⟨_, pss_one (ps_ret (pe_mt MV hr (pe_fld (pv 0) rfl) (pa_cons (pv 1) pa_nil))), ?_⟩
    exact ⟨_, rfl, s, CS, ds, _, _, rfl, hs, T.cl, T.n4, sf4, _, db, _, rfl, hb1, bf_no (by decide +kernel), _, rfl, _, t.zs, _, z, rfl, B2, G.gz, G.slopes hx, hz, k⟩
theorem ok_sup {f CG CB CS : Addr} {fd : FuncData} (F : Fun K "slope_up" "Section.slope_up" sSUp f fd) (T : STxt K CS) (MV : MtAt P w K mg base 2 CB "slope_at" ["self", "place"] (spBVal CG CB slopeOf)) : FnOk P w K mg base CX0 3 f fd ["self", "z"] (spSTell CG CB CS upI) := by
  refine F.ok scSUp (fun vs H Q E h => ?_) (fun cdv A outer s H vs Q E hr h => ?_)
  · obtain ⟨s, t, x, z, rfl, _⟩ := h
    rfl
  · obtain ⟨s, t, x, z, rfl, ⟨ds, gu, b1, b2, hs, GU, B1, B2⟩, G, hx, hz, k⟩ := h
    have BA := B1
    obtain ⟨g, db, ln, lb, hb1, _⟩ := BA
    refine ⟨_, pss_one (ps_ret (pe_mt MV hr (pe_fld (pv 0) rfl) (pa_cons (pv 1) pa_nil))), ?_⟩
    exact ⟨_, rfl, s, CS, ds, _, _, rfl, hs, T.cl, T.n3, sf3, _, db, _, rfl, hb1, bf_no (by decide +kernel), _, rfl, _, t.zs, _, z, rfl, B1, G.gz, G.vals hx, hz, k⟩
/-! ### near, bevel, inside -/
theorem vals_bd {T : Loft.Table} (G : GoodT T) {x : Int} (hx : HM.Within T.xs x) : ∀ v ∈ (T.ys.map fun l => valueOf T.xs l x), Bd 2120 v := fun v hv => by
  obtain ⟨l, hl, rfl⟩ := List.mem_map.mp hv
  exact (val_bd G.gx (G.row l hl).2 hx).mono (by decide)
theorem slopes_bd {T : Loft.Table} (G : GoodT T) {x : Int} (hx : HM.Within T.xs x) : ∀ v ∈ (T.ys.map fun l => slopeOf T.xs l x), Bd 2120 v := fun v hv => by
  obtain ⟨l, hl, rfl⟩ := List.mem_map.mp hv
  exact (slope_bd G.gx (G.row l hl).2 hx).mono (by decide)
section
variable {T : Loft.Table} {x z : Int}
theorem half_bd (G : GoodT T) (hx : HM.Within T.xs x) (hz : HM.Within T.zs z) : Bd 4220 (halfI T x z) := (val_bd G.gz (vals_bd G hx) hz).mono (by decide)
theorem along_bd (G : GoodT T) (hx : HM.Within T.xs x) (hz : HM.Within T.zs z) : Bd 4220 (alongI T x z) := (val_bd G.gz (slopes_bd G hx) hz).mono (by decide)
theorem up_bd (G : GoodT T) (hx : HM.Within T.xs x) (hz : HM.Within T.zs z) : Bd 4220 (upI T x z) := (slope_bd G.gz (vals_bd G hx) hz).mono (by decide)
theorem dvi_bd (G : GoodT T) : Bd 2370 (divI T x z) := ((div_bd G.gx x).mul (div_bd G.gz z)).mono (by decide)
end
def nearS (T : Loft.Table) (x z : Int) : Int := nearI (halfI T x z) (divI T x z)
def bevelS (T : Loft.Table) (x z : Int) : Int := nearI (192 * alongI T x z) (divI T x z)
def sqS (T : Loft.Table) (x z t : Int) : Int := t * t * (divI T x z * divI T x z + alongI T x z * alongI T x z + upI T x z * upI T x z)
def insideS (T : Loft.Table) (x z t : Int) : Int := lessR (halfI T x z) (sqS T x z t) (divI T x z)
theorem scSNear : FnScope ["self", "z"] ["self", "z"] (defScope sSNear) := ⟨rfl, rfl, rfl, by decide +kernel, rfl, by decide +kernel, by decide +kernel⟩
theorem scSBevel : FnScope ["self", "z"] ["self", "z"] (defScope sSBevel) := ⟨rfl, rfl, rfl, by decide +kernel, rfl, by decide +kernel, by decide +kernel⟩
theorem scSIns : FnScope ["self", "z", "t", "along", "up", "under", "square"] ["self", "z", "t"] (defScope sSIns) := ⟨rfl, rfl, rfl, by decide +kernel, rfl, by decide +kernel, by decide +kernel⟩
theorem ok_snear {f CG CB CS : Addr} {fd : FuncData} (F : Fun K "near" "Section.near" sSNear f fd) (MH : MtAt P w K mg base 3 CS "half_breadth" ["self", "z"] (spSTell CG CB CS halfI)) (MD : MtAt P w K mg base 3 CS "divisor" ["self", "z"] (spSTell CG CB CS divI)) (FN : FnAt P w K mg base 1 "nearest" ["over", "under"] spNear) :
    FnOk P w K mg base CX0 4 f fd ["self", "z"] (spSTell CG CB CS nearS) := by
  refine F.ok scSNear (fun vs H Q E h => ?_) (fun cdv A outer s H vs Q E hr h => ?_)
  · obtain ⟨s, t, x, z, rfl, _⟩ := h
    rfl
  · obtain ⟨s, t, x, z, rfl, S, G, hx, hz, k⟩ := h
    have S' := S
    obtain ⟨ds, gu, b1, b2, hs, _⟩ := S'
    refine ⟨_, pss_one (ps_ret (pe_fn FN (hr.mono (by decide)) rfl (pa_cons (pe_mt MH hr (pv 0) (pa_cons (pv 1) pa_nil)) (pa_cons (pe_mt MD hr (pv 0) (pa_cons (pv 1) pa_nil)) pa_nil)))), ?_⟩
    refine ⟨_, rfl, s, ds, _, rfl, hs, sf_no (by decide +kernel), _, rfl, s, t, x, z, rfl, S, G, hx, hz, ?_⟩
    refine ⟨_, rfl, s, ds, _, rfl, hs, sf_no (by decide +kernel), _, rfl, s, t, x, z, rfl, S, G, hx, hz, ?_⟩
    exact ⟨_, _, rfl, divI_pos G.good hx hz, (dvi_bd G).mono (by decide), (half_bd G hx hz).mono (by decide), k⟩
theorem bd_foot : Bd 8 192 := by unfold Bd; decide
theorem ok_sbevel {f CG CB CS : Addr} {fd : FuncData} (F : Fun K "bevel" "Section.bevel" sSBevel f fd) (C : ∃ t, mg "SIXTEENTHS_IN_A_FOOT" = some (.int 192 t)) (MA : MtAt P w K mg base 3 CS "slope_along" ["self", "z"] (spSTell CG CB CS alongI)) (MD : MtAt P w K mg base 3 CS "divisor" ["self", "z"] (spSTell CG CB CS divI)) (FN : FnAt P w K mg base 1 "nearest" ["over", "under"] spNear) :
    FnOk P w K mg base CX0 4 f fd ["self", "z"] (spSTell CG CB CS bevelS) := by
  refine F.ok scSBevel (fun vs H Q E h => ?_) (fun cdv A outer s H vs Q E hr h => ?_)
  · obtain ⟨s, t, x, z, rfl, _⟩ := h
    rfl
  · obtain ⟨s, t, x, z, rfl, S, G, hx, hz, k⟩ := h
    have S' := S
    obtain ⟨ds, gu, b1, b2, hs, _⟩ := S'
    refine ⟨_, pss_one (ps_ret (pe_fn FN (hr.mono (by decide)) rfl (pa_cons (pe_op op_mulM (pe_gi C rfl) (pe_mt MA hr (pv 0) (pa_cons (pv 1) pa_nil))) (pa_cons (pe_mt MD hr (pv 0) (pa_cons (pv 1) pa_nil)) pa_nil)))), ?_⟩
    have ba := along_bd G hx hz
    refine ⟨_, rfl, s, ds, _, rfl, hs, sf_no (by decide +kernel), _, rfl, s, t, x, z, rfl, S, G, hx, hz, _, _, rfl, rfl, bd_foot.mulOk ba (by decide), ?_⟩
    refine ⟨_, rfl, s, ds, _, rfl, hs, sf_no (by decide +kernel), _, rfl, s, t, x, z, rfl, S, G, hx, hz, ?_⟩
    exact ⟨_, _, rfl, divI_pos G.good hx hz, (dvi_bd G).mono (by decide), (bd_foot.mul ba).mono (by decide), k⟩
def spSIns (CG CB CS : Addr) : Sp := fun vs H Q _ => ∃ (s : Addr) (T : Loft.Table) (x z t : Int), vs = [.ref s, .int z, .int t] ∧ SectAt CG CB CS H s T x ∧ GoodT T ∧ HM.Within T.xs x ∧ HM.Within T.zs z ∧ Bd 20 t ∧ Q (.int (insideS T x z t)) H
theorem sq_nn (z : Int) : 0 ≤ z * z := by
  rcases Int.le_total 0 z with h | h
  · exact Int.mul_nonneg h h
  · have := Int.mul_nonneg (Int.neg_nonneg.mpr h) (Int.neg_nonneg.mpr h)
    rwa [Int.neg_mul_neg] at this
theorem ok_sins {f CG CB CS : Addr} {fd : FuncData} (F : Fun K "inside" "Section.inside" sSIns f fd) (MA : MtAt P w K mg base 3 CS "slope_along" ["self", "z"] (spSTell CG CB CS alongI)) (MU : MtAt P w K mg base 3 CS "slope_up" ["self", "z"] (spSTell CG CB CS upI)) (MD : MtAt P w K mg base 3 CS "divisor" ["self", "z"] (spSTell CG CB CS divI))
    (MH : MtAt P w K mg base 3 CS "half_breadth" ["self", "z"] (spSTell CG CB CS halfI)) (FL : FnAt P w K mg base 2 "nearest_less_root" ["over", "square", "under"] spLess) :
    FnOk P w K mg base CX0 4 f fd ["self", "z", "t"] (spSIns CG CB CS) := by
  refine F.ok scSIns (fun vs H Q E h => ?_) (fun cdv A outer s H vs Q E hr h => ?_)
  · obtain ⟨s, T, x, z, t, rfl, _⟩ := h
    rfl
  · obtain ⟨s, T, x, z, t, rfl, S, G, hx, hz, ht, k⟩ := h
    have S' := S
    obtain ⟨ds, gu, b1, b2, hs, _⟩ := S'
    refine ⟨_, pss_cons (ps_set (i := 3) scSIns.nd rfl (Or.inl rfl) (pe_mt MA hr (pv 0) (pa_cons (pv 1) pa_nil)))
      (pss_cons (ps_set (i := 4) scSIns.nd rfl (Or.inl rfl) (pe_mt MU hr (pv 0) (pa_cons (pv 1) pa_nil)))
      (pss_cons (ps_set (i := 5) scSIns.nd rfl (Or.inl rfl) (pe_mt MD hr (pv 0) (pa_cons (pv 1) pa_nil)))
      (pss_cons (ps_set (i := 6) scSIns.nd rfl (Or.inl rfl) (pe_op op_mulM (pe_op op_mulM (pv 2) (pv 2)) (pe_op op_add (pe_op op_add (pe_op op_mulM (pv 5) (pv 5)) (pe_op op_mulM (pv 3) (pv 3))) (pe_op op_mulM (pv 4) (pv 4)))))
      (pss_one (ps_ret (pe_fn FL (hr.mono (by decide)) rfl (pa_cons (pe_mt MH hr (pv 0) (pa_cons (pv 1) pa_nil)) (pa_cons (pv 6) (pa_cons (pv 5) pa_nil))))))))), ?_⟩
    have ba := along_bd G hx hz
    have bu := up_bd G hx hz
    have bd := dvi_bd (x := x) (z := z) G
    have bs := ((bd.mul bd).add (ba.mul ba)).add (bu.mul bu)
    refine ⟨_, rfl, s, ds, _, rfl, hs, sf_no (by decide +kernel), _, rfl, s, T, x, z, rfl, S, G, hx, hz, ?_⟩
    refine ⟨_, rfl, s, ds, _, rfl, hs, sf_no (by decide +kernel), _, rfl, s, T, x, z, rfl, S, G, hx, hz, ?_⟩
    refine ⟨_, rfl, s, ds, _, rfl, hs, sf_no (by decide +kernel), _, rfl, s, T, x, z, rfl, S, G, hx, hz, ?_⟩
    refine ⟨_, rfl, _, rfl, _, _, rfl, rfl, ht.mulOk ht (by decide), _, rfl, _, rfl, _, _, rfl, rfl, bd.mulOk bd (by decide), _, rfl, _, rfl, _, _, rfl, rfl, ba.mulOk ba (by decide), _, _, rfl, rfl, _, rfl, _, rfl, _, _, rfl, rfl, bu.mulOk bu (by decide), _, _, rfl, rfl, _, _, rfl, rfl, (ht.mul ht).mulOk bs (by decide), ?_⟩
    refine ⟨_, rfl, s, ds, _, rfl, hs, sf_no (by decide +kernel), _, rfl, s, T, x, z, rfl, S, G, hx, hz, _, rfl, _, rfl, ?_⟩
    exact ⟨_, _, _, rfl, Int.mul_nonneg (sq_nn t) (Int.add_nonneg (Int.add_nonneg (sq_nn _) (sq_nn _)) (sq_nn _)), ((ht.mul ht).mul bs).mono (by decide), divI_pos G.good hx hz, bd.mono (by decide), (half_bd G hx hz).mono (by decide), k⟩
end
end HP

set_option Elab.async false
set_option linter.all false
set_option maxRecDepth 100000
set_option maxHeartbeats 2000000
namespace HP
open PySem PySem.Spec PyProof.Rows L2 HB HM
local macro_rules | `(tactic| walk_at "rd") => `(tactic| repeat (first | refine ⟨_, rfl, ?_⟩ | refine ⟨_, _, rfl, rfl, ?_⟩))
local macro_rules | `(tactic| walk_at "lk") => `(tactic| ((repeat (first | rw [lookup_putF, if_pos rfl] | rw [lookup_putF, if_neg (by decide +kernel)])); all_goals rfl))
abbrev sHInit : Stmt := inClass (top 22) 0
abbrev sHSect : Stmt := inClass (top 22) 1
abbrev sHFrame : Stmt := inClass (top 22) 2
abbrev sHLevel : Stmt := inClass (top 22) 3
/-- the numbers of a table station by station -/
def colsT (T : Loft.Table) : List (List Int) := (List.range T.xs.length).map fun j => T.ys.map fun l => l.getD j 0
theorem colsT_len (T : Loft.Table) : (colsT T).length = T.xs.length := by unfold colsT; rw [List.length_map, List.length_range]
theorem GoodT.col {T : Loft.Table} (G : GoodT T) {c : List Int} (hc : c ∈ colsT T) : Vs T.zs c := by
  unfold colsT at hc
  obtain ⟨j, _, rfl⟩ := List.mem_map.mp hc
  refine ⟨by rw [List.length_map]; exact G.rows, fun v hv => ?_⟩
  obtain ⟨l, hl, rfl⟩ := List.mem_map.mp hv
  exact (getD_bd (G.row l hl).2 j).mono (by decide)
def hf (ga gu ll ls : Addr) : List (Str × V) := putF "stations" (.ref ls) <| putF "levels" (.ref ll) (putF "upward" (.ref gu) (putF "along" (.ref ga) []))
theorem hf1 {ga gu ll ls : Addr} : (hf ga gu ll ls).lookup ("along" : Str) = some (V.ref ga) := by unfold hf; walk_at "lk"
theorem hf2 {ga gu ll ls : Addr} : (hf ga gu ll ls).lookup ("upward" : Str) = some (V.ref gu) := by unfold hf; walk_at "lk"
theorem hf3 {ga gu ll ls : Addr} : (hf ga gu ll ls).lookup ("levels" : Str) = some (V.ref ll) := by unfold hf; walk_at "lk"
theorem hf4 {ga gu ll ls : Addr} : (hf ga gu ll ls).lookup ("stations" : Str) = some (V.ref ls) := by unfold hf; walk_at "lk"
theorem hf_no {ga gu ll ls : Addr} {m : Str} (h : m ≠ "along" ∧ m ≠ "upward" ∧ m ≠ "levels" ∧ m ≠ "stations") : (hf ga gu ll ls).lookup m = none := by
  unfold hf
  rw [lookup_putF, if_neg h.2.2.2, lookup_putF, if_neg h.2.2.1, lookup_putF, if_neg h.2.1, lookup_putF, if_neg h.1]
  rfl
/-- the hull of this table stands at h -/
def HullAt (CG CB CH : Addr) (H : Hp) (h : Addr) (T : Loft.Table) : Prop :=
  ∃ dx ga gu ll ls bs cs, H h = some (.ins CH dx (hf ga gu ll ls)) ∧ GroundAt CG H ga T.xs ∧ GroundAt CG H gu T.zs ∧ H ll = some (.lst (bs.map V.ref)) ∧ All2 (fun b l => BattenAt CG CB H b T.xs l) bs T.ys ∧ H ls = some (.lst (cs.map V.ref)) ∧ All2 (fun b l => BattenAt CG CB H b T.zs l) cs (colsT T)
theorem HullAt.same {CG CB CH h : Addr} {H H' : Hp} {T : Loft.Table} (U : HullAt CG CB CH H h T) (s : Same H H') : HullAt CG CB CH H' h T := by
  obtain ⟨dx, ga, gu, ll, ls, bs, cs, h1, h2, h3, h4, h5, h6, h7⟩ := U
  exact ⟨dx, ga, gu, ll, ls, bs, cs, s _ _ h1, h2.same s, h3.same s, s _ _ h4, h5.imp fun b l q => q.same s, s _ _ h6, h7.imp fun b l q => q.same s⟩
structure HTxt (K : PySem.W.Frag) (CH : Addr) : Prop where
  cl : Cls K CH
  n1 : NoAttr K CH "along"
  n2 : NoAttr K CH "upward"
  n3 : NoAttr K CH "levels"
  n4 : NoAttr K CH "stations"
def tabOf (xs zs ys : List Int) : Loft.Table := ⟨xs, zs, rowsOf ys xs.length zs.length⟩
theorem tabOf_good {xs zs ys : List Int} (gx : Grd xs) (gz : Grd zs) (hl : ys.length = zs.length * xs.length) (hb : ∀ v ∈ ys, Bd 20 v) : GoodT (tabOf xs zs ys) := by
  refine ⟨gx, gz, rowsOf_len _ _ _, fun l hl' => ?_⟩
  unfold tabOf rowsOf at hl'
  obtain ⟨j, hj, rfl⟩ := List.mem_map.mp hl'
  have hj' := List.mem_range.mp hj
  refine ⟨?_, fun v hv => hb v (List.mem_of_mem_drop (List.mem_of_mem_take hv))⟩
  have : j * xs.length + xs.length ≤ zs.length * xs.length := by
    have := Nat.mul_le_mul_right xs.length (show j + 1 ≤ zs.length from hj')
    rw [Nat.succ_mul] at this
    exact this
  show ((ys.drop (j * xs.length)).take xs.length).length = xs.length
  rw [List.length_take, List.length_drop]
  omega
theorem colsT_tab {xs zs ys : List Int} : colsT (tabOf xs zs ys) = colsOf ys xs.length zs.length := by
  unfold colsT colsOf tabOf rowsOf
  refine List.map_congr_left fun j hj => ?_
  have hj' := List.mem_range.mp hj
  rw [List.map_map]
  refine List.map_congr_left fun i hi => ?_
  show ((ys.drop (i * xs.length)).take xs.length).getD j 0 = ys.getD (j + xs.length * i) 0
  rw [List.getD_eq_getElem?_getD, List.getD_eq_getElem?_getD, List.getElem?_take_of_lt hj', List.getElem?_drop, Nat.mul_comm, Nat.add_comm]
section
variable {P : Program} {w : World} {K : PySem.W.Frag} {mg : Str → Option Value} {base : Heap}
def spHInit (K : PySem.W.Frag) (CG CB CH : Addr) : Sp := fun vs H Q _ => ∃ (p dx a b c : Addr) (xs zs ys : List Int), vs = [.ref p, .ref a, .ref b, .ref c] ∧ H p = some (.ins CH dx []) ∧ SqL K H a (xs.map V.int) ∧ SqL K H b (zs.map V.int) ∧ SqL K H c (ys.map V.int) ∧
  Grd xs ∧ Grd zs ∧ ys.length = zs.length * xs.length ∧ (∀ v ∈ ys, Bd 20 v) ∧ ∀ H' : Hp, HullAt CG CB CH H' p (tabOf xs zs ys) → Kept p H H' → Q .non H'
theorem scHInit : FnScope ["self", "places", "heights", "halves", "row"] ["self", "places", "heights", "halves"] (defScope sHInit) := ⟨rfl, rfl, rfl, by decide +kernel, rfl, by decide +kernel, by decide +kernel⟩
theorem ok_hinit {f CG CB CH : Addr} {fd : FuncData} (F : Fun K "__init__" "Hull.__init__" sHInit f fd) (B : Blt mg) (T : HTxt K CH) (MG : MkAt P w K mg base 2 "Ground" CG ["self", "places"] (spGInit K CG)) (MB : MkAt P w K mg base 4 "Batten" CB ["self", "ground", "values"] (spBInit K CG CB))
    (FL : FnAt P w K mg base 1 "level_rows" ["halves", "stations"] (spRows K)) (FC : FnAt P w K mg base 1 "station_rows" ["halves", "stations"] (spCols K)) : FnOk P w K mg base CX0 6 f fd ["self", "places", "heights", "halves"] (spHInit K CG CB CH) := by
  refine F.ok scHInit (fun vs H Q E h => ?_) (fun cdv A outer s H vs Q E hr h => ?_)
  · obtain ⟨p, dx, a, b, c, xs, zs, ys, rfl, _⟩ := h
    rfl
  · obtain ⟨p, dx, a, b, c, xs, zs, ys, rfl, hp, hA, hB, hC, gx, gz, hl, hb, k⟩ := h
    refine ⟨_, pss_cons (ps_fld (pv 0) (pe_mk MG (hr.mono (by decide)) rfl (pa_cons (pv 1) pa_nil)) rfl)
      (pss_cons (ps_fld (pv 0) (pe_mk MG (hr.mono (by decide)) rfl (pa_cons (pv 2) pa_nil)) rfl)
      (pss_cons (ps_fld (pv 0) (pe_lc (own := [("row", 4)]) rfl scHInit.nd
        (pi_list (pe_fn FL (hr.mono (by decide)) rfl (pa_cons (pv 3) (pa_cons (pe_callB call_len_seq (by rfl) B.len PySem.boot_len (pa_cons (pv 1) pa_nil)) pa_nil))))
        (blkOk_by (N := ["self", "places", "heights", "halves", "row"]) (sc := defScope sHInit) (by decide +kernel))
        (fun s H C cl fp => pg_name (i := 4) scHInit.nd rfl (Or.inl rfl))
        (fun s H C cl fp => pts_nil)
        (fun s H C cl fp => pe_mk MB hr rfl (pa_cons (pe_fldK (K := K) (pv 0) rfl) (pa_cons (pv 4) pa_nil)))) rfl)
      (pss_one (ps_fld (pv 0) (pe_lc (own := [("row", 4)]) rfl scHInit.nd
        (pi_list (pe_fn FC (hr.mono (by decide)) rfl (pa_cons (pv 3) (pa_cons (pe_callB call_len_seq (by rfl) B.len PySem.boot_len (pa_cons (pv 1) pa_nil)) pa_nil))))
        (blkOk_by (N := ["self", "places", "heights", "halves", "row"]) (sc := defScope sHInit) (by decide +kernel))
        (fun s H C cl fp => pg_name (i := 4) scHInit.nd rfl (Or.inl rfl))
        (fun s H C cl fp => pts_nil)
        (fun s H C cl fp => pe_mk MB hr rfl (pa_cons (pe_fldK (K := K) (pv 0) rfl) (pa_cons (pv 4) pa_nil)))) rfl)))), ?_⟩
    have hmx := gx.most
    have hmz := gz.most
    have h2x := gx.ri.two
    -- along
    refine ⟨_, rfl, fun ga da hga hda ne => ⟨ga, da, a, xs, rfl, upd_same, ?_, gx, fun H1 GA kp => ⟨rfl, ?_⟩⟩⟩
    · exact Same.seq ((Same.new hda).trans (Same.new (by rw [upd_ne (Ne.symm ne)]; exact hga))) hA
    have s1 : Same H H1 := Same.made hga hda kp
    have p1 := s1 _ _ hp
    refine ⟨_, rfl, p, CH, dx, _, rfl, p1, T.cl, T.n1, (by show 0 < 1000; decide), ?_⟩
    obtain ⟨p2, k2⟩ := stepPut (p := p) (H := H1) (u := .ins CH dx (putF "along" (.ref ga) []))
    have GA2 := GA.kept' p1 rfl k2
    have k02 : Kept p H (upd H1 p (.ins CH dx (putF "along" (.ref ga) []))) := (Kept.refl.same s1).trans k2
    generalize upd H1 p (.ins CH dx (putF "along" (.ref ga) [])) = H2 at p2 k2 GA2 k02 ⊢
    -- upward
    refine ⟨_, rfl, fun gu du hgu hdu ne => ⟨gu, du, b, zs, rfl, upd_same, ?_, gz, fun H3 GU kp => ⟨rfl, ?_⟩⟩⟩
    · exact Same.seq ((Same.new hdu).trans (Same.new (by rw [upd_ne (Ne.symm ne)]; exact hgu))) (k02.sq hp hB)
    have s3 : Same H2 H3 := Same.made hgu hdu kp
    have p3 := s3 _ _ p2
    refine ⟨_, rfl, p, CH, dx, _, rfl, p3, T.cl, T.n2, len_put (n := 999) (by show 0 < 999; decide), ?_⟩
    obtain ⟨p4, k4⟩ := stepPut (p := p) (H := H3) (u := .ins CH dx (putF "upward" (.ref gu) (putF "along" (.ref ga) [])))
    have lk0 : (putF "along" (V.ref ga) []).lookup ("places" : Str) = none := by walk_at "lk"
    have GA4 := (GA2.same s3).kept' p3 lk0 k4
    have GU4 := GU.kept' p3 lk0 k4
    have k04 : Kept p H (upd H3 p (.ins CH dx (putF "upward" (.ref gu) (putF "along" (.ref ga) [])))) := (k02.same s3).trans k4
    generalize upd H3 p (.ins CH dx (putF "upward" (.ref gu) (putF "along" (.ref ga) []))) = H4 at p4 k4 GA4 GU4 k04 ⊢
    -- levels
    refine ⟨_, rfl, _, rfl, a, _, rfl, .inl (k04.sq hp hA), c, ys, xs.length, zs.length, by rw [List.length_map]; rfl, k04.sq hp hC, hl, by omega, by omega, by omega, fun L H5 rs s5 hL R => ⟨L, rfl, ⟨_, SqL.of hL⟩, fun D hD => ?_⟩⟩
    have p5 := s5 _ _ p4
    have GA5 := GA4.same s5
    have len_rs : rs.length = zs.length := by rw [R.len, rowsOf_len]
    refine lc_list (K := K) (a := L) (xs := rs.map V.ref) (fun i H' => Same H5 H' ∧ ∃ bs : List Addr, H' D = some (.lst (bs.map V.ref)) ∧ All2 (fun b l => BattenAt CG CB H' b xs l) bs ((rowsOf ys xs.length zs.length).take i))
      ⟨Same.new hD, [], upd_same, .nil⟩ (fun i H' _ ⟨sm, _⟩ => SqL.of (sm _ _ hL)) ?_ ?_
    · rintro i y H' hi ⟨sm, bs, hbs, Bs⟩
      obtain ⟨r, hr', rfl⟩ : ∃ r, rs[i]? = some r ∧ y = V.ref r := by
        rw [List.getElem?_map] at hi
        obtain ⟨r, h1, h2⟩ := Option.map_eq_some_iff.mp hi
        exact ⟨r, h1, h2.symm⟩
      obtain ⟨l, hl', hrl⟩ := R.get hr'
      have W : Vs xs l := (tabOf_good gx gz hl hb).vs (T := tabOf xs zs ys) (List.mem_of_getElem? hl')
      refine ⟨rfl, _, rfl, p, CH, dx, _, _, rfl, sm _ _ p5, T.cl, T.n1, by walk_at "lk", _, rfl, fun bt db hbt hdb ne => ?_⟩
      have sa : Same H' (upd (upd H' db (.own bt)) bt (.ins CB db [])) := (Same.new hdb).trans (Same.new (by rw [upd_ne (Ne.symm ne)]; exact hbt))
      refine ⟨bt, db, ga, r, xs, l, rfl, upd_same, (GA5.same sm).same sa, gx, SqL.of (sa _ _ (sm _ _ hrl)), W, fun H6 BA kp => ⟨rfl, ?_⟩⟩
      have s6 : Same H' H6 := Same.made hbt hdb kp
      refine ⟨_, s6 _ _ hbs, ?_, ?_⟩
      · rw [List.length_map, Bs.len, List.length_take, rowsOf_len]
        exact small1000 (by omega)
      · have hD6 := s6 _ _ hbs
        refine ⟨fun b' o e => ?_, bs ++ [bt], ?_, ?_⟩
        · rw [upd_ne (ne_of_none e hD)]
          exact s6 _ _ (sm _ _ e)
        · rw [upd_same, List.map_append]
          rfl
        · rw [List.take_succ, hl']
          have up : All2 (fun b l => l ∈ rowsOf ys xs.length zs.length ∧ BattenAt CG CB H' b xs l) bs ((rowsOf ys xs.length zs.length).take i) := Bs.mem fun l hl => List.mem_of_mem_take hl
          exact (up.imp fun b' l' ⟨hm, q⟩ => (q.same s6).off gx ((tabOf_good gx gz hl hb).vs (T := tabOf xs zs ys) hm) hD6).snoc (BA.off gx W hD6)
    · rintro H' ⟨sm, bs, hbs, Bs⟩
      rw [List.length_map, List.take_of_length_le (by rw [rowsOf_len, len_rs]; exact Nat.le_refl _)] at Bs
      have p6 := sm _ _ p5
      refine ⟨_, rfl, p, CH, dx, _, rfl, p6, T.cl, T.n3, len_put (n := 999) (len_put (n := 998) (by show 0 < 998; decide)), ?_⟩
      obtain ⟨p7, k7⟩ := stepPut (p := p) (H := H') (u := .ins CH dx (putF "levels" (.ref D) (putF "upward" (.ref gu) (putF "along" (.ref ga) []))))
      have lk1 : (putF "upward" (V.ref gu) (putF "along" (V.ref ga) [])).lookup ("places" : Str) = none := by walk_at "lk"
      have lk2 : (putF "upward" (V.ref gu) (putF "along" (V.ref ga) [])).lookup ("ground" : Str) = none := by walk_at "lk"
      have GA7 := ((GA5.same sm).kept' p6 lk1 k7)
      have GU7 := (((GU4.same s5).same sm).kept' p6 lk1 k7)
      have L7 := k7 _ _ hbs (ne_of hbs p6 (by intro z; cases z))
      have B7 := Bs.imp fun b' l' q => q.kept' p6 lk1 lk2 k7
      have k07 := ((k04.same s5).same sm).trans k7
      generalize upd H' p (.ins CH dx (putF "levels" (.ref D) (putF "upward" (.ref gu) (putF "along" (.ref ga) [])))) = H7 at p7 k7 GA7 GU7 L7 B7 k07 ⊢
      clear GA5 GA4 GU4 GA2 GA GU k7 sm s5 s3 s1 k04 k02 k2 k4 hbs Bs p6 p5 p4 p3 p2 p1 hL R len_rs hD
      -- stations
      refine ⟨_, rfl, _, rfl, a, _, rfl, .inl (k07.sq hp hA), c, ys, xs.length, zs.length, by rw [List.length_map]; rfl, k07.sq hp hC, hl, by omega, fun L H8 rs s8 hL R => ⟨L, rfl, ⟨_, SqL.of hL⟩, fun D2 hD => ?_⟩⟩
      have p8 := s8 _ _ p7
      have GU8 := GU7.same s8
      have G8 : GoodT (tabOf xs zs ys) := tabOf_good gx gz hl hb
      rw [← colsT_tab (zs := zs)] at R
      have len_rs : rs.length = xs.length := by rw [R.len, colsT_len]; rfl
      refine lc_list (K := K) (a := L) (xs := rs.map V.ref) (fun i H' => Same H8 H' ∧ ∃ cs : List Addr, H' D2 = some (.lst (cs.map V.ref)) ∧ All2 (fun b l => BattenAt CG CB H' b zs l) cs ((colsT (tabOf xs zs ys)).take i))
        ⟨Same.new hD, [], upd_same, .nil⟩ (fun i H' _ ⟨sm, _⟩ => SqL.of (sm _ _ hL)) ?_ ?_
      · rintro i y H' hi ⟨sm, cs, hcs, Cs⟩
        obtain ⟨r, hr', rfl⟩ : ∃ r, rs[i]? = some r ∧ y = V.ref r := by
          rw [List.getElem?_map] at hi
          obtain ⟨r, h1, h2⟩ := Option.map_eq_some_iff.mp hi
          exact ⟨r, h1, h2.symm⟩
        obtain ⟨l, hl', hrl⟩ := R.get hr'
        have W : Vs zs l := G8.col (List.mem_of_getElem? hl')
        refine ⟨rfl, _, rfl, p, CH, dx, _, _, rfl, sm _ _ p8, T.cl, T.n2, by walk_at "lk", _, rfl, fun bt db hbt hdb ne => ?_⟩
        have sa : Same H' (upd (upd H' db (.own bt)) bt (.ins CB db [])) := (Same.new hdb).trans (Same.new (by rw [upd_ne (Ne.symm ne)]; exact hbt))
        refine ⟨bt, db, gu, r, zs, l, rfl, upd_same, (GU8.same sm).same sa, gz, SqL.of (sa _ _ (sm _ _ hrl)), W, fun H6 BA kp => ⟨rfl, ?_⟩⟩
        have s6 : Same H' H6 := Same.made hbt hdb kp
        refine ⟨_, s6 _ _ hcs, ?_, ?_⟩
        · rw [List.length_map, Cs.len, List.length_take, colsT_len]
          exact small1000 (by show min i xs.length ≤ _; omega)
        · have hD6 := s6 _ _ hcs
          refine ⟨fun b' o e => ?_, cs ++ [bt], ?_, ?_⟩
          · rw [upd_ne (ne_of_none e hD)]
            exact s6 _ _ (sm _ _ e)
          · rw [upd_same, List.map_append]
            rfl
          · rw [List.take_succ, hl']
            have up : All2 (fun b l => l ∈ colsT (tabOf xs zs ys) ∧ BattenAt CG CB H' b zs l) cs ((colsT (tabOf xs zs ys)).take i) := Cs.mem fun l hl => List.mem_of_mem_take hl
            exact (up.imp fun b' l' ⟨hm, q⟩ => (q.same s6).off gz (G8.col hm) hD6).snoc (BA.off gz W hD6)
      · rintro H' ⟨sm, cs, hcs, Cs⟩
        rw [List.length_map, List.take_of_length_le (by rw [colsT_len, len_rs]; exact Nat.le_refl _)] at Cs
        have p9 := sm _ _ p8
        refine ⟨_, rfl, p, CH, dx, _, rfl, p9, T.cl, T.n4, len_put (n := 999) (len_put (n := 998) (len_put (n := 997) (by show 0 < 997; decide))), ?_⟩
        obtain ⟨p10, k10⟩ := stepPut (p := p) (H := H') (u := .ins CH dx (hf ga gu D D2))
        have lk3 : (putF "levels" (V.ref D) (putF "upward" (V.ref gu) (putF "along" (V.ref ga) []))).lookup ("places" : Str) = none := by walk_at "lk"
        have lk4 : (putF "levels" (V.ref D) (putF "upward" (V.ref gu) (putF "along" (V.ref ga) []))).lookup ("ground" : Str) = none := by walk_at "lk"
        have s9 := s8.trans sm
        have L9 := s9 _ _ L7
        exact k _ ⟨dx, ga, gu, D, D2, bs, cs, p10, (GA7.same s9).kept' p9 lk3 k10, (GU8.same sm).kept' p9 lk3 k10, k10 _ _ L9 (ne_of L9 p9 (by intro z; cases z)), B7.imp (fun b' l' q => (q.same s9).kept' p9 lk3 lk4 k10), k10 _ _ hcs (ne_of hcs p9 (by intro z; cases z)), Cs.imp (fun b' l' q => q.kept' p9 lk3 lk4 k10)⟩ ((k07.same s9).trans k10)
end
end HP

set_option Elab.async false
set_option linter.all false
set_option maxRecDepth 100000
set_option maxHeartbeats 2000000
namespace HP
open PySem PySem.Spec PyProof.Rows L2 HB HM
local macro_rules | `(tactic| walk_at "rd") => `(tactic| repeat (first | refine ⟨_, rfl, ?_⟩ | refine ⟨_, _, rfl, rfl, ?_⟩))
section
variable {P : Program} {w : World} {K : PySem.W.Frag} {mg : Str → Option Value} {base : Heap}
/-! ### section -/
def spHSect (CG CB CS CH : Addr) : Sp := fun vs H Q _ => ∃ (h : Addr) (T : Loft.Table) (x : Int), vs = [.ref h, .int x] ∧ HullAt CG CB CH H h T ∧ GoodT T ∧ HM.Within T.xs x ∧
  ∀ (s : Addr) (H' : Hp), Same H H' → SectAt CG CB CS H' s T x → Q (.ref s) H'
theorem scHSect : FnScope ["self", "x"] ["self", "x"] (defScope sHSect) := ⟨rfl, rfl, rfl, by decide +kernel, rfl, by decide +kernel, by decide +kernel⟩
theorem ok_hsect {f CG CB CS CH : Addr} {fd : FuncData} (F : Fun K "section" "Hull.section" sHSect f fd) (T : HTxt K CH) (MS : MkAt P w K mg base 6 "Section" CS ["self", "levels", "upward", "x"] (spSInit CG CB CS)) :
    FnOk P w K mg base CX0 8 f fd ["self", "x"] (spHSect CG CB CS CH) := by
  refine F.ok scHSect (fun vs H Q E h => ?_) (fun cdv A outer s H vs Q E hr h => ?_)
  · obtain ⟨h, t, x, rfl, _⟩ := h
    rfl
  · obtain ⟨h, t, x, rfl, ⟨dx, ga, gu, ll, ls, bs, cs, hh, GA, GU, hL, Bs, hC, Cs⟩, G, hx, k⟩ := h
    refine ⟨_, pss_one (ps_ret (pe_mk MS hr rfl (pa_cons (pe_fld (pv 0) rfl) (pa_cons (pe_fld (pv 0) rfl) (pa_cons (pv 1) pa_nil))))), ?_⟩
    refine ⟨_, rfl, h, CH, dx, _, _, rfl, hh, T.cl, T.n3, hf3, _, rfl, h, CH, dx, _, _, rfl, hh, T.cl, T.n2, hf2, _, rfl, fun st ds hst hds ne => ?_⟩
    have sa : Same H (upd (upd H ds (.own st)) st (.ins CS ds [])) := (Same.new hds).trans (Same.new (by rw [upd_ne (Ne.symm ne)]; exact hst))
    refine ⟨st, ds, ll, gu, bs, t, x, rfl, upd_same, sa _ _ hL, Bs.imp (fun b l q => q.same sa), GU.same sa, G, hx, fun H6 S kp => ⟨rfl, ?_⟩⟩
    exact k st H6 (Same.made hst hds kp) S
/-! ### frame -/
def frameL (T : Loft.Table) (x t : Int) (zs : List Int) : List Int := zs.flatMap fun z => [insideS T x z t, bevelS T x z]
theorem frameL_take {T : Loft.Table} {x t z : Int} {zs : List Int} {i : Nat} (h : zs[i]? = some z) : frameL T x t (zs.take (i + 1)) = frameL T x t (zs.take i) ++ [insideS T x z t] ++ [bevelS T x z] := by
  unfold frameL
  rw [List.take_succ, h, List.flatMap_append]
  simp
theorem frameL_len (T : Loft.Table) (x t : Int) : ∀ zs : List Int, (frameL T x t zs).length = 2 * zs.length
  | [] => rfl
  | z :: zs => by
    have := frameL_len T x t zs
    unfold frameL at *
    rw [List.flatMap_cons, List.length_append, this, List.length_cons]
    simp
    omega
def spHFrame (CG CB CH : Addr) : Sp := fun vs H Q _ => ∃ (h : Addr) (T : Loft.Table) (x t : Int), vs = [.ref h, .int x, .int t] ∧ HullAt CG CB CH H h T ∧ GoodT T ∧ HM.Within T.xs x ∧ Bd 20 t ∧
  ∀ (D : Addr) (H' : Hp), Same H H' → Ints H' D (frameL T x t T.zs) → Q (.ref D) H'
theorem scHFrame : FnScope ["self", "x", "t", "section", "told", "height"] ["self", "x", "t"] (defScope sHFrame) := ⟨rfl, rfl, rfl, by decide +kernel, rfl, by decide +kernel, by decide +kernel⟩
theorem ok_hframe {f CG CB CS CH : Addr} {fd : FuncData} (F : Fun K "frame" "Hull.frame" sHFrame f fd) (TG : GTxt K CG) (T : HTxt K CH) (MS : MtAt P w K mg base 8 CH "section" ["self", "x"] (spHSect CG CB CS CH)) (MI : MtAt P w K mg base 4 CS "inside" ["self", "z", "t"] (spSIns CG CB CS)) (MB : MtAt P w K mg base 4 CS "bevel" ["self", "z"] (spSTell CG CB CS bevelS)) :
    FnOk P w K mg base CX0 9 f fd ["self", "x", "t"] (spHFrame CG CB CH) := by
  refine F.ok scHFrame (fun vs H Q E h => ?_) (fun cdv A outer s H vs Q E hr h => ?_)
  · obtain ⟨h, t, x, t', rfl, _⟩ := h
    rfl
  · obtain ⟨h, T', x, t, rfl, U, G, hx, ht, k⟩ := h
    have U' := U
    obtain ⟨dx, ga, gu, ll, ls, bs, cs, hh, GA, GU, hL, Bs, hC, Cs⟩ := U'
    refine ⟨_, pss_cons (ps_set (i := 3) scHFrame.nd rfl (Or.inl rfl) (pe_mt MS hr (pv 0) (pa_cons (pv 1) pa_nil)))
      (pss_cons (ps_set (i := 4) scHFrame.nd rfl (Or.inl rfl) (pe_lst pa_nil))
      (pss_cons (ps_for PassesOwn.never rfl (pi_list (pe_fld (pe_fld (pv 0) rfl) rfl)) (pg_name (i := 5) scHFrame.nd rfl (Or.inl rfl))
        (pss_cons (ps_expr (pe_bm PySem.F.plainAttrs_list PySem.F.slot_list_append PySem.F.type_list_append mt_append (pv 4) (pa_cons (pe_mt MI (hr.mono (by decide)) (pv 3) (pa_cons (pv 5) (pa_cons (pv 2) pa_nil))) pa_nil)))
        (pss_one (ps_expr (pe_bm PySem.F.plainAttrs_list PySem.F.slot_list_append PySem.F.type_list_append mt_append (pv 4) (pa_cons (pe_mt MB (hr.mono (by decide)) (pv 3) (pa_cons (pv 5) pa_nil)) pa_nil))))))
      (pss_one (ps_ret (pv 4))))), ?_⟩
    refine ⟨_, rfl, h, dx, _, rfl, hh, hf_no (by decide +kernel), _, rfl, h, T', x, rfl, U, G, hx, fun st H1 s1 S => ?_⟩
    refine ⟨Nat.zero_le _, fun D hD => ?_⟩
    have s2 : Same H1 (upd H1 D (.lst [])) := Same.new hD
    have GU2 := (GU.same s1).same s2
    obtain ⟨dg, lp, lg, lm, hg, hlp, hlg, hlm⟩ := GU2
    have hh2 := s2 _ _ (s1 _ _ hh)
    have hmz := G.gz.most
    refine ⟨_, rfl, h, CH, dx, _, _, rfl, hh2, T.cl, T.n2, hf2, gu, CG, dg, _, _, rfl, hg, TG.cl, TG.n1, gf1, lp, rfl, ⟨_, SqL.of hlp⟩, ?_⟩
    have hlp1 : H1 lp = some (.lst (T'.zs.map V.int)) := by
      have q := (GU.same s1)
      obtain ⟨dg', lp', lg', lm', hg', hlp', _⟩ := q
      have e := s2 _ _ hg'
      rw [hg] at e
      injection e with e
      injection e with _ _ e
      have e2 : (gf lp lg lm T'.zs).lookup ("places" : Str) = (gf lp' lg' lm' T'.zs).lookup ("places" : Str) := by rw [e]
      rw [gf1, gf1] at e2
      injection e2 with e2
      injection e2 with e2
      rw [e2]
      exact hlp'
    refine for_list (K := K) (a := lp) (xs := T'.zs.map V.int) (fun i σ H' => (∃ v5 : Option V, σ = [some (.ref h), some (.int x), some (.int t), some (.ref st), some (.ref D), v5]) ∧ Same H1 H' ∧ Ints H' D (frameL T' x t (T'.zs.take i)))
      ⟨⟨none, rfl⟩, s2, upd_same⟩ (fun i σ H' _ ⟨_, sm, _⟩ => SqL.of (sm _ _ hlp1)) ?_ ?_
    · rintro i y σ H' hi ⟨⟨v5, rfl⟩, sm, hI⟩
      obtain ⟨z, hz, rfl⟩ : ∃ z, T'.zs[i]? = some z ∧ y = V.int z := by
        rw [List.getElem?_map] at hi
        obtain ⟨z, h1, h2⟩ := Option.map_eq_some_iff.mp hi
        exact ⟨z, h1, h2.symm⟩
      have hil : i < T'.zs.length := (List.getElem?_eq_some_iff.mp hz).1
      have hwz : HM.Within T'.zs z := by
        have := G.gz.ri.within hil
        rw [List.getD_eq_getElem?_getD, hz] at this
        exact this
      have S1 := S.same sm
      have S1' := S1
      obtain ⟨ds, gu', b1, b2, hs, _⟩ := S1'
      have lenI : (frameL T' x t (T'.zs.take i)).length ≤ 100 := by rw [frameL_len, List.length_take]; omega
      refine ⟨_, rfl, .inl ⟨rfl, _, SqL.of hI⟩, _, rfl, st, ds, _, rfl, hs, sf_no (by decide +kernel), _, rfl, _, rfl, st, T', x, z, t, rfl, S1, G, hx, hwz, ht, D, _, _, rfl, rfl, hI, ?_, ?_⟩
      · rw [List.length_map]
        exact small1000 (by omega)
      have sm2 : Same H1 (upd H' D (.lst ((frameL T' x t (T'.zs.take i)).map V.int ++ [.int (insideS T' x z t)]))) := fun b o e => by
        rw [upd_ne (ne_of_none e hD)]
        exact sm b o e
      have hI2 : Ints (upd H' D (.lst ((frameL T' x t (T'.zs.take i)).map V.int ++ [.int (insideS T' x z t)]))) D (frameL T' x t (T'.zs.take i) ++ [insideS T' x z t]) := by
        show upd _ _ _ _ = _
        rw [upd_same, List.map_append]
        rfl
      generalize upd H' D (.lst ((frameL T' x t (T'.zs.take i)).map V.int ++ [.int (insideS T' x z t)])) = H2 at sm2 hI2 ⊢
      have S2 := S.same sm2
      have S2' := S2
      obtain ⟨ds2, gu2, b12, b22, hs2, _⟩ := S2'
      refine ⟨_, rfl, .inl ⟨rfl, _, SqL.of hI2⟩, _, rfl, st, ds2, _, rfl, hs2, sf_no (by decide +kernel), _, rfl, st, T', x, z, rfl, S2, G, hx, hwz, D, _, _, rfl, rfl, hI2, ?_, ?_⟩
      · rw [List.length_map, List.length_append]
        exact small1000 (by show _ + 1 ≤ _; omega)
      refine ⟨⟨some (.int z), rfl⟩, fun b o e => ?_, ?_⟩
      · rw [upd_ne (ne_of_none e hD)]
        exact sm2 b o e
      · show upd _ _ _ _ = _
        rw [upd_same, frameL_take hz, List.map_append, List.map_append, List.map_append]
        rfl
    · rintro σ H' ⟨⟨v5, rfl⟩, sm, hI⟩
      rw [List.length_map, List.take_length] at hI
      exact ⟨_, rfl, k D H' (s1.trans sm) hI⟩
/-! ### level -/
def spHLevel (CG CB CH : Addr) : Sp := fun vs H Q _ => ∃ (h : Addr) (T : Loft.Table) (z : Int), vs = [.ref h, .int z] ∧ HullAt CG CB CH H h T ∧ GoodT T ∧ HM.Within T.zs z ∧
  ∀ (D : Addr) (H' : Hp), Same H H' → Ints H' D (levelL T z) → Q (.ref D) H'
theorem scHLevel : FnScope ["self", "z", "under", "station"] ["self", "z"] (defScope sHLevel) := ⟨rfl, rfl, rfl, by decide +kernel, rfl, by decide +kernel, by decide +kernel⟩
theorem levelL_cols (T : Loft.Table) (z : Int) : levelL T z = (colsT T).map fun c => nearI (valueOf T.zs c z) (divOf T.zs z) := by
  unfold levelL colsT
  rw [List.map_map]
  rfl
theorem ok_hlevel {f CG CB CH : Addr} {fd : FuncData} (F : Fun K "level" "Hull.level" sHLevel f fd) (T : HTxt K CH) (MD : MtAt P w K mg base 2 CG "divisor_at" ["self", "place"] (spGDiv CG)) (MV : MtAt P w K mg base 2 CB "value_at" ["self", "place"] (spBVal CG CB valueOf)) (FN : FnAt P w K mg base 1 "nearest" ["over", "under"] spNear) :
    FnOk P w K mg base CX0 4 f fd ["self", "z"] (spHLevel CG CB CH) := by
  refine F.ok scHLevel (fun vs H Q E h => ?_) (fun cdv A outer s H vs Q E hr h => ?_)
  · obtain ⟨h, t, x, rfl, _⟩ := h
    rfl
  · obtain ⟨h, t, z, rfl, ⟨dx, ga, gu, ll, ls, bs, cs, hh, GA, GU, hL, Bs, hC, Cs⟩, G, hz, k⟩ := h
    have GU' := GU
    obtain ⟨dg, _, _, _, hg, _⟩ := GU'
    refine ⟨_, pss_cons (ps_set (i := 2) scHLevel.nd rfl (Or.inr rfl) (pe_mt MD (hr.mono (by decide)) (pe_fld (pv 0) rfl) (pa_cons (pv 1) pa_nil)))
      (pss_one (ps_ret (pe_lc (own := [("station", 3)]) rfl scHLevel.nd (pi_list (pe_fld (pv 0) rfl))
      (blkOk_by (N := ["self", "z", "under", "station"]) (sc := defScope sHLevel) (by decide +kernel))
      (fun s H C cl fp => pg_name (i := 3) scHLevel.nd rfl (Or.inl rfl))
      (fun s H C cl fp => pts_nil)
      (fun s H C cl fp => pe_fn FN (hr.mono (by decide)) rfl (pa_cons (pe_mt MV (hr.mono (by decide)) (pv 3) (pa_cons (pv 1) pa_nil)) (pa_cons (pv 2) pa_nil)))))), ?_⟩
    have hmx := G.gx.most
    refine ⟨_, rfl, h, CH, dx, _, _, rfl, hh, T.cl, T.n2, hf2, gu, dg, _, rfl, hg, gf_no (by decide +kernel), _, rfl, gu, t.zs, z, rfl, GU, G.gz, hz, ?_⟩
    refine ⟨_, rfl, h, CH, dx, _, _, rfl, hh, T.cl, T.n4, hf4, ls, rfl, ⟨_, SqL.of hC⟩, fun D hD => ?_⟩
    refine lc_list (K := K) (a := ls) (xs := cs.map V.ref) (fun i H' => H' = upd H D (.lst (((levelL t z).take i).map V.int))) rfl
      (fun i H' _ e => by rw [e]; exact Same.seq (Same.new hD) (SqL.of hC)) ?_ ?_
    · rintro i y H' hi rfl
      obtain ⟨b, hb, rfl⟩ : ∃ b, cs[i]? = some b ∧ y = V.ref b := by
        rw [List.getElem?_map] at hi
        obtain ⟨r, h1, h2⟩ := Option.map_eq_some_iff.mp hi
        exact ⟨r, h1, h2.symm⟩
      obtain ⟨l, hl, BA⟩ := Cs.get hb
      have BA1 := BA.same (Same.new (o := .lst (((levelL t z).take i).map V.int)) hD)
      have BA2 := BA1
      obtain ⟨g, db, ln, lb, hb1, _⟩ := BA2
      have W := G.col (List.mem_of_getElem? hl)
      refine ⟨rfl, _, rfl, b, db, _, rfl, hb1, bf_no (by decide +kernel), _, rfl, b, t.zs, l, z, rfl, BA1, G.gz, W, hz, _, rfl, ?_⟩
      refine ⟨_, _, rfl, divOf_pos G.gz.ri hz, (div_bd G.gz z).mono (by decide), (val_bd G.gz W.bd hz).mono (by decide), ?_⟩
      refine ⟨_, upd_same, ?_, ?_⟩
      · rw [List.length_map, List.length_take, levelL_cols, List.length_map, colsT_len]
        exact small1000 (by omega)
      · rw [upd_upd, List.take_succ]
        have e : (levelL t z)[i]? = some (nearI (valueOf t.zs l z) (divOf t.zs z)) := by
          rw [levelL_cols, List.getElem?_map, hl]
          rfl
        rw [e, List.map_append]
        rfl
    · rintro H' rfl
      rw [List.length_map, Cs.len, List.take_of_length_le (by rw [levelL_cols, List.length_map]; exact Nat.le_refl _)]
      exact k D _ (Same.new hD) upd_same
end
end HP

set_option Elab.async false
set_option linter.all false
set_option maxRecDepth 100000
set_option maxHeartbeats 2000000
namespace HP
open PySem PySem.Spec PyProof.Rows L2 HB HM
local macro_rules | `(tactic| walk_at "rd") => `(tactic| repeat (first | refine ⟨_, rfl, ?_⟩ | refine ⟨_, _, rfl, rfl, ?_⟩))
abbrev sFnb : Stmt := top 34
abbrev sFnr : Stmt := top 35
abbrev sWc : Stmt := top 36
abbrev sWn : Stmt := top 37
abbrev sVer : Stmt := top 38
/-- over enumerate of a list that the body leaves as it is -/
theorem for_enum {K : PySem.W.Frag} {a : Addr} {xs : List V} {g : TG} {tb : TS} {D : Ends} {σ : L2.St} {H : Hp} (Pv : Nat → L2.St → Hp → Prop) (h0 : Pv 0 σ H) (hl : ∀ i σ H, i ≤ xs.length → Pv i σ H → SqL K H a xs)
    (hs : ∀ i x σ H T, xs[i]? = some x → Pv i σ H → H T = none → g (.ref T) σ (upd H T (.tup [.int (i : Nat), x])) fun σ2 H2 => tb { D with nx := Pv (i + 1), ct := Pv (i + 1), bk := D.nx } σ2 H2) (hd : ∀ σ H, Pv xs.length σ H → D.nx σ H) :
    ∃ W : Nat → Nat → L2.St → Hp → Prop, (∃ m, W 0 m σ H) ∧ ∀ i m σ H, W i m σ H →
      ((Ite K a).stop i H ∧ D.nx σ H) ∨ ((Ite K a).go i H ∧ ∃ N : L2.St → Hp → Prop, (∀ σ' H', N σ' H' → ∃ m', m' < m ∧ W (i + 1) m' σ' H') ∧ ∀ x H', (Ite K a).yld i H x H' → g x σ H' fun σ2 H2 => tb { D with nx := N, ct := N, bk := D.nx } σ2 H2) := by
  refine ⟨fun i m σ H => m = xs.length - i ∧ i ≤ xs.length ∧ Pv i σ H, ⟨xs.length, by omega, Nat.zero_le _, h0⟩, ?_⟩
  rintro i m σ H ⟨rfl, hi, p⟩
  have q := hl i σ H hi p
  by_cases hlt : i < xs.length
  · refine .inr ⟨⟨xs, xs[i], q, by simp [hlt]⟩, Pv (i + 1), fun σ' H' p' => ⟨xs.length - (i + 1), by omega, rfl, hlt, p'⟩, fun x H' y => ?_⟩
    obtain ⟨T, x', rfl, hT, rfl, hx⟩ := y
    exact hs i x' σ H T (hx xs q) p hT
  · have e : i = xs.length := by omega
    subst e
    exact .inl ⟨⟨xs, q, Nat.le_refl _⟩, hd σ H p⟩
/-! ### the mirror -/
def fnb (lo hi : Int) : Nat → List Int → Option Nat
  | _, [] => none
  | k, z :: r => if lo ≤ z ∧ z ≤ hi then fnb lo hi (k + 1) r else some k
def fnr (hi : Int) : Int → Nat → List Int → Option Nat
  | _, _, [] => none
  | lo, k, z :: r => if lo ≤ z ∧ z ≤ hi then fnr hi (z + 1) (k + 1) r else some k
def optV : Option Nat → V
  | none => .non
  | some k => .int (k : Nat)
section
variable {P : Program} {w : World} {K : PySem.W.Frag} {mg : Str → Option Value} {base : Heap}
def spFnb (K : PySem.W.Frag) : Sp := fun vs H Q _ => ∃ (a : Addr) (ns : List Int) (lo hi : Int), vs = [.ref a, .int lo, .int hi] ∧ SqL K H a (ns.map V.int) ∧ ∀ H', Same H H' → Q (optV (fnb lo hi 0 ns)) H'
theorem scFnb : FnScope ["numbers", "least", "most", "k", "number"] ["numbers", "least", "most"] (defScope sFnb) := ⟨rfl, rfl, rfl, by decide +kernel, rfl, by decide +kernel, by decide +kernel⟩
theorem scFnr : FnScope ["numbers", "least", "most", "k", "number"] ["numbers", "least", "most"] (defScope sFnr) := ⟨rfl, rfl, rfl, by decide +kernel, rfl, by decide +kernel, by decide +kernel⟩
theorem drop_cons {ns : List Int} {i : Nat} {z : Int} (h : ns[i]? = some z) : ns.drop i = z :: ns.drop (i + 1) := by
  obtain ⟨h1, h2⟩ := List.getElem?_eq_some_iff.mp h
  rw [List.drop_eq_getElem_cons h1, h2]
theorem ok_fnb {f : Addr} {fd : FuncData} (F : Fun K "first_not_between" "first_not_between" sFnb f fd) (B : Blt mg) : FnOk P w K mg base CX0 1 f fd ["numbers", "least", "most"] (spFnb K) := by
  refine F.ok scFnb (fun vs H Q E h => ?_) (fun cdv A outer s H vs Q E hr h => ?_)
  · obtain ⟨a, ns, lo, hi, rfl, _⟩ := h
    rfl
  · obtain ⟨a, ns, lo, hi, rfl, hS, k⟩ := h
    refine ⟨_, pss_cons (ps_for PassesOwn.never rfl (pi_enum rfl B.enumerate (pa_cons (pv 0) pa_nil)) (pg_tup rfl (pgs_cons (pg_name (i := 3) scFnb.nd rfl (Or.inl rfl)) (pgs_cons (pg_name (i := 4) scFnb.nd rfl (Or.inl rfl)) pgs_nil)))
        (pss_one (ps_if (pt_not (pt_chain op_le op_le (pv 1) (pv 4) (pv 2))) (pss_one (ps_ret (pv 3))) pss_nil)))
      (pss_one (ps_ret pe_non)), ?_⟩
    refine ⟨_, rfl, a, _, rfl, hS, for_enum (K := K) (a := a) (xs := ns.map V.int) (fun i σ H' => (∃ v3 v4 : Option V, σ = [some (.ref a), some (.int lo), some (.int hi), v3, v4]) ∧ Same H H' ∧ fnb lo hi 0 ns = fnb lo hi i (ns.drop i))
      ⟨⟨none, none, rfl⟩, fun _ _ e => e, rfl⟩ (fun i σ H' _ ⟨_, sm, _⟩ => Same.seq sm hS) ?_ ?_⟩
    · rintro i y σ H' T hi' ⟨⟨v3, v4, rfl⟩, sm, he⟩ hT
      obtain ⟨z, hz, rfl⟩ : ∃ z, ns[i]? = some z ∧ y = V.int z := by
        rw [List.getElem?_map] at hi'
        obtain ⟨z, h1, h2⟩ := Option.map_eq_some_iff.mp hi'
        exact ⟨z, h1, h2.symm⟩
      have sm' := sm.trans (Same.new (o := .tup [.int (i : Nat), .int z]) hT)
      rw [drop_cons hz] at he
      rw [show fnb lo hi i (z :: ns.drop (i + 1)) = if lo ≤ z ∧ z ≤ hi then fnb lo hi (i + 1) (ns.drop (i + 1)) else some i from rfl] at he
      refine ⟨T, _, rfl, SqT.of upd_same, rfl, _, _, rfl, _, _, rfl, rfl, ?_⟩
      refine ⟨_, rfl, _, rfl, _, _, rfl, rfl, _, rfl, ite2 (fun c => ?_) (fun c => ?_)⟩
      · have c' := of_decide_eq_true c
        refine ⟨_, rfl, _, _, rfl, rfl, _, rfl, ite2 (fun d => ?_) (fun d => ?_)⟩
        · have d' : ¬ z ≤ hi := fun q => by rw [decide_eq_true q] at d; cases d
          rw [if_neg (fun q => d' q.2)] at he
          refine ⟨_, rfl, ?_⟩
          have := k _ sm'
          rw [he] at this
          exact this
        · have d' : z ≤ hi := by
            rcases Int.lt_or_le hi z with q | q
            · exact absurd (by show (!decide (z ≤ hi)) = true; rw [decide_eq_false (by omega)]; rfl) d
            · exact q
          rw [if_pos ⟨c', d'⟩] at he
          exact ⟨⟨_, _, rfl⟩, sm', he⟩
      · have c' : ¬ lo ≤ z := fun q => c (decide_eq_true q)
        rw [if_neg (fun q => c' q.1)] at he
        refine ⟨_, rfl, iteT ⟨_, rfl, ?_⟩⟩
        have := k _ sm'
        rw [he] at this
        exact this
    · rintro σ H' ⟨⟨v3, v4, rfl⟩, sm, he⟩
      rw [List.length_map, List.drop_length] at he
      have := k H' sm
      rw [he] at this
      exact this
def spFnr (K : PySem.W.Frag) : Sp := fun vs H Q _ => ∃ (a : Addr) (ns : List Int) (lo hi : Int), vs = [.ref a, .int lo, .int hi] ∧ SqL K H a (ns.map V.int) ∧ ∀ H', Same H H' → Q (optV (fnr hi lo 0 ns)) H'
theorem ok_fnr {f : Addr} {fd : FuncData} (F : Fun K "first_not_rising" "first_not_rising" sFnr f fd) (B : Blt mg) : FnOk P w K mg base CX0 1 f fd ["numbers", "least", "most"] (spFnr K) := by
  refine F.ok scFnr (fun vs H Q E h => ?_) (fun cdv A outer s H vs Q E hr h => ?_)
  · obtain ⟨a, ns, lo, hi, rfl, _⟩ := h
    rfl
  · obtain ⟨a, ns, lo, hi, rfl, hS, k⟩ := h
    refine ⟨_, pss_cons (ps_for PassesOwn.never rfl (pi_enum rfl B.enumerate (pa_cons (pv 0) pa_nil)) (pg_tup rfl (pgs_cons (pg_name (i := 3) scFnr.nd rfl (Or.inl rfl)) (pgs_cons (pg_name (i := 4) scFnr.nd rfl (Or.inl rfl)) pgs_nil)))
        (pss_cons (ps_if (pt_not (pt_chain op_le op_le (pv 1) (pv 4) (pv 2))) (pss_one (ps_ret (pv 3))) pss_nil)
        (pss_one (ps_set (i := 1) scFnr.nd rfl (Or.inl rfl) (pe_op op_add (pv 4) pe_int)))))
      (pss_one (ps_ret pe_non)), ?_⟩
    refine ⟨_, rfl, a, _, rfl, hS, for_enum (K := K) (a := a) (xs := ns.map V.int) (fun i σ H' => ∃ lo' : Int, (∃ v3 v4 : Option V, σ = [some (.ref a), some (.int lo'), some (.int hi), v3, v4]) ∧ Same H H' ∧ fnr hi lo 0 ns = fnr hi lo' i (ns.drop i))
      ⟨lo, ⟨none, none, rfl⟩, fun _ _ e => e, rfl⟩ (fun i σ H' _ ⟨_, _, sm, _⟩ => Same.seq sm hS) ?_ ?_⟩
    · rintro i y σ H' T hi' ⟨lo', ⟨v3, v4, rfl⟩, sm, he⟩ hT
      obtain ⟨z, hz, rfl⟩ : ∃ z, ns[i]? = some z ∧ y = V.int z := by
        rw [List.getElem?_map] at hi'
        obtain ⟨z, h1, h2⟩ := Option.map_eq_some_iff.mp hi'
        exact ⟨z, h1, h2.symm⟩
      have sm' := sm.trans (Same.new (o := .tup [.int (i : Nat), .int z]) hT)
      rw [drop_cons hz] at he
      rw [show fnr hi lo' i (z :: ns.drop (i + 1)) = if lo' ≤ z ∧ z ≤ hi then fnr hi (z + 1) (i + 1) (ns.drop (i + 1)) else some i from rfl] at he
      refine ⟨T, _, rfl, SqT.of upd_same, rfl, _, _, rfl, _, _, rfl, rfl, ?_⟩
      refine ⟨_, rfl, _, rfl, _, _, rfl, rfl, _, rfl, ite2 (fun c => ?_) (fun c => ?_)⟩
      · have c' := of_decide_eq_true c
        refine ⟨_, rfl, _, _, rfl, rfl, _, rfl, ite2 (fun d => ?_) (fun d => ?_)⟩
        · have d' : ¬ z ≤ hi := fun q => by rw [decide_eq_true q] at d; cases d
          rw [if_neg (fun q => d' q.2)] at he
          refine ⟨_, rfl, ?_⟩
          have := k _ sm'
          rw [he] at this
          exact this
        · have d' : z ≤ hi := by
            rcases Int.lt_or_le hi z with q | q
            · exact absurd (by show (!decide (z ≤ hi)) = true; rw [decide_eq_false (by omega)]; rfl) d
            · exact q
          rw [if_pos ⟨c', d'⟩] at he
          exact ⟨_, rfl, _, _, rfl, rfl, z + 1, ⟨_, _, rfl⟩, sm', he⟩
      · have c' : ¬ lo' ≤ z := fun q => c (decide_eq_true q)
        rw [if_neg (fun q => c' q.1)] at he
        refine ⟨_, rfl, iteT ⟨_, rfl, ?_⟩⟩
        have := k _ sm'
        rw [he] at this
        exact this
    · rintro σ H' ⟨lo', ⟨v3, v4, rfl⟩, sm, he⟩
      rw [List.length_map, List.drop_length] at he
      have := k H' sm
      rw [he] at this
      exact this
/-! ### the module's numbers of table.py -/
structure TCon (mg : Str → Option Value) : Prop where
  large : ∃ t, mg "LARGEST_MEASURE" = some (.int 1048575 t)
  fewest : ∃ t, mg "FEWEST" = some (.int 2 t)
  stations : ∃ t, mg "MOST_STATIONS" = some (.int 24 t)
  levels : ∃ t, mg "MOST_LEVELS" = some (.int 16 t)
  good : ∃ t, mg "GOOD" = some (.int 0 t)
  halves : ∃ t, mg "WRONG_HALVES_COUNT" = some (.int 1 t)
  count : ∃ t, mg "WRONG_COUNT" = some (.int 2 t)
  place : ∃ t, mg "WRONG_PLACE" = some (.int 3 t)
  height : ∃ t, mg "WRONG_HEIGHT" = some (.int 4 t)
  half : ∃ t, mg "WRONG_HALF" = some (.int 5 t)
def wcI (xs zs ys : List Int) : Option (List Int) :=
  if ¬ (2 ≤ xs.length ∧ xs.length ≤ 24) then some [2, 0] else if ¬ (2 ≤ zs.length ∧ zs.length ≤ 16) then some [2, 1] else if ys.length ≠ xs.length * zs.length then some [1, (ys.length : Int)] else none
def wnI (xs zs ys : List Int) : Option (List Int) :=
  match fnr 1048575 0 0 xs with
  | some k => some [3, (k : Int)]
  | none => match fnr 1048575 (-1048575) 0 zs with
    | some k => some [4, (k : Int)]
    | none => match fnb 0 1048575 0 ys with
      | some k => some [5, (k : Int)]
      | none => none
def verI (xs zs ys : List Int) : List Int := match wcI xs zs ys with
  | some l => l
  | none => match wnI xs zs ys with
    | some l => l
    | none => [0, 0]
/-- nothing, or a new list -/
def optL (Q : VK) (H : Hp) : Option (List Int) → Prop
  | none => ∀ H', Same H H' → Q .non H'
  | some l => ∀ p H', Same H H' → Ints H' p l → Q (.ref p) H'
structure Three (K : PySem.W.Frag) (H : Hp) (a b c : Addr) (xs zs ys : List Int) : Prop where
  a : SqL K H a (xs.map V.int)
  b : SqL K H b (zs.map V.int)
  c : SqL K H c (ys.map V.int)
  la : xs.length ≤ 16000
  lb : zs.length ≤ 16000
  lc : ys.length ≤ 16000
theorem Three.same {H H' : Hp} {a b c : Addr} {xs zs ys : List Int} (T : Three K H a b c xs zs ys) (s : Same H H') : Three K H' a b c xs zs ys := ⟨Same.seq s T.a, Same.seq s T.b, Same.seq s T.c, T.la, T.lb, T.lc⟩
def spW (K : PySem.W.Frag) (f : List Int → List Int → List Int → Option (List Int)) : Sp := fun vs H Q _ => ∃ (a b c : Addr) (xs zs ys : List Int), vs = [.ref a, .ref b, .ref c] ∧ Three K H a b c xs zs ys ∧ optL Q H (f xs zs ys)
theorem scWc : FnScope ["places", "heights", "halves"] ["places", "heights", "halves"] (defScope sWc) := ⟨rfl, rfl, rfl, by decide +kernel, rfl, by decide +kernel, by decide +kernel⟩
theorem bd_len {n : Nat} (h : n ≤ 16000) : Bd 14 (n : Int) := by
  unfold Bd
  have : (2 : Nat) ^ 14 = 16384 := by decide
  omega
theorem ok_wc {f : Addr} {fd : FuncData} (F : Fun K "first_wrong_count" "first_wrong_count" sWc f fd) (B : Blt mg) (C : TCon mg) : FnOk P w K mg base CX0 1 f fd ["places", "heights", "halves"] (spW K wcI) := by
  refine F.ok scWc (fun vs H Q E h => ?_) (fun cdv A outer s H vs Q E hr h => ?_)
  · obtain ⟨a, b, c, xs, zs, ys, rfl, _⟩ := h
    rfl
  · obtain ⟨a, b, c, xs, zs, ys, rfl, T, k⟩ := h
    refine ⟨_, pss_cons (ps_if (pt_not (pt_chain op_le op_le (pe_gi C.fewest rfl) (pe_callB call_len_seq (by rfl) B.len PySem.boot_len (pa_cons (pv 0) pa_nil)) (pe_gi C.stations rfl))) (pss_one (ps_ret (pe_lst (pa_cons (pe_gi C.count rfl) (pa_cons pe_int pa_nil))))) pss_nil)
      (pss_cons (ps_if (pt_not (pt_chain op_le op_le (pe_gi C.fewest rfl) (pe_callB call_len_seq (by rfl) B.len PySem.boot_len (pa_cons (pv 1) pa_nil)) (pe_gi C.levels rfl))) (pss_one (ps_ret (pe_lst (pa_cons (pe_gi C.count rfl) (pa_cons pe_int pa_nil))))) pss_nil)
      (pss_cons (ps_if (pt_cmpR op_ne (pe_callB call_len_seq (by rfl) B.len PySem.boot_len (pa_cons (pv 2) pa_nil)) (pe_op op_mulM (pe_callB call_len_seq (by rfl) B.len PySem.boot_len (pa_cons (pv 0) pa_nil)) (pe_callB call_len_seq (by rfl) B.len PySem.boot_len (pa_cons (pv 1) pa_nil))) (nomark _))
        (pss_one (ps_ret (pe_lst (pa_cons (pe_gi C.halves rfl) (pa_cons (pe_callB call_len_seq (by rfl) B.len PySem.boot_len (pa_cons (pv 2) pa_nil)) pa_nil))))) pss_nil)
      (pss_one (ps_ret pe_non)))), ?_⟩
    have fin : ∀ (u v : Int), wcI xs zs ys = some [u, v] → (2 ≤ sizeLine ∧ ∀ l, H l = none → Q (.ref l) (upd H l (.lst [.int u, .int v]))) := fun u v e => by
      rw [e] at k
      exact ⟨by decide, fun l hl => k l _ (Same.new hl) upd_same⟩
    have lx : (xs.map V.int).length = xs.length := List.length_map ..
    have lz : (zs.map V.int).length = zs.length := List.length_map ..
    have ly : (ys.map V.int).length = ys.length := List.length_map ..
    refine ⟨_, rfl, a, _, rfl, .inl T.a, _, _, rfl, rfl, _, rfl, ?_⟩
    rw [lx]
    refine ite2 (fun c1 => ?_) (fun c1 => ?_)
    case refine_2 =>
      have c1' : ¬ (2 : Int) ≤ (xs.length : Int) := fun q => c1 (decide_eq_true q)
      refine ⟨_, rfl, iteT ?_⟩
      exact fin 2 0 (by unfold wcI; rw [if_pos (by omega)])
    have c1' := of_decide_eq_true c1
    refine ⟨_, _, rfl, rfl, _, rfl, ite2 (fun d => ?_) (fun d => ?_)⟩
    · have d' : ¬ ((xs.length : Int) ≤ 24) := fun q => by rw [decide_eq_true q] at d; cases d
      exact fin 2 0 (by unfold wcI; rw [if_pos (by omega)])
    have d' : (xs.length : Int) ≤ 24 := by
      rcases Int.lt_or_le 24 (xs.length : Int) with q | q
      · exact absurd (by show (!decide ((xs.length : Int) ≤ 24)) = true; rw [decide_eq_false (by omega)]; rfl) d
      · exact q
    refine ⟨_, rfl, b, _, rfl, .inl T.b, _, _, rfl, rfl, _, rfl, ?_⟩
    rw [lz]
    refine ite2 (fun c2 => ?_) (fun c2 => ?_)
    case refine_2 =>
      have c2' : ¬ (2 : Int) ≤ (zs.length : Int) := fun q => c2 (decide_eq_true q)
      refine ⟨_, rfl, iteT ?_⟩
      exact fin 2 1 (by unfold wcI; rw [if_neg (by omega), if_pos (by omega)])
    have c2' := of_decide_eq_true c2
    refine ⟨_, _, rfl, rfl, _, rfl, ite2 (fun d2 => ?_) (fun d2 => ?_)⟩
    · have d2' : ¬ ((zs.length : Int) ≤ 16) := fun q => by rw [decide_eq_true q] at d2; cases d2
      exact fin 2 1 (by unfold wcI; rw [if_neg (by omega), if_pos (by omega)])
    have d2' : (zs.length : Int) ≤ 16 := by
      rcases Int.lt_or_le 16 (zs.length : Int) with q | q
      · exact absurd (by show (!decide ((zs.length : Int) ≤ 16)) = true; rw [decide_eq_false (by omega)]; rfl) d2
      · exact q
    refine ⟨_, rfl, c, _, rfl, .inl T.c, _, rfl, a, _, rfl, .inl T.a, _, rfl, b, _, rfl, .inl T.b, _, _, rfl, rfl, ?_, rfl, _, rfl, ?_⟩
    · rw [lx, lz]
      exact (bd_len T.la).mulOk (bd_len T.lb) (by decide)
    rw [lx, ly, lz]
    refine ite2 (fun e => ?_) (fun e => ?_)
    · have e' : ys.length ≠ xs.length * zs.length := fun q => by
        have : (!decide (V.int (ys.length : Int) = V.int ((xs.length : Int) * (zs.length : Int)))) = true := e
        rw [decide_eq_true (by rw [q, Int.natCast_mul])] at this
        cases this
      refine ⟨_, rfl, c, _, rfl, .inl T.c, ?_⟩
      rw [ly]
      exact fin 1 (ys.length : Int) (by unfold wcI; rw [if_neg (by omega), if_neg (by omega), if_pos e'])
    · have e' : ys.length = xs.length * zs.length := by
        rcases Nat.decEq ys.length (xs.length * zs.length) with q | q
        · refine absurd ?_ e
          show (!decide (V.int (ys.length : Int) = V.int ((xs.length : Int) * (zs.length : Int)))) = true
          rw [decide_eq_false (fun z => q (by injection z with z; exact_mod_cast z))]
          rfl
        · exact q
      have : wcI xs zs ys = none := by unfold wcI; rw [if_neg (by omega), if_neg (by omega), if_neg (fun q => q e')]
      rw [this] at k
      exact k H fun _ _ e => e
end
end HP

set_option Elab.async false
set_option linter.all false
set_option maxRecDepth 100000
set_option maxHeartbeats 2000000
namespace HP
open PySem PySem.Spec PyProof.Rows L2 HB HM
local macro_rules | `(tactic| walk_at "rd") => `(tactic| repeat (first | refine ⟨_, rfl, ?_⟩ | refine ⟨_, _, rfl, rfl, ?_⟩))
section
variable {P : Program} {w : World} {K : PySem.W.Frag} {mg : Str → Option Value} {base : Heap}
theorem scWn : FnScope ["places", "heights", "halves", "unfit"] ["places", "heights", "halves"] (defScope sWn) := ⟨rfl, rfl, rfl, by decide +kernel, rfl, by decide +kernel, by decide +kernel⟩
theorem ok_wn {f : Addr} {fd : FuncData} (F : Fun K "first_wrong_number" "first_wrong_number" sWn f fd) (C : TCon mg) (FR : FnAt P w K mg base 1 "first_not_rising" ["numbers", "least", "most"] (spFnr K)) (FB : FnAt P w K mg base 1 "first_not_between" ["numbers", "least", "most"] (spFnb K)) :
    FnOk P w K mg base CX0 2 f fd ["places", "heights", "halves"] (spW K wnI) := by
  refine F.ok scWn (fun vs H Q E h => ?_) (fun cdv A outer s H vs Q E hr h => ?_)
  · obtain ⟨a, b, c, xs, zs, ys, rfl, _⟩ := h
    rfl
  · obtain ⟨a, b, c, xs, zs, ys, rfl, T, k⟩ := h
    refine ⟨_, pss_cons (ps_set (i := 3) scWn.nd rfl (Or.inl rfl) (pe_fn FR hr rfl (pa_cons (pv 0) (pa_cons pe_int (pa_cons (pe_gi C.large rfl) pa_nil)))))
      (pss_cons (ps_if (pt_cmp (pc_notN (pv 3))) (pss_one (ps_ret (pe_lst (pa_cons (pe_gi C.place rfl) (pa_cons (pv 3) pa_nil))))) pss_nil)
      (pss_cons (ps_set (i := 3) scWn.nd rfl (Or.inl rfl) (pe_fn FR hr rfl (pa_cons (pv 1) (pa_cons (pe_un un_neg (pe_gi C.large rfl)) (pa_cons (pe_gi C.large rfl) pa_nil)))))
      (pss_cons (ps_if (pt_cmp (pc_notN (pv 3))) (pss_one (ps_ret (pe_lst (pa_cons (pe_gi C.height rfl) (pa_cons (pv 3) pa_nil))))) pss_nil)
      (pss_cons (ps_set (i := 3) scWn.nd rfl (Or.inl rfl) (pe_fn FB hr rfl (pa_cons (pv 2) (pa_cons pe_int (pa_cons (pe_gi C.large rfl) pa_nil)))))
      (pss_cons (ps_if (pt_cmp (pc_notN (pv 3))) (pss_one (ps_ret (pe_lst (pa_cons (pe_gi C.half rfl) (pa_cons (pv 3) pa_nil))))) pss_nil)
      (pss_one (ps_ret pe_non))))))), ?_⟩
    have fin : ∀ (u : Int) (n : Nat) (H1 : Hp), Same H H1 → wnI xs zs ys = some [u, (n : Int)] → (2 ≤ sizeLine ∧ ∀ l, H1 l = none → Q (.ref l) (upd H1 l (.lst [.int u, .int (n : Int)]))) := fun u n H1 s1 e => by
      rw [e] at k
      exact ⟨by decide, fun l hl => k l _ (s1.trans (Same.new hl)) upd_same⟩
    refine ⟨_, rfl, a, xs, 0, 1048575, rfl, T.a, fun H1 s1 => ?_⟩
    cases e1 : fnr 1048575 0 0 xs with
    | some n =>
      refine ⟨_, rfl, _, rfl, iteT ⟨_, rfl, fin 3 n H1 s1 ?_⟩⟩
      unfold wnI
      rw [e1]
    | none =>
      refine ⟨_, rfl, _, rfl, iteF ?_⟩
      refine ⟨_, rfl, _, rfl, b, zs, -1048575, 1048575, rfl, Same.seq s1 T.b, fun H2 s2 => ?_⟩
      have s12 := s1.trans s2
      cases e2 : fnr 1048575 (-1048575) 0 zs with
      | some n =>
        refine ⟨_, rfl, _, rfl, iteT ⟨_, rfl, fin 4 n H2 s12 ?_⟩⟩
        unfold wnI
        rw [e1]
        dsimp only
        rw [e2]
      | none =>
        refine ⟨_, rfl, _, rfl, iteF ?_⟩
        refine ⟨_, rfl, c, ys, 0, 1048575, rfl, Same.seq s12 T.c, fun H3 s3 => ?_⟩
        have s13 := s12.trans s3
        cases e3 : fnb 0 1048575 0 ys with
        | some n =>
          refine ⟨_, rfl, _, rfl, iteT ⟨_, rfl, fin 5 n H3 s13 ?_⟩⟩
          unfold wnI
          rw [e1]
          dsimp only
          rw [e2]
          dsimp only
          rw [e3]
        | none =>
          refine ⟨_, rfl, _, rfl, iteF ?_⟩
          have : wnI xs zs ys = none := by
            unfold wnI
            rw [e1]
            dsimp only
            rw [e2]
            dsimp only
            rw [e3]
          rw [this] at k
          exact k H3 s13
/-! ### verdict -/
def spVer (K : PySem.W.Frag) : Sp := fun vs H Q _ => ∃ (a b c : Addr) (xs zs ys : List Int), vs = [.ref a, .ref b, .ref c] ∧ Three K H a b c xs zs ys ∧ ∀ p H', Same H H' → Ints H' p (verI xs zs ys) → Q (.ref p) H'
theorem scVer : FnScope ["places", "heights", "halves", "wrong"] ["places", "heights", "halves"] (defScope sVer) := ⟨rfl, rfl, rfl, by decide +kernel, rfl, by decide +kernel, by decide +kernel⟩
theorem ok_ver {f : Addr} {fd : FuncData} (F : Fun K "verdict" "verdict" sVer f fd) (C : TCon mg) (FC : FnAt P w K mg base 1 "first_wrong_count" ["places", "heights", "halves"] (spW K wcI)) (FN : FnAt P w K mg base 2 "first_wrong_number" ["places", "heights", "halves"] (spW K wnI)) :
    FnOk P w K mg base CX0 3 f fd ["places", "heights", "halves"] (spVer K) := by
  refine F.ok scVer (fun vs H Q E h => ?_) (fun cdv A outer s H vs Q E hr h => ?_)
  · obtain ⟨a, b, c, xs, zs, ys, rfl, _⟩ := h
    rfl
  · obtain ⟨a, b, c, xs, zs, ys, rfl, T, k⟩ := h
    refine ⟨_, pss_cons (ps_set (i := 3) scVer.nd rfl (Or.inl rfl) (pe_fn FC (hr.mono (by decide)) rfl (pa_cons (pv 0) (pa_cons (pv 1) (pa_cons (pv 2) pa_nil)))))
      (pss_cons (ps_if (pt_cmp (pc_isN (pv 3))) (pss_one (ps_set (i := 3) scVer.nd rfl (Or.inl rfl) (pe_fn FN hr rfl (pa_cons (pv 0) (pa_cons (pv 1) (pa_cons (pv 2) pa_nil)))))) pss_nil)
      (pss_cons (ps_if (pt_cmp (pc_isN (pv 3))) (pss_one (ps_ret (pe_lst (pa_cons (pe_gi C.good rfl) (pa_cons pe_int pa_nil))))) pss_nil)
      (pss_one (ps_ret (pv 3))))), ?_⟩
    refine ⟨_, rfl, _, rfl, _, rfl, a, b, c, xs, zs, ys, rfl, T, ?_⟩
    unfold verI at k
    cases e1 : wcI xs zs ys with
    | some l =>
      rw [e1] at k
      intro p H1 s1 hp
      refine ⟨_, rfl, _, rfl, iteF ⟨_, rfl, _, rfl, iteF ⟨_, rfl, k p H1 s1 hp⟩⟩⟩
    | none =>
      rw [e1] at k
      intro H1 s1
      refine ⟨_, rfl, _, rfl, iteT ⟨_, rfl, _, rfl, _, rfl, a, b, c, xs, zs, ys, rfl, T.same s1, ?_⟩⟩
      dsimp only at k
      cases e2 : wnI xs zs ys with
      | some l =>
        rw [e2] at k
        intro p H2 s2 hp
        refine ⟨_, rfl, _, rfl, iteF ⟨_, rfl, k p H2 (s1.trans s2) hp⟩⟩
      | none =>
        rw [e2] at k
        intro H2 s2
        refine ⟨_, rfl, _, rfl, iteT ⟨(by show 2 ≤ sizeLine; decide), fun l hl => ?_⟩⟩
        exact k l _ ((s1.trans s2).trans (Same.new hl)) upd_same
end
end HP

set_option Elab.async false
set_option linter.all false
set_option maxRecDepth 100000
set_option maxHeartbeats 2000000
namespace HP
open HB HM Loft
/-! ### judge against the program's verdict -/
theorem measure_iff {z : Int} : isMeasure z = true ↔ -1048575 ≤ z ∧ z ≤ 1048575 := by
  unfold isMeasure MOST
  rw [decide_eq_true_eq]
  omega
theorem bad_rise (b : Bool) (base : Int) (hb : base = if b then 0 else -1048575) : ∀ (l : List Int) (a : Int) (k : Nat), firstBad b (some a) l k = fnr 1048575 (max base (a + 1)) k l
  | [], a, k => rfl
  | z :: r, a, k => by
    have ih := bad_rise b base hb r z (k + 1)
    show (if isMeasure z = false ∨ (b = true ∧ z < 0) ∨ decide (z ≤ a) = true then some k else firstBad b (some z) r (k + 1)) = (if max base (a + 1) ≤ z ∧ z ≤ 1048575 then fnr 1048575 (z + 1) (k + 1) r else some k)
    have m := @measure_iff z
    by_cases c : max base (a + 1) ≤ z ∧ z ≤ 1048575
    · rw [if_pos c, if_neg, ih, Int.max_eq_right]
      · cases b <;> simp at hb <;> omega
      · rintro (h | h | h)
        · have : isMeasure z = true := m.mpr (by cases b <;> simp at hb <;> omega)
          rw [h] at this
          cases this
        · obtain ⟨rfl, h⟩ := h
          simp at hb
          omega
        · have := of_decide_eq_true h
          omega
    · rw [if_neg c, if_pos]
      by_cases q : isMeasure z = true
      · have q' := m.mp q
        by_cases d : z ≤ a
        · exact .inr (.inr (decide_eq_true d))
        · refine .inr (.inl ?_)
          cases b
          · simp at hb
            omega
          · simp at hb
            exact ⟨rfl, by omega⟩
      · exact .inl (by simpa using q)
theorem bad_all : ∀ (l : List Int) (k : Nat), firstBad true none l k = fnb 0 1048575 k l
  | [], k => rfl
  | z :: r, k => by
    have ih := bad_all r (k + 1)
    show (if isMeasure z = false ∨ (true = true ∧ z < 0) ∨ false = true then some k else firstBad true none r (k + 1)) = (if 0 ≤ z ∧ z ≤ 1048575 then fnb 0 1048575 (k + 1) r else some k)
    have m := @measure_iff z
    by_cases c : 0 ≤ z ∧ z ≤ 1048575
    · rw [if_pos c, if_neg, ih]
      rintro (h | h | h)
      · have : isMeasure z = true := m.mpr (by omega)
        rw [h] at this
        cases this
      · omega
      · cases h
    · rw [if_neg c, if_pos]
      by_cases q : isMeasure z = true
      · have q' := m.mp q
        exact .inr (.inl ⟨rfl, by omega⟩)
      · exact .inl (by simpa using q)
theorem fnr_none {hi : Int} : ∀ (l : List Int) (lo : Int) (k : Nat), fnr hi lo k l = none → (∀ i, i + 1 < l.length → l.getD i 0 < l.getD (i + 1) 0) ∧ (∀ z ∈ l, lo ≤ z ∧ z ≤ hi)
  | [], lo, k, _ => ⟨fun i h => by simp at h, fun z h => by simp at h⟩
  | z :: r, lo, k, h => by
    have h' : (if lo ≤ z ∧ z ≤ hi then fnr hi (z + 1) (k + 1) r else some k) = none := h
    by_cases c : lo ≤ z ∧ z ≤ hi
    · rw [if_pos c] at h'
      obtain ⟨h1, h2⟩ := fnr_none r (z + 1) (k + 1) h'
      refine ⟨fun i hi' => ?_, fun y hy => ?_⟩
      · cases i with
        | zero =>
          cases r with
          | nil => simp at hi'
          | cons y s =>
            have := (h2 y (List.mem_cons_self ..)).1
            show z < y
            omega
        | succ i => exact h1 i (by simpa using hi')
      · rcases List.mem_cons.mp hy with rfl | hy
        · exact c
        · have := h2 y hy
          omega
    · rw [if_neg c] at h'
      cases h'
theorem fnb_none {lo hi : Int} : ∀ (l : List Int) (k : Nat), fnb lo hi k l = none → ∀ z ∈ l, lo ≤ z ∧ z ≤ hi
  | [], k, _, z, h => by simp at h
  | y :: r, k, h, z, hz => by
    have h' : (if lo ≤ y ∧ y ≤ hi then fnb lo hi (k + 1) r else some k) = none := h
    by_cases c : lo ≤ y ∧ y ≤ hi
    · rw [if_pos c] at h'
      rcases List.mem_cons.mp hz with rfl | hz
      · exact c
      · exact fnb_none r (k + 1) h' z hz
    · rw [if_neg c] at h'
      cases h'
theorem bd20 {z : Int} (h : -1048575 ≤ z ∧ z ≤ 1048575) : Bd 20 z := by
  unfold Bd
  have : (2 : Nat) ^ 20 = 1048576 := by decide
  omega
/-- what make answers and what it leaves -/
theorem judge_eq (xs zs ys : List Int) : (match judge xs zs ys with
    | .error f => verI xs zs ys = [(f.1 : Int), (f.2 : Int)] ∧ (f.1 : Int) ≠ 0
    | .ok T => verI xs zs ys = [0, 0] ∧ T = tabOf xs zs ys ∧ Grd xs ∧ Grd zs ∧ ys.length = zs.length * xs.length ∧ (∀ v ∈ ys, Bd 20 v)) := by
  unfold judge verI wcI STATIONS LEVELS
  by_cases c1 : xs.length < 2 ∨ 24 < xs.length
  · rw [if_pos c1, if_pos (show ¬ (2 ≤ xs.length ∧ xs.length ≤ 24) by omega)]
    exact ⟨rfl, by decide⟩
  rw [if_neg c1, if_neg (show ¬ ¬ (2 ≤ xs.length ∧ xs.length ≤ 24) by omega)]
  by_cases c2 : zs.length < 2 ∨ 16 < zs.length
  · rw [if_pos c2, if_pos (show ¬ (2 ≤ zs.length ∧ zs.length ≤ 16) by omega)]
    exact ⟨rfl, by decide⟩
  rw [if_neg c2, if_neg (show ¬ ¬ (2 ≤ zs.length ∧ zs.length ≤ 16) by omega)]
  by_cases c3 : ys.length ≠ xs.length * zs.length
  · rw [if_pos c3, if_pos c3]
    exact ⟨rfl, by show ((1 : Nat) : Int) ≠ 0; decide⟩
  rw [if_neg c3, if_neg c3]
  have e1 : firstBad true (some BELOW) xs 0 = fnr 1048575 0 0 xs := bad_rise true 0 rfl xs BELOW 0
  have e2 : firstBad false (some BELOW) zs 0 = fnr 1048575 (-1048575) 0 zs := bad_rise false (-1048575) rfl zs BELOW 0
  rw [e1, e2, bad_all]
  unfold wnI
  cases d1 : fnr 1048575 0 0 xs with
  | some k => exact ⟨rfl, by show ((3 : Nat) : Int) ≠ 0; decide⟩
  | none =>
    cases d2 : fnr 1048575 (-1048575) 0 zs with
    | some k => exact ⟨rfl, by show ((4 : Nat) : Int) ≠ 0; decide⟩
    | none =>
      cases d3 : fnb 0 1048575 0 ys with
      | some k => exact ⟨rfl, by show ((5 : Nat) : Int) ≠ 0; decide⟩
      | none =>
        obtain ⟨a1, a2⟩ := fnr_none xs 0 0 d1
        obtain ⟨b1, b2⟩ := fnr_none zs _ 0 d2
        have f := fnb_none ys 0 d3
        refine ⟨rfl, rfl, ⟨⟨by omega, a1⟩, by omega, fun z hz => bd20 ?_⟩, ⟨⟨by omega, b1⟩, by omega, fun z hz => bd20 (b2 z hz)⟩, ?_, fun v hv => bd20 ?_⟩
        · have := a2 z hz
          omega
        · rw [Nat.mul_comm]
          omega
        · have := f v hv
          omega
/-! ### the places -/
theorem head_getD : ∀ {xs : List Int}, 1 ≤ xs.length → xs.head? = some (xs.getD 0 0)
  | [], h => by simp at h
  | a :: r, _ => rfl
theorem last_getD {xs : List Int} (h : 1 ≤ xs.length) : xs.getLast? = some (xs.getD (xs.length - 1) 0) := by
  rw [List.getLast?_eq_getElem?, List.getElem?_eq_getElem (by omega), List.getD_eq_getElem?_getD, List.getElem?_eq_getElem (by omega)]
  rfl
theorem hasX_eq {T : Table} (h : 2 ≤ T.xs.length) (x : Int) : T.hasX x = inB T.xs x := by
  unfold Table.hasX inB
  rw [head_getD (by omega), last_getD (by omega)]
  rfl
theorem hasZ_eq {T : Table} (h : 2 ≤ T.zs.length) (z : Int) : T.hasZ z = inB T.zs z := by
  unfold Table.hasZ inB
  rw [head_getD (by omega), last_getD (by omega)]
  rfl
end HP

set_option Elab.async false
set_option linter.all false
set_option maxRecDepth 100000
namespace HP
open HM HB Loft
section
variable {T : Loft.Table} {x z t : Int}
theorem near_eq (G : GoodT T) (hx : HM.Within T.xs x) (hz : HM.Within T.zs z) : Loft.nearest (T.up (x : Rat) (z : Rat) 0 0) = nearS T x z := by
  rw [up00 G.good hx hz, nearest_eq _ (divI_pos G.good hx hz)]
  rfl
theorem scale_div (n a : Int) {d : Int} (hd : 0 < d) : (n : Rat) * ((a : Rat) / (d : Rat)) = ((n * a : Int) : Rat) / (d : Rat) := by
  have nd := cast_ne hd
  refine eq_div nd ?_
  have := mul_div (a := (a : Rat)) nd
  generalize (a : Rat) / (d : Rat) = q at *
  push_cast
  grind
theorem bevel_eq (G : GoodT T) (hx : HM.Within T.xs x) (hz : HM.Within T.zs z) : Loft.bevel (T.up (x : Rat) (z : Rat) 1 0) = bevelS T x z := by
  unfold Loft.bevel
  have hd := divI_pos G.good hx hz
  have := scale_div 192 (alongI T x z) hd
  rw [up10 G.good hx hz]
  have e : (192 : Rat) * ((alongI T x z : Rat) / (divI T x z : Rat)) = ((192 * alongI T x z : Int) : Rat) / (divI T x z : Rat) := this
  rw [e, nearest_eq _ hd]
  rfl
theorem inside_eq (G : GoodT T) (hx : HM.Within T.xs x) (hz : HM.Within T.zs z) : T.inside (x : Rat) (z : Rat) (t : Rat) = insideS T x z t := by
  unfold Table.inside
  have hd := divI_pos G.good hx hz
  dsimp only
  rw [up00 G.good hx hz, up10 G.good hx hz, up01 G.good hx hz]
  have er : RI (alongI T x z) (upI T x z) (divI T x z) t = 4 * sqS T x z t := by unfold RI sqS; rw [Int.mul_assoc]
  have h4 : 0 ≤ 4 * sqS T x z t := by rw [← er]; exact RI_nonneg
  obtain ⟨r0, r1, r2⟩ := root_spec' h4
  exact lessRoot_prog hd r0 (by rw [er]; exact r1) (by rw [er]; exact r2)
theorem frame_eq (G : GoodT T) (hx : HM.Within T.xs x) : ((T.frame (x : Rat) (t : Rat)).flatMap fun (u : Int × Int) => [u.1, u.2]) = frameL T x t T.zs := by
  unfold Table.frame frameL
  rw [List.flatMap_map]
  have key : ∀ z ∈ T.zs, ([T.inside (x : Rat) (z : Rat) (t : Rat), Loft.bevel (T.up (x : Rat) (z : Rat) 1 0)] : List Int) = [insideS T x z t, bevelS T x z] := fun z hz => by
    obtain ⟨i, hi, rfl⟩ := List.mem_iff_getElem.mp hz
    have hw := G.gz.ri.within hi
    rw [List.getD_eq_getElem?_getD, List.getElem?_eq_getElem hi] at hw
    have hw : HM.Within T.zs T.zs[i] := hw
    rw [inside_eq G hx hw, bevel_eq G hx hw]
  generalize T.zs = zs at key
  induction zs with
  | nil => rfl
  | cons z zs ih =>
    rw [List.flatMap_cons, List.flatMap_cons, ih fun y hy => key y (List.mem_cons_of_mem _ hy), key z (List.mem_cons_self ..)]
theorem level_eq' (G : GoodT T) (hz : HM.Within T.zs z) : T.level (z : Rat) = levelL T z := level_eq G.good hz
/-- which of the three is told -/
def whatI (T : Loft.Table) (x z what : Int) : Int := if what = 0 then halfI T x z else if what = 1 then alongI T x z else upI T x z
theorem at_eq {what : Int} (hw : 0 ≤ what ∧ what ≤ 2) (G : GoodT T) (hx : HM.Within T.xs x) (hz : HM.Within T.zs z) : LoftHullSeed.number (T.up (x : Rat) (z : Rat) (if what = 1 then 1 else 0) (if what = 2 then 1 else 0)) = lowL (whatI T x z what) (divI T x z) := by
  have hd := divI_pos G.good hx hz
  unfold whatI
  rcases (by omega : what = 0 ∨ what = 1 ∨ what = 2) with rfl | rfl | rfl
  · rw [if_neg (by decide), if_neg (by decide), if_pos rfl, up00 G.good hx hz, number_eq _ hd]
    rfl
  · rw [if_pos rfl, if_neg (by decide), if_neg (by decide), if_pos rfl, up10 G.good hx hz, number_eq _ hd]
    rfl
  · rw [if_neg (by decide), if_pos rfl, if_neg (by decide), if_neg (by decide), up01 G.good hx hz, number_eq _ hd]
    rfl
end
end HP

set_option Elab.async false
set_option linter.all false
set_option maxRecDepth 100000
set_option maxHeartbeats 2000000
namespace HP
open PySem PySem.Spec PyProof.Rows L2 HB HM
local macro_rules | `(tactic| walk_at "lk") => `(tactic| ((repeat (first | rw [lookup_putF, if_pos rfl] | rw [lookup_putF, if_neg (by decide +kernel)])); all_goals rfl))
abbrev sToldAt : Stmt := top 47
abbrev sIsThick : Stmt := top 48
abbrev sOInit : Stmt := inClass (top 49) 0
abbrev sOMake : Stmt := inClass (top 49) 1
abbrev sORef : Stmt := inClass (top 49) 2
abbrev sOAt : Stmt := inClass (top 49) 3
abbrev sONear : Stmt := inClass (top 49) 4
abbrev sOBevel : Stmt := inClass (top 49) 5
abbrev sOIns : Stmt := inClass (top 49) 6
abbrev sOFrame : Stmt := inClass (top 49) 7
abbrev sOLevel : Stmt := inClass (top 49) 8
structure OCon (mg : Str → Option Value) : Prop where
  done : ∃ t, mg "DONE" = some (.int 0 t)
  wrong : ∃ t, mg "WRONG_ARGUMENT" = some (.int (-1) t)
  notab : ∃ t, mg "NO_TABLE" = some (.int (-3) t)
  outs : ∃ t, mg "OUTSIDE" = some (.int (-4) t)
  half : ∃ t, mg "HALF_BREADTH" = some (.int 0 t)
  along : ∃ t, mg "SLOPE_ALONG" = some (.int 1 t)
  up : ∃ t, mg "SLOPE_UP" = some (.int 2 t)
def boatF (v : V) : List (Str × V) := putF "hull" v []
theorem boatF1 {v : V} : (boatF v).lookup ("hull" : Str) = some v := by unfold boatF; walk_at "lk"
theorem boatF_no {v : V} {m : Str} (h : m ≠ "hull") : (boatF v).lookup m = none := by
  unfold boatF
  rw [lookup_putF, if_neg h]
  rfl
theorem boatF_put {u v : V} : putF "hull" v (boatF u) = boatF v := by
  show (if ("hull" : Str) = ("hull" : Str) then _ else _) = _
  rw [if_pos rfl]
  rfl
/-- the boat stands at b, with this table or none -/
def BoatAt (CG CB CH CO : Addr) (H : Hp) (b : Addr) (s : Option Loft.Table) : Prop :=
  ∃ d v, H b = some (.ins CO d (boatF v)) ∧ match s with
    | none => v = .non
    | some T => ∃ h, v = .ref h ∧ HullAt CG CB CH H h T ∧ GoodT T
theorem BoatAt.same {CG CB CH CO b : Addr} {H H' : Hp} {s : Option Loft.Table} (U : BoatAt CG CB CH CO H b s) (sm : Same H H') : BoatAt CG CB CH CO H' b s := by
  obtain ⟨d, v, h1, h2⟩ := U
  refine ⟨d, v, sm _ _ h1, ?_⟩
  cases s with
  | none => exact h2
  | some T =>
    obtain ⟨h, e, h3, h4⟩ := h2
    exact ⟨h, e, h3.same sm, h4⟩
structure OTxt (K : PySem.W.Frag) (CO : Addr) : Prop where
  cl : Cls K CO
  n1 : NoAttr K CO "hull"
section
variable {P : Program} {w : World} {K : PySem.W.Frag} {mg : Str → Option Value} {base : Heap}
/-! ### __init__ -/
def spOInit (CG CB CH CO : Addr) : Sp := fun vs H Q _ => ∃ (p dx : Addr), vs = [.ref p] ∧ H p = some (.ins CO dx []) ∧ ∀ H' : Hp, BoatAt CG CB CH CO H' p none → Kept p H H' → Q .non H'
theorem scOInit : FnScope ["self"] ["self"] (defScope sOInit) := ⟨rfl, rfl, rfl, by decide +kernel, rfl, by decide +kernel, by decide +kernel⟩
theorem ok_oinit {f CG CB CH CO : Addr} {fd : FuncData} (F : Fun K "__init__" "Boat.__init__" sOInit f fd) (T : OTxt K CO) : FnOk P w K mg base CX0 1 f fd ["self"] (spOInit CG CB CH CO) := by
  refine F.ok scOInit (fun vs H Q E h => ?_) (fun cdv A outer s H vs Q E hr h => ?_)
  · obtain ⟨p, dx, rfl, _⟩ := h
    rfl
  · obtain ⟨p, dx, rfl, hp, k⟩ := h
    refine ⟨_, pss_one (ps_fld (pv 0) pe_non rfl), ?_⟩
    refine ⟨_, rfl, p, CO, dx, [], rfl, hp, T.cl, T.n1, (by show 0 < 1000; decide), ?_⟩
    exact k _ ⟨dx, .non, upd_same, rfl⟩ (stepPut (p := p) (H := H)).2
/-! ### told_at, is_thickness -/
def spToldAt (CG CB CS : Addr) : Sp := fun vs H Q _ => ∃ (s : Addr) (T : Loft.Table) (x z what : Int), vs = [.ref s, .int z, .int what] ∧ SectAt CG CB CS H s T x ∧ GoodT T ∧ HM.Within T.xs x ∧ HM.Within T.zs z ∧ Q (.int (whatI T x z what)) H
theorem scToldAt : FnScope ["section", "z", "what"] ["section", "z", "what"] (defScope sToldAt) := ⟨rfl, rfl, rfl, by decide +kernel, rfl, by decide +kernel, by decide +kernel⟩
theorem ok_toldat {f CG CB CS : Addr} {fd : FuncData} (F : Fun K "told_at" "told_at" sToldAt f fd) (C : OCon mg) (MH : MtAt P w K mg base 3 CS "half_breadth" ["self", "z"] (spSTell CG CB CS halfI)) (MA : MtAt P w K mg base 3 CS "slope_along" ["self", "z"] (spSTell CG CB CS alongI)) (MU : MtAt P w K mg base 3 CS "slope_up" ["self", "z"] (spSTell CG CB CS upI)) :
    FnOk P w K mg base CX0 4 f fd ["section", "z", "what"] (spToldAt CG CB CS) := by
  refine F.ok scToldAt (fun vs H Q E h => ?_) (fun cdv A outer s H vs Q E hr h => ?_)
  · obtain ⟨s, T, x, z, what, rfl, _⟩ := h
    rfl
  · obtain ⟨s, T, x, z, what, rfl, S, G, hx, hz, k⟩ := h
    have S' := S
    obtain ⟨ds, gu, b1, b2, hs, _⟩ := S'
    refine ⟨_, pss_cons (ps_if (pt_cmpR op_eq (pv 2) (pe_gi C.half rfl) (nomark _)) (pss_one (ps_ret (pe_mt MH hr (pv 0) (pa_cons (pv 1) pa_nil)))) pss_nil)
      (pss_cons (ps_if (pt_cmpR op_eq (pv 2) (pe_gi C.along rfl) (nomark _)) (pss_one (ps_ret (pe_mt MA hr (pv 0) (pa_cons (pv 1) pa_nil)))) pss_nil)
      (pss_one (ps_ret (pe_mt MU hr (pv 0) (pa_cons (pv 1) pa_nil))))), ?_⟩
    unfold whatI at k
    refine ⟨_, rfl, rfl, _, rfl, ite2 (fun e => ?_) (fun e => ?_)⟩
    · have e' := of_decide_eq_true e
      injection e' with e'
      rw [if_pos e'] at k
      exact ⟨_, rfl, s, ds, _, rfl, hs, sf_no (by decide +kernel), _, rfl, s, T, x, z, rfl, S, G, hx, hz, k⟩
    rw [if_neg (fun z => e (decide_eq_true (congrArg V.int z)))] at k
    refine ⟨_, rfl, rfl, _, rfl, ite2 (fun e => ?_) (fun e => ?_)⟩
    · have e' := of_decide_eq_true e
      injection e' with e'
      rw [if_pos e'] at k
      exact ⟨_, rfl, s, ds, _, rfl, hs, sf_no (by decide +kernel), _, rfl, s, T, x, z, rfl, S, G, hx, hz, k⟩
    rw [if_neg (fun z => e (decide_eq_true (congrArg V.int z)))] at k
    exact ⟨_, rfl, s, ds, _, rfl, hs, sf_no (by decide +kernel), _, rfl, s, T, x, z, rfl, S, G, hx, hz, k⟩
def thickB (t : Int) : Bool := decide (0 ≤ t) && decide (t ≤ 1048575)
theorem thickB_spec (t : Int) : LoftHullSeed.thick t = !thickB t := by
  unfold LoftHullSeed.thick thickB Loft.isMeasure Loft.MOST
  by_cases h : 0 ≤ t
  · rw [decide_eq_false (show ¬ t < 0 by omega), decide_eq_true h, Bool.false_or, Bool.true_and]
    congr 1
    exact decide_eq_decide.mpr (by omega)
  · rw [decide_eq_true (show t < 0 by omega), decide_eq_false h]
    rfl
theorem thickB_bd {t : Int} (h : thickB t = true) : Bd 20 t := by
  unfold thickB at h
  rw [Bool.and_eq_true, decide_eq_true_eq, decide_eq_true_eq] at h
  exact bd20 (by omega)
def spIsThick : Sp := fun vs H Q _ => ∃ t : Int, vs = [.int t] ∧ Q (.bl (thickB t)) H
theorem scIsThick : FnScope ["t"] ["t"] (defScope sIsThick) := ⟨rfl, rfl, rfl, by decide +kernel, rfl, by decide +kernel, by decide +kernel⟩
theorem ok_isthick {f : Addr} {fd : FuncData} (F : Fun K "is_thickness" "is_thickness" sIsThick f fd) (C : TCon mg) : FnOk P w K mg base CX0 1 f fd ["t"] spIsThick := by
  refine F.ok scIsThick (fun vs H Q E h => ?_) (fun cdv A outer s H vs Q E hr h => ?_)
  · obtain ⟨t, rfl, _⟩ := h
    rfl
  · obtain ⟨t, rfl, k⟩ := h
    refine ⟨_, pss_one (ps_ret (pe_chain op_le op_le pe_int (pv 0) (pe_gi C.large rfl))), ?_⟩
    unfold thickB at k
    refine ⟨_, rfl, _, _, rfl, rfl, _, rfl, ite2 (fun e => ?_) (fun e => ?_)⟩
    · refine ⟨_, _, rfl, rfl, ?_⟩
      rw [e, Bool.true_and] at k
      exact k
    · rw [Bool.not_eq_true] at e
      rw [e, Bool.false_and] at k
      exact k
/-! ### refusal -/
def oV : Option Int → V
  | none => .non
  | some i => .int i
def refI (s : Option Loft.Table) (fit : Bool) (x z : Option Int) : Option Int := match s with
  | none => some (-3)
  | some T => if fit = false then some (-1) else if (x.any fun i => !inB T.xs i) = true then some (-4) else if (z.any fun i => !inB T.zs i) = true then some (-4) else none
def spORef (CG CB CH CO : Addr) : Sp := fun vs H Q _ => ∃ (b : Addr) (s : Option Loft.Table) (fit : Bool) (x z : Option Int), vs = [.ref b, .bl fit, oV x, oV z] ∧ BoatAt CG CB CH CO H b s ∧ Q (oV (refI s fit x z)) H
theorem scORef : FnScope ["self", "arguments_fit", "x", "z"] ["self", "arguments_fit", "x", "z"] (defScope sORef) := ⟨rfl, rfl, rfl, by decide +kernel, rfl, by decide +kernel, by decide +kernel⟩
theorem ok_oref {f CG CB CH CO : Addr} {fd : FuncData} (F : Fun K "refusal" "Boat.refusal" sORef f fd) (C : OCon mg) (T : OTxt K CO) (TH : HTxt K CH) (MH : MtAt P w K mg base 1 CG "holds" ["self", "place"] (spGHolds CG)) : FnOk P w K mg base CX0 2 f fd ["self", "arguments_fit", "x", "z"] (spORef CG CB CH CO) := by
  refine F.ok scORef (fun vs H Q E h => ?_) (fun cdv A outer s H vs Q E hr h => ?_)
  · obtain ⟨b, s, fit, x, z, rfl, _⟩ := h
    rfl
  · obtain ⟨b, s, fit, x, z, rfl, ⟨d, v, hb, hs⟩, k⟩ := h
    refine ⟨_, pss_cons (ps_if (pt_cmp (pc_isN (pe_fld (pv 0) rfl))) (pss_one (ps_ret (pe_gi C.notab rfl))) pss_nil)
      (pss_cons (ps_if (pt_not (pt_val (pv 1))) (pss_one (ps_ret (pe_gi C.wrong rfl))) pss_nil)
      (pss_cons (ps_if (pw_and (pt_cmp (pc_notN (pv 2))) (pw_and1 (pt_not (pt_val (pe_mt MH hr (pe_fld (pe_fld (pv 0) rfl) rfl) (pa_cons (pv 2) pa_nil)))))).pt (pss_one (ps_ret (pe_gi C.outs rfl))) pss_nil)
      (pss_cons (ps_if (pw_and (pt_cmp (pc_notN (pv 3))) (pw_and1 (pt_not (pt_val (pe_mt MH hr (pe_fld (pe_fld (pv 0) rfl) rfl) (pa_cons (pv 3) pa_nil)))))).pt (pss_one (ps_ret (pe_gi C.outs rfl))) pss_nil)
      (pss_one (ps_ret pe_non))))), ?_⟩
    refine ⟨_, rfl, b, CO, d, _, _, rfl, hb, T.cl, T.n1, boatF1, _, rfl, ?_⟩
    unfold refI at k
    cases s with
    | none =>
      have e : v = .non := hs
      subst e
      exact iteT k
    | some t =>
      obtain ⟨h, rfl, U, G⟩ := hs
      obtain ⟨dx, ga, gu, ll, ls, bs, cs, hh, GA, GU, _⟩ := U
      have GA' := GA
      have GU' := GU
      obtain ⟨da, _, _, _, hga, _⟩ := GA'
      obtain ⟨du, _, _, _, hgu, _⟩ := GU'
      refine iteF ⟨_, rfl, _, rfl, ?_⟩
      dsimp only at k
      cases fit with
      | false =>
        rw [if_pos rfl] at k
        exact iteT k
      | true =>
        rw [if_neg (by decide)] at k
        refine iteF ?_
        cases x with
        | none =>
          rw [if_neg (by intro z; cases z)] at k
          refine ⟨_, rfl, _, rfl, iteF (iteF ?_)⟩
          cases z with
          | none => exact ⟨_, rfl, _, rfl, iteF (iteF k)⟩
          | some zz =>
            refine ⟨_, rfl, _, rfl, iteT ⟨_, rfl, b, CO, d, _, _, rfl, hb, T.cl, T.n1, boatF1, h, CH, dx, _, _, rfl, hh, TH.cl, TH.n2, hf2, gu, du, _, rfl, hgu, gf_no (by decide +kernel), _, rfl, gu, _, zz, rfl, GU, G.gz, _, rfl, ?_⟩⟩
            cases c2 : inB t.zs zz with
            | true =>
              rw [show ((some zz).any fun i => !inB t.zs i) = false by show (!inB t.zs zz) = false; rw [c2]; rfl, if_neg (by decide)] at k
              exact iteF k
            | false =>
              rw [show ((some zz).any fun i => !inB t.zs i) = true by show (!inB t.zs zz) = true; rw [c2]; rfl, if_pos rfl] at k
              exact iteT k
        | some xx =>
          refine ⟨_, rfl, _, rfl, iteT ⟨_, rfl, b, CO, d, _, _, rfl, hb, T.cl, T.n1, boatF1, h, CH, dx, _, _, rfl, hh, TH.cl, TH.n1, hf1, ga, da, _, rfl, hga, gf_no (by decide +kernel), _, rfl, ga, _, xx, rfl, GA, G.gx, _, rfl, ?_⟩⟩
          cases c : inB t.xs xx with
          | true =>
            rw [show ((some xx).any fun i => !inB t.xs i) = false by show (!inB t.xs xx) = false; rw [c]; rfl, if_neg (by decide)] at k
            refine iteF ?_
            cases z with
            | none => exact ⟨_, rfl, _, rfl, iteF (iteF k)⟩
            | some zz =>
              refine ⟨_, rfl, _, rfl, iteT ⟨_, rfl, b, CO, d, _, _, rfl, hb, T.cl, T.n1, boatF1, h, CH, dx, _, _, rfl, hh, TH.cl, TH.n2, hf2, gu, du, _, rfl, hgu, gf_no (by decide +kernel), _, rfl, gu, _, zz, rfl, GU, G.gz, _, rfl, ?_⟩⟩
              cases c2 : inB t.zs zz with
              | true =>
                rw [show ((some zz).any fun i => !inB t.zs i) = false by show (!inB t.zs zz) = false; rw [c2]; rfl, if_neg (by decide)] at k
                exact iteF k
              | false =>
                rw [show ((some zz).any fun i => !inB t.zs i) = true by show (!inB t.zs zz) = true; rw [c2]; rfl, if_pos rfl] at k
                exact iteT k
          | false =>
            rw [show ((some xx).any fun i => !inB t.xs i) = true by show (!inB t.xs xx) = true; rw [c]; rfl, if_pos rfl] at k
            exact iteT k
end
end HP

set_option Elab.async false
set_option linter.all false
set_option maxRecDepth 100000
set_option maxHeartbeats 2000000
namespace HP
open PySem PySem.Spec PyProof.Rows L2 HB HM
/-- lo <= a name <= hi, as one value -/
theorem pe_betw {X : Cx} {a b c : Expr} {pos : Pos} {lo hi : Int} {i : Nat} (ha : PE X a (tC (.int lo))) (hb : PE X b (tVar i)) (hc : PE X c (tC (.int hi))) (hm : lastMarks [.LtE, .LtE] [b, c] = false := by with_unfolding_all rfl) :
    PE X (.Compare a [.LtE, .LtE] [b, c] pos) (fun σ H Q => tVar i σ H fun v H1 => ∃ z, v = .int z ∧ Q (.bl (decide (lo ≤ z) && decide (z ≤ hi))) H1) := by
  intro pins s σ H Q I h
  refine (pe_chain op_le op_le ha hb hc hm) pins s σ H Q I ?_
  obtain ⟨v, e, z, rfl, q⟩ := h
  refine ⟨_, e, _, _, rfl, rfl, _, rfl, ite2 (fun c => ?_) (fun c => ?_)⟩
  · refine ⟨_, _, rfl, rfl, ?_⟩
    rw [c, Bool.true_and] at q
    exact q
  · rw [Bool.not_eq_true] at c
    rw [c, Bool.false_and] at q
    exact q
theorem HullAt.kept' {CG CB CH h p C dx : Addr} {fs : List (Str × V)} {H H' : Hp} {T : Loft.Table} (U : HullAt CG CB CH H h T) (hp : H p = some (.ins C dx fs)) (n1 : fs.lookup ("places" : Str) = none) (n2 : fs.lookup ("ground" : Str) = none) (n3 : fs.lookup ("along" : Str) = none) (k : Kept p H H') : HullAt CG CB CH H' h T := by
  obtain ⟨d, ga, gu, ll, ls, bs, cs, h1, h2, h3, h4, h5, h6, h7⟩ := U
  have ne : ∀ {l : Addr} {ys : List V}, H l = some (.lst ys) → l ≠ p := fun h e => by rw [e, hp] at h; cases h
  exact ⟨d, ga, gu, ll, ls, bs, cs, k _ _ h1 (ne_ins "along" h1 hp hf1 n3), h2.kept' hp n1 k, h3.kept' hp n1 k, k _ _ h4 (ne h4), h5.imp (fun b l q => q.kept' hp n1 n2 k), k _ _ h6 (ne h6), h7.imp (fun b l q => q.kept' hp n1 n2 k)⟩
theorem Kept.free {p q : Addr} {H H' : Hp} {o : HO} (k : Kept p H H') (hp : H' p = some o) (hq : H' q = none) : H q = none := by
  cases e : H q with
  | none => rfl
  | some u =>
    by_cases c : q = p
    · rw [c, hp] at hq
      cases hq
    · rw [k _ _ e c] at hq
      cases hq
/-! ### the order of the refusals -/
section
variable {s : Option Loft.Table} {fit : Bool} {x z : Option Int} {place : Loft.Table → Bool} {g : Loft.Table → LoftHullSeed.Answer}
theorem of_refused {r : Int} (h : refI s fit x z = some r) (hp : ∀ T, s = some T → place T = ((!(x.any fun i => !inB T.xs i)) && !(z.any fun i => !inB T.zs i))) : LoftHullSeed.ofHull s (!fit) place g = [r] := by
  unfold refI at h
  unfold LoftHullSeed.ofHull
  cases s with
  | none =>
    injection h with h
    subst h
    rfl
  | some T =>
    have q := hp T rfl
    dsimp only at h ⊢
    cases fit with
    | false =>
      rw [if_pos rfl] at h
      injection h with h
      subst h
      rfl
    | true =>
      rw [if_neg (by decide)] at h
      rw [if_neg (show ¬ ((!true) = true) by decide)]
      by_cases c1 : (x.any fun i => !inB T.xs i) = true
      · rw [if_pos c1] at h
        injection h with h
        subst h
        rw [q, c1, Bool.not_true, Bool.false_and, if_pos rfl]
        rfl
      · rw [if_neg c1] at h
        by_cases c2 : (z.any fun i => !inB T.zs i) = true
        · rw [if_pos c2] at h
          injection h with h
          subst h
          rw [q, c2, Bool.not_true, Bool.and_false, if_pos rfl]
          rfl
        · rw [if_neg c2] at h
          cases h
theorem of_told (h : refI s fit x z = none) (hp : ∀ T, s = some T → place T = ((!(x.any fun i => !inB T.xs i)) && !(z.any fun i => !inB T.zs i))) :
    ∃ T, s = some T ∧ fit = true ∧ (∀ i, x = some i → HM.Within T.xs i) ∧ (∀ i, z = some i → HM.Within T.zs i) ∧ LoftHullSeed.ofHull s (!fit) place g = g T := by
  unfold refI at h
  cases s with
  | none => cases h
  | some T =>
    have q := hp T rfl
    dsimp only at h
    cases fit with
    | false =>
      rw [if_pos rfl] at h
      cases h
    | true =>
      rw [if_neg (by decide)] at h
      by_cases c1 : (x.any fun i => !inB T.xs i) = true
      · rw [if_pos c1] at h
        cases h
      · rw [if_neg c1] at h
        by_cases c2 : (z.any fun i => !inB T.zs i) = true
        · rw [if_pos c2] at h
          cases h
        · rw [Bool.not_eq_true] at c1 c2
          refine ⟨T, rfl, rfl, fun i e => ?_, fun i e => ?_, ?_⟩
          · subst e
            have : (!inB T.xs i) = false := c1
            rw [Bool.not_eq_false'] at this
            exact inB_iff.mp this
          · subst e
            have : (!inB T.zs i) = false := c2
            rw [Bool.not_eq_false'] at this
            exact inB_iff.mp this
          · unfold LoftHullSeed.ofHull
            dsimp only
            rw [if_neg (show ¬ ((!true) = true) by decide), q, c1, c2, if_neg (by decide)]
end
section
variable {P : Program} {w : World} {K : PySem.W.Frag} {mg : Str → Option Value} {base : Heap}
/-! ### make -/
def spOMake (K : PySem.W.Frag) (CG CB CH CO : Addr) : Sp := fun vs H Q _ => ∃ (b a0 a1 a2 : Addr) (s : Option Loft.Table) (xs zs ys : List Int), vs = [.ref b, .ref a0, .ref a1, .ref a2] ∧ BoatAt CG CB CH CO H b s ∧ Three K H a0 a1 a2 xs zs ys ∧
  ∀ (p : Addr) (H' : Hp), Kept b H H' → BoatAt CG CB CH CO H' b (LoftHullSeed.step s (.make xs zs ys)).1 → Ints H' p (LoftHullSeed.step s (.make xs zs ys)).2 → H p = none → Q (.ref p) H'
theorem scOMake : FnScope ["self", "places", "heights", "halves", "found"] ["self", "places", "heights", "halves"] (defScope sOMake) := ⟨rfl, rfl, rfl, by decide +kernel, rfl, by decide +kernel, by decide +kernel⟩
theorem ok_omake {f CG CB CH CO : Addr} {fd : FuncData} (F : Fun K "make" "Boat.make" sOMake f fd) (C : OCon mg) (CT : TCon mg) (T : OTxt K CO) (FV : FnAt P w K mg base 3 "verdict" ["places", "heights", "halves"] (spVer K)) (MH : MkAt P w K mg base 6 "Hull" CH ["self", "places", "heights", "halves"] (spHInit K CG CB CH)) :
    FnOk P w K mg base CX0 8 f fd ["self", "places", "heights", "halves"] (spOMake K CG CB CH CO) := by
  refine F.ok scOMake (fun vs H Q E h => ?_) (fun cdv A outer s H vs Q E hr h => ?_)
  · obtain ⟨b, a0, a1, a2, s, xs, zs, ys, rfl, _⟩ := h
    rfl
  · obtain ⟨b, a0, a1, a2, s, xs, zs, ys, rfl, BO, TH, k⟩ := h
    refine ⟨_, pss_cons (ps_set (i := 4) scOMake.nd rfl (Or.inl rfl) (pe_fn FV (hr.mono (by decide)) rfl (pa_cons (pv 1) (pa_cons (pv 2) (pa_cons (pv 3) pa_nil)))))
      (pss_cons (ps_if (pt_cmpR op_eq (pe_ix ix_list (pv 4) pe_int (fun _ _ => rfl)) (pe_gi CT.good rfl) (nomark _)) (pss_one (ps_fld (pv 0) (pe_mk MH hr rfl (pa_cons (pv 1) (pa_cons (pv 2) (pa_cons (pv 3) pa_nil)))) rfl)) pss_nil)
      (pss_one (ps_ret (pe_op op_cat (pe_lst (pa_cons (pe_gi C.done rfl) pa_nil)) (pv 4))))), ?_⟩
    refine ⟨_, rfl, _, rfl, _, rfl, a0, a1, a2, xs, zs, ys, rfl, TH, fun lf H1 s1 hf => ?_⟩
    have J := judge_eq xs zs ys
    have es : LoftHullSeed.step s (.make xs zs ys) = (match Loft.judge xs zs ys with
      | .error f => (s, LoftHullSeed.tells [(f.1 : Int), (f.2 : Int)])
      | .ok T => (some T, LoftHullSeed.tells [0, 0])) := rfl
    rw [es] at k
    have BO1 := BO.same s1
    have BO1' := BO1
    obtain ⟨d, v, hb, _⟩ := BO1'
    cases ej : Loft.judge xs zs ys with
    | error e =>
      rw [ej] at J k
      obtain ⟨ev, ne⟩ := J
      rw [ev] at hf
      refine ⟨_, rfl, lf, _, _, _, rfl, rfl, SqL.of hf, at_of (j := 0) (v := V.int (e.1 : Int)) rfl rfl, rfl, _, rfl, ite2 (fun c => ?_) (fun c => ?_)⟩
      · have c' := of_decide_eq_true c
        injection c' with c'
        exact absurd c' ne
      refine ⟨(by show 1 ≤ sizeLine; decide), fun l hl => ?_⟩
      refine ⟨_, rfl, l, lf, _, _, rfl, rfl, upd_same, (Same.new hl) _ _ hf, (by show 3 ≤ sizeLine; decide), fun p hp => ?_⟩
      have sN := (s1.trans (Same.new (o := .lst [.int 0]) hl)).trans (Same.new (o := .lst [.int 0, .int (e.1 : Int), .int (e.2 : Int)]) hp)
      exact k p _ (fun b o e _ => sN b o e) (BO.same sN) upd_same ((s1.trans (Same.new hl)).free hp)
    | ok t =>
      rw [ej] at J k
      obtain ⟨ev, rfl, gx, gz, hlen, hbd⟩ := J
      rw [ev] at hf
      refine ⟨_, rfl, lf, _, _, _, rfl, rfl, SqL.of hf, at_of (j := 0) (v := V.int 0) rfl rfl, rfl, _, rfl, ite2 (fun c => ?_) (fun c => absurd (decide_eq_true rfl) c)⟩
      refine ⟨_, rfl, _, rfl, _, rfl, fun h dh hh hd ne => ?_⟩
      have sa : Same H1 (upd (upd H1 dh (.own h)) h (.ins CH dh [])) := (Same.new hd).trans (Same.new (by rw [upd_ne (Ne.symm ne)]; exact hh))
      have TH1 := (TH.same s1).same sa
      refine ⟨h, dh, a0, a1, a2, xs, zs, ys, rfl, upd_same, TH1.a, TH1.b, TH1.c, gx, gz, hlen, hbd, fun H2 U kp => ⟨rfl, ?_⟩⟩
      have s2 : Same H1 H2 := Same.made hh hd kp
      have hb2 := s2 _ _ hb
      refine ⟨_, rfl, b, CO, d, _, rfl, hb2, T.cl, T.n1, (by show 1 < 1000; decide), ?_⟩
      rw [boatF_put]
      obtain ⟨p3, k3⟩ := stepPut (p := b) (H := H2) (u := .ins CO d (boatF (.ref h)))
      have U3 := U.kept' hb2 (boatF_no (by decide +kernel)) (boatF_no (by decide +kernel)) (boatF_no (by decide +kernel)) k3
      have hf3 := k3 _ _ (s2 _ _ hf) (ne_of (s2 _ _ hf) hb2 (by intro z; cases z))
      have k03 : Kept b H (upd H2 b (.ins CO d (boatF (.ref h)))) := (Kept.refl.same (s1.trans s2)).trans k3
      generalize upd H2 b (.ins CO d (boatF (.ref h))) = H3 at p3 k3 U3 hf3 k03 ⊢
      refine ⟨(by show 1 ≤ sizeLine; decide), fun l hl => ?_⟩
      refine ⟨_, rfl, l, lf, _, _, rfl, rfl, upd_same, (Same.new hl) _ _ hf3, (by show 3 ≤ sizeLine; decide), fun p hp => ?_⟩
      have sN := (Same.new (o := .lst [.int 0]) hl).trans (Same.new (o := .lst [.int 0, .int 0, .int 0]) hp)
      have BO3 : BoatAt CG CB CH CO H3 b (some (tabOf xs zs ys)) := ⟨d, _, p3, h, rfl, U3, tabOf_good gx gz hlen hbd⟩
      exact k p _ (k03.same sN) (BO3.same sN) upd_same ((k03.same (Same.new hl)).free ((Same.new hl) _ _ p3) hp)
/-! ### at -/
def fitB (what : Int) : Bool := decide (0 ≤ what) && decide (what ≤ 2)
theorem fitB_spec (what : Int) : LoftHullSeed.within what 3 = fitB what := by
  unfold LoftHullSeed.within fitB
  congr 1
  exact decide_eq_decide.mpr (by omega)
def spOAt (CG CB CH CO : Addr) : Sp := fun vs H Q _ => ∃ (b : Addr) (s : Option Loft.Table) (x z what : Int), vs = [.ref b, .int x, .int z, .int what] ∧ BoatAt CG CB CH CO H b s ∧
  ∀ (p : Addr) (H' : Hp), Same H H' → Ints H' p (LoftHullSeed.step s (.at_ x z what)).2 → H p = none → Q (.ref p) H'
theorem scOAt : FnScope ["self", "x", "z", "what", "refused", "section"] ["self", "x", "z", "what"] (defScope sOAt) := ⟨rfl, rfl, rfl, by decide +kernel, rfl, by decide +kernel, by decide +kernel⟩
theorem ok_oat {f CG CB CS CH CO : Addr} {fd : FuncData} (F : Fun K "at" "Boat.at" sOAt f fd) (C : OCon mg) (T : OTxt K CO) (MR : MtAt P w K mg base 2 CO "refusal" ["self", "arguments_fit", "x", "z"] (spORef CG CB CH CO)) (MS : MtAt P w K mg base 8 CH "section" ["self", "x"] (spHSect CG CB CS CH)) (FT : FnAt P w K mg base 4 "told_at" ["section", "z", "what"] (spToldAt CG CB CS)) (FL : FnAt P w K mg base 2 "lowest_terms" ["over", "under"] spLow) (MD : MtAt P w K mg base 3 CS "divisor" ["self", "z"] (spSTell CG CB CS divI)) :
    FnOk P w K mg base CX0 9 f fd ["self", "x", "z", "what"] (spOAt CG CB CH CO) := by
  refine F.ok scOAt (fun vs H Q E h => ?_) (fun cdv A outer s H vs Q E hr h => ?_)
  · obtain ⟨b, s, x, z, what, rfl, _⟩ := h
    rfl
  · obtain ⟨b, s, x, z, what, rfl, BO, k⟩ := h
    have BO' := BO
    obtain ⟨d, v, hb, hv⟩ := BO'
    refine ⟨_, pss_cons (ps_set (i := 4) scOAt.nd rfl (Or.inl rfl) (pe_mt MR (hr.mono (by decide)) (pv 0) (pa_cons (pe_betw (pe_gi C.half rfl) (pv 3) (pe_gi C.up rfl)) (pa_cons (pv 1) (pa_cons (pv 2) pa_nil)))))
      (pss_cons (ps_if (pt_cmp (pc_notN (pv 4))) (pss_one (ps_ret (pe_lst (pa_cons (pv 4) pa_nil)))) pss_nil)
      (pss_cons (ps_set (i := 5) scOAt.nd rfl (Or.inl rfl) (pe_mt MS hr (pe_fld (pv 0) rfl) (pa_cons (pv 1) pa_nil)))
      (pss_one (ps_ret (pe_op op_cat (pe_lst (pa_cons (pe_gi C.done rfl) pa_nil)) (pe_fn FL (hr.mono (by decide)) rfl (pa_cons (pe_fn FT (hr.mono (by decide)) rfl (pa_cons (pv 5) (pa_cons (pv 2) (pa_cons (pv 3) pa_nil)))) (pa_cons (pe_mt MD (hr.mono (by decide)) (pv 5) (pa_cons (pv 2) pa_nil)) pa_nil)))))))), ?_⟩
    refine ⟨_, rfl, b, d, _, rfl, hb, boatF_no (by decide +kernel), _, rfl, what, rfl, _, rfl, _, rfl, b, s, (fitB what), (some x), (some z), rfl, BO, ?_⟩
    have hp : ∀ T, s = some T → ((fun (T : Loft.Table) => T.hasX x && T.hasZ z) T) = ((!(Option.any (fun i => !inB T.xs i) (some x))) && !(Option.any (fun i => !inB T.zs i) (some z))) := fun T e => by
      subst e
      obtain ⟨h, _, _, G⟩ := hv
      show (T.hasX x && T.hasZ z) = _
      rw [hasX_eq G.gx.ri.two, hasZ_eq G.gz.ri.two]
      show _ = ((!!inB T.xs x) && !!inB T.zs z)
      rw [Bool.not_not, Bool.not_not]
    have e0 : (LoftHullSeed.step s (.at_ x z what)).2 = LoftHullSeed.ofHull s (!(fitB what)) (fun (T : Loft.Table) => T.hasX x && T.hasZ z) (fun (T : Loft.Table) => LoftHullSeed.tells (LoftHullSeed.number (T.up (x : Rat) (z : Rat) (if what = 1 then 1 else 0) (if what = 2 then 1 else 0)))) := by
      show LoftHullSeed.ofHull s (!LoftHullSeed.within what 3) _ _ = _
      rw [fitB_spec]
    rw [e0] at k
    cases er : refI s (fitB what) (some x) (some z) with
    | some r =>
      rw [of_refused er hp] at k
      refine ⟨_, rfl, _, rfl, iteT ⟨_, rfl, (by show 1 ≤ sizeLine; decide), fun l hl => k l _ (Same.new hl) upd_same hl⟩⟩
    | none =>
      obtain ⟨t, rfl, hfit, hx, hz, ea⟩ := of_told (g := fun (T : Loft.Table) => LoftHullSeed.tells (LoftHullSeed.number (T.up (x : Rat) (z : Rat) (if what = 1 then 1 else 0) (if what = 2 then 1 else 0)))) er hp
      rw [ea] at k
      obtain ⟨h, rfl, U, G⟩ := hv
      have U' := U
      obtain ⟨dx, ga, gu, ll, ls, bs, cs, hh, _⟩ := U'
      have hx := hx _ rfl
      have hz := hz _ rfl
      refine ⟨_, rfl, _, rfl, iteF ?_⟩
      have hw : 0 ≤ what ∧ what ≤ 2 := by
        unfold fitB at hfit
        rw [Bool.and_eq_true, decide_eq_true_eq, decide_eq_true_eq] at hfit
        exact hfit
      rw [at_eq hw G hx hz] at k
      refine ⟨_, rfl, b, CO, d, _, _, rfl, hb, T.cl, T.n1, boatF1, h, dx, _, rfl, hh, hf_no (by decide +kernel), _, rfl, h, t, x, rfl, U, G, hx, fun st H1 s1 S => ?_⟩
      refine ⟨(by show 1 ≤ sizeLine; decide), fun l hl => ?_⟩
      have S2 := S.same (Same.new (o := .lst [.int 0]) hl)
      have S2' := S2
      obtain ⟨ds, gu', b1, b2, hs, _⟩ := S2'
      refine ⟨_, rfl, _, rfl, _, rfl, st, t, x, z, what, rfl, S2, G, hx, hz, ?_⟩
      refine ⟨_, rfl, st, ds, _, rfl, hs, sf_no (by decide +kernel), _, rfl, st, t, x, z, rfl, S2, G, hx, hz, ?_⟩
      refine ⟨_, _, rfl, divI_pos G.good hx hz, (dvi_bd G).mono (by decide), fun l2 hl2 => ?_⟩
      have n2 : l ≠ l2 := ne_of_none upd_same hl2
      refine ⟨l, l2, _, _, rfl, rfl, by rw [upd_ne n2]; exact upd_same, upd_same, (by show 3 ≤ sizeLine; decide), fun p hp => ?_⟩
      have sN := (s1.trans (Same.new (o := .lst [.int 0]) hl)).trans (Same.new (o := .lst ((lowL (whatI t x z what) (divI t x z)).map V.int)) hl2)
      exact k p _ (sN.trans (Same.new hp)) upd_same (sN.free hp)
/-! ### near -/
def spONear (CG CB CH CO : Addr) : Sp := fun vs H Q _ => ∃ (b : Addr) (s : Option Loft.Table) (x z : Int), vs = [.ref b, .int x, .int z] ∧ BoatAt CG CB CH CO H b s ∧
  ∀ (p : Addr) (H' : Hp), Same H H' → Ints H' p (LoftHullSeed.step s (.near x z)).2 → H p = none → Q (.ref p) H'
theorem scONear : FnScope ["self", "x", "z", "refused"] ["self", "x", "z"] (defScope sONear) := ⟨rfl, rfl, rfl, by decide +kernel, rfl, by decide +kernel, by decide +kernel⟩
theorem ok_onear {f CG CB CS CH CO : Addr} {fd : FuncData} (F : Fun K "near" "Boat.near" sONear f fd) (C : OCon mg) (T : OTxt K CO) (MR : MtAt P w K mg base 2 CO "refusal" ["self", "arguments_fit", "x", "z"] (spORef CG CB CH CO)) (MS : MtAt P w K mg base 8 CH "section" ["self", "x"] (spHSect CG CB CS CH)) (MN : MtAt P w K mg base 4 CS "near" ["self", "z"] (spSTell CG CB CS nearS)) :
    FnOk P w K mg base CX0 9 f fd ["self", "x", "z"] (spONear CG CB CH CO) := by
  refine F.ok scONear (fun vs H Q E h => ?_) (fun cdv A outer s H vs Q E hr h => ?_)
  · obtain ⟨b, s, x, z, rfl, _⟩ := h
    rfl
  · obtain ⟨b, s, x, z, rfl, BO, k⟩ := h
    have BO' := BO
    obtain ⟨d, v, hb, hv⟩ := BO'
    refine ⟨_, pss_cons (ps_set (i := 3) scONear.nd rfl (Or.inl rfl) (pe_mt MR (hr.mono (by decide)) (pv 0) (pa_cons pe_bl (pa_cons (pv 1) (pa_cons (pv 2) pa_nil)))))
      (pss_cons (ps_if (pt_cmp (pc_notN (pv 3))) (pss_one (ps_ret (pe_lst (pa_cons (pv 3) pa_nil)))) pss_nil)
      (pss_one (ps_ret (pe_lst (pa_cons (pe_gi C.done rfl) (pa_cons (pe_mt MN (hr.mono (by decide)) (pe_mt MS hr (pe_fld (pv 0) rfl) (pa_cons (pv 1) pa_nil)) (pa_cons (pv 2) pa_nil)) pa_nil)))))), ?_⟩
    refine ⟨_, rfl, b, d, _, rfl, hb, boatF_no (by decide +kernel), _, rfl, _, rfl, b, s, true, (some x), (some z), rfl, BO, ?_⟩
    have hp : ∀ T, s = some T → ((fun (T : Loft.Table) => T.hasX x && T.hasZ z) T) = ((!(Option.any (fun i => !inB T.xs i) (some x))) && !(Option.any (fun i => !inB T.zs i) (some z))) := fun T e => by
      subst e
      obtain ⟨h, _, _, G⟩ := hv
      show (T.hasX x && T.hasZ z) = _
      rw [hasX_eq G.gx.ri.two, hasZ_eq G.gz.ri.two]
      show _ = ((!!inB T.xs x) && !!inB T.zs z)
      rw [Bool.not_not, Bool.not_not]
    have e0 : (LoftHullSeed.step s (.near x z)).2 = LoftHullSeed.ofHull s (!true) (fun (T : Loft.Table) => T.hasX x && T.hasZ z) (fun (T : Loft.Table) => LoftHullSeed.tells [Loft.nearest (T.up (x : Rat) (z : Rat) 0 0)]) := rfl
    rw [e0] at k
    cases er : refI s true (some x) (some z) with
    | some r =>
      rw [of_refused er hp] at k
      refine ⟨_, rfl, _, rfl, iteT ⟨_, rfl, (by show 1 ≤ sizeLine; decide), fun l hl => k l _ (Same.new hl) upd_same hl⟩⟩
    | none =>
      obtain ⟨t, rfl, hfit, hx, hz, ea⟩ := of_told (g := fun (T : Loft.Table) => LoftHullSeed.tells [Loft.nearest (T.up (x : Rat) (z : Rat) 0 0)]) er hp
      rw [ea] at k
      obtain ⟨h, rfl, U, G⟩ := hv
      have U' := U
      obtain ⟨dx, ga, gu, ll, ls, bs, cs, hh, _⟩ := U'
      have hx := hx _ rfl
      have hz := hz _ rfl
      refine ⟨_, rfl, _, rfl, iteF ?_⟩
      rw [near_eq G hx hz] at k
      refine ⟨_, rfl, b, CO, d, _, _, rfl, hb, T.cl, T.n1, boatF1, h, dx, _, rfl, hh, hf_no (by decide +kernel), _, rfl, h, t, x, rfl, U, G, hx, fun st H1 s1 S => ?_⟩
      have S' := S
      obtain ⟨ds, gu', b1, b2, hs, _⟩ := S'
      refine ⟨st, ds, _, rfl, hs, sf_no (by decide +kernel), _, rfl, st, t, x, z, rfl, S, G, hx, hz, ?_⟩
      exact ⟨(by show 2 ≤ sizeLine; decide), fun l hl => k l _ (s1.trans (Same.new hl)) upd_same (s1.free hl)⟩
/-! ### bevel -/
def spOBevel (CG CB CH CO : Addr) : Sp := fun vs H Q _ => ∃ (b : Addr) (s : Option Loft.Table) (x z : Int), vs = [.ref b, .int x, .int z] ∧ BoatAt CG CB CH CO H b s ∧
  ∀ (p : Addr) (H' : Hp), Same H H' → Ints H' p (LoftHullSeed.step s (.bevel x z)).2 → H p = none → Q (.ref p) H'
theorem scOBevel : FnScope ["self", "x", "z", "refused"] ["self", "x", "z"] (defScope sOBevel) := ⟨rfl, rfl, rfl, by decide +kernel, rfl, by decide +kernel, by decide +kernel⟩
theorem ok_obevel {f CG CB CS CH CO : Addr} {fd : FuncData} (F : Fun K "bevel" "Boat.bevel" sOBevel f fd) (C : OCon mg) (T : OTxt K CO) (MR : MtAt P w K mg base 2 CO "refusal" ["self", "arguments_fit", "x", "z"] (spORef CG CB CH CO)) (MS : MtAt P w K mg base 8 CH "section" ["self", "x"] (spHSect CG CB CS CH)) (MN : MtAt P w K mg base 4 CS "bevel" ["self", "z"] (spSTell CG CB CS bevelS)) :
    FnOk P w K mg base CX0 9 f fd ["self", "x", "z"] (spOBevel CG CB CH CO) := by
  refine F.ok scOBevel (fun vs H Q E h => ?_) (fun cdv A outer s H vs Q E hr h => ?_)
  · obtain ⟨b, s, x, z, rfl, _⟩ := h
    rfl
  · obtain ⟨b, s, x, z, rfl, BO, k⟩ := h
    have BO' := BO
    obtain ⟨d, v, hb, hv⟩ := BO'
    refine ⟨_, pss_cons (ps_set (i := 3) scOBevel.nd rfl (Or.inl rfl) (pe_mt MR (hr.mono (by decide)) (pv 0) (pa_cons pe_bl (pa_cons (pv 1) (pa_cons (pv 2) pa_nil)))))
      (pss_cons (ps_if (pt_cmp (pc_notN (pv 3))) (pss_one (ps_ret (pe_lst (pa_cons (pv 3) pa_nil)))) pss_nil)
      (pss_one (ps_ret (pe_lst (pa_cons (pe_gi C.done rfl) (pa_cons (pe_mt MN (hr.mono (by decide)) (pe_mt MS hr (pe_fld (pv 0) rfl) (pa_cons (pv 1) pa_nil)) (pa_cons (pv 2) pa_nil)) pa_nil)))))), ?_⟩
    refine ⟨_, rfl, b, d, _, rfl, hb, boatF_no (by decide +kernel), _, rfl, _, rfl, b, s, true, (some x), (some z), rfl, BO, ?_⟩
    have hp : ∀ T, s = some T → ((fun (T : Loft.Table) => T.hasX x && T.hasZ z) T) = ((!(Option.any (fun i => !inB T.xs i) (some x))) && !(Option.any (fun i => !inB T.zs i) (some z))) := fun T e => by
      subst e
      obtain ⟨h, _, _, G⟩ := hv
      show (T.hasX x && T.hasZ z) = _
      rw [hasX_eq G.gx.ri.two, hasZ_eq G.gz.ri.two]
      show _ = ((!!inB T.xs x) && !!inB T.zs z)
      rw [Bool.not_not, Bool.not_not]
    have e0 : (LoftHullSeed.step s (.bevel x z)).2 = LoftHullSeed.ofHull s (!true) (fun (T : Loft.Table) => T.hasX x && T.hasZ z) (fun (T : Loft.Table) => LoftHullSeed.tells [Loft.bevel (T.up (x : Rat) (z : Rat) 1 0)]) := rfl
    rw [e0] at k
    cases er : refI s true (some x) (some z) with
    | some r =>
      rw [of_refused er hp] at k
      refine ⟨_, rfl, _, rfl, iteT ⟨_, rfl, (by show 1 ≤ sizeLine; decide), fun l hl => k l _ (Same.new hl) upd_same hl⟩⟩
    | none =>
      obtain ⟨t, rfl, hfit, hx, hz, ea⟩ := of_told (g := fun (T : Loft.Table) => LoftHullSeed.tells [Loft.bevel (T.up (x : Rat) (z : Rat) 1 0)]) er hp
      rw [ea] at k
      obtain ⟨h, rfl, U, G⟩ := hv
      have U' := U
      obtain ⟨dx, ga, gu, ll, ls, bs, cs, hh, _⟩ := U'
      have hx := hx _ rfl
      have hz := hz _ rfl
      refine ⟨_, rfl, _, rfl, iteF ?_⟩
      rw [bevel_eq G hx hz] at k
      refine ⟨_, rfl, b, CO, d, _, _, rfl, hb, T.cl, T.n1, boatF1, h, dx, _, rfl, hh, hf_no (by decide +kernel), _, rfl, h, t, x, rfl, U, G, hx, fun st H1 s1 S => ?_⟩
      have S' := S
      obtain ⟨ds, gu', b1, b2, hs, _⟩ := S'
      refine ⟨st, ds, _, rfl, hs, sf_no (by decide +kernel), _, rfl, st, t, x, z, rfl, S, G, hx, hz, ?_⟩
      exact ⟨(by show 2 ≤ sizeLine; decide), fun l hl => k l _ (s1.trans (Same.new hl)) upd_same (s1.free hl)⟩
/-! ### inside -/
def spOIns (CG CB CH CO : Addr) : Sp := fun vs H Q _ => ∃ (b : Addr) (s : Option Loft.Table) (x z t : Int), vs = [.ref b, .int x, .int z, .int t] ∧ BoatAt CG CB CH CO H b s ∧
  ∀ (p : Addr) (H' : Hp), Same H H' → Ints H' p (LoftHullSeed.step s (.inside x z t)).2 → H p = none → Q (.ref p) H'
theorem scOIns : FnScope ["self", "x", "z", "t", "refused"] ["self", "x", "z", "t"] (defScope sOIns) := ⟨rfl, rfl, rfl, by decide +kernel, rfl, by decide +kernel, by decide +kernel⟩
theorem ok_oins {f CG CB CS CH CO : Addr} {fd : FuncData} (F : Fun K "inside" "Boat.inside" sOIns f fd) (C : OCon mg) (T : OTxt K CO) (MR : MtAt P w K mg base 2 CO "refusal" ["self", "arguments_fit", "x", "z"] (spORef CG CB CH CO)) (FK : FnAt P w K mg base 1 "is_thickness" ["t"] spIsThick) (MS : MtAt P w K mg base 8 CH "section" ["self", "x"] (spHSect CG CB CS CH)) (MI : MtAt P w K mg base 4 CS "inside" ["self", "z", "t"] (spSIns CG CB CS)) :
    FnOk P w K mg base CX0 9 f fd ["self", "x", "z", "t"] (spOIns CG CB CH CO) := by
  refine F.ok scOIns (fun vs H Q E h => ?_) (fun cdv A outer s H vs Q E hr h => ?_)
  · obtain ⟨b, s, x, z, t, rfl, _⟩ := h
    rfl
  · obtain ⟨b, s, x, z, t, rfl, BO, k⟩ := h
    have BO' := BO
    obtain ⟨d, v, hb, hv⟩ := BO'
    refine ⟨_, pss_cons (ps_set (i := 4) scOIns.nd rfl (Or.inl rfl) (pe_mt MR (hr.mono (by decide)) (pv 0) (pa_cons (pe_fn FK (hr.mono (by decide)) rfl (pa_cons (pv 3) pa_nil)) (pa_cons (pv 1) (pa_cons (pv 2) pa_nil)))))
      (pss_cons (ps_if (pt_cmp (pc_notN (pv 4))) (pss_one (ps_ret (pe_lst (pa_cons (pv 4) pa_nil)))) pss_nil)
      (pss_one (ps_ret (pe_lst (pa_cons (pe_gi C.done rfl) (pa_cons (pe_mt MI (hr.mono (by decide)) (pe_mt MS hr (pe_fld (pv 0) rfl) (pa_cons (pv 1) pa_nil)) (pa_cons (pv 2) (pa_cons (pv 3) pa_nil))) pa_nil)))))), ?_⟩
    refine ⟨_, rfl, b, d, _, rfl, hb, boatF_no (by decide +kernel), _, rfl, t, rfl, _, rfl, _, rfl, b, s, (thickB t), (some x), (some z), rfl, BO, ?_⟩
    have hp : ∀ T, s = some T → ((fun (T : Loft.Table) => T.hasX x && T.hasZ z) T) = ((!(Option.any (fun i => !inB T.xs i) (some x))) && !(Option.any (fun i => !inB T.zs i) (some z))) := fun T e => by
      subst e
      obtain ⟨h, _, _, G⟩ := hv
      show (T.hasX x && T.hasZ z) = _
      rw [hasX_eq G.gx.ri.two, hasZ_eq G.gz.ri.two]
      show _ = ((!!inB T.xs x) && !!inB T.zs z)
      rw [Bool.not_not, Bool.not_not]
    have e0 : (LoftHullSeed.step s (.inside x z t)).2 = LoftHullSeed.ofHull s (!(thickB t)) (fun (T : Loft.Table) => T.hasX x && T.hasZ z) (fun (T : Loft.Table) => LoftHullSeed.tells [T.inside (x : Rat) (z : Rat) (t : Rat)]) := by
      show LoftHullSeed.ofHull s (LoftHullSeed.thick t) _ _ = _
      rw [thickB_spec]
    rw [e0] at k
    cases er : refI s (thickB t) (some x) (some z) with
    | some r =>
      rw [of_refused er hp] at k
      refine ⟨_, rfl, _, rfl, iteT ⟨_, rfl, (by show 1 ≤ sizeLine; decide), fun l hl => k l _ (Same.new hl) upd_same hl⟩⟩
    | none =>
      obtain ⟨t', rfl, hfit, hx, hz, ea⟩ := of_told (g := fun (T : Loft.Table) => LoftHullSeed.tells [T.inside (x : Rat) (z : Rat) (t : Rat)]) er hp
      rw [ea] at k
      obtain ⟨h, rfl, U, G⟩ := hv
      have U' := U
      obtain ⟨dx, ga, gu, ll, ls, bs, cs, hh, _⟩ := U'
      have hx := hx _ rfl
      have hz := hz _ rfl
      refine ⟨_, rfl, _, rfl, iteF ?_⟩
      rw [inside_eq G hx hz] at k
      refine ⟨_, rfl, b, CO, d, _, _, rfl, hb, T.cl, T.n1, boatF1, h, dx, _, rfl, hh, hf_no (by decide +kernel), _, rfl, h, t', x, rfl, U, G, hx, fun st H1 s1 S => ?_⟩
      have S' := S
      obtain ⟨ds, gu', b1, b2, hs, _⟩ := S'
      refine ⟨st, ds, _, rfl, hs, sf_no (by decide +kernel), _, rfl, _, rfl, st, t', x, z, t, rfl, S, G, hx, hz, thickB_bd hfit, ?_⟩
      exact ⟨(by show 2 ≤ sizeLine; decide), fun l hl => k l _ (s1.trans (Same.new hl)) upd_same (s1.free hl)⟩
/-! ### frame -/
def spOFrame (CG CB CH CO : Addr) : Sp := fun vs H Q _ => ∃ (b : Addr) (s : Option Loft.Table) (x t : Int), vs = [.ref b, .int x, .int t] ∧ BoatAt CG CB CH CO H b s ∧
  ∀ (p : Addr) (H' : Hp), Same H H' → Ints H' p (LoftHullSeed.step s (.frame x t)).2 → H p = none → Q (.ref p) H'
theorem scOFrame : FnScope ["self", "x", "t", "refused"] ["self", "x", "t"] (defScope sOFrame) := ⟨rfl, rfl, rfl, by decide +kernel, rfl, by decide +kernel, by decide +kernel⟩
theorem ok_oframe {f CG CB CS CH CO : Addr} {fd : FuncData} (F : Fun K "frame" "Boat.frame" sOFrame f fd) (C : OCon mg) (T : OTxt K CO) (MR : MtAt P w K mg base 2 CO "refusal" ["self", "arguments_fit", "x", "z"] (spORef CG CB CH CO)) (FK : FnAt P w K mg base 1 "is_thickness" ["t"] spIsThick) (MF : MtAt P w K mg base 9 CH "frame" ["self", "x", "t"] (spHFrame CG CB CH)) :
    FnOk P w K mg base CX0 10 f fd ["self", "x", "t"] (spOFrame CG CB CH CO) := by
  refine F.ok scOFrame (fun vs H Q E h => ?_) (fun cdv A outer s H vs Q E hr h => ?_)
  · obtain ⟨b, s, x, t, rfl, _⟩ := h
    rfl
  · obtain ⟨b, s, x, t, rfl, BO, k⟩ := h
    have BO' := BO
    obtain ⟨d, v, hb, hv⟩ := BO'
    refine ⟨_, pss_cons (ps_set (i := 3) scOFrame.nd rfl (Or.inl rfl) (pe_mt MR (hr.mono (by decide)) (pv 0) (pa_cons (pe_fn FK (hr.mono (by decide)) rfl (pa_cons (pv 2) pa_nil)) (pa_cons (pv 1) (pa_cons pe_non pa_nil)))))
      (pss_cons (ps_if (pt_cmp (pc_notN (pv 3))) (pss_one (ps_ret (pe_lst (pa_cons (pv 3) pa_nil)))) pss_nil)
      (pss_one (ps_ret (pe_op op_cat (pe_lst (pa_cons (pe_gi C.done rfl) pa_nil)) (pe_mt MF hr (pe_fld (pv 0) rfl) (pa_cons (pv 1) (pa_cons (pv 2) pa_nil))))))), ?_⟩
    refine ⟨_, rfl, b, d, _, rfl, hb, boatF_no (by decide +kernel), _, rfl, t, rfl, _, rfl, b, s, (thickB t), (some x), (none : Option Int), rfl, BO, ?_⟩
    have hp : ∀ T, s = some T → ((fun (T : Loft.Table) => T.hasX x) T) = ((!(Option.any (fun i => !inB T.xs i) (some x))) && !(Option.any (fun i => !inB T.zs i) (none : Option Int))) := fun T e => by
      subst e
      obtain ⟨h, _, _, G⟩ := hv
      show T.hasX x = _
      rw [hasX_eq G.gx.ri.two]
      show _ = ((!!inB T.xs x) && true)
      rw [Bool.not_not, Bool.and_true]
    have e0 : (LoftHullSeed.step s (.frame x t)).2 = LoftHullSeed.ofHull s (!(thickB t)) (fun (T : Loft.Table) => T.hasX x) (fun (T : Loft.Table) => LoftHullSeed.tells ((T.frame (x : Rat) (t : Rat)).flatMap fun (u : Int × Int) => [u.1, u.2])) := by
      show LoftHullSeed.ofHull s (LoftHullSeed.thick t) _ _ = _
      rw [thickB_spec]
    rw [e0] at k
    cases er : refI s (thickB t) (some x) (none : Option Int) with
    | some r =>
      rw [of_refused er hp] at k
      refine ⟨_, rfl, _, rfl, iteT ⟨_, rfl, (by show 1 ≤ sizeLine; decide), fun l hl => k l _ (Same.new hl) upd_same hl⟩⟩
    | none =>
      obtain ⟨t', rfl, hfit, hx, hz, ea⟩ := of_told (g := fun (T : Loft.Table) => LoftHullSeed.tells ((T.frame (x : Rat) (t : Rat)).flatMap fun (u : Int × Int) => [u.1, u.2])) er hp
      rw [ea] at k
      obtain ⟨h, rfl, U, G⟩ := hv
      have U' := U
      obtain ⟨dx, ga, gu, ll, ls, bs, cs, hh, _⟩ := U'
      have hx := hx _ rfl
      refine ⟨_, rfl, _, rfl, iteF ?_⟩
      rw [frame_eq G hx] at k
      refine ⟨(by show 1 ≤ sizeLine; decide), fun l hl => ?_⟩
      have s0 : Same H (upd H l (.lst [.int 0])) := Same.new hl
      refine ⟨_, rfl, b, CO, d, _, _, rfl, s0 _ _ hb, T.cl, T.n1, boatF1, h, dx, _, rfl, s0 _ _ hh, hf_no (by decide +kernel), _, rfl, _, rfl, h, t', x, t, rfl, U.same s0, G, hx, thickB_bd hfit, fun D H1 s1 hD => ?_⟩
      have hmz := G.gz.most
      refine ⟨l, D, _, _, rfl, rfl, s1 _ _ upd_same, hD, ?_, fun p hp => ?_⟩
      · rw [List.length_map, frameL_len]
        show 1 + 2 * t'.zs.length ≤ sizeLine
        exact Nat.le_of_lt (small1000 (by omega))
      exact k p _ ((s0.trans s1).trans (Same.new hp)) (by show upd _ _ _ _ = _; rw [upd_same]; rfl) ((s0.trans s1).free hp)
/-! ### level -/
def spOLevel (CG CB CH CO : Addr) : Sp := fun vs H Q _ => ∃ (b : Addr) (s : Option Loft.Table) (z : Int), vs = [.ref b, .int z] ∧ BoatAt CG CB CH CO H b s ∧
  ∀ (p : Addr) (H' : Hp), Same H H' → Ints H' p (LoftHullSeed.step s (.level z)).2 → H p = none → Q (.ref p) H'
theorem scOLevel : FnScope ["self", "z", "refused"] ["self", "z"] (defScope sOLevel) := ⟨rfl, rfl, rfl, by decide +kernel, rfl, by decide +kernel, by decide +kernel⟩
theorem ok_olevel {f CG CB CS CH CO : Addr} {fd : FuncData} (F : Fun K "level" "Boat.level" sOLevel f fd) (C : OCon mg) (T : OTxt K CO) (MR : MtAt P w K mg base 2 CO "refusal" ["self", "arguments_fit", "x", "z"] (spORef CG CB CH CO)) (ML : MtAt P w K mg base 4 CH "level" ["self", "z"] (spHLevel CG CB CH)) :
    FnOk P w K mg base CX0 5 f fd ["self", "z"] (spOLevel CG CB CH CO) := by
  refine F.ok scOLevel (fun vs H Q E h => ?_) (fun cdv A outer s H vs Q E hr h => ?_)
  · obtain ⟨b, s, z, rfl, _⟩ := h
    rfl
  · obtain ⟨b, s, z, rfl, BO, k⟩ := h
    have BO' := BO
    obtain ⟨d, v, hb, hv⟩ := BO'
    refine ⟨_, pss_cons (ps_set (i := 2) scOLevel.nd rfl (Or.inl rfl) (pe_mt MR (hr.mono (by decide)) (pv 0) (pa_cons pe_bl (pa_cons pe_non (pa_cons (pv 1) pa_nil)))))
      (pss_cons (ps_if (pt_cmp (pc_notN (pv 2))) (pss_one (ps_ret (pe_lst (pa_cons (pv 2) pa_nil)))) pss_nil)
      (pss_one (ps_ret (pe_op op_cat (pe_lst (pa_cons (pe_gi C.done rfl) pa_nil)) (pe_mt ML hr (pe_fld (pv 0) rfl) (pa_cons (pv 1) pa_nil)))))), ?_⟩
    refine ⟨_, rfl, b, d, _, rfl, hb, boatF_no (by decide +kernel), _, rfl, b, s, true, (none : Option Int), (some z), rfl, BO, ?_⟩
    have hp : ∀ T, s = some T → ((fun (T : Loft.Table) => T.hasZ z) T) = ((!(Option.any (fun i => !inB T.xs i) (none : Option Int))) && !(Option.any (fun i => !inB T.zs i) (some z))) := fun T e => by
      subst e
      obtain ⟨h, _, _, G⟩ := hv
      show T.hasZ z = _
      rw [hasZ_eq G.gz.ri.two]
      show _ = (true && !!inB T.zs z)
      rw [Bool.not_not, Bool.true_and]
    have e0 : (LoftHullSeed.step s (.level z)).2 = LoftHullSeed.ofHull s (!true) (fun (T : Loft.Table) => T.hasZ z) (fun (T : Loft.Table) => LoftHullSeed.tells (T.level (z : Rat))) := rfl
    rw [e0] at k
    cases er : refI s true (none : Option Int) (some z) with
    | some r =>
      rw [of_refused er hp] at k
      refine ⟨_, rfl, _, rfl, iteT ⟨_, rfl, (by show 1 ≤ sizeLine; decide), fun l hl => k l _ (Same.new hl) upd_same hl⟩⟩
    | none =>
      obtain ⟨t, rfl, hfit, hx, hz, ea⟩ := of_told (g := fun (T : Loft.Table) => LoftHullSeed.tells (T.level (z : Rat))) er hp
      rw [ea] at k
      obtain ⟨h, rfl, U, G⟩ := hv
      have U' := U
      obtain ⟨dx, ga, gu, ll, ls, bs, cs, hh, _⟩ := U'
      have hz := hz _ rfl
      refine ⟨_, rfl, _, rfl, iteF ?_⟩
      rw [level_eq' G hz] at k
      refine ⟨(by show 1 ≤ sizeLine; decide), fun l hl => ?_⟩
      have s0 : Same H (upd H l (.lst [.int 0])) := Same.new hl
      refine ⟨_, rfl, b, CO, d, _, _, rfl, s0 _ _ hb, T.cl, T.n1, boatF1, h, dx, _, rfl, s0 _ _ hh, hf_no (by decide +kernel), _, rfl, h, t, z, rfl, U.same s0, G, hz, fun D H1 s1 hD => ?_⟩
      have hmx := G.gx.most
      refine ⟨l, D, _, _, rfl, rfl, s1 _ _ upd_same, hD, ?_, fun p hp => ?_⟩
      · rw [List.length_map, levelL_cols, List.length_map, colsT_len]
        show 1 + t.xs.length ≤ sizeLine
        exact Nat.le_of_lt (small1000 (by omega))
      exact k p _ ((s0.trans s1).trans (Same.new hp)) (by show upd _ _ _ _ = _; rw [upd_same]; rfl) ((s0.trans s1).free hp)
end
end HP

set_option Elab.async false
set_option linter.all false
namespace HF
open PyWqlftd
theorem row_some {r x s : List Int} (h : PyFlat.row r = some (x, s)) : r = (x.length : Int) :: (x ++ s) := by
  cases r with
  | nil => cases h
  | cons n r =>
    unfold PyFlat.row at h
    dsimp only at h
    by_cases c : 0 ≤ n ∧ n.toNat ≤ r.length
    · rw [if_pos c] at h
      injection h with h
      injection h with h1 h2
      subst h1 h2
      rw [List.length_take, Nat.min_eq_left c.2, List.take_append_drop]
      congr 1
      omega
    · rw [if_neg c] at h
      cases h
theorem rows_zero {r t : List Int} {xs : List (List Int)} (h : PyFlat.rows 0 r = some (xs, t)) : xs = [] ∧ t = r := by
  injection h with h
  injection h with h1 h2
  exact ⟨h1.symm, h2.symm⟩
theorem rows_succ {k : Nat} {r t : List Int} {xs : List (List Int)} (h : PyFlat.rows (k + 1) r = some (xs, t)) : ∃ x s ys, r = (x.length : Int) :: (x ++ s) ∧ PyFlat.rows k s = some (ys, t) ∧ xs = x :: ys := by
  unfold PyFlat.rows at h
  cases e : PyFlat.row r with
  | none => rw [e] at h; cases h
  | some p =>
    obtain ⟨x, s⟩ := p
    rw [e] at h
    dsimp only at h
    cases e2 : PyFlat.rows k s with
    | none => rw [e2] at h; cases h
    | some q =>
      obtain ⟨ys, t'⟩ := q
      rw [e2] at h
      injection h with h
      injection h with h1 h2
      subst h1 h2
      exact ⟨x, s, ys, row_some e, e2, rfl⟩
/-- the calls of a list that begins with p -/
inductive First : Int → List Int → List (List Int) → List Int → Prop
  | make (x0 x1 x2 t : List Int) : First 1 ((x0.length : Int) :: (x0 ++ (x1.length : Int) :: (x1 ++ (x2.length : Int) :: (x2 ++ t)))) [[1], x0, x1, x2] t
  | at_ (x z a : Int) (t : List Int) : First 2 (x :: z :: a :: t) [[2, x, z, a]] t
  | near (x z : Int) (t : List Int) : First 3 (x :: z :: t) [[3, x, z]] t
  | bevel (x z : Int) (t : List Int) : First 4 (x :: z :: t) [[4, x, z]] t
  | inside (x z a : Int) (t : List Int) : First 5 (x :: z :: a :: t) [[5, x, z, a]] t
  | frame (x a : Int) (t : List Int) : First 6 (x :: a :: t) [[6, x, a]] t
  | level (z : Int) (t : List Int) : First 7 (z :: t) [[7, z]] t
theorem call_some {p : Int} {r : List Int} {c : List (List Int)} {t : List Int} (h : PyFlat.call shape (p :: r) = some (c, t)) : First p r c t := by
  unfold PyFlat.call at h
  dsimp only at h
  have flat : ∀ n : Nat, (if r.length < n then none else match PyFlat.rows 0 (r.drop n) with
      | none => none
      | some (xs, t) => some ((p :: r.take n) :: xs, t)) = some (c, t) → n ≤ r.length ∧ c = [p :: r.take n] ∧ t = r.drop n := fun n h => by
    by_cases q : r.length < n
    · rw [if_pos q] at h; cases h
    · rw [if_neg q] at h
      injection h with h
      injection h with h1 h2
      exact ⟨by omega, h1.symm, h2.symm⟩
  unfold shape at h
  by_cases c1 : p = 1
  · subst c1
    rw [if_pos rfl] at h
    dsimp only at h
    rw [if_neg (Nat.not_lt_zero _)] at h
    cases e : PyFlat.rows 3 (r.drop 0) with
    | none => rw [e] at h; cases h
    | some q =>
      obtain ⟨xs, t'⟩ := q
      rw [e] at h
      injection h with h
      injection h with h1 h2
      subst h1 h2
      obtain ⟨x0, s0, y0, a0, b0, rfl⟩ := rows_succ e
      obtain ⟨x1, s1, y1, a1, b1, rfl⟩ := rows_succ b0
      obtain ⟨x2, s2, y2, a2, b2, rfl⟩ := rows_succ b1
      obtain ⟨rfl, rfl⟩ := rows_zero b2
      rw [List.drop_zero] at a0
      subst a2 a1 a0
      exact .make x0 x1 x2 t'
  rw [if_neg c1] at h
  by_cases c2 : p = 2
  · subst c2
    rw [if_pos rfl] at h
    obtain ⟨hn, rfl, rfl⟩ := flat 3 h
    match r, hn with
    | x :: z :: a :: t, _ => exact .at_ x z a t
  rw [if_neg c2] at h
  by_cases c3 : p = 3
  · subst c3
    rw [if_pos rfl] at h
    obtain ⟨hn, rfl, rfl⟩ := flat 2 h
    match r, hn with
    | x :: z :: t, _ => exact .near x z t
  rw [if_neg c3] at h
  by_cases c4 : p = 4
  · subst c4
    rw [if_pos rfl] at h
    obtain ⟨hn, rfl, rfl⟩ := flat 2 h
    match r, hn with
    | x :: z :: t, _ => exact .bevel x z t
  rw [if_neg c4] at h
  by_cases c5 : p = 5
  · subst c5
    rw [if_pos rfl] at h
    obtain ⟨hn, rfl, rfl⟩ := flat 3 h
    match r, hn with
    | x :: z :: a :: t, _ => exact .inside x z a t
  rw [if_neg c5] at h
  by_cases c6 : p = 6
  · subst c6
    rw [if_pos rfl] at h
    obtain ⟨hn, rfl, rfl⟩ := flat 2 h
    match r, hn with
    | x :: a :: t, _ => exact .frame x a t
  rw [if_neg c6] at h
  by_cases c7 : p = 7
  · subst c7
    rw [if_pos rfl] at h
    obtain ⟨hn, rfl, rfl⟩ := flat 1 h
    match r, hn with
    | z :: t, _ => exact .level z t
  rw [if_neg c7] at h
  cases h
theorem calls_some {f : Nat} {p : Int} {r : List Int} {cs : List (List (List Int))} (h : PyFlat.calls shape f (p :: r) = some cs) : ∃ f' c t cs1, f = f' + 1 ∧ First p r c t ∧ PyFlat.calls shape f' t = some cs1 ∧ cs = c :: cs1 := by
  cases f with
  | zero => cases h
  | succ f =>
    unfold PyFlat.calls at h
    cases e : PyFlat.call shape (p :: r) with
    | none => rw [e] at h; cases h
    | some q =>
      obtain ⟨c, t⟩ := q
      rw [e] at h
      dsimp only at h
      cases e2 : PyFlat.calls shape f t with
      | none => rw [e2] at h; cases h
      | some cs1 =>
        rw [e2] at h
        injection h with h
        exact ⟨f, c, t, cs1, rfl, call_some e, e2, h.symm⟩
theorem calls_nil {f : Nat} {cs : List (List (List Int))} (h : PyFlat.calls shape f [] = some cs) : cs = [] := by
  cases f <;> (injection h with h; exact h.symm)
/-- all that is still to be told, from a state on -/
def rest (s : HullNeutral.State) (cs : List (List (List Int))) : List Int := PyFlat.told (PyFlat.played HullNeutral.step s (cs.map whole))
theorem rest_nil (s : HullNeutral.State) : rest s [] = [] := rfl
theorem First.whole {p : Int} {r t : List Int} {c : List (List Int)} (h : First p r c t) : PyWqlftd.whole c = c := by cases h <;> rfl
theorem rest_cons {p : Int} {r t : List Int} {c : List (List Int)} (h : First p r c t) (s : HullNeutral.State) (cs : List (List (List Int))) :
    rest s (c :: cs) = (((HullNeutral.step s c).2.length : Nat) : Int) :: ((HullNeutral.step s c).2 ++ rest (HullNeutral.step s c).1 cs) := by
  unfold rest
  rw [List.map_cons, h.whole]
  rfl
theorem answers_rest {l : List Int} (h : answers_asked l = true) : ∃ cs, PyFlat.calls shape l.length l = some cs ∧ answers l = rest HullNeutral.start cs := by
  unfold answers_asked at h
  unfold answers
  unfold calls at *
  cases e : PyFlat.calls shape l.length l with
  | none => rw [e] at h; cases h
  | some cs => exact ⟨cs, rfl, rfl⟩
end HF

set_option Elab.async false
set_option linter.all false
set_option maxRecDepth 100000
set_option maxHeartbeats 2000000
namespace HP
open PySem PySem.Spec PyProof.Rows L2 HB HM
abbrev sRowsB : Stmt := top 59
abbrev sWidth : Stmt := top 61
section
variable {P : Program} {w : World} {K : PySem.W.Frag} {mg : Str → Option Value} {base : Heap}
/-- rows, each with its length ahead -/
def encRows : List (List Int) → List Int → List Int
  | [], t => t
  | x :: xs, t => (x.length : Int) :: (x ++ encRows xs t)
theorem drop_at {ns : List Int} {i : Nat} {z : Int} {r : List Int} (h : ns.drop i = z :: r) : i < ns.length ∧ ns.getD i 0 = z ∧ ns.drop (i + 1) = r := by
  have hl : i < ns.length := by
    rcases Nat.lt_or_ge i ns.length with q | q
    · exact q
    · rw [List.drop_eq_nil_of_le q] at h
      cases h
  rw [List.drop_eq_getElem_cons hl] at h
  injection h with h1 h2
  refine ⟨hl, ?_, h2⟩
  rw [List.getD_eq_getElem?_getD, List.getElem?_eq_getElem hl]
  exact h1
theorem drop_app {ns x r : List Int} {i : Nat} (h : ns.drop i = x ++ r) (hi : i ≤ ns.length) : i + x.length ≤ ns.length ∧ (ns.drop i).take x.length = x ∧ ns.drop (i + x.length) = r := by
  have hl : (ns.drop i).length = x.length + r.length := by rw [h, List.length_append]
  rw [List.length_drop] at hl
  refine ⟨by omega, by rw [h, List.take_left], ?_⟩
  rw [← List.drop_drop, h, List.drop_left]
def spRowsB (K : PySem.W.Frag) : Sp := fun vs H Q _ => ∃ (a : Addr) (ns : List Int) (i : Nat) (xs : List (List Int)) (t : List Int), vs = [.ref a, .int (i : Nat), .int (xs.length : Nat)] ∧ SqL K H a (ns.map V.int) ∧ ns.drop i = encRows xs t ∧ i ≤ ns.length ∧ ns.length ≤ 16000 ∧ xs.length ≤ 10 ∧
  ∀ (D : Addr) (H' : Hp) (rs : List Addr), Same H H' → H' D = some (.lst (rs.map V.ref)) → All2 (Ints H') rs xs → Q (.ref D) H'
theorem scRowsB : FnScope ["calls", "start", "count", "rows", "k", "first"] ["calls", "start", "count"] (defScope sRowsB) := ⟨rfl, rfl, rfl, by decide +kernel, rfl, by decide +kernel, by decide +kernel⟩
theorem ok_rowsb {f : Addr} {fd : FuncData} (F : Fun K "rows_behind" "rows_behind" sRowsB f fd) (B : Blt mg) : FnOk P w K mg base CX0 1 f fd ["calls", "start", "count"] (spRowsB K) := by
  refine F.ok scRowsB (fun vs H Q E h => ?_) (fun cdv A outer s H vs Q E hr h => ?_)
  · obtain ⟨a, ns, i, xs, t, rfl, _⟩ := h
    rfl
  · obtain ⟨a, ns, i, xs, t, rfl, hS, hd, hil, hl, hx, k⟩ := h
    refine ⟨_, pss_cons (ps_set (i := 3) scRowsB.nd rfl (Or.inl rfl) (pe_lst pa_nil))
      (pss_cons (ps_for PassesOwn.never rfl (pi_range1 rfl B.range (pa_cons (pv 2) pa_nil)) (pg_name (i := 4) scRowsB.nd rfl (Or.inl rfl))
        (pss_cons (ps_set (i := 5) scRowsB.nd rfl (Or.inl rfl) (pe_op op_add (pv 1) pe_int))
        (pss_cons (ps_set (i := 1) scRowsB.nd rfl (Or.inl rfl) (pe_op op_add (pv 5) (pe_ix ix_list (pv 0) (pv 1) (fun _ _ => rfl))))
        (pss_one (ps_expr (pe_bm PySem.F.plainAttrs_list PySem.F.slot_list_append PySem.F.type_list_append mt_append (pv 3) (pa_cons (pe_slice sl_list (pv 0) (po_some (pv 5)) (po_some (pv 1))) pa_nil)))))))
      (pss_one (ps_ret (pv 3)))), ?_⟩
    refine ⟨Nat.zero_le _, fun D hD => ?_⟩
    refine ⟨_, rfl, _, rfl, by omega, by omega, ?_⟩
    rw [Int.toNat_natCast]
    refine for_range (lo := 0) (n := xs.length) (fun j σ H' => ∃ i' : Nat, (∃ v4 v5 : Option V, σ = [some (.ref a), some (.int (i' : Nat)), some (.int (xs.length : Nat)), some (.ref D), v4, v5]) ∧ Same H H' ∧ ns.drop i' = encRows (xs.drop j) t ∧ i' ≤ ns.length ∧
        ∃ rs : List Addr, H' D = some (.lst (rs.map V.ref)) ∧ All2 (fun r l => Ints H' r l ∧ r ≠ D) rs (xs.take j))
      ⟨i, ⟨none, none, rfl⟩, Same.new hD, hd, hil, [], upd_same, .nil⟩ ?_ ?_
    · rintro j σ H' hj ⟨i', ⟨v4, v5, rfl⟩, sm, hd', hil', rs, hrs, R⟩
      have ej : xs.drop j = xs[j] :: xs.drop (j + 1) := List.drop_eq_getElem_cons hj
      rw [ej] at hd'
      obtain ⟨h1, h2, h3⟩ := drop_at hd'
      obtain ⟨h4, h5, h6⟩ := drop_app h3 (by omega)
      have hS' := Same.seq sm hS
      refine ⟨_, rfl, _, _, rfl, rfl, ?_⟩
      refine ⟨_, rfl, _, rfl, _, rfl, a, _, _, _, rfl, rfl, hS', at_ints (i := i') rfl h1, _, _, rfl, rfl, ?_⟩
      refine ⟨_, rfl, .inl ⟨rfl, _, SqL.of hrs⟩, _, rfl, _, rfl, _, rfl, _, rfl, _, rfl, a, _, rfl, hS', fun p hp => ?_⟩
      have e2 : (i' : Int) + 1 + ns.getD i' 0 = ((i' + 1 + xs[j].length : Nat) : Int) := by rw [h2]; omega
      have cut : cutV (ns.map V.int) (some ((i' : Int) + 1)) (some ((i' : Int) + 1 + ns.getD i' 0)) = xs[j].map V.int := by
        rw [cut_nat (i := i' + 1) (j := i' + 1 + xs[j].length) (by omega) e2 (by omega) (by rw [List.length_map]; omega), Nat.add_sub_cancel_left, ← List.map_drop, ← List.map_take, h5]
      have nD : D ≠ p := ne_of_none hrs hp
      refine ⟨D, rs.map V.ref, _, rfl, rfl, by rw [upd_ne nD]; exact hrs, ?_, i' + 1 + xs[j].length, ⟨some (.int (0 + (j : Int))), some (.int ((i' : Int) + 1)), ?_⟩, ?_, h6, h4, rs ++ [p], ?_, ?_⟩
      · rw [List.length_map, R.len, List.length_take]
        exact small1000 (by omega)
      · rw [← e2]
        rfl
      · intro b o e
        have := sm b o e
        rw [upd_ne (ne_of_none e hD), upd_ne (ne_of_none this hp)]
        exact this
      · rw [upd_same, List.map_append]
        rfl
      · rw [List.take_succ, List.getElem?_eq_getElem hj]
        refine (R.imp fun r l ⟨h, ne⟩ => ⟨(by show upd _ D _ r = _; rw [upd_ne ne, upd_ne (ne_of_none h hp)]; exact h), ne⟩).snoc ⟨?_, Ne.symm nD⟩
        show upd _ D _ p = _
        rw [upd_ne (Ne.symm nD), upd_same, cut]
    · rintro σ H' ⟨i', ⟨v4, v5, rfl⟩, sm, hd', hil', rs, hrs, R⟩
      rw [List.take_length] at R
      exact ⟨_, rfl, k D H' rs sm hrs (R.imp fun r l h => h.1)⟩
end
end HP

set_option Elab.async false
set_option linter.all false
set_option maxRecDepth 100000
set_option maxHeartbeats 2000000
namespace HP
open PySem PySem.Spec PyProof.Rows L2 HB HM
abbrev sArgs : Stmt := top 60
abbrev sAnswer : Stmt := top 62
abbrev sAnswers : Stmt := top 63
def nums : List (Int × Int) := [(2, 3), (3, 2), (4, 2), (5, 3), (6, 2), (7, 1)]
structure FCon (K : PySem.W.Frag) (mg : Str → Option Value) : Prop where
  make : ∃ t, mg "MAKE" = some (.int 1 t)
  at_ : ∃ t, mg "AT" = some (.int 2 t)
  near : ∃ t, mg "NEAR" = some (.int 3 t)
  bevel : ∃ t, mg "BEVEL" = some (.int 4 t)
  inside : ∃ t, mg "INSIDE" = some (.int 5 t)
  frame : ∃ t, mg "FRAME" = some (.int 6 t)
  rows : ∃ t, mg "ROWS_OF_MAKE" = some (.int 3 t)
  nums : ∃ d, mg "NUMBERS_OF_CALL" = some (.ref d) ∧ GD K d HP.nums
theorem iteI {a b : Int} {A B : Prop} (h1 : a = b → A) (h2 : a ≠ b → B) : if decide (V.int a = V.int b) = true then A else B :=
  ite2 (fun c => h1 (by have c' := of_decide_eq_true c; injection c')) (fun c => h2 fun e => c (decide_eq_true (congrArg V.int e)))
/-! ### what is handed to a call -/
theorem First.flat {p : Int} {r t : List Int} {c : List (List Int)} (h : HF.First p r c t) (hp : p ≠ 1) : ∃ args : List Int, c = [p :: args] ∧ r = args ++ t ∧ HP.nums.lookup p = some (args.length : Int) ∧ args.length ≤ 3 := by
  cases h with
  | make => exact absurd rfl hp
  | at_ x z a => exact ⟨[x, z, a], rfl, rfl, rfl, by show 3 ≤ 3; decide⟩
  | near x z => exact ⟨[x, z], rfl, rfl, rfl, by show 2 ≤ 3; decide⟩
  | bevel x z => exact ⟨[x, z], rfl, rfl, rfl, by show 2 ≤ 3; decide⟩
  | inside x z a => exact ⟨[x, z, a], rfl, rfl, rfl, by show 3 ≤ 3; decide⟩
  | frame x a => exact ⟨[x, a], rfl, rfl, rfl, by show 2 ≤ 3; decide⟩
  | level z => exact ⟨[z], rfl, rfl, rfl, by show 1 ≤ 3; decide⟩
theorem First.make' {r t : List Int} {c : List (List Int)} (h : HF.First 1 r c t) : ∃ x0 x1 x2 : List Int, c = [[1], x0, x1, x2] ∧ r = encRows [x0, x1, x2] t := by
  cases h with
  | make x0 x1 x2 => exact ⟨x0, x1, x2, rfl, rfl⟩
theorem First.split {p : Int} {r t : List Int} {c : List (List Int)} (h : HF.First p r c t) : ∃ pre : List Int, r = pre ++ t := by
  by_cases e : p = 1
  · subst e
    obtain ⟨x0, x1, x2, _, rfl⟩ := First.make' h
    refine ⟨(x0.length : Int) :: (x0 ++ (x1.length : Int) :: (x1 ++ (x2.length : Int) :: x2)), ?_⟩
    simp [encRows]
  · obtain ⟨args, _, rfl, _⟩ := First.flat h e
    exact ⟨args, rfl⟩
def GivenAt (H : Hp) (g : Addr) (c : List (List Int)) : Prop :=
  (∃ x0 x1 x2 r0 r1 r2, c = [[1], x0, x1, x2] ∧ H g = some (.lst [.ref r0, .ref r1, .ref r2]) ∧ Ints H r0 x0 ∧ Ints H r1 x1 ∧ Ints H r2 x2) ∨ (∃ p args, p ≠ 1 ∧ c = [p :: args] ∧ Ints H g args)
theorem GivenAt.same {H H' : Hp} {g : Addr} {c : List (List Int)} (G : GivenAt H g c) (s : Same H H') : GivenAt H' g c := by
  rcases G with ⟨x0, x1, x2, r0, r1, r2, e, h1, h2, h3, h4⟩ | ⟨p, args, ne, e, h⟩
  · exact .inl ⟨x0, x1, x2, r0, r1, r2, e, s _ _ h1, s _ _ h2, s _ _ h3, s _ _ h4⟩
  · exact .inr ⟨p, args, ne, e, s _ _ h⟩
theorem GivenAt.make {H : Hp} {g : Addr} {x0 x1 x2 : List Int} (G : GivenAt H g [[1], x0, x1, x2]) : ∃ r0 r1 r2, H g = some (.lst [.ref r0, .ref r1, .ref r2]) ∧ Ints H r0 x0 ∧ Ints H r1 x1 ∧ Ints H r2 x2 := by
  rcases G with ⟨y0, y1, y2, r0, r1, r2, e, h1, h2, h3, h4⟩ | ⟨p, args, ne, e, h⟩
  · injection e with _ e
    injection e with e0 e
    injection e with e1 e
    injection e with e2 _
    subst e0 e1 e2
    exact ⟨r0, r1, r2, h1, h2, h3, h4⟩
  · injection e with _ e
    cases e
theorem GivenAt.flat {H : Hp} {g : Addr} {p : Int} {args : List Int} (G : GivenAt H g [p :: args]) : Ints H g args := by
  rcases G with ⟨y0, y1, y2, r0, r1, r2, e, h1, h2, h3, h4⟩ | ⟨p, args', ne, e, h⟩
  · injection e with _ e
    cases e
  · injection e with e _
    injection e with _ e
    subst e
    exact h
section
variable {P : Program} {w : World} {K : PySem.W.Frag} {mg : Str → Option Value} {base : Heap}
/-! ### arguments_behind -/
def spArgs (K : PySem.W.Frag) : Sp := fun vs H Q _ => ∃ (a : Addr) (ns : List Int) (i : Nat) (st p : Int) (c : List (List Int)) (t : List Int), vs = [.ref a, .int st, .int p] ∧ st = (i : Int) ∧ SqL K H a (ns.map V.int) ∧ i ≤ ns.length ∧ ns.length ≤ 16000 ∧ HF.First p (ns.drop i) c t ∧
  ∀ (g : Addr) (H' : Hp), Same H H' → GivenAt H' g c → Q (.ref g) H'
theorem scArgs : FnScope ["calls", "start", "number"] ["calls", "start", "number"] (defScope sArgs) := ⟨rfl, rfl, rfl, by decide +kernel, rfl, by decide +kernel, by decide +kernel⟩
theorem ok_args {f : Addr} {fd : FuncData} (F : Fun K "arguments_behind" "arguments_behind" sArgs f fd) (C : FCon K mg) (FR : FnAt P w K mg base 1 "rows_behind" ["calls", "start", "count"] (spRowsB K)) : FnOk P w K mg base CX0 2 f fd ["calls", "start", "number"] (spArgs K) := by
  refine F.ok scArgs (fun vs H Q E h => ?_) (fun cdv A outer s H vs Q E hr h => ?_)
  · obtain ⟨a, ns, i, st, p, c, t, rfl, _⟩ := h
    rfl
  · obtain ⟨a, ns, i, st, p, c, t, rfl, rfl, hS, hi, hl, hF, k⟩ := h
    obtain ⟨dn, hdn, gd⟩ := C.nums
    refine ⟨_, pss_cons (ps_if (pt_cmpR op_eq (pv 2) (pe_gi C.make rfl) (nomark _)) (pss_one (ps_ret (pe_fn FR hr rfl (pa_cons (pv 0) (pa_cons (pv 1) (pa_cons (pe_gi C.rows rfl) pa_nil)))))) pss_nil)
      (pss_one (ps_ret (pe_slice sl_list (pv 0) (po_some (pv 1)) (po_some (pe_op op_add (pv 1) (pe_ix ix_dictK (pe_glob (v := .ref dn) rfl hdn rfl (by decide)) (pv 2) (fun _ _ => rfl))))))), ?_⟩
    refine ⟨_, rfl, rfl, _, rfl, iteI (fun e => ?_) (fun e => ?_)⟩
    · subst e
      obtain ⟨x0, x1, x2, rfl, er⟩ := First.make' hF
      refine ⟨_, rfl, _, rfl, a, ns, i, [x0, x1, x2], t, rfl, hS, er, hi, hl, (by show 3 ≤ 10; decide), fun D H' rs sm hD R => ?_⟩
      cases R with
      | cons q0 R =>
        cases R with
        | cons q1 R =>
          cases R with
          | cons q2 R =>
            cases R
            exact k D H' sm (.inl ⟨x0, x1, x2, _, _, _, rfl, hD, q0, q1, q2⟩)
    · obtain ⟨args, rfl, er, hlk, _⟩ := First.flat hF e
      obtain ⟨h1, h2, h3⟩ := drop_app er hi
      refine ⟨_, rfl, _, rfl, _, rfl, _, rfl, _, rfl, dn, _, p, _, rfl, rfl, gd, hlk, _, _, rfl, rfl, _, rfl, a, _, rfl, hS, fun q hq => ?_⟩
      have cut : cutV (ns.map V.int) (some (i : Int)) (some ((i : Int) + (args.length : Int))) = args.map V.int := by
        rw [cut_nat (i := i) (j := i + args.length) rfl (by omega) (by omega) (by rw [List.length_map]; omega), Nat.add_sub_cancel_left, ← List.map_drop, ← List.map_take, h2]
      refine k q _ (Same.new hq) (.inr ⟨p, args, e, rfl, ?_⟩)
      show upd _ _ _ _ = _
      rw [upd_same, cut]
/-! ### width_of -/
def rLen (K : PySem.W.Frag) : List V → Hp → VK → Prop := fun xs H Q => ∃ p ys, xs = [.ref p] ∧ SqL K H p ys ∧ Q (.int ys.length) H
theorem call_lenK {X : Cx} {K : PySem.W.Frag} (hK : X.K = K := by rfl) : CallR X (.builtin "len") (rLen K) := by
  subst hK
  intro pins s σ H xs us Q I r h
  obtain ⟨p, ys, e, hs, q⟩ := h
  exact call_len_seq pins s σ H xs us Q I r ⟨p, ys, e, .inl hs, q⟩
def spWidth : Sp := fun vs H Q _ => ∃ (p : Int) (g : Addr) (r t : List Int) (c : List (List Int)), vs = [.int p, .ref g] ∧ HF.First p r c t ∧ GivenAt H g c ∧ ∀ H', Same H H' → Q (.int ((r.length : Int) - (t.length : Int))) H'
theorem scWidth : FnScope ["number", "given", "row"] ["number", "given"] (defScope sWidth) := ⟨rfl, rfl, rfl, by decide +kernel, rfl, by decide +kernel, by decide +kernel⟩
theorem ok_width {f : Addr} {fd : FuncData} (F : Fun K "width_of" "width_of" sWidth f fd) (B : Blt mg) (C : FCon K mg) : FnOk P w K mg base CX0 1 f fd ["number", "given"] spWidth := by
  refine F.ok scWidth (fun vs H Q E h => ?_) (fun cdv A outer s H vs Q E hr h => ?_)
  · obtain ⟨p, g, r, t, c, rfl, _⟩ := h
    rfl
  · obtain ⟨p, g, r, t, c, rfl, hF, hG, k⟩ := h
    refine ⟨_, pss_cons (ps_if (pt_cmpR op_eq (pv 0) (pe_gi C.make rfl) (nomark _)) (pss_one (ps_ret (pe_callB (cr_sum rfl) (by rfl) B.sum PyProof.Rows.boot_sum (pa_cons (pe_lc (own := [("row", 2)]) rfl scWidth.nd (pi_list (pv 1))
        (blkOk_by (N := ["number", "given", "row"]) (sc := defScope sWidth) (by decide +kernel))
        (fun s H C cl fp => pg_name (i := 2) scWidth.nd rfl (Or.inl rfl))
        (fun s H C cl fp => pts_nil)
        (fun s H C cl fp => pe_op op_add pe_int (pe_callB (r := rLen K) call_lenK (by rfl) B.len PySem.boot_len (pa_cons (pv 2) pa_nil)))) pa_nil)))) pss_nil)
      (pss_one (ps_ret (pe_callB call_len_seq (by rfl) B.len PySem.boot_len (pa_cons (pv 1) pa_nil)))), ?_⟩
    refine ⟨_, rfl, rfl, _, rfl, iteI (fun e => ?_) (fun e => ?_)⟩
    · subst e
      obtain ⟨x0, x1, x2, rfl, er⟩ := First.make' hF
      obtain ⟨r0, r1, r2, hg, q0, q1, q2⟩ := hG.make
      have hw : (r.length : Int) - (t.length : Int) = ([1 + (x0.length : Int), 1 + (x1.length : Int), 1 + (x2.length : Int)] : List Int).sum := by
        subst er
        simp [encRows]
        omega
      have key : ∀ i : Nat, i < 3 → ∃ (ri : Addr) (xi : List Int), ([V.ref r0, V.ref r1, V.ref r2] : List V)[i]? = some (.ref ri) ∧ Ints H ri xi ∧ ([1 + (x0.length : Int), 1 + (x1.length : Int), 1 + (x2.length : Int)] : List Int)[i]? = some (1 + (xi.length : Int)) := fun i hi => by
        match i, hi with
        | 0, _ => exact ⟨r0, x0, rfl, q0, rfl⟩
        | 1, _ => exact ⟨r1, x1, rfl, q1, rfl⟩
        | 2, _ => exact ⟨r2, x2, rfl, q2, rfl⟩
      refine ⟨_, rfl, g, rfl, ⟨_, SqL.of hg⟩, fun D hD => ?_⟩
      refine lc_list (K := K) (a := g) (xs := [.ref r0, .ref r1, .ref r2]) (fun i H' => H' = upd H D (.lst ((([1 + (x0.length : Int), 1 + (x1.length : Int), 1 + (x2.length : Int)] : List Int).take i).map V.int))) rfl
        (fun i H' _ e => by rw [e]; exact Same.seq (Same.new hD) (SqL.of hg)) ?_ ?_
      · rintro i y H' hi rfl
        have hi3 : i < 3 := (List.getElem?_eq_some_iff.mp hi).1
        obtain ⟨ri, xi, e1, e2, e3⟩ := key i hi3
        rw [e1] at hi
        injection hi with hi
        subst hi
        have e2' := (Same.new (o := .lst ((([1 + (x0.length : Int), 1 + (x1.length : Int), 1 + (x2.length : Int)] : List Int).take i).map V.int)) hD) _ _ e2
        refine ⟨rfl, _, rfl, ri, _, rfl, SqL.of e2', _, _, rfl, rfl, ?_⟩
        refine ⟨_, upd_same, ?_, ?_⟩
        · rw [List.length_map, List.length_take]
          exact small1000 (by omega)
        · rw [upd_upd, List.take_succ, e3, List.map_append, List.length_map]
          rfl
      · rintro H' rfl
        rw [hw] at k
        exact ⟨D, [1 + (x0.length : Int), 1 + (x1.length : Int), 1 + (x2.length : Int)], rfl, SqL.of upd_same, k _ (Same.new hD)⟩
    · obtain ⟨args, rfl, er, _, _⟩ := First.flat hF e
      have hg := hG.flat
      refine ⟨_, rfl, g, _, rfl, .inl (SqL.of hg), ?_⟩
      have hw : (r.length : Int) - (t.length : Int) = ((args.map V.int).length : Int) := by
        rw [er, List.length_append, List.length_map]
        omega
      rw [hw] at k
      exact k H (fun _ _ e => e)
/-! ### answer -/
def spAnswer (CG CB CH CO : Addr) : Sp := fun vs H Q _ => ∃ (b g : Addr) (p : Int) (s : Option Loft.Table) (r t : List Int) (c : List (List Int)), vs = [.ref b, .int p, .ref g] ∧ HF.First p r c t ∧ r.length ≤ 16000 ∧ GivenAt H g c ∧ BoatAt CG CB CH CO H b s ∧
  ∀ (q : Addr) (H' : Hp), Kept b H H' → BoatAt CG CB CH CO H' b (HullNeutral.step s c).1 → Ints H' q (HullNeutral.step s c).2 → H q = none → Q (.ref q) H'
theorem scAnswer : FnScope ["boat", "number", "given"] ["boat", "number", "given"] (defScope sAnswer) := ⟨rfl, rfl, rfl, by decide +kernel, rfl, by decide +kernel, by decide +kernel⟩
theorem ok_answer {f CG CB CH CO : Addr} {fd : FuncData} (F : Fun K "answer" "answer" sAnswer f fd) (C : FCon K mg)
    (M1 : MtAt P w K mg base 8 CO "make" ["self", "places", "heights", "halves"] (spOMake K CG CB CH CO))
    (M2 : MtAt P w K mg base 9 CO "at" ["self", "x", "z", "what"] (spOAt CG CB CH CO))
    (M3 : MtAt P w K mg base 9 CO "near" ["self", "x", "z"] (spONear CG CB CH CO))
    (M4 : MtAt P w K mg base 9 CO "bevel" ["self", "x", "z"] (spOBevel CG CB CH CO))
    (M5 : MtAt P w K mg base 9 CO "inside" ["self", "x", "z", "t"] (spOIns CG CB CH CO))
    (M6 : MtAt P w K mg base 10 CO "frame" ["self", "x", "t"] (spOFrame CG CB CH CO))
    (M7 : MtAt P w K mg base 5 CO "level" ["self", "z"] (spOLevel CG CB CH CO)) : FnOk P w K mg base CX0 11 f fd ["boat", "number", "given"] (spAnswer CG CB CH CO) := by
  refine F.ok scAnswer (fun vs H Q E h => ?_) (fun cdv A outer s H vs Q E hr h => ?_)
  · obtain ⟨b, g, p, s, r, t, c, rfl, _⟩ := h
    rfl
  · obtain ⟨b, g, p, s, r, t, c, rfl, hF, hl, hG, BO, k⟩ := h
    have BO' := BO
    obtain ⟨d, v, hb, _⟩ := BO'
    refine ⟨_, (pss_cons (ps_if (pt_cmpR op_eq (pv 1) (pe_gi C.make rfl) (nomark _)) (pss_one (ps_ret (pe_mt M1 (hr.mono (by decide)) (pv 0) (pa_cons (pe_ix ix_list (pv 2) (pe_int) (fun _ _ => rfl)) (pa_cons (pe_ix ix_list (pv 2) (pe_int) (fun _ _ => rfl)) (pa_cons (pe_ix ix_list (pv 2) (pe_int) (fun _ _ => rfl)) pa_nil)))))) pss_nil)
      (pss_cons (ps_if (pt_cmpR op_eq (pv 1) (pe_gi C.at_ rfl) (nomark _)) (pss_one (ps_ret (pe_mt M2 (hr.mono (by decide)) (pv 0) (pa_cons (pe_ix ix_list (pv 2) (pe_int) (fun _ _ => rfl)) (pa_cons (pe_ix ix_list (pv 2) (pe_int) (fun _ _ => rfl)) (pa_cons (pe_ix ix_list (pv 2) (pe_int) (fun _ _ => rfl)) pa_nil)))))) pss_nil)
      (pss_cons (ps_if (pt_cmpR op_eq (pv 1) (pe_gi C.near rfl) (nomark _)) (pss_one (ps_ret (pe_mt M3 (hr.mono (by decide)) (pv 0) (pa_cons (pe_ix ix_list (pv 2) (pe_int) (fun _ _ => rfl)) (pa_cons (pe_ix ix_list (pv 2) (pe_int) (fun _ _ => rfl)) pa_nil))))) pss_nil)
      (pss_cons (ps_if (pt_cmpR op_eq (pv 1) (pe_gi C.bevel rfl) (nomark _)) (pss_one (ps_ret (pe_mt M4 (hr.mono (by decide)) (pv 0) (pa_cons (pe_ix ix_list (pv 2) (pe_int) (fun _ _ => rfl)) (pa_cons (pe_ix ix_list (pv 2) (pe_int) (fun _ _ => rfl)) pa_nil))))) pss_nil)
      (pss_cons (ps_if (pt_cmpR op_eq (pv 1) (pe_gi C.inside rfl) (nomark _)) (pss_one (ps_ret (pe_mt M5 (hr.mono (by decide)) (pv 0) (pa_cons (pe_ix ix_list (pv 2) (pe_int) (fun _ _ => rfl)) (pa_cons (pe_ix ix_list (pv 2) (pe_int) (fun _ _ => rfl)) (pa_cons (pe_ix ix_list (pv 2) (pe_int) (fun _ _ => rfl)) pa_nil)))))) pss_nil)
      (pss_cons (ps_if (pt_cmpR op_eq (pv 1) (pe_gi C.frame rfl) (nomark _)) (pss_one (ps_ret (pe_mt M6 (hr.mono (by decide)) (pv 0) (pa_cons (pe_ix ix_list (pv 2) (pe_int) (fun _ _ => rfl)) (pa_cons (pe_ix ix_list (pv 2) (pe_int) (fun _ _ => rfl)) pa_nil))))) pss_nil)
      (pss_one (ps_ret (pe_mt M7 (hr.mono (by decide)) (pv 0) (pa_cons (pe_ix ix_list (pv 2) (pe_int) (fun _ _ => rfl)) pa_nil)))))))))), ?_⟩
    cases hF with
    | make x0 x1 x2 t =>
      obtain ⟨r0, r1, r2, hg, q0, q1, q2⟩ := hG.make
      have hl' : x0.length ≤ 16000 ∧ x1.length ≤ 16000 ∧ x2.length ≤ 16000 := by
        simp at hl
        omega
      refine ⟨_, rfl, rfl, _, rfl, iteI (fun _ => ?_) (fun e => absurd rfl e)⟩
      refine ⟨_, rfl, b, d, _, rfl, hb, boatF_no (by decide +kernel), _, rfl, g, _, _, _, rfl, rfl, SqL.of hg, at_of (j := 0) (v := .ref r0) rfl rfl, _, rfl, g, _, _, _, rfl, rfl, SqL.of hg, at_of (j := 1) (v := .ref r1) rfl rfl, _, rfl, g, _, _, _, rfl, rfl, SqL.of hg, at_of (j := 2) (v := .ref r2) rfl rfl, b, r0, r1, r2, s, x0, x1, x2, rfl, BO, ⟨SqL.of q0, SqL.of q1, SqL.of q2, hl'.1, hl'.2.1, hl'.2.2⟩, fun p H' kp B1 hp np => ?_⟩
      exact k p H' kp B1 hp np
    | at_ x z a t =>
      have hg := hG.flat
      refine ⟨_, rfl, rfl, _, rfl, iteI (fun e => absurd e (by decide)) (fun _ => ⟨_, rfl, rfl, _, rfl, iteI (fun _ => ?_) (fun e => absurd rfl e)⟩)⟩
      refine ⟨_, rfl, b, d, _, rfl, hb, boatF_no (by decide +kernel), _, rfl, g, _, _, _, rfl, rfl, SqL.of hg, at_of (j := 0) (v := .int x) rfl rfl, _, rfl, g, _, _, _, rfl, rfl, SqL.of hg, at_of (j := 1) (v := .int z) rfl rfl, _, rfl, g, _, _, _, rfl, rfl, SqL.of hg, at_of (j := 2) (v := .int a) rfl rfl, b, s, x, z, a, rfl, BO, fun p H' sm hp np => ?_⟩
      exact k p H' (fun b o e _ => sm b o e) (BO.same sm) hp np
    | near x z t =>
      have hg := hG.flat
      refine ⟨_, rfl, rfl, _, rfl, iteI (fun e => absurd e (by decide)) (fun _ => ⟨_, rfl, rfl, _, rfl, iteI (fun e => absurd e (by decide)) (fun _ => ⟨_, rfl, rfl, _, rfl, iteI (fun _ => ?_) (fun e => absurd rfl e)⟩)⟩)⟩
      refine ⟨_, rfl, b, d, _, rfl, hb, boatF_no (by decide +kernel), _, rfl, g, _, _, _, rfl, rfl, SqL.of hg, at_of (j := 0) (v := .int x) rfl rfl, _, rfl, g, _, _, _, rfl, rfl, SqL.of hg, at_of (j := 1) (v := .int z) rfl rfl, b, s, x, z, rfl, BO, fun p H' sm hp np => ?_⟩
      exact k p H' (fun b o e _ => sm b o e) (BO.same sm) hp np
    | bevel x z t =>
      have hg := hG.flat
      refine ⟨_, rfl, rfl, _, rfl, iteI (fun e => absurd e (by decide)) (fun _ => ⟨_, rfl, rfl, _, rfl, iteI (fun e => absurd e (by decide)) (fun _ => ⟨_, rfl, rfl, _, rfl, iteI (fun e => absurd e (by decide)) (fun _ => ⟨_, rfl, rfl, _, rfl, iteI (fun _ => ?_) (fun e => absurd rfl e)⟩)⟩)⟩)⟩
      refine ⟨_, rfl, b, d, _, rfl, hb, boatF_no (by decide +kernel), _, rfl, g, _, _, _, rfl, rfl, SqL.of hg, at_of (j := 0) (v := .int x) rfl rfl, _, rfl, g, _, _, _, rfl, rfl, SqL.of hg, at_of (j := 1) (v := .int z) rfl rfl, b, s, x, z, rfl, BO, fun p H' sm hp np => ?_⟩
      exact k p H' (fun b o e _ => sm b o e) (BO.same sm) hp np
    | inside x z a t =>
      have hg := hG.flat
      refine ⟨_, rfl, rfl, _, rfl, iteI (fun e => absurd e (by decide)) (fun _ => ⟨_, rfl, rfl, _, rfl, iteI (fun e => absurd e (by decide)) (fun _ => ⟨_, rfl, rfl, _, rfl, iteI (fun e => absurd e (by decide)) (fun _ => ⟨_, rfl, rfl, _, rfl, iteI (fun e => absurd e (by decide)) (fun _ => ⟨_, rfl, rfl, _, rfl, iteI (fun _ => ?_) (fun e => absurd rfl e)⟩)⟩)⟩)⟩)⟩
      refine ⟨_, rfl, b, d, _, rfl, hb, boatF_no (by decide +kernel), _, rfl, g, _, _, _, rfl, rfl, SqL.of hg, at_of (j := 0) (v := .int x) rfl rfl, _, rfl, g, _, _, _, rfl, rfl, SqL.of hg, at_of (j := 1) (v := .int z) rfl rfl, _, rfl, g, _, _, _, rfl, rfl, SqL.of hg, at_of (j := 2) (v := .int a) rfl rfl, b, s, x, z, a, rfl, BO, fun p H' sm hp np => ?_⟩
      exact k p H' (fun b o e _ => sm b o e) (BO.same sm) hp np
    | frame x a t =>
      have hg := hG.flat
      refine ⟨_, rfl, rfl, _, rfl, iteI (fun e => absurd e (by decide)) (fun _ => ⟨_, rfl, rfl, _, rfl, iteI (fun e => absurd e (by decide)) (fun _ => ⟨_, rfl, rfl, _, rfl, iteI (fun e => absurd e (by decide)) (fun _ => ⟨_, rfl, rfl, _, rfl, iteI (fun e => absurd e (by decide)) (fun _ => ⟨_, rfl, rfl, _, rfl, iteI (fun e => absurd e (by decide)) (fun _ => ⟨_, rfl, rfl, _, rfl, iteI (fun _ => ?_) (fun e => absurd rfl e)⟩)⟩)⟩)⟩)⟩)⟩
      refine ⟨_, rfl, b, d, _, rfl, hb, boatF_no (by decide +kernel), _, rfl, g, _, _, _, rfl, rfl, SqL.of hg, at_of (j := 0) (v := .int x) rfl rfl, _, rfl, g, _, _, _, rfl, rfl, SqL.of hg, at_of (j := 1) (v := .int a) rfl rfl, b, s, x, a, rfl, BO, fun p H' sm hp np => ?_⟩
      exact k p H' (fun b o e _ => sm b o e) (BO.same sm) hp np
    | level z t =>
      have hg := hG.flat
      refine ⟨_, rfl, rfl, _, rfl, iteI (fun e => absurd e (by decide)) (fun _ => ⟨_, rfl, rfl, _, rfl, iteI (fun e => absurd e (by decide)) (fun _ => ⟨_, rfl, rfl, _, rfl, iteI (fun e => absurd e (by decide)) (fun _ => ⟨_, rfl, rfl, _, rfl, iteI (fun e => absurd e (by decide)) (fun _ => ⟨_, rfl, rfl, _, rfl, iteI (fun e => absurd e (by decide)) (fun _ => ⟨_, rfl, rfl, _, rfl, iteI (fun e => absurd e (by decide)) (fun _ => ?_)⟩)⟩)⟩)⟩)⟩)⟩
      refine ⟨_, rfl, b, d, _, rfl, hb, boatF_no (by decide +kernel), _, rfl, g, _, _, _, rfl, rfl, SqL.of hg, at_of (j := 0) (v := .int z) rfl rfl, b, s, z, rfl, BO, fun p H' sm hp np => ?_⟩
      exact k p H' (fun b o e _ => sm b o e) (BO.same sm) hp np
/-! ### answers -/
theorem step_len {s : Option Loft.Table} (G : ∀ T, s = some T → GoodT T) {p : Int} {r t : List Int} {c : List (List Int)} (h : HF.First p r c t) : (HullNeutral.step s c).2.length ≤ 60 := by
  have ofh : ∀ (bad : Bool) (place : Loft.Table → Bool) (g : Loft.Table → LoftHullSeed.Answer), (∀ T, s = some T → (g T).length ≤ 60) → (LoftHullSeed.ofHull s bad place g).length ≤ 60 := fun bad place g hg => by
    unfold LoftHullSeed.ofHull
    cases s with
    | none => show 1 ≤ 60; decide
    | some T =>
      dsimp only
      by_cases c1 : bad = true
      · rw [if_pos c1]; decide
      · rw [if_neg c1]
        by_cases c2 : place T = false
        · rw [if_pos c2]; decide
        · rw [if_neg c2]; exact hg T rfl
  cases h with
  | make x0 x1 x2 =>
    show (LoftHullSeed.step s (.make x0 x1 x2)).2.length ≤ 60
    have es : LoftHullSeed.step s (.make x0 x1 x2) = (match Loft.judge x0 x1 x2 with
      | .error f => (s, LoftHullSeed.tells [(f.1 : Int), (f.2 : Int)])
      | .ok T => (some T, LoftHullSeed.tells [0, 0])) := rfl
    rw [es]
    cases Loft.judge x0 x1 x2 with
    | error f => show 3 ≤ 60; decide
    | ok T => show 3 ≤ 60; decide
  | at_ x z a => exact ofh _ _ _ fun T _ => (by show 3 ≤ 60; decide)
  | near x z => exact ofh _ _ _ fun T _ => (by show 2 ≤ 60; decide)
  | bevel x z => exact ofh _ _ _ fun T _ => (by show 2 ≤ 60; decide)
  | inside x z a => exact ofh _ _ _ fun T _ => (by show 2 ≤ 60; decide)
  | frame x a =>
    refine ofh _ _ _ fun T e => ?_
    have := (G T e).gz.most
    have fl : ∀ l : List (Int × Int), (l.flatMap fun (u : Int × Int) => [u.1, u.2]).length = 2 * l.length := fun l => by
      induction l with
      | nil => rfl
      | cons u l ih =>
        rw [List.flatMap_cons, List.length_append, ih]
        show 2 + 2 * l.length = 2 * (l.length + 1)
        omega
    show ((T.frame (x : Rat) (a : Rat)).flatMap fun (u : Int × Int) => [u.1, u.2]).length + 1 ≤ 60
    rw [fl]
    unfold Loft.Table.frame
    rw [List.length_map]
    omega
  | level z =>
    refine ofh _ _ _ fun T e => ?_
    have := (G T e).gx.most
    show (T.level (z : Rat)).length + 1 ≤ 60
    unfold Loft.Table.level
    rw [List.length_map]
    omega
theorem BoatAt.goodT {CG CB CH CO b : Addr} {H : Hp} {s : Option Loft.Table} (U : BoatAt CG CB CH CO H b s) : ∀ T, s = some T → GoodT T := fun T e => by
  subst e
  obtain ⟨d, v, _, h, _, _, G⟩ := U
  exact G
theorem pe_mk0 {X : Cx} {k : Nat} {x : Str} {ps : List Str} {sp : Sp} {C : Addr} {p pos : Pos} (F : MkAt X.prog X.w X.K X.mg X.base k x C ps sp) (hr : Room (k + 1) X.A) (hg : Gl X x) (hdb : (x == ("__debug__" : Str)) = false := by decide) :
    PE X (.Call (.Name x p) [] [] pos) (tMake C sp [] E0 tNil) := by
  obtain ⟨f, fd, hm, M, hb, G⟩ := F
  exact pe_make0 M G hr hg hm hb .nil pass0 hdb
def spAns (K : PySem.W.Frag) : Sp := fun vs H Q _ => ∃ (a : Addr) (ns : List Int), vs = [.ref a] ∧ SqL K H a (ns.map V.int) ∧ ns.length ≤ 16000 ∧ PyWqlftd.answers_asked ns = true ∧ ∀ (H' : Hp) (p : Addr), H' p = some (.lst ((PyWqlftd.answers ns).map V.int)) → Q (.ref p) H'
theorem scAnswers : FnScope ["calls", "boat", "told", "start", "number", "given", "answered"] ["calls"] (defScope sAnswers) := ⟨rfl, rfl, rfl, by decide +kernel, rfl, by decide +kernel, by decide +kernel⟩
theorem ok_answers {f CG CB CH CO : Addr} {fd : FuncData} (F : Fun K "answers" "answers" sAnswers f fd) (B : Blt mg) (MO : MkAt P w K mg base 1 "Boat" CO ["self"] (spOInit CG CB CH CO)) (FA : FnAt P w K mg base 2 "arguments_behind" ["calls", "start", "number"] (spArgs K))
    (FW : FnAt P w K mg base 1 "width_of" ["number", "given"] spWidth) (FN : FnAt P w K mg base 11 "answer" ["boat", "number", "given"] (spAnswer CG CB CH CO)) : FnOk P w K mg base CX0 12 f fd ["calls"] (spAns K) := by
  refine F.ok scAnswers (fun vs H Q E h => ?_) (fun cdv A outer s H vs Q E hr h => ?_)
  · obtain ⟨a, ns, rfl, _⟩ := h
    rfl
  · obtain ⟨a, ns, rfl, hS, hl, hask, k⟩ := h
    refine ⟨_, pss_cons (ps_set (i := 1) scAnswers.nd rfl (Or.inl rfl) (pe_mk0 MO (hr.mono (by decide)) rfl))
      (pss_cons (ps_set (i := 2) scAnswers.nd rfl (Or.inl rfl) (pe_lst pa_nil))
      (pss_cons (ps_set (i := 3) scAnswers.nd rfl (Or.inl rfl) pe_int)
      (pss_cons (ps_while PassesOwn.never (pt_cmpR op_lt (pv 3) (pe_callB call_len_seq (by rfl) B.len PySem.boot_len (pa_cons (pv 0) pa_nil)) (nomark _))
        (pss_cons (ps_set (i := 4) scAnswers.nd rfl (Or.inl rfl) (pe_ix ix_list (pv 0) (pv 3) (fun _ _ => rfl)))
        (pss_cons (ps_set (i := 5) scAnswers.nd rfl (Or.inl rfl) (pe_hide (pe_fn FA (hr.mono (by decide)) rfl (pa_cons (pv 0) (pa_cons (pe_op op_add (pv 3) pe_int) (pa_cons (pv 4) pa_nil))))))
        (pss_cons (ps_set (i := 3) scAnswers.nd rfl (Or.inl rfl) (pe_op op_add (pe_op op_add (pv 3) pe_int) (pe_hide (pe_fn FW (hr.mono (by decide)) rfl (pa_cons (pv 4) (pa_cons (pv 5) pa_nil))))))
        (pss_cons (ps_set (i := 6) scAnswers.nd rfl (Or.inl rfl) (pe_hide (pe_fn FN hr rfl (pa_cons (pv 1) (pa_cons (pv 4) (pa_cons (pv 5) pa_nil))))))
        (pss_cons (ps_expr (pe_bm PySem.F.plainAttrs_list PySem.F.slot_list_append PySem.F.type_list_append mt_append (pv 2) (pa_cons (pe_callB call_len_seq (by rfl) B.len PySem.boot_len (pa_cons (pv 6) pa_nil)) pa_nil)))
        (pss_one (ps_expr (pe_bm PySem.F.plainAttrs_list PySem.F.slot_list_extend PySem.F.type_list_extend mt_extend (pv 2) (pa_cons (pv 6) pa_nil))))))))))
      (pss_one (ps_ret (pv 2)))))), ?_⟩
    obtain ⟨cs0, hc0, ha0⟩ := HF.answers_rest hask
    intro b d hb hd ne
    have sa : Same H (upd (upd H d (.own b)) b (.ins CO d [])) := (Same.new hd).trans (Same.new (by rw [upd_ne (Ne.symm ne)]; exact hb))
    refine ⟨b, d, rfl, upd_same, fun H1 BO1 kp => ⟨rfl, ?_⟩⟩
    have s1 : Same H H1 := Same.made hb hd kp
    refine ⟨Nat.zero_le _, fun D hD => ?_⟩
    have nD : H D = none := s1.free hD
    let Iv : Nat → L2.St → Hp → Prop := fun m σ H' => ∃ (i fu : Nat) (cs : List (List (List Int))) (st : Option Loft.Table) (outp : List Int) (Hh : Hp), m = ns.length - i ∧ i ≤ ns.length ∧ (∃ v4 v5 v6 : Option V, σ = [some (.ref a), some (.ref b), some (.ref D), some (.int (i : Nat)), v4, v5, v6]) ∧ H' = upd Hh D (.lst (outp.map V.int)) ∧ Hh D = none ∧ Same H Hh ∧
        PyFlat.calls PyWqlftd.shape fu (ns.drop i) = some cs ∧ PyWqlftd.answers ns = outp ++ HF.rest st cs ∧ BoatAt CG CB CH CO Hh b st ∧ outp.length ≤ 100 * i
    refine ⟨Iv, ⟨ns.length, 0, ns.length, cs0, HullNeutral.start, [], H1, rfl, Nat.zero_le _, ⟨none, none, none, rfl⟩, rfl, hD, s1, hc0, ha0, BO1, Nat.zero_le _⟩, ?_⟩
    rintro m σ H2 ⟨i, fu, cs, st, outp, Hh, rfl, hi, ⟨v4, v5, v6, rfl⟩, rfl, hn, sm, hcs, hans, BO, hout⟩
    have hS0 := Same.seq sm hS
    have hS2 := Same.seq (sm.trans (Same.new (o := .lst (outp.map V.int)) hn)) hS
    refine ⟨_, rfl, _, rfl, a, _, rfl, .inl hS2, _, _, rfl, rfl, _, rfl, ite2 (fun e => ?_) (fun e => ?_)⟩
    · have hlt : i < ns.length := by
        have := of_decide_eq_true e
        rw [List.length_map] at this
        omega
      have ed : ns.drop i = ns.getD i 0 :: ns.drop (i + 1) := by
        rw [List.drop_eq_getElem_cons hlt, List.getD_eq_getElem?_getD, List.getElem?_eq_getElem hlt]
        rfl
      rw [ed] at hcs
      obtain ⟨fu', c, t, cs1, rfl, hF, hcs1, rfl⟩ := HF.calls_some hcs
      rw [HF.rest_cons hF] at hans
      obtain ⟨pre, epre⟩ := First.split hF
      obtain ⟨p1, p2, p3⟩ := drop_app epre (by omega)
      refine ⟨fun σ' H' => ∃ m', m' < ns.length - i ∧ Iv m' σ' H', fun σ' H' z => z, ?_⟩
      -- number
      refine ⟨_, rfl, _, rfl, a, _, _, _, rfl, rfl, hS2, at_ints (i := i) rfl hlt, ?_⟩
      -- given
      refine ⟨D, _, upd_same, ?_⟩
      rw [hide_upd hn]
      refine ⟨_, rfl, _, rfl, _, _, rfl, rfl, _, rfl, a, ns, i + 1, _, _, c, t, rfl, (by show (i : Int) + 1 = _; omega), hS0, by omega, hl, hF, fun g H3 s3 hG n3 => ?_⟩
      -- start
      refine ⟨_, rfl, _, _, rfl, rfl, D, _, upd_same, ?_⟩
      rw [hide_upd n3]
      refine ⟨_, rfl, _, rfl, _, g, ns.drop (i + 1), t, c, rfl, hF, hG, fun H4 s4 n4 => ?_⟩
      have s34 := s3.trans s4
      have est : (i : Int) + 1 + (((ns.drop (i + 1)).length : Int) - (t.length : Int)) = ((i + 1 + pre.length : Nat) : Int) := by
        rw [epre, List.length_append]
        omega
      refine ⟨_, _, rfl, rfl, ?_⟩
      -- answered
      refine ⟨D, _, upd_same, ?_⟩
      rw [hide_upd n4]
      have hlr : (ns.drop (i + 1)).length ≤ 16000 := by rw [List.length_drop]; omega
      refine ⟨_, rfl, _, rfl, _, rfl, b, g, _, st, ns.drop (i + 1), t, c, rfl, hF, hlr, hG.same s4, BO.same s34, fun q H5 k5 B5 hq nq n5 => ?_⟩
      have nqD : q ≠ D := ne_of_none hq n5
      have s5 : Same H H5 := fun x o e => k5 _ _ (s34 _ _ (sm _ _ e)) (ne_of_none e hb)
      have hlen := step_len BO.goodT hF
      have i16 : i ≤ 16000 := by omega
      -- append
      have hq5 : Ints (upd H5 D (.lst (outp.map V.int))) q (HullNeutral.step st c).2 := by
        show upd _ _ _ _ = _
        rw [upd_ne nqD]
        exact hq
      refine ⟨_, rfl, .inl ⟨rfl, _, SqL.of upd_same⟩, _, rfl, q, _, rfl, .inl (SqL.of hq5), D, _, _, rfl, rfl, upd_same, ?_, ?_⟩
      · rw [List.length_map, sizeLine_eq]
        omega
      rw [upd_upd]
      -- extend
      have hq6 : Ints (upd H5 D (.lst (outp.map V.int ++ [.int ((((HullNeutral.step st c).2.map V.int).length : Nat) : Int)]))) q (HullNeutral.step st c).2 := by
        show upd _ _ _ _ = _
        rw [upd_ne nqD]
        exact hq
      refine ⟨_, rfl, .inl ⟨rfl, _, SqL.of upd_same⟩, _, rfl, D, q, _, _, rfl, rfl, upd_same, hq6, ?_, ?_⟩
      · rw [List.length_append, List.length_map, List.length_map, sizeLine_eq]
        show outp.length + 1 + _ ≤ _
        omega
      rw [upd_upd]
      refine ⟨ns.length - (i + 1 + pre.length), by omega, i + 1 + pre.length, fu', cs1, (HullNeutral.step st c).1, outp ++ (((HullNeutral.step st c).2.length : Nat) : Int) :: (HullNeutral.step st c).2, H5, rfl, by omega, ⟨some (.int (ns.getD i 0)), some (.ref g), some (.ref q), ?_⟩, ?_, n5, s5, ?_, ?_, B5, ?_⟩
      · rw [← est]
        rfl
      · rw [List.length_map, List.map_append, List.append_assoc]
        rfl
      · rw [p3]
        exact hcs1
      · rw [hans, List.append_assoc]
        rfl
      · rw [List.length_append, List.length_cons]
        omega
    · have hge : ns.length ≤ i := by
        rcases Nat.lt_or_ge i ns.length with q | q
        · exact absurd (decide_eq_true (by rw [List.length_map]; omega)) e
        · exact q
      have ei : i = ns.length := by omega
      subst ei
      rw [List.drop_length] at hcs
      have := HF.calls_nil hcs
      subst this
      rw [HF.rest_nil, List.append_nil] at hans
      rw [hans] at k
      exact ⟨_, rfl, k _ D upd_same⟩
end
end HP

set_option Elab.async false
set_option linter.all false
set_option maxRecDepth 100000
set_option maxHeartbeats 2000000
namespace HP
open PySem PySem.Spec PyProof.Rows L2 HB HM
/-- a def of the text, bound to its name -/
def DefAt (K : PySem.W.Frag) (mg : Str → Option Value) (x : Str) (st : Stmt) (ps : List Str) : Prop :=
  ∃ (f : Addr) (fd : FuncData), mg x = some (.ref f) ∧ PySem.W.keepIn K (.ref f) = true ∧ Binds K fd ps [] ∧ Fun K x x st f fd
/-- a method of a class of the text -/
def MethAt (K : PySem.W.Frag) (C : Addr) (m q : Str) (st : Stmt) (ps : List Str) : Prop :=
  ∃ (f : Addr) (fd : FuncData), Meth K C m f ∧ Binds K fd ps [] ∧ Fun K m q st f fd
section
variable {P : Program} {w : World} {K : PySem.W.Frag} {h : Heap} {mg : Str → Option Value} {base : Heap}
theorem defAt_mk {x : Str} {st : Stmt} {ps : List Str} (X : K.In h) (G : h.Ns mainGlobals mg) {f : Addr} {od an : Option Addr} {sl : Array (Option Value)} {oc kV dc pm cd ct : Value}
    (b : ∀ (kV doc pm : Value) (an : Option Addr) (cdv ct : Value) (us : List Value), us.length = ps.length → bindArgs (PySem.W.fnOf x x (defArgs st) (defBody st) (defScope st) .none kV doc pm an cdv ct) ⟨us, []⟩ = pure (ps.zip us))
    (a : PySem.W.nsIn K mainGlobals x = some (some (.ref f))) (l : K.lookup f = some ⟨oc, od, .func (PySem.W.fnOf x x (defArgs st) (defBody st) (defScope st) .none kV dc pm an cd ct), sl⟩) (c : PySem.W.codeIn K cd x = true) (k : PySem.W.keepIn K (.ref f) = true) : DefAt K mg x st ps :=
  have F := fun_mk (st := st) l c k
  ⟨f, _, PySem.W.mg_of X G a, k, F.binds b, F⟩
theorem methAt_mk {C : Addr} {m q : Str} {st : Stmt} {ps : List Str} {f : Addr} {od an : Option Addr} {sl : Array (Option Value)} {oc kV dc pm cd ct : Value}
    (b : ∀ (kV doc pm : Value) (an : Option Addr) (cdv ct : Value) (us : List Value), us.length = ps.length → bindArgs (PySem.W.fnOf m q (defArgs st) (defBody st) (defScope st) .none kV doc pm an cdv ct) ⟨us, []⟩ = pure (ps.zip us))
    (a : PySem.W.findIn K (.ref C) m = some (some (.ref f))) (i : PySem.W.isFn K (.ref f) = true) (l : K.lookup f = some ⟨oc, od, .func (PySem.W.fnOf m q (defArgs st) (defBody st) (defScope st) .none kV dc pm an cd ct), sl⟩) (c : PySem.W.codeIn K cd q = true) (k : PySem.W.keepIn K (.ref f) = true) : MethAt K C m q st ps :=
  have F := fun_mk (st := st) l c k
  ⟨f, _, ⟨a, i, k⟩, F.binds b, F⟩
theorem DefAt.fn {x : Str} {st : Stmt} {ps : List Str} {k : Nat} {sp : Sp} (D : DefAt K mg x st ps) (ok : ∀ f fd, Fun K x x st f fd → FnOk P w K mg base CX0 k f fd ps sp) : FnAt P w K mg base k x ps sp := by
  obtain ⟨f, fd, h1, h2, h3, F⟩ := D
  exact ⟨f, fd, h1, h2, h3, ok f fd F⟩
theorem MethAt.mt {C : Addr} {m q : Str} {st : Stmt} {ps : List Str} {k : Nat} {sp : Sp} (D : MethAt K C m q st ps) (c : Cls K C) (ok : ∀ f fd, Fun K m q st f fd → FnOk P w K mg base CX0 k f fd ps sp) : MtAt P w K mg base k C m ps sp := by
  obtain ⟨f, fd, h1, h2, F⟩ := D
  exact ⟨f, fd, c, h1, h2, ok f fd F⟩
theorem MethAt.mk {x : Str} {C : Addr} {q : Str} {st : Stmt} {ps : List Str} {k : Nat} {sp : Sp} (D : MethAt K C "__init__" q st ps) (hx : mg x = some (.ref C)) (mk : PySem.W.makesIn K C = true) (kc : PySem.W.keepIn K (.ref C) = true) (ok : ∀ f fd, Fun K "__init__" q st f fd → FnOk P w K mg base CX0 k f fd ps sp) : MkAt P w K mg base k x C ps sp := by
  obtain ⟨f, fd, h1, h2, F⟩ := D
  exact ⟨f, fd, hx, ⟨mk, h1.at_, h1.fn, kc⟩, h2, ok f fd F⟩
theorem int_mk {x : Str} {i : Int} {t : Tok} (X : K.In h) (G : h.Ns mainGlobals mg) (a : PySem.W.nsIn K mainGlobals x = some (some (.int i t))) : ∃ t, mg x = some (.int i t) := ⟨t, PySem.W.mg_of X G a⟩
end
/-! ### all -/
section
theorem gd_mk {K : PySem.W.Frag} {d : Addr} {ep : Nat} {h1 h2 h3 h4 h5 h6 : Int} {t1 t2 t3 t4 t5 t6 u1 u2 u3 u4 u5 u6 : Tok}
    (l : K.lookup d = some ⟨.type "dict", none, .dict #[⟨h1, .int 2 t1, .int 3 u1⟩, ⟨h2, .int 3 t2, .int 2 u2⟩, ⟨h3, .int 4 t3, .int 2 u3⟩, ⟨h4, .int 5 t4, .int 3 u4⟩, ⟨h5, .int 6 t5, .int 2 u5⟩, ⟨h6, .int 7 t6, .int 1 u6⟩] ep, #[]⟩)
    (e1 : h1 = hashInt 2) (e2 : h2 = hashInt 3) (e3 : h3 = hashInt 4) (e4 : h4 = hashInt 5) (e5 : h5 = hashInt 6) (e6 : h6 = hashInt 7) : GD K d HP.nums :=
  ⟨_, _, ep, l, ⟨rfl, rfl, rfl⟩, rfl, .cons ⟨e1, ⟨t1, rfl⟩, ⟨u1, rfl⟩⟩ (.cons ⟨e2, ⟨t2, rfl⟩, ⟨u2, rfl⟩⟩ (.cons ⟨e3, ⟨t3, rfl⟩, ⟨u3, rfl⟩⟩ (.cons ⟨e4, ⟨t4, rfl⟩, ⟨u4, rfl⟩⟩ (.cons ⟨e5, ⟨t5, rfl⟩, ⟨u5, rfl⟩⟩ (.cons ⟨e6, ⟨t6, rfl⟩, ⟨u6, rfl⟩⟩ .nil)))))⟩
theorem all_fin {P : Program} {w : World} {K : PySem.W.Frag} {h : Heap} {mg : Str → Option Value} {fa CG CB CS CH CO dN f3 : Addr} (X : K.In h) (G : h.Ns mainGlobals mg) (hfa : mg "answers" = some (.ref fa))
    {od3 an3 : Option Addr} {sl3 : Array (Option Value)} {oc3 kV3 dc3 pm3 cd3 ct3 : Value}
    (a_CG : PySem.W.nsIn K mainGlobals "Ground" = some (some (.ref CG)))
    (a_CB : PySem.W.nsIn K mainGlobals "Batten" = some (some (.ref CB)))
    (a_CS : PySem.W.nsIn K mainGlobals "Section" = some (some (.ref CS)))
    (a_CH : PySem.W.nsIn K mainGlobals "Hull" = some (some (.ref CH)))
    (a_CO : PySem.W.nsIn K mainGlobals "Boat" = some (some (.ref CO)))
    (pg_CG : PySem.W.plainGet K CG Str.empty = true)
    (hd_CG : PySem.W.hasDictIn K CG = true)
    (po_CG : PySem.W.plainOver K CG = true)
    (sa_CG : PySem.W.findIn K (.ref CG) "__setattr__" = some (some (.builtin "object.__setattr__")))
    (mk_CG : PySem.W.makesIn K CG = true)
    (kc_CG : PySem.W.keepIn K (.ref CG) = true)
    (n0_CG : PySem.W.findIn K (.ref CG) "places" = some none)
    (n1_CG : PySem.W.findIn K (.ref CG) "gaps" = some none)
    (n2_CG : PySem.W.findIn K (.ref CG) "gaps_product" = some none)
    (n3_CG : PySem.W.findIn K (.ref CG) "minors" = some none)
    (n4_CG : PySem.W.findIn K (.ref CG) "bends_divisor" = some none)
    (pg_CB : PySem.W.plainGet K CB Str.empty = true)
    (hd_CB : PySem.W.hasDictIn K CB = true)
    (po_CB : PySem.W.plainOver K CB = true)
    (sa_CB : PySem.W.findIn K (.ref CB) "__setattr__" = some (some (.builtin "object.__setattr__")))
    (mk_CB : PySem.W.makesIn K CB = true)
    (kc_CB : PySem.W.keepIn K (.ref CB) = true)
    (n0_CB : PySem.W.findIn K (.ref CB) "ground" = some none)
    (n1_CB : PySem.W.findIn K (.ref CB) "nails" = some none)
    (n2_CB : PySem.W.findIn K (.ref CB) "bends" = some none)
    (pg_CS : PySem.W.plainGet K CS Str.empty = true)
    (hd_CS : PySem.W.hasDictIn K CS = true)
    (po_CS : PySem.W.plainOver K CS = true)
    (sa_CS : PySem.W.findIn K (.ref CS) "__setattr__" = some (some (.builtin "object.__setattr__")))
    (mk_CS : PySem.W.makesIn K CS = true)
    (kc_CS : PySem.W.keepIn K (.ref CS) = true)
    (n0_CS : PySem.W.findIn K (.ref CS) "upward" = some none)
    (n1_CS : PySem.W.findIn K (.ref CS) "divisor_along" = some none)
    (n2_CS : PySem.W.findIn K (.ref CS) "halves_up" = some none)
    (n3_CS : PySem.W.findIn K (.ref CS) "slopes_up" = some none)
    (pg_CH : PySem.W.plainGet K CH Str.empty = true)
    (hd_CH : PySem.W.hasDictIn K CH = true)
    (po_CH : PySem.W.plainOver K CH = true)
    (sa_CH : PySem.W.findIn K (.ref CH) "__setattr__" = some (some (.builtin "object.__setattr__")))
    (mk_CH : PySem.W.makesIn K CH = true)
    (kc_CH : PySem.W.keepIn K (.ref CH) = true)
    (n0_CH : PySem.W.findIn K (.ref CH) "along" = some none)
    (n1_CH : PySem.W.findIn K (.ref CH) "upward" = some none)
    (n2_CH : PySem.W.findIn K (.ref CH) "levels" = some none)
    (n3_CH : PySem.W.findIn K (.ref CH) "stations" = some none)
    (pg_CO : PySem.W.plainGet K CO Str.empty = true)
    (hd_CO : PySem.W.hasDictIn K CO = true)
    (po_CO : PySem.W.plainOver K CO = true)
    (sa_CO : PySem.W.findIn K (.ref CO) "__setattr__" = some (some (.builtin "object.__setattr__")))
    (mk_CO : PySem.W.makesIn K CO = true)
    (kc_CO : PySem.W.keepIn K (.ref CO) = true)
    (n0_CO : PySem.W.findIn K (.ref CO) "hull" = some none)
    (b_len : PySem.W.nsIn K mainGlobals "len" = some none)
    (b_range : PySem.W.nsIn K mainGlobals "range" = some none)
    (b_list : PySem.W.nsIn K mainGlobals "list" = some none)
    (b_abs : PySem.W.nsIn K mainGlobals "abs" = some none)
    (b_sum : PySem.W.nsIn K mainGlobals "sum" = some none)
    (b_enumerate : PySem.W.nsIn K mainGlobals "enumerate" = some none)
    (i_SIXTEENTHS_IN_A_FOOT : ∃ t, mg "SIXTEENTHS_IN_A_FOOT" = some (.int (192) t))
    (i_LARGEST_MEASURE : ∃ t, mg "LARGEST_MEASURE" = some (.int (1048575) t))
    (i_FEWEST : ∃ t, mg "FEWEST" = some (.int (2) t))
    (i_MOST_STATIONS : ∃ t, mg "MOST_STATIONS" = some (.int (24) t))
    (i_MOST_LEVELS : ∃ t, mg "MOST_LEVELS" = some (.int (16) t))
    (i_GOOD : ∃ t, mg "GOOD" = some (.int (0) t))
    (i_WRONG_HALVES_COUNT : ∃ t, mg "WRONG_HALVES_COUNT" = some (.int (1) t))
    (i_WRONG_COUNT : ∃ t, mg "WRONG_COUNT" = some (.int (2) t))
    (i_WRONG_PLACE : ∃ t, mg "WRONG_PLACE" = some (.int (3) t))
    (i_WRONG_HEIGHT : ∃ t, mg "WRONG_HEIGHT" = some (.int (4) t))
    (i_WRONG_HALF : ∃ t, mg "WRONG_HALF" = some (.int (5) t))
    (i_DONE : ∃ t, mg "DONE" = some (.int (0) t))
    (i_WRONG_ARGUMENT : ∃ t, mg "WRONG_ARGUMENT" = some (.int (-1) t))
    (i_NO_TABLE : ∃ t, mg "NO_TABLE" = some (.int (-3) t))
    (i_OUTSIDE : ∃ t, mg "OUTSIDE" = some (.int (-4) t))
    (i_HALF_BREADTH : ∃ t, mg "HALF_BREADTH" = some (.int (0) t))
    (i_SLOPE_ALONG : ∃ t, mg "SLOPE_ALONG" = some (.int (1) t))
    (i_SLOPE_UP : ∃ t, mg "SLOPE_UP" = some (.int (2) t))
    (i_MAKE : ∃ t, mg "MAKE" = some (.int (1) t))
    (i_AT : ∃ t, mg "AT" = some (.int (2) t))
    (i_NEAR : ∃ t, mg "NEAR" = some (.int (3) t))
    (i_BEVEL : ∃ t, mg "BEVEL" = some (.int (4) t))
    (i_INSIDE : ∃ t, mg "INSIDE" = some (.int (5) t))
    (i_FRAME : ∃ t, mg "FRAME" = some (.int (6) t))
    (i_ROWS_OF_MAKE : ∃ t, mg "ROWS_OF_MAKE" = some (.int (3) t))
    (a_num : PySem.W.nsIn K mainGlobals "NUMBERS_OF_CALL" = some (some (.ref dN)))
    (g_num : GD K dN HP.nums)
    (d_gaps_between : DefAt K mg "gaps_between" sGaps ["places"])
    (d_product_of : DefAt K mg "product_of" sProd ["numbers"])
    (d_leading_minors : DefAt K mg "leading_minors" sMin ["gaps"])
    (d_scaled_rise : DefAt K mg "scaled_rise" sRise ["ground", "values", "k"])
    (d_eliminated_sides : DefAt K mg "eliminated_sides" sSides ["ground", "values"])
    (d_bends_through : DefAt K mg "bends_through" sBends ["ground", "values"])
    (d_common_divisor : DefAt K mg "common_divisor" sGcd ["first", "second"])
    (d_lowest_terms : DefAt K mg "lowest_terms" sLow ["over", "under"])
    (d_nearest : DefAt K mg "nearest" sNear ["over", "under"])
    (d_whole_root : DefAt K mg "whole_root" sRoot ["number"])
    (d_nearest_less_root : DefAt K mg "nearest_less_root" sLess ["over", "square", "under"])
    (d_level_rows : DefAt K mg "level_rows" sRows ["halves", "stations"])
    (d_station_rows : DefAt K mg "station_rows" sCols ["halves", "stations"])
    (d_first_not_between : DefAt K mg "first_not_between" sFnb ["numbers", "least", "most"])
    (d_first_not_rising : DefAt K mg "first_not_rising" sFnr ["numbers", "least", "most"])
    (d_first_wrong_count : DefAt K mg "first_wrong_count" sWc ["places", "heights", "halves"])
    (d_first_wrong_number : DefAt K mg "first_wrong_number" sWn ["places", "heights", "halves"])
    (d_verdict : DefAt K mg "verdict" sVer ["places", "heights", "halves"])
    (d_told_at : DefAt K mg "told_at" sToldAt ["section", "z", "what"])
    (d_is_thickness : DefAt K mg "is_thickness" sIsThick ["t"])
    (d_rows_behind : DefAt K mg "rows_behind" sRowsB ["calls", "start", "count"])
    (d_arguments_behind : DefAt K mg "arguments_behind" sArgs ["calls", "start", "number"])
    (d_width_of : DefAt K mg "width_of" sWidth ["number", "given"])
    (d_answer : DefAt K mg "answer" sAnswer ["boat", "number", "given"])
    (m_CG___init__ : MethAt K CG "__init__" "Ground.__init__" sGInit ["self", "places"])
    (m_CG_holds : MethAt K CG "holds" "Ground.holds" sGHolds ["self", "place"])
    (m_CG_piece_at : MethAt K CG "piece_at" "Ground.piece_at" sGPiece ["self", "place"])
    (m_CG_divisor_at : MethAt K CG "divisor_at" "Ground.divisor_at" sGDiv ["self", "place"])
    (m_CB___init__ : MethAt K CB "__init__" "Batten.__init__" sBInit ["self", "ground", "values"])
    (m_CB_value_at : MethAt K CB "value_at" "Batten.value_at" sBVal ["self", "place"])
    (m_CB_slope_at : MethAt K CB "slope_at" "Batten.slope_at" sBSlope ["self", "place"])
    (m_CS___init__ : MethAt K CS "__init__" "Section.__init__" sSInit ["self", "levels", "upward", "x"])
    (m_CS_divisor : MethAt K CS "divisor" "Section.divisor" sSDiv ["self", "z"])
    (m_CS_half_breadth : MethAt K CS "half_breadth" "Section.half_breadth" sSHalf ["self", "z"])
    (m_CS_slope_along : MethAt K CS "slope_along" "Section.slope_along" sSAlong ["self", "z"])
    (m_CS_slope_up : MethAt K CS "slope_up" "Section.slope_up" sSUp ["self", "z"])
    (m_CS_near : MethAt K CS "near" "Section.near" sSNear ["self", "z"])
    (m_CS_bevel : MethAt K CS "bevel" "Section.bevel" sSBevel ["self", "z"])
    (m_CS_inside : MethAt K CS "inside" "Section.inside" sSIns ["self", "z", "t"])
    (m_CH___init__ : MethAt K CH "__init__" "Hull.__init__" sHInit ["self", "places", "heights", "halves"])
    (m_CH_section : MethAt K CH "section" "Hull.section" sHSect ["self", "x"])
    (m_CH_frame : MethAt K CH "frame" "Hull.frame" sHFrame ["self", "x", "t"])
    (m_CH_level : MethAt K CH "level" "Hull.level" sHLevel ["self", "z"])
    (m_CO___init__ : MethAt K CO "__init__" "Boat.__init__" sOInit ["self"])
    (m_CO_make : MethAt K CO "make" "Boat.make" sOMake ["self", "places", "heights", "halves"])
    (m_CO_refusal : MethAt K CO "refusal" "Boat.refusal" sORef ["self", "arguments_fit", "x", "z"])
    (m_CO_at : MethAt K CO "at" "Boat.at" sOAt ["self", "x", "z", "what"])
    (m_CO_near : MethAt K CO "near" "Boat.near" sONear ["self", "x", "z"])
    (m_CO_bevel : MethAt K CO "bevel" "Boat.bevel" sOBevel ["self", "x", "z"])
    (m_CO_inside : MethAt K CO "inside" "Boat.inside" sOIns ["self", "x", "z", "t"])
    (m_CO_frame : MethAt K CO "frame" "Boat.frame" sOFrame ["self", "x", "t"])
    (m_CO_level : MethAt K CO "level" "Boat.level" sOLevel ["self", "z"])
    (a3 : PySem.W.nsIn K mainGlobals "answers" = some (some (.ref f3)))
    (l3 : K.lookup f3 = some ⟨oc3, od3, .func (PySem.W.fnOf "answers" "answers" (defArgs sAnswers) (defBody sAnswers) (defScope sAnswers) .none kV3 dc3 pm3 an3 cd3 ct3), sl3⟩)
    (c3 : PySem.W.codeIn K cd3 "answers" = true)
    (k3 : PySem.W.keepIn K (.ref f3) = true)
    : ∃ fd : FuncData, (∀ (s : Shared) (us : List Value), us.length = (["calls"] : List Str).length → BindsTo s fd ⟨us, []⟩ ((["calls"] : List Str).zip us)) ∧ ∀ base : Heap, K.In base → base.Ns mainGlobals mg → FnOk P w K mg base CX0 12 fa fd ["calls"] (spAns K) := by
  have e := hfa.symm.trans (PySem.W.mg_of X G a3)
  cases e
  have F3 := fun_mk (st := sAnswers) l3 c3 k3
  have T_CG : GTxt K CG := ⟨⟨pg_CG, hd_CG, po_CG, sa_CG⟩, n0_CG, n1_CG, n2_CG, n3_CG, n4_CG⟩
  have x_CG := PySem.W.mg_of X G a_CG
  have T_CB : BTxt K CB := ⟨⟨pg_CB, hd_CB, po_CB, sa_CB⟩, n0_CB, n1_CB, n2_CB⟩
  have x_CB := PySem.W.mg_of X G a_CB
  have T_CS : STxt K CS := ⟨⟨pg_CS, hd_CS, po_CS, sa_CS⟩, n0_CS, n1_CS, n2_CS, n3_CS⟩
  have x_CS := PySem.W.mg_of X G a_CS
  have T_CH : HTxt K CH := ⟨⟨pg_CH, hd_CH, po_CH, sa_CH⟩, n0_CH, n1_CH, n2_CH, n3_CH⟩
  have x_CH := PySem.W.mg_of X G a_CH
  have T_CO : OTxt K CO := ⟨⟨pg_CO, hd_CO, po_CO, sa_CO⟩, n0_CO⟩
  have x_CO := PySem.W.mg_of X G a_CO
  have B : Blt mg := ⟨PySem.W.mg_none_of X G b_len, PySem.W.mg_none_of X G b_range, PySem.W.mg_none_of X G b_list, PySem.W.mg_none_of X G b_abs, PySem.W.mg_none_of X G b_sum, PySem.W.mg_none_of X G b_enumerate⟩
  have CT : TCon mg := ⟨i_LARGEST_MEASURE, i_FEWEST, i_MOST_STATIONS, i_MOST_LEVELS, i_GOOD, i_WRONG_HALVES_COUNT, i_WRONG_COUNT, i_WRONG_PLACE, i_WRONG_HEIGHT, i_WRONG_HALF⟩
  have C : OCon mg := ⟨i_DONE, i_WRONG_ARGUMENT, i_NO_TABLE, i_OUTSIDE, i_HALF_BREADTH, i_SLOPE_ALONG, i_SLOPE_UP⟩
  have CF : FCon K mg := ⟨i_MAKE, i_AT, i_NEAR, i_BEVEL, i_INSIDE, i_FRAME, i_ROWS_OF_MAKE, dN, PySem.W.mg_of X G a_num, g_num⟩
  refine ⟨PySem.W.fnOf "answers" "answers" (defArgs sAnswers) (defBody sAnswers) (defScope sAnswers) .none kV3 dc3 pm3 an3 cd3 ct3, fun s us hu => match us, hu with | [_], _ => .of_eq rfl, fun base _ _ => ?_⟩
  have F_gaps_between : FnAt P w K mg base 1 "gaps_between" ["places"] (spGaps K) := d_gaps_between.fn fun f fd F => ok_gaps F B
  have F_product_of : FnAt P w K mg base 1 "product_of" ["numbers"] (spProd K) := d_product_of.fn fun f fd F => ok_prod F
  have F_leading_minors : FnAt P w K mg base 1 "leading_minors" ["gaps"] (spMin K) := d_leading_minors.fn fun f fd F => ok_min F B
  have K_CG : MkAt P w K mg base 2 "Ground" CG ["self", "places"] (spGInit K CG) := m_CG___init__.mk x_CG mk_CG kc_CG fun f fd F => ok_ginit F B T_CG F_gaps_between F_product_of F_leading_minors
  have M_CG_holds : MtAt P w K mg base 1 CG "holds" ["self", "place"] (spGHolds CG) := m_CG_holds.mt T_CG.cl fun f fd F => ok_gholds F T_CG
  have M_CG_piece_at : MtAt P w K mg base 1 CG "piece_at" ["self", "place"] (spGPiece CG) := m_CG_piece_at.mt T_CG.cl fun f fd F => ok_gpiece F T_CG
  have M_CG_divisor_at : MtAt P w K mg base 2 CG "divisor_at" ["self", "place"] (spGDiv CG) := m_CG_divisor_at.mt T_CG.cl fun f fd F => ok_gdiv F T_CG M_CG_piece_at
  have F_scaled_rise : FnAt P w K mg base 1 "scaled_rise" ["ground", "values", "k"] (spRise K CG) := d_scaled_rise.fn fun f fd F => ok_rise F T_CG
  have F_eliminated_sides : FnAt P w K mg base 2 "eliminated_sides" ["ground", "values"] (spSides K CG) := d_eliminated_sides.fn fun f fd F => ok_sides F B T_CG F_scaled_rise
  have F_bends_through : FnAt P w K mg base 3 "bends_through" ["ground", "values"] (spBends K CG) := d_bends_through.fn fun f fd F => ok_bends F B T_CG F_eliminated_sides
  have K_CB : MkAt P w K mg base 4 "Batten" CB ["self", "ground", "values"] (spBInit K CG CB) := m_CB___init__.mk x_CB mk_CB kc_CB fun f fd F => ok_binit F B T_CB F_bends_through
  have M_CB_value_at : MtAt P w K mg base 2 CB "value_at" ["self", "place"] (spBVal CG CB valueOf) := m_CB_value_at.mt T_CB.cl fun f fd F => ok_bval F T_CG T_CB M_CG_piece_at
  have M_CB_slope_at : MtAt P w K mg base 2 CB "slope_at" ["self", "place"] (spBVal CG CB slopeOf) := m_CB_slope_at.mt T_CB.cl fun f fd F => ok_bslope F T_CG T_CB M_CG_piece_at
  have F_common_divisor : FnAt P w K mg base 1 "common_divisor" ["first", "second"] (spGcd) := d_common_divisor.fn fun f fd F => ok_gcd F
  have F_lowest_terms : FnAt P w K mg base 2 "lowest_terms" ["over", "under"] (spLow) := d_lowest_terms.fn fun f fd F => ok_low F B F_common_divisor
  have F_nearest : FnAt P w K mg base 1 "nearest" ["over", "under"] (spNear) := d_nearest.fn fun f fd F => ok_near F
  have F_whole_root : FnAt P w K mg base 1 "whole_root" ["number"] (spRoot) := d_whole_root.fn fun f fd F => ok_root F
  have F_nearest_less_root : FnAt P w K mg base 2 "nearest_less_root" ["over", "square", "under"] (spLess) := d_nearest_less_root.fn fun f fd F => ok_less F F_whole_root F_nearest
  have K_CS : MkAt P w K mg base 6 "Section" CS ["self", "levels", "upward", "x"] (spSInit CG CB CS) := m_CS___init__.mk x_CS mk_CS kc_CS fun f fd F => ok_sinit F T_CS T_CB K_CB M_CB_value_at M_CB_slope_at M_CG_divisor_at
  have M_CS_divisor : MtAt P w K mg base 3 CS "divisor" ["self", "z"] (spSTell CG CB CS divI) := m_CS_divisor.mt T_CS.cl fun f fd F => ok_sdiv F T_CS M_CG_divisor_at
  have M_CS_half_breadth : MtAt P w K mg base 3 CS "half_breadth" ["self", "z"] (spSTell CG CB CS halfI) := m_CS_half_breadth.mt T_CS.cl fun f fd F => ok_shalf F T_CS M_CB_value_at
  have M_CS_slope_along : MtAt P w K mg base 3 CS "slope_along" ["self", "z"] (spSTell CG CB CS alongI) := m_CS_slope_along.mt T_CS.cl fun f fd F => ok_salong F T_CS M_CB_value_at
  have M_CS_slope_up : MtAt P w K mg base 3 CS "slope_up" ["self", "z"] (spSTell CG CB CS upI) := m_CS_slope_up.mt T_CS.cl fun f fd F => ok_sup F T_CS M_CB_slope_at
  have M_CS_near : MtAt P w K mg base 4 CS "near" ["self", "z"] (spSTell CG CB CS nearS) := m_CS_near.mt T_CS.cl fun f fd F => ok_snear F M_CS_half_breadth M_CS_divisor F_nearest
  have M_CS_bevel : MtAt P w K mg base 4 CS "bevel" ["self", "z"] (spSTell CG CB CS bevelS) := m_CS_bevel.mt T_CS.cl fun f fd F => ok_sbevel F i_SIXTEENTHS_IN_A_FOOT M_CS_slope_along M_CS_divisor F_nearest
  have M_CS_inside : MtAt P w K mg base 4 CS "inside" ["self", "z", "t"] (spSIns CG CB CS) := m_CS_inside.mt T_CS.cl fun f fd F => ok_sins F M_CS_slope_along M_CS_slope_up M_CS_divisor M_CS_half_breadth F_nearest_less_root
  have F_level_rows : FnAt P w K mg base 1 "level_rows" ["halves", "stations"] (spRows K) := d_level_rows.fn fun f fd F => ok_rows F B
  have F_station_rows : FnAt P w K mg base 1 "station_rows" ["halves", "stations"] (spCols K) := d_station_rows.fn fun f fd F => ok_cols F B
  have K_CH : MkAt P w K mg base 6 "Hull" CH ["self", "places", "heights", "halves"] (spHInit K CG CB CH) := m_CH___init__.mk x_CH mk_CH kc_CH fun f fd F => ok_hinit F B T_CH K_CG K_CB F_level_rows F_station_rows
  have M_CH_section : MtAt P w K mg base 8 CH "section" ["self", "x"] (spHSect CG CB CS CH) := m_CH_section.mt T_CH.cl fun f fd F => ok_hsect F T_CH K_CS
  have M_CH_frame : MtAt P w K mg base 9 CH "frame" ["self", "x", "t"] (spHFrame CG CB CH) := m_CH_frame.mt T_CH.cl fun f fd F => ok_hframe F T_CG T_CH M_CH_section M_CS_inside M_CS_bevel
  have M_CH_level : MtAt P w K mg base 4 CH "level" ["self", "z"] (spHLevel CG CB CH) := m_CH_level.mt T_CH.cl fun f fd F => ok_hlevel F T_CH M_CG_divisor_at M_CB_value_at F_nearest
  have F_first_not_between : FnAt P w K mg base 1 "first_not_between" ["numbers", "least", "most"] (spFnb K) := d_first_not_between.fn fun f fd F => ok_fnb F B
  have F_first_not_rising : FnAt P w K mg base 1 "first_not_rising" ["numbers", "least", "most"] (spFnr K) := d_first_not_rising.fn fun f fd F => ok_fnr F B
  have F_first_wrong_count : FnAt P w K mg base 1 "first_wrong_count" ["places", "heights", "halves"] (spW K wcI) := d_first_wrong_count.fn fun f fd F => ok_wc F B CT
  have F_first_wrong_number : FnAt P w K mg base 2 "first_wrong_number" ["places", "heights", "halves"] (spW K wnI) := d_first_wrong_number.fn fun f fd F => ok_wn F CT F_first_not_rising F_first_not_between
  have F_verdict : FnAt P w K mg base 3 "verdict" ["places", "heights", "halves"] (spVer K) := d_verdict.fn fun f fd F => ok_ver F CT F_first_wrong_count F_first_wrong_number
  have F_told_at : FnAt P w K mg base 4 "told_at" ["section", "z", "what"] (spToldAt CG CB CS) := d_told_at.fn fun f fd F => ok_toldat F C M_CS_half_breadth M_CS_slope_along M_CS_slope_up
  have F_is_thickness : FnAt P w K mg base 1 "is_thickness" ["t"] (spIsThick) := d_is_thickness.fn fun f fd F => ok_isthick F CT
  have K_CO : MkAt P w K mg base 1 "Boat" CO ["self"] (spOInit CG CB CH CO) := m_CO___init__.mk x_CO mk_CO kc_CO fun f fd F => ok_oinit F T_CO
  have M_CO_refusal : MtAt P w K mg base 2 CO "refusal" ["self", "arguments_fit", "x", "z"] (spORef CG CB CH CO) := m_CO_refusal.mt T_CO.cl fun f fd F => ok_oref F C T_CO T_CH M_CG_holds
  have M_CO_make : MtAt P w K mg base 8 CO "make" ["self", "places", "heights", "halves"] (spOMake K CG CB CH CO) := m_CO_make.mt T_CO.cl fun f fd F => ok_omake F C CT T_CO F_verdict K_CH
  have M_CO_at : MtAt P w K mg base 9 CO "at" ["self", "x", "z", "what"] (spOAt CG CB CH CO) := m_CO_at.mt T_CO.cl fun f fd F => ok_oat F C T_CO M_CO_refusal M_CH_section F_told_at F_lowest_terms M_CS_divisor
  have M_CO_near : MtAt P w K mg base 9 CO "near" ["self", "x", "z"] (spONear CG CB CH CO) := m_CO_near.mt T_CO.cl fun f fd F => ok_onear F C T_CO M_CO_refusal M_CH_section M_CS_near
  have M_CO_bevel : MtAt P w K mg base 9 CO "bevel" ["self", "x", "z"] (spOBevel CG CB CH CO) := m_CO_bevel.mt T_CO.cl fun f fd F => ok_obevel F C T_CO M_CO_refusal M_CH_section M_CS_bevel
  have M_CO_inside : MtAt P w K mg base 9 CO "inside" ["self", "x", "z", "t"] (spOIns CG CB CH CO) := m_CO_inside.mt T_CO.cl fun f fd F => ok_oins F C T_CO M_CO_refusal F_is_thickness M_CH_section M_CS_inside
  have M_CO_frame : MtAt P w K mg base 10 CO "frame" ["self", "x", "t"] (spOFrame CG CB CH CO) := m_CO_frame.mt T_CO.cl fun f fd F => ok_oframe (CS := CS) F C T_CO M_CO_refusal F_is_thickness M_CH_frame
  have M_CO_level : MtAt P w K mg base 5 CO "level" ["self", "z"] (spOLevel CG CB CH CO) := m_CO_level.mt T_CO.cl fun f fd F => ok_olevel (CS := CS) F C T_CO M_CO_refusal M_CH_level
  have F_rows_behind : FnAt P w K mg base 1 "rows_behind" ["calls", "start", "count"] (spRowsB K) := d_rows_behind.fn fun f fd F => ok_rowsb F B
  have F_arguments_behind : FnAt P w K mg base 2 "arguments_behind" ["calls", "start", "number"] (spArgs K) := d_arguments_behind.fn fun f fd F => ok_args F CF F_rows_behind
  have F_width_of : FnAt P w K mg base 1 "width_of" ["number", "given"] (spWidth) := d_width_of.fn fun f fd F => ok_width F B CF
  have F_answer : FnAt P w K mg base 11 "answer" ["boat", "number", "given"] (spAnswer CG CB CH CO) := d_answer.fn fun f fd F => ok_answer F CF M_CO_make M_CO_at M_CO_near M_CO_bevel M_CO_inside M_CO_frame M_CO_level
  exact ok_answers F3 B K_CO F_arguments_behind F_width_of F_answer
end
end HP

set_option Elab.async false
set_option linter.all false
/-! Names that are taken here, so that the head lays no copies of its heaps under them: with the copies the compiled file has 106 MB, without them 52 MB, and no step takes longer. -/
def PySem.W.Fast.tw10026189176452492454 : Unit := ()
def PySem.W.Fast.tw7808193321644402927 : Unit := ()
def PySem.W.Fast.tw13486260734872111112 : Unit := ()
def PySem.W.Fast.tw15207636999851376170 : Unit := ()
def PySem.W.Fast.tw11265779579394588417 : Unit := ()
def PySem.W.Fast.tw2290649847623866372 : Unit := ()
def PySem.W.Fast.tw2150734771688324304 : Unit := ()
def PySem.W.Fast.tw15000238951999196295 : Unit := ()
def PySem.W.Fast.tw5799854040423096299 : Unit := ()
def PySem.W.Fast.tw1190914648664089397 : Unit := ()
def PySem.W.Fast.tw3352967262230586215 : Unit := ()
def PySem.W.Fast.tw4771166862145698232 : Unit := ()
open PySem PySem.W PyProof.Rows
set_option maxRecDepth 100000 in
set_option maxHeartbeats 0 in
theorem PySem.Challenge.cw_boathull_s01_answers_holds : PySem.Challenge.rw_boathull_s01_answers.Holds := by
  w_on; k_headS; (case hw => exact ⟨[.list [.int 3, .int 0, .int 0]], by decide +kernel, by decide +kernel⟩)
  k_fillS
  refine L2.walk_specK (r := PySem.Challenge.rw_boathull_s01_answers) (k := 12) (CX := L2.CX0) (ps := ["calls"]) (sp := HP.spAns) (by decide +kernel) rfl rfl ⟨rfl, by decide, by decide⟩ (fun w h Y => PySem.W.kIn_of Y) ?F ?S (fun _ _ _ _ z => z)
  case F =>
    intro w mg fa h Y KX G hmg
    refine' HP.all_fin KX G hmg ?a_CG ?a_CB ?a_CS ?a_CH ?a_CO ?pg_CG ?hd_CG ?po_CG ?sa_CG ?mk_CG ?kc_CG ?n0_CG ?n1_CG ?n2_CG ?n3_CG ?n4_CG ?pg_CB ?hd_CB ?po_CB ?sa_CB ?mk_CB ?kc_CB ?n0_CB ?n1_CB ?n2_CB ?pg_CS ?hd_CS ?po_CS ?sa_CS ?mk_CS ?kc_CS ?n0_CS ?n1_CS ?n2_CS ?n3_CS ?pg_CH ?hd_CH ?po_CH ?sa_CH ?mk_CH ?kc_CH ?n0_CH ?n1_CH ?n2_CH ?n3_CH ?pg_CO ?hd_CO ?po_CO ?sa_CO ?mk_CO ?kc_CO ?n0_CO ?b_len ?b_range ?b_list ?b_abs ?b_sum ?b_enumerate ?i_SIXTEENTHS_IN_A_FOOT ?i_LARGEST_MEASURE ?i_FEWEST ?i_MOST_STATIONS ?i_MOST_LEVELS ?i_GOOD ?i_WRONG_HALVES_COUNT ?i_WRONG_COUNT ?i_WRONG_PLACE ?i_WRONG_HEIGHT ?i_WRONG_HALF ?i_DONE ?i_WRONG_ARGUMENT ?i_NO_TABLE ?i_OUTSIDE ?i_HALF_BREADTH ?i_SLOPE_ALONG ?i_SLOPE_UP ?i_MAKE ?i_AT ?i_NEAR ?i_BEVEL ?i_INSIDE ?i_FRAME ?i_ROWS_OF_MAKE ?a_num ?g_num ?d_gaps_between ?d_product_of ?d_leading_minors ?d_scaled_rise ?d_eliminated_sides ?d_bends_through ?d_common_divisor ?d_lowest_terms ?d_nearest ?d_whole_root ?d_nearest_less_root ?d_level_rows ?d_station_rows ?d_first_not_between ?d_first_not_rising ?d_first_wrong_count ?d_first_wrong_number ?d_verdict ?d_told_at ?d_is_thickness ?d_rows_behind ?d_arguments_behind ?d_width_of ?d_answer ?m_CG___init__ ?m_CG_holds ?m_CG_piece_at ?m_CG_divisor_at ?m_CB___init__ ?m_CB_value_at ?m_CB_slope_at ?m_CS___init__ ?m_CS_divisor ?m_CS_half_breadth ?m_CS_slope_along ?m_CS_slope_up ?m_CS_near ?m_CS_bevel ?m_CS_inside ?m_CH___init__ ?m_CH_section ?m_CH_frame ?m_CH_level ?m_CO___init__ ?m_CO_make ?m_CO_refusal ?m_CO_at ?m_CO_near ?m_CO_bevel ?m_CO_inside ?m_CO_frame ?m_CO_level ?a3 ?l3 ?c3 ?k3
    (case a_CG => k_is)
    (case a_CB => k_is)
    (case a_CS => k_is)
    (case a_CH => k_is)
    (case a_CO => k_is)
    (case pg_CG => k_is)
    (case hd_CG => k_is)
    (case po_CG => k_is)
    (case sa_CG => k_is)
    (case mk_CG => k_is)
    (case kc_CG => k_is)
    (case n0_CG => k_is)
    (case n1_CG => k_is)
    (case n2_CG => k_is)
    (case n3_CG => k_is)
    (case n4_CG => k_is)
    (case pg_CB => k_is)
    (case hd_CB => k_is)
    (case po_CB => k_is)
    (case sa_CB => k_is)
    (case mk_CB => k_is)
    (case kc_CB => k_is)
    (case n0_CB => k_is)
    (case n1_CB => k_is)
    (case n2_CB => k_is)
    (case pg_CS => k_is)
    (case hd_CS => k_is)
    (case po_CS => k_is)
    (case sa_CS => k_is)
    (case mk_CS => k_is)
    (case kc_CS => k_is)
    (case n0_CS => k_is)
    (case n1_CS => k_is)
    (case n2_CS => k_is)
    (case n3_CS => k_is)
    (case pg_CH => k_is)
    (case hd_CH => k_is)
    (case po_CH => k_is)
    (case sa_CH => k_is)
    (case mk_CH => k_is)
    (case kc_CH => k_is)
    (case n0_CH => k_is)
    (case n1_CH => k_is)
    (case n2_CH => k_is)
    (case n3_CH => k_is)
    (case pg_CO => k_is)
    (case hd_CO => k_is)
    (case po_CO => k_is)
    (case sa_CO => k_is)
    (case mk_CO => k_is)
    (case kc_CO => k_is)
    (case n0_CO => k_is)
    (case b_len => k_is)
    (case b_range => k_is)
    (case b_list => k_is)
    (case b_abs => k_is)
    (case b_sum => k_is)
    (case b_enumerate => k_is)
    (case i_SIXTEENTHS_IN_A_FOOT => (refine' HP.int_mk KX G ?vi_SIXTEENTHS_IN_A_FOOT; (case vi_SIXTEENTHS_IN_A_FOOT => k_is)))
    (case i_LARGEST_MEASURE => (refine' HP.int_mk KX G ?vi_LARGEST_MEASURE; (case vi_LARGEST_MEASURE => k_is)))
    (case i_FEWEST => (refine' HP.int_mk KX G ?vi_FEWEST; (case vi_FEWEST => k_is)))
    (case i_MOST_STATIONS => (refine' HP.int_mk KX G ?vi_MOST_STATIONS; (case vi_MOST_STATIONS => k_is)))
    (case i_MOST_LEVELS => (refine' HP.int_mk KX G ?vi_MOST_LEVELS; (case vi_MOST_LEVELS => k_is)))
    (case i_GOOD => (refine' HP.int_mk KX G ?vi_GOOD; (case vi_GOOD => k_is)))
    (case i_WRONG_HALVES_COUNT => (refine' HP.int_mk KX G ?vi_WRONG_HALVES_COUNT; (case vi_WRONG_HALVES_COUNT => k_is)))
    (case i_WRONG_COUNT => (refine' HP.int_mk KX G ?vi_WRONG_COUNT; (case vi_WRONG_COUNT => k_is)))
    (case i_WRONG_PLACE => (refine' HP.int_mk KX G ?vi_WRONG_PLACE; (case vi_WRONG_PLACE => k_is)))
    (case i_WRONG_HEIGHT => (refine' HP.int_mk KX G ?vi_WRONG_HEIGHT; (case vi_WRONG_HEIGHT => k_is)))
    (case i_WRONG_HALF => (refine' HP.int_mk KX G ?vi_WRONG_HALF; (case vi_WRONG_HALF => k_is)))
    (case i_DONE => (refine' HP.int_mk KX G ?vi_DONE; (case vi_DONE => k_is)))
    (case i_WRONG_ARGUMENT => (refine' HP.int_mk KX G ?vi_WRONG_ARGUMENT; (case vi_WRONG_ARGUMENT => k_is)))
    (case i_NO_TABLE => (refine' HP.int_mk KX G ?vi_NO_TABLE; (case vi_NO_TABLE => k_is)))
    (case i_OUTSIDE => (refine' HP.int_mk KX G ?vi_OUTSIDE; (case vi_OUTSIDE => k_is)))
    (case i_HALF_BREADTH => (refine' HP.int_mk KX G ?vi_HALF_BREADTH; (case vi_HALF_BREADTH => k_is)))
    (case i_SLOPE_ALONG => (refine' HP.int_mk KX G ?vi_SLOPE_ALONG; (case vi_SLOPE_ALONG => k_is)))
    (case i_SLOPE_UP => (refine' HP.int_mk KX G ?vi_SLOPE_UP; (case vi_SLOPE_UP => k_is)))
    (case i_MAKE => (refine' HP.int_mk KX G ?vi_MAKE; (case vi_MAKE => k_is)))
    (case i_AT => (refine' HP.int_mk KX G ?vi_AT; (case vi_AT => k_is)))
    (case i_NEAR => (refine' HP.int_mk KX G ?vi_NEAR; (case vi_NEAR => k_is)))
    (case i_BEVEL => (refine' HP.int_mk KX G ?vi_BEVEL; (case vi_BEVEL => k_is)))
    (case i_INSIDE => (refine' HP.int_mk KX G ?vi_INSIDE; (case vi_INSIDE => k_is)))
    (case i_FRAME => (refine' HP.int_mk KX G ?vi_FRAME; (case vi_FRAME => k_is)))
    (case i_ROWS_OF_MAKE => (refine' HP.int_mk KX G ?vi_ROWS_OF_MAKE; (case vi_ROWS_OF_MAKE => k_is)))
    (case a_num => k_is)
    (case g_num => (refine' HP.gd_mk ?ln ?e1 ?e2 ?e3 ?e4 ?e5 ?e6; (case ln => k_is); (case e1 => rfl); (case e2 => rfl); (case e3 => rfl); (case e4 => rfl); (case e5 => rfl); (case e6 => rfl)))
    (case d_gaps_between => (refine' HP.defAt_mk KX G (fun _ _ _ _ _ _ us hl => match us, hl with | [_], _ => rfl) ?ad_gaps_between ?ld_gaps_between ?cd_gaps_between ?kd_gaps_between; (case ad_gaps_between => k_is); (case ld_gaps_between => k_is); (case cd_gaps_between => k_is); (case kd_gaps_between => k_is)))
    (case d_product_of => (refine' HP.defAt_mk KX G (fun _ _ _ _ _ _ us hl => match us, hl with | [_], _ => rfl) ?ad_product_of ?ld_product_of ?cd_product_of ?kd_product_of; (case ad_product_of => k_is); (case ld_product_of => k_is); (case cd_product_of => k_is); (case kd_product_of => k_is)))
    (case d_leading_minors => (refine' HP.defAt_mk KX G (fun _ _ _ _ _ _ us hl => match us, hl with | [_], _ => rfl) ?ad_leading_minors ?ld_leading_minors ?cd_leading_minors ?kd_leading_minors; (case ad_leading_minors => k_is); (case ld_leading_minors => k_is); (case cd_leading_minors => k_is); (case kd_leading_minors => k_is)))
    (case d_scaled_rise => (refine' HP.defAt_mk KX G (fun _ _ _ _ _ _ us hl => match us, hl with | [_, _, _], _ => rfl) ?ad_scaled_rise ?ld_scaled_rise ?cd_scaled_rise ?kd_scaled_rise; (case ad_scaled_rise => k_is); (case ld_scaled_rise => k_is); (case cd_scaled_rise => k_is); (case kd_scaled_rise => k_is)))
    (case d_eliminated_sides => (refine' HP.defAt_mk KX G (fun _ _ _ _ _ _ us hl => match us, hl with | [_, _], _ => rfl) ?ad_eliminated_sides ?ld_eliminated_sides ?cd_eliminated_sides ?kd_eliminated_sides; (case ad_eliminated_sides => k_is); (case ld_eliminated_sides => k_is); (case cd_eliminated_sides => k_is); (case kd_eliminated_sides => k_is)))
    (case d_bends_through => (refine' HP.defAt_mk KX G (fun _ _ _ _ _ _ us hl => match us, hl with | [_, _], _ => rfl) ?ad_bends_through ?ld_bends_through ?cd_bends_through ?kd_bends_through; (case ad_bends_through => k_is); (case ld_bends_through => k_is); (case cd_bends_through => k_is); (case kd_bends_through => k_is)))
    (case d_common_divisor => (refine' HP.defAt_mk KX G (fun _ _ _ _ _ _ us hl => match us, hl with | [_, _], _ => rfl) ?ad_common_divisor ?ld_common_divisor ?cd_common_divisor ?kd_common_divisor; (case ad_common_divisor => k_is); (case ld_common_divisor => k_is); (case cd_common_divisor => k_is); (case kd_common_divisor => k_is)))
    (case d_lowest_terms => (refine' HP.defAt_mk KX G (fun _ _ _ _ _ _ us hl => match us, hl with | [_, _], _ => rfl) ?ad_lowest_terms ?ld_lowest_terms ?cd_lowest_terms ?kd_lowest_terms; (case ad_lowest_terms => k_is); (case ld_lowest_terms => k_is); (case cd_lowest_terms => k_is); (case kd_lowest_terms => k_is)))
    (case d_nearest => (refine' HP.defAt_mk KX G (fun _ _ _ _ _ _ us hl => match us, hl with | [_, _], _ => rfl) ?ad_nearest ?ld_nearest ?cd_nearest ?kd_nearest; (case ad_nearest => k_is); (case ld_nearest => k_is); (case cd_nearest => k_is); (case kd_nearest => k_is)))
    (case d_whole_root => (refine' HP.defAt_mk KX G (fun _ _ _ _ _ _ us hl => match us, hl with | [_], _ => rfl) ?ad_whole_root ?ld_whole_root ?cd_whole_root ?kd_whole_root; (case ad_whole_root => k_is); (case ld_whole_root => k_is); (case cd_whole_root => k_is); (case kd_whole_root => k_is)))
    (case d_nearest_less_root => (refine' HP.defAt_mk KX G (fun _ _ _ _ _ _ us hl => match us, hl with | [_, _, _], _ => rfl) ?ad_nearest_less_root ?ld_nearest_less_root ?cd_nearest_less_root ?kd_nearest_less_root; (case ad_nearest_less_root => k_is); (case ld_nearest_less_root => k_is); (case cd_nearest_less_root => k_is); (case kd_nearest_less_root => k_is)))
    (case d_level_rows => (refine' HP.defAt_mk KX G (fun _ _ _ _ _ _ us hl => match us, hl with | [_, _], _ => rfl) ?ad_level_rows ?ld_level_rows ?cd_level_rows ?kd_level_rows; (case ad_level_rows => k_is); (case ld_level_rows => k_is); (case cd_level_rows => k_is); (case kd_level_rows => k_is)))
    (case d_station_rows => (refine' HP.defAt_mk KX G (fun _ _ _ _ _ _ us hl => match us, hl with | [_, _], _ => rfl) ?ad_station_rows ?ld_station_rows ?cd_station_rows ?kd_station_rows; (case ad_station_rows => k_is); (case ld_station_rows => k_is); (case cd_station_rows => k_is); (case kd_station_rows => k_is)))
    (case d_first_not_between => (refine' HP.defAt_mk KX G (fun _ _ _ _ _ _ us hl => match us, hl with | [_, _, _], _ => rfl) ?ad_first_not_between ?ld_first_not_between ?cd_first_not_between ?kd_first_not_between; (case ad_first_not_between => k_is); (case ld_first_not_between => k_is); (case cd_first_not_between => k_is); (case kd_first_not_between => k_is)))
    (case d_first_not_rising => (refine' HP.defAt_mk KX G (fun _ _ _ _ _ _ us hl => match us, hl with | [_, _, _], _ => rfl) ?ad_first_not_rising ?ld_first_not_rising ?cd_first_not_rising ?kd_first_not_rising; (case ad_first_not_rising => k_is); (case ld_first_not_rising => k_is); (case cd_first_not_rising => k_is); (case kd_first_not_rising => k_is)))
    (case d_first_wrong_count => (refine' HP.defAt_mk KX G (fun _ _ _ _ _ _ us hl => match us, hl with | [_, _, _], _ => rfl) ?ad_first_wrong_count ?ld_first_wrong_count ?cd_first_wrong_count ?kd_first_wrong_count; (case ad_first_wrong_count => k_is); (case ld_first_wrong_count => k_is); (case cd_first_wrong_count => k_is); (case kd_first_wrong_count => k_is)))
    (case d_first_wrong_number => (refine' HP.defAt_mk KX G (fun _ _ _ _ _ _ us hl => match us, hl with | [_, _, _], _ => rfl) ?ad_first_wrong_number ?ld_first_wrong_number ?cd_first_wrong_number ?kd_first_wrong_number; (case ad_first_wrong_number => k_is); (case ld_first_wrong_number => k_is); (case cd_first_wrong_number => k_is); (case kd_first_wrong_number => k_is)))
    (case d_verdict => (refine' HP.defAt_mk KX G (fun _ _ _ _ _ _ us hl => match us, hl with | [_, _, _], _ => rfl) ?ad_verdict ?ld_verdict ?cd_verdict ?kd_verdict; (case ad_verdict => k_is); (case ld_verdict => k_is); (case cd_verdict => k_is); (case kd_verdict => k_is)))
    (case d_told_at => (refine' HP.defAt_mk KX G (fun _ _ _ _ _ _ us hl => match us, hl with | [_, _, _], _ => rfl) ?ad_told_at ?ld_told_at ?cd_told_at ?kd_told_at; (case ad_told_at => k_is); (case ld_told_at => k_is); (case cd_told_at => k_is); (case kd_told_at => k_is)))
    (case d_is_thickness => (refine' HP.defAt_mk KX G (fun _ _ _ _ _ _ us hl => match us, hl with | [_], _ => rfl) ?ad_is_thickness ?ld_is_thickness ?cd_is_thickness ?kd_is_thickness; (case ad_is_thickness => k_is); (case ld_is_thickness => k_is); (case cd_is_thickness => k_is); (case kd_is_thickness => k_is)))
    (case d_rows_behind => (refine' HP.defAt_mk KX G (fun _ _ _ _ _ _ us hl => match us, hl with | [_, _, _], _ => rfl) ?ad_rows_behind ?ld_rows_behind ?cd_rows_behind ?kd_rows_behind; (case ad_rows_behind => k_is); (case ld_rows_behind => k_is); (case cd_rows_behind => k_is); (case kd_rows_behind => k_is)))
    (case d_arguments_behind => (refine' HP.defAt_mk KX G (fun _ _ _ _ _ _ us hl => match us, hl with | [_, _, _], _ => rfl) ?ad_arguments_behind ?ld_arguments_behind ?cd_arguments_behind ?kd_arguments_behind; (case ad_arguments_behind => k_is); (case ld_arguments_behind => k_is); (case cd_arguments_behind => k_is); (case kd_arguments_behind => k_is)))
    (case d_width_of => (refine' HP.defAt_mk KX G (fun _ _ _ _ _ _ us hl => match us, hl with | [_, _], _ => rfl) ?ad_width_of ?ld_width_of ?cd_width_of ?kd_width_of; (case ad_width_of => k_is); (case ld_width_of => k_is); (case cd_width_of => k_is); (case kd_width_of => k_is)))
    (case d_answer => (refine' HP.defAt_mk KX G (fun _ _ _ _ _ _ us hl => match us, hl with | [_, _, _], _ => rfl) ?ad_answer ?ld_answer ?cd_answer ?kd_answer; (case ad_answer => k_is); (case ld_answer => k_is); (case cd_answer => k_is); (case kd_answer => k_is)))
    (case m_CG___init__ => (refine' HP.methAt_mk (fun _ _ _ _ _ _ us hl => match us, hl with | [_, _], _ => rfl) ?am_CG___init__ ?im_CG___init__ ?lm_CG___init__ ?cm_CG___init__ ?km_CG___init__; (case am_CG___init__ => k_is); (case im_CG___init__ => k_is); (case lm_CG___init__ => k_is); (case cm_CG___init__ => k_is); (case km_CG___init__ => k_is)))
    (case m_CG_holds => (refine' HP.methAt_mk (fun _ _ _ _ _ _ us hl => match us, hl with | [_, _], _ => rfl) ?am_CG_holds ?im_CG_holds ?lm_CG_holds ?cm_CG_holds ?km_CG_holds; (case am_CG_holds => k_is); (case im_CG_holds => k_is); (case lm_CG_holds => k_is); (case cm_CG_holds => k_is); (case km_CG_holds => k_is)))
    (case m_CG_piece_at => (refine' HP.methAt_mk (fun _ _ _ _ _ _ us hl => match us, hl with | [_, _], _ => rfl) ?am_CG_piece_at ?im_CG_piece_at ?lm_CG_piece_at ?cm_CG_piece_at ?km_CG_piece_at; (case am_CG_piece_at => k_is); (case im_CG_piece_at => k_is); (case lm_CG_piece_at => k_is); (case cm_CG_piece_at => k_is); (case km_CG_piece_at => k_is)))
    (case m_CG_divisor_at => (refine' HP.methAt_mk (fun _ _ _ _ _ _ us hl => match us, hl with | [_, _], _ => rfl) ?am_CG_divisor_at ?im_CG_divisor_at ?lm_CG_divisor_at ?cm_CG_divisor_at ?km_CG_divisor_at; (case am_CG_divisor_at => k_is); (case im_CG_divisor_at => k_is); (case lm_CG_divisor_at => k_is); (case cm_CG_divisor_at => k_is); (case km_CG_divisor_at => k_is)))
    (case m_CB___init__ => (refine' HP.methAt_mk (fun _ _ _ _ _ _ us hl => match us, hl with | [_, _, _], _ => rfl) ?am_CB___init__ ?im_CB___init__ ?lm_CB___init__ ?cm_CB___init__ ?km_CB___init__; (case am_CB___init__ => k_is); (case im_CB___init__ => k_is); (case lm_CB___init__ => k_is); (case cm_CB___init__ => k_is); (case km_CB___init__ => k_is)))
    (case m_CB_value_at => (refine' HP.methAt_mk (fun _ _ _ _ _ _ us hl => match us, hl with | [_, _], _ => rfl) ?am_CB_value_at ?im_CB_value_at ?lm_CB_value_at ?cm_CB_value_at ?km_CB_value_at; (case am_CB_value_at => k_is); (case im_CB_value_at => k_is); (case lm_CB_value_at => k_is); (case cm_CB_value_at => k_is); (case km_CB_value_at => k_is)))
    (case m_CB_slope_at => (refine' HP.methAt_mk (fun _ _ _ _ _ _ us hl => match us, hl with | [_, _], _ => rfl) ?am_CB_slope_at ?im_CB_slope_at ?lm_CB_slope_at ?cm_CB_slope_at ?km_CB_slope_at; (case am_CB_slope_at => k_is); (case im_CB_slope_at => k_is); (case lm_CB_slope_at => k_is); (case cm_CB_slope_at => k_is); (case km_CB_slope_at => k_is)))
    (case m_CS___init__ => (refine' HP.methAt_mk (fun _ _ _ _ _ _ us hl => match us, hl with | [_, _, _, _], _ => rfl) ?am_CS___init__ ?im_CS___init__ ?lm_CS___init__ ?cm_CS___init__ ?km_CS___init__; (case am_CS___init__ => k_is); (case im_CS___init__ => k_is); (case lm_CS___init__ => k_is); (case cm_CS___init__ => k_is); (case km_CS___init__ => k_is)))
    (case m_CS_divisor => (refine' HP.methAt_mk (fun _ _ _ _ _ _ us hl => match us, hl with | [_, _], _ => rfl) ?am_CS_divisor ?im_CS_divisor ?lm_CS_divisor ?cm_CS_divisor ?km_CS_divisor; (case am_CS_divisor => k_is); (case im_CS_divisor => k_is); (case lm_CS_divisor => k_is); (case cm_CS_divisor => k_is); (case km_CS_divisor => k_is)))
    (case m_CS_half_breadth => (refine' HP.methAt_mk (fun _ _ _ _ _ _ us hl => match us, hl with | [_, _], _ => rfl) ?am_CS_half_breadth ?im_CS_half_breadth ?lm_CS_half_breadth ?cm_CS_half_breadth ?km_CS_half_breadth; (case am_CS_half_breadth => k_is); (case im_CS_half_breadth => k_is); (case lm_CS_half_breadth => k_is); (case cm_CS_half_breadth => k_is); (case km_CS_half_breadth => k_is)))
    (case m_CS_slope_along => (refine' HP.methAt_mk (fun _ _ _ _ _ _ us hl => match us, hl with | [_, _], _ => rfl) ?am_CS_slope_along ?im_CS_slope_along ?lm_CS_slope_along ?cm_CS_slope_along ?km_CS_slope_along; (case am_CS_slope_along => k_is); (case im_CS_slope_along => k_is); (case lm_CS_slope_along => k_is); (case cm_CS_slope_along => k_is); (case km_CS_slope_along => k_is)))
    (case m_CS_slope_up => (refine' HP.methAt_mk (fun _ _ _ _ _ _ us hl => match us, hl with | [_, _], _ => rfl) ?am_CS_slope_up ?im_CS_slope_up ?lm_CS_slope_up ?cm_CS_slope_up ?km_CS_slope_up; (case am_CS_slope_up => k_is); (case im_CS_slope_up => k_is); (case lm_CS_slope_up => k_is); (case cm_CS_slope_up => k_is); (case km_CS_slope_up => k_is)))
    (case m_CS_near => (refine' HP.methAt_mk (fun _ _ _ _ _ _ us hl => match us, hl with | [_, _], _ => rfl) ?am_CS_near ?im_CS_near ?lm_CS_near ?cm_CS_near ?km_CS_near; (case am_CS_near => k_is); (case im_CS_near => k_is); (case lm_CS_near => k_is); (case cm_CS_near => k_is); (case km_CS_near => k_is)))
    (case m_CS_bevel => (refine' HP.methAt_mk (fun _ _ _ _ _ _ us hl => match us, hl with | [_, _], _ => rfl) ?am_CS_bevel ?im_CS_bevel ?lm_CS_bevel ?cm_CS_bevel ?km_CS_bevel; (case am_CS_bevel => k_is); (case im_CS_bevel => k_is); (case lm_CS_bevel => k_is); (case cm_CS_bevel => k_is); (case km_CS_bevel => k_is)))
    (case m_CS_inside => (refine' HP.methAt_mk (fun _ _ _ _ _ _ us hl => match us, hl with | [_, _, _], _ => rfl) ?am_CS_inside ?im_CS_inside ?lm_CS_inside ?cm_CS_inside ?km_CS_inside; (case am_CS_inside => k_is); (case im_CS_inside => k_is); (case lm_CS_inside => k_is); (case cm_CS_inside => k_is); (case km_CS_inside => k_is)))
    (case m_CH___init__ => (refine' HP.methAt_mk (fun _ _ _ _ _ _ us hl => match us, hl with | [_, _, _, _], _ => rfl) ?am_CH___init__ ?im_CH___init__ ?lm_CH___init__ ?cm_CH___init__ ?km_CH___init__; (case am_CH___init__ => k_is); (case im_CH___init__ => k_is); (case lm_CH___init__ => k_is); (case cm_CH___init__ => k_is); (case km_CH___init__ => k_is)))
    (case m_CH_section => (refine' HP.methAt_mk (fun _ _ _ _ _ _ us hl => match us, hl with | [_, _], _ => rfl) ?am_CH_section ?im_CH_section ?lm_CH_section ?cm_CH_section ?km_CH_section; (case am_CH_section => k_is); (case im_CH_section => k_is); (case lm_CH_section => k_is); (case cm_CH_section => k_is); (case km_CH_section => k_is)))
    (case m_CH_frame => (refine' HP.methAt_mk (fun _ _ _ _ _ _ us hl => match us, hl with | [_, _, _], _ => rfl) ?am_CH_frame ?im_CH_frame ?lm_CH_frame ?cm_CH_frame ?km_CH_frame; (case am_CH_frame => k_is); (case im_CH_frame => k_is); (case lm_CH_frame => k_is); (case cm_CH_frame => k_is); (case km_CH_frame => k_is)))
    (case m_CH_level => (refine' HP.methAt_mk (fun _ _ _ _ _ _ us hl => match us, hl with | [_, _], _ => rfl) ?am_CH_level ?im_CH_level ?lm_CH_level ?cm_CH_level ?km_CH_level; (case am_CH_level => k_is); (case im_CH_level => k_is); (case lm_CH_level => k_is); (case cm_CH_level => k_is); (case km_CH_level => k_is)))
    (case m_CO___init__ => (refine' HP.methAt_mk (fun _ _ _ _ _ _ us hl => match us, hl with | [_], _ => rfl) ?am_CO___init__ ?im_CO___init__ ?lm_CO___init__ ?cm_CO___init__ ?km_CO___init__; (case am_CO___init__ => k_is); (case im_CO___init__ => k_is); (case lm_CO___init__ => k_is); (case cm_CO___init__ => k_is); (case km_CO___init__ => k_is)))
    (case m_CO_make => (refine' HP.methAt_mk (fun _ _ _ _ _ _ us hl => match us, hl with | [_, _, _, _], _ => rfl) ?am_CO_make ?im_CO_make ?lm_CO_make ?cm_CO_make ?km_CO_make; (case am_CO_make => k_is); (case im_CO_make => k_is); (case lm_CO_make => k_is); (case cm_CO_make => k_is); (case km_CO_make => k_is)))
    (case m_CO_refusal => (refine' HP.methAt_mk (fun _ _ _ _ _ _ us hl => match us, hl with | [_, _, _, _], _ => rfl) ?am_CO_refusal ?im_CO_refusal ?lm_CO_refusal ?cm_CO_refusal ?km_CO_refusal; (case am_CO_refusal => k_is); (case im_CO_refusal => k_is); (case lm_CO_refusal => k_is); (case cm_CO_refusal => k_is); (case km_CO_refusal => k_is)))
    (case m_CO_at => (refine' HP.methAt_mk (fun _ _ _ _ _ _ us hl => match us, hl with | [_, _, _, _], _ => rfl) ?am_CO_at ?im_CO_at ?lm_CO_at ?cm_CO_at ?km_CO_at; (case am_CO_at => k_is); (case im_CO_at => k_is); (case lm_CO_at => k_is); (case cm_CO_at => k_is); (case km_CO_at => k_is)))
    (case m_CO_near => (refine' HP.methAt_mk (fun _ _ _ _ _ _ us hl => match us, hl with | [_, _, _], _ => rfl) ?am_CO_near ?im_CO_near ?lm_CO_near ?cm_CO_near ?km_CO_near; (case am_CO_near => k_is); (case im_CO_near => k_is); (case lm_CO_near => k_is); (case cm_CO_near => k_is); (case km_CO_near => k_is)))
    (case m_CO_bevel => (refine' HP.methAt_mk (fun _ _ _ _ _ _ us hl => match us, hl with | [_, _, _], _ => rfl) ?am_CO_bevel ?im_CO_bevel ?lm_CO_bevel ?cm_CO_bevel ?km_CO_bevel; (case am_CO_bevel => k_is); (case im_CO_bevel => k_is); (case lm_CO_bevel => k_is); (case cm_CO_bevel => k_is); (case km_CO_bevel => k_is)))
    (case m_CO_inside => (refine' HP.methAt_mk (fun _ _ _ _ _ _ us hl => match us, hl with | [_, _, _, _], _ => rfl) ?am_CO_inside ?im_CO_inside ?lm_CO_inside ?cm_CO_inside ?km_CO_inside; (case am_CO_inside => k_is); (case im_CO_inside => k_is); (case lm_CO_inside => k_is); (case cm_CO_inside => k_is); (case km_CO_inside => k_is)))
    (case m_CO_frame => (refine' HP.methAt_mk (fun _ _ _ _ _ _ us hl => match us, hl with | [_, _, _], _ => rfl) ?am_CO_frame ?im_CO_frame ?lm_CO_frame ?cm_CO_frame ?km_CO_frame; (case am_CO_frame => k_is); (case im_CO_frame => k_is); (case lm_CO_frame => k_is); (case cm_CO_frame => k_is); (case km_CO_frame => k_is)))
    (case m_CO_level => (refine' HP.methAt_mk (fun _ _ _ _ _ _ us hl => match us, hl with | [_, _], _ => rfl) ?am_CO_level ?im_CO_level ?lm_CO_level ?cm_CO_level ?km_CO_level; (case am_CO_level => k_is); (case im_CO_level => k_is); (case lm_CO_level => k_is); (case cm_CO_level => k_is); (case km_CO_level => k_is)))
    (case a3 => k_is)
    (case l3 => k_is)
    (case c3 => k_is)
    (case k3 => k_is)
  case S =>
    intro K H xs a hO hwi hask hx
    cases hx with
    | cons h1 h2 =>
      cases h2
      cases h1 with
      | lst hs ha =>
        have e := L2.ints_dw a.1 _ ha
        subst e
        have q : ((Codec.inLen 0 16000 a.1 && a.1.all (Codec.inInt (-9223372036854775808) 9223372036854775807)) && true) = true := hwi
        rw [Bool.and_eq_true, Bool.and_eq_true] at q
        exact ⟨_, a.1, rfl, hs, (Codec.inNat_iff.mp q.1.1).2, hask, fun H' p hp => .lst (L2.SqL.of hp) (L2.dw_ints _)⟩

