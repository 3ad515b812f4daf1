import PyProof.Rows.All
import Wide.All
import OpenK.AllK
import Wide.FinOn
import PyProof.EqAt
import PyProof.EqKinds
import PyProof.TupleCall
import KE.BitLaws
import Open.SpecLaws
import KE.OsHead
import KE.OsGo
import KE.KRevIter
import PySem.Challenge.RW_hiddenwords_s01_answers
section
-- CHANGE: your row's module here, as the last of these rows
set_option Elab.async false
set_option linter.all false
set_option maxRecDepth 100000
/-! THE HAND LAYER, for ints, bools, texts, own classes, lists, tuples, dicts, comprehensions, walks over dicts, enumerate, zip, reversed, texts, calls, loops. Paste it whole ahead of your own text; what your proof does not reach may be deleted. -/
namespace L2
open PySem PySem.Spec PyProof.Rows

/-- a key: an int or a str -/
abbrev Key := Sum Int Str
def keyIs : Key → Value → Bool
  | .inl k, v => Value.isInt k v
  | .inr x, v => Value.isStrOf x v
def keyH (w : World) : Key → Int
  | .inl k => hashInt k
  | .inr x => hashStr w x
theorem keyIs_shape : ∀ {k : Key} {v : Value}, keyIs k v = true → (∃ i t, k = Sum.inl i ∧ v = Value.int i t) ∨ (∃ x t, k = Sum.inr x ∧ v = Value.str x t)
  | .inl i, v, h => by
    obtain ⟨t, e⟩ := Value.isInt_shape (k := i) (v := v) h
    exact .inl ⟨i, t, rfl, e⟩
  | .inr x, v, h => by
    obtain ⟨t, e⟩ := Value.isStrOf_shape (x := x) (v := v) h
    exact .inr ⟨x, t, rfl, e⟩
theorem keyIs_int (i : Int) (t : Tok) : keyIs (.inl i) (.int i t) = true := by simp [keyIs, Value.isInt]
theorem keyIs_str (x : Str) (t : Tok) : keyIs (.inr x) (.str x t) = true := by simp [keyIs, Value.isStrOf]
theorem key_ll (a b : Int) : decide ((Sum.inl a : Key) = Sum.inl b) = (a == b) := by
  by_cases e : a = b
  · subst e; simp
  · have h : ¬ (Sum.inl a : Key) = Sum.inl b := fun q => e (Sum.inl.inj q)
    rw [decide_eq_false h]
    exact (beq_eq_false_iff_ne.mpr e).symm
theorem key_rr (a b : Str) : decide ((Sum.inr a : Key) = Sum.inr b) = decide (a = b) := by
  by_cases e : a = b
  · subst e; simp
  · have h : ¬ (Sum.inr a : Key) = Sum.inr b := fun q => e (Sum.inr.inj q)
    rw [decide_eq_false h, decide_eq_false e]
theorem key_lr (a : Int) (b : Str) : decide ((Sum.inl a : Key) = Sum.inr b) = false := decide_eq_false (fun q => nomatch q)
theorem key_rl (a : Str) (b : Int) : decide ((Sum.inr a : Key) = Sum.inl b) = false := decide_eq_false (fun q => nomatch q)

def mixKind (prog : Program) (w : World) : PySem.KeyKind prog w Key where
  is := keyIs
  hash := keyH w
  inj := fun v a b ha hb => by
    rcases keyIs_shape ha with ⟨i, t, rfl, rfl⟩ | ⟨x, t, rfl, rfl⟩
    · rcases keyIs_shape hb with ⟨j, u, rfl, e⟩ | ⟨y, u, rfl, e⟩
      · injection e with e1 _; rw [e1]
      · exact nomatch e
    · rcases keyIs_shape hb with ⟨j, u, rfl, e⟩ | ⟨y, u, rfl, e⟩
      · exact nomatch e
      · injection e with e1 _; rw [e1]
  byValue := fun k v h => by
    rcases keyIs_shape h with ⟨i, t, rfl, rfl⟩ | ⟨x, t, rfl, rfl⟩ <;> rfl
  pyHash := fun hv h => by
    rcases keyIs_shape hv with ⟨i, t, rfl, rfl⟩ | ⟨x, t, rfl, rfl⟩
    · exact wpAny_pyHash_int h
    · exact wpAny_pyHash_str h
  eqBool := fun hu hv h => by
    rcases keyIs_shape hu with ⟨i, t, rfl, rfl⟩ | ⟨x, t, rfl, rfl⟩
    · rcases keyIs_shape hv with ⟨j, u, rfl, rfl⟩ | ⟨y, u, rfl, rfl⟩
      · rw [key_ll] at h; exact wpAny_eqBool_int h
      · rw [key_lr] at h; exact SeqAt.EqAt.int_str i t y u _ _ _ _ h
    · rcases keyIs_shape hv with ⟨j, u, rfl, rfl⟩ | ⟨y, u, rfl, rfl⟩
      · rw [key_rl] at h; exact SeqAt.EqAt.str_int x t j u _ _ _ _ h
      · rw [key_rr] at h; exact wpAny_eqBool_str h
  «strs» := fun k x t v h => by
    rcases keyIs_shape h with ⟨i, u, rfl, e⟩ | ⟨y, u, rfl, e⟩
    · exact nomatch e
    · injection e with e1 _
      subst e1
      cases v <;> rfl

theorem mixKind_int (prog : Program) (w : World) (i : Int) (t : Tok) : (mixKind prog w).is (.inl i) (.int i t) = true := keyIs_int i t
theorem mixKind_str (prog : Program) (w : World) (x : Str) (t : Tok) : (mixKind prog w).is (.inr x) (.str x t) = true := keyIs_str x t
end L2

namespace L2
open PySem PySem.Spec PyProof.Rows

/-- a value, without the heap -/
inductive V where
  | non | bl (b : Bool) | int (i : Int) | str (x : Str) | byt (b : Array UInt8) | flt (b : UInt64) | ref (a : Addr) | ty (n : String)
  deriving DecidableEq

def RelV : V → Value → Prop
  | .non, u => u = Value.none
  | .bl b, u => u = Value.bool b
  | .int i, u => ∃ t, u = Value.int i t
  | .str x, u => ∃ t, u = Value.str x t
  | .byt b, u => ∃ t, u = Value.bytes b t
  | .flt b, u => ∃ t, u = Value.float b t
  | .ref a, u => u = Value.ref a
  | .ty n, u => u = Value.type n

abbrev Vals : List V → List Value → Prop := Paired RelV
theorem Vals.length {xs : List V} {us : List Value} (r : Vals xs us) : xs.length = us.length := Paired.length r
theorem Vals.get : ∀ {xs : List V} {us : List Value} {i : Nat} {x : V}, Vals xs us → xs[i]? = some x → ∃ u, us[i]? = some u ∧ RelV x u
  | _, _, _, _, .nil, e => by simp at e
  | _, _, 0, _, .cons r _, e => by simp at e; subst e; exact ⟨_, rfl, r⟩
  | _, _, i + 1, x, .cons _ t, e => by
    obtain ⟨u, h1, h2⟩ := Vals.get (i := i) (x := x) t (by simpa using e)
    exact ⟨u, by simpa using h1, h2⟩
theorem Vals.set {x : V} {u : Value} (r : RelV x u) : ∀ {xs : List V} {us : List Value} (i : Nat), Vals xs us → Vals (xs.set i x) (us.set i u)
  | _, _, _, .nil => .nil
  | _, _, 0, .cons _ t => .cons r t
  | _, _, i + 1, .cons q t => .cons q (Vals.set r i t)
theorem Vals.append : ∀ {xs ys : List V} {us ws : List Value}, Vals xs us → Vals ys ws → Vals (xs ++ ys) (us ++ ws)
  | _, _, _, _, .nil, s => s
  | _, _, _, _, .cons r t, s => .cons r (Vals.append t s)
theorem Vals.take : ∀ {xs : List V} {us : List Value} (n : Nat), Vals xs us → Vals (xs.take n) (us.take n)
  | _, _, 0, _ => .nil
  | _, _, _ + 1, .nil => .nil
  | _, _, n + 1, .cons r t => .cons r (Vals.take n t)
theorem Vals.drop : ∀ {xs : List V} {us : List Value} (n : Nat), Vals xs us → Vals (xs.drop n) (us.drop n)
  | _, _, 0, r => r
  | _, _, _ + 1, .nil => .nil
  | _, _, n + 1, .cons _ t => Vals.drop n t

def RelO : Option V → Option Value → Prop
  | some v, some u => RelV v u
  | none, none => True
  | _, _ => False
def KV {κ : Type} : List (κ × V) → List (κ × Value) → Prop := Paired fun (p : κ × V) (q : κ × Value) => p.1 = q.1 ∧ RelV p.2 q.2

/-- a key of a dict (00_mix): an int or a text -/
def kV : Key → V
  | .inl i => .int i
  | .inr x => .str x

/-- what stands at a tracked address -/
inductive HO where
  /-- a list -/
  | lst (xs : List V)
  /-- a tuple (never changes) -/
  | tup (xs : List V)
  /-- a dict whose keys are ints and texts; one whose keys are tuples of ints and texts (the empty one is both) -/
  | dK (kvs : List (Key × V)) | dT (kvs : List (List Key × V))
  /-- a set of ints: its members, its size -/
  | set (S : Int → Bool) (n : Nat)
  /-- an instance of the class at C, its dict at dx, its attributes -/
  | ins (C dx : Addr) (fs : List (Str × V))
  /-- the dict of the instance at x -/
  | own (x : Addr)
  /-- the dict of an exception -/
  | xd (fs : List (Str × V))
  /-- a bound method, f of x -/
  | met (f x : Addr)
  /-- a range object lo, lo + 1, .. below hi -/
  | rng (lo hi : Int)
  /-- a thing that is known to the object (the script; a dict while a loop walks it): read, never written while it is so -/
  | frz (o : Obj) (u : HO)
  /-- a code object's table -/
  | tbl (ps : Array Value)
  /-- any other thing, by what is true of its one object (a def of one's own: SetO a S n := HO.ext fun h => ..) -/
  | ext (φ : Heap → Prop)

abbrev Hp := Addr → Option HO
def upd (H : Hp) (a : Addr) (o : HO) : Hp := fun b => if b = a then some o else H b
theorem upd_same {H : Hp} {a : Addr} {o : HO} : upd H a o a = some o := by unfold upd; rw [if_pos rfl]
theorem upd_ne {H : Hp} {a b : Addr} {o : HO} (h : b ≠ a) : upd H a o b = H b := by unfold upd; rw [if_neg h]
theorem upd_upd {H : Hp} {a : Addr} {o u : HO} : upd (upd H a o) a u = upd H a u := by
  funext b; unfold upd; split <;> rfl
/-- two objects of different content stand apart -/
theorem ne_of {H : Hp} {a b : Addr} {o u : HO} (h : H a = some o) (h' : H b = some u) (d : o ≠ u) : a ≠ b := by
  intro e; subst e; rw [h] at h'; exact d (Option.some.inj h')
theorem ne_of_none {H : Hp} {a b : Addr} {o : HO} (h : H a = some o) (h' : H b = none) : a ≠ b := by
  intro e; subst e; rw [h] at h'; cases h'

section
variable (P : Program) (w : World)
def ObjOk (H : Hp) (h : Heap) (a : Addr) : HO → Prop
  | .lst xs => xs.length ≤ sizeLine ∧ ∃ (its : List Value) (n : Nat), Vals xs its ∧ h.get? a = some { cls := .type "list", data := .seq its.toArray n }
  | .tup xs => xs.length ≤ sizeLine ∧ ∃ its : List Value, Vals xs its ∧ IsTup h a its.toArray
  | .dK kvs => kvs.length ≤ sizeLine ∧ (a == sysModules) = false ∧ ∃ vs, KV kvs vs ∧ h.DictOf (mixKind P w) a vs
  | .dT kvs => kvs.length ≤ sizeLine ∧ (a == sysModules) = false ∧ ∃ xs : List (List Key × Addr × Value),
      Paired (fun (p : List Key × V) (q : List Key × Addr × Value) => p.1 = q.1 ∧ H q.2.1 = some (.tup (p.1.map kV)) ∧ RelV p.2 q.2.2) kvs xs ∧
      ∃ o es ep, h.get? a = some o ∧ o.ExactDict ∧ o.data = .dict es ep ∧ es.toList = xs.map (entryOfKey (tupleKind (mixKind P w))) ∧ (xs.map (·.1)).Nodup
  | .set S n => h.SetOf (intKind P w) a S n
  | .ins C dx fs => H dx = some (.own a) ∧ fs.length ≤ 1000 ∧ dx ≠ a ∧ h.get? a = some (PySem.W.instObj C dx) ∧
      ∃ mA, h.Ns1 dx mA ∧ (∀ f, RelO (fs.lookup f) (mA f)) ∧ PySem.Within mA (fs.map (·.1))
  | .own _ => ∃ o, h.get? a = some o
  | .xd fs => ∃ mA, h.Ns1 a mA ∧ ∀ f, RelO (fs.lookup f) (mA f)
  | .rng lo hi => ∃ t u v, h.get? a = some { cls := .type "range", data := .fields #[.int lo t, .int hi u, .int 1 v] }
  | .frz o u => h.get? a = some o ∧ ObjOk H h a u
  | .tbl ps => h.get? a = some { cls := .none, data := .fields ps }
  | .met f x => h.get? a = some (PySem.W.methodObj (.ref f) (.ref x))
  | .ext φ => φ h ∧ (∃ o, h.get? a = some o) ∧ ∀ h1 h2 : Heap, φ h1 → (∀ o, h1.get? a = some o → h2.get? a = some o) → φ h2
/-- the abstract heap is held -/
def HOk (H : Hp) (h : Heap) : Prop := ∀ a o, H a = some o → ObjOk P w H h a o
end

section
variable {P : Program} {w : World} {H H' : Hp} {h h' : Heap} {a : Addr} {o : HO}
theorem ObjOk.lt (x : ObjOk P w H h a o) : a < h.objs.size := by
  cases o with
  | lst xs => obtain ⟨_, _, _, _, e⟩ := x; exact Heap.lt_size e
  | tup xs => obtain ⟨_, _, _, p⟩ := x; exact p.lt
  | dK kvs => obtain ⟨_, _, _, _, o, _, _, e, _⟩ := x; exact Heap.lt_size e
  | dT kvs => obtain ⟨_, _, _, _, o, _, _, e, _⟩ := x; exact Heap.lt_size e
  | set S n => obtain ⟨o, _, _, _, e, _⟩ := x; exact Heap.lt_size e
  | ins C dx fs => obtain ⟨_, _, _, e, _⟩ := x; exact Heap.lt_size e
  | own y => obtain ⟨_, e⟩ := x; exact Heap.lt_size e
  | xd fs => obtain ⟨_, ⟨_, _, _, e, _⟩, _⟩ := x; exact Heap.lt_size e
  | rng lo hi => obtain ⟨_, _, _, e⟩ := x; exact Heap.lt_size e
  | frz ob u => obtain ⟨e, _⟩ := x; exact Heap.lt_size e
  | tbl ps => exact Heap.lt_size (show h.get? a = some _ from x)
  | met f y => exact Heap.lt_size (show h.get? a = some _ from x)
  | ext φ => obtain ⟨_, ⟨_, e⟩, _⟩ := x; exact Heap.lt_size e
theorem Paired.mapP {α β : Type} {F G : α → β → Prop} : ∀ {l₁ : List α} {l₂ : List β}, Paired F l₁ l₂ → (∀ a b, F a b → G a b) → Paired G l₁ l₂
  | _, _, .nil, _ => .nil
  | _, _, .cons r t, f => .cons (f _ _ r) (Paired.mapP t f)
/-- what an object's description leans on: its own object, its own dict, the tuples -/
theorem ObjOk.stay (x : ObjOk P w H h a o) (k : ∀ b u, (b = a ∨ H b = some (.own a)) → h.get? b = some u → h'.get? b = some u)
    (ho : ∀ b, H b = some (.own a) → H' b = some (.own a)) (ht : ∀ b xs, H b = some (.tup xs) → H' b = some (.tup xs)) : ObjOk P w H' h' a o := by
  induction o with
  | lst xs => obtain ⟨z, its, n, r, e⟩ := x; exact ⟨z, its, n, r, k _ _ (.inl rfl) e⟩
  | tup xs => obtain ⟨z, its, r, ob, e, c⟩ := x; exact ⟨z, its, r, ob, k _ _ (.inl rfl) e, c⟩
  | dK kvs => obtain ⟨z, y, vs, r, ob, es, ep, e, c⟩ := x; exact ⟨z, y, vs, r, ob, es, ep, k _ _ (.inl rfl) e, c⟩
  | dT kvs =>
    obtain ⟨z, y, xs, r, ob, es, ep, e, c⟩ := x
    exact ⟨z, y, xs, Paired.mapP r fun p q z => ⟨z.1, ht _ _ z.2.1, z.2.2⟩, ob, es, ep, k _ _ (.inl rfl) e, c⟩
  | set S n => obtain ⟨ob, es, ep, t, e, c⟩ := x; exact ⟨ob, es, ep, t, k _ _ (.inl rfl) e, c⟩
  | ins C dx fs =>
    obtain ⟨d, z, ne, e, mA, ⟨od, es, ep, e2, c⟩, r⟩ := x
    exact ⟨ho _ d, z, ne, k _ _ (.inl rfl) e, mA, ⟨od, es, ep, k _ _ (.inr d) e2, c⟩, r⟩
  | own y => obtain ⟨ob, e⟩ := x; exact ⟨ob, k _ _ (.inl rfl) e⟩
  | xd fs => obtain ⟨mA, ⟨od, es, ep, e, c⟩, r⟩ := x; exact ⟨mA, ⟨od, es, ep, k _ _ (.inl rfl) e, c⟩, r⟩
  | rng lo hi => obtain ⟨t, u, v, e⟩ := x; exact ⟨t, u, v, k _ _ (.inl rfl) e⟩
  | frz ob u ih => obtain ⟨e, q⟩ := x; exact ⟨k _ _ (.inl rfl) e, ih q⟩
  | tbl ps =>
    have e : h.get? a = some { cls := .none, data := .fields ps } := x
    show h'.get? a = some { cls := .none, data := .fields ps }
    exact k a _ (.inl rfl) e
  | met f y =>
    have e : h.get? a = some (PySem.W.methodObj (.ref f) (.ref y)) := x
    show h'.get? a = some (PySem.W.methodObj (.ref f) (.ref y))
    exact k a _ (.inl rfl) e
  | ext φ => obtain ⟨p, ⟨o, e⟩, st⟩ := x; exact ⟨st _ _ p fun o q => k _ _ (.inl rfl) q, ⟨o, k _ _ (.inl rfl) e⟩, st⟩
theorem HOk.lt (x : HOk P w H h) (e : H a = some o) : a < h.objs.size := (x a o e).lt
theorem HOk.fresh (x : HOk P w H h) (e : h.objs.size ≤ a) : H a = none := by
  cases q : H a with
  | none => rfl
  | some u => exact absurd (Nat.lt_of_lt_of_le (x.lt q) e) (Nat.lt_irrefl _)
/-- every object of the heap is kept -/
theorem HOk.kept (x : HOk P w H h) (k : ∀ b u, h.get? b = some u → h'.get? b = some u) : HOk P w H h' := fun a o e =>
  (x a o e).stay (fun b u _ q => k b u q) (fun _ q => q) fun _ _ q => q
/-- a new object is laid and tracked -/
theorem HOk.laid (x : HOk P w H h) (k : ∀ b u, h.get? b = some u → h'.get? b = some u) (hp : h.objs.size ≤ a) (new : ObjOk P w (upd H a o) h' a o) : HOk P w (upd H a o) h' := fun b u e => by
  have hn := x.fresh hp
  by_cases hb : b = a
  · subst hb; rw [upd_same] at e; cases e; exact new
  · rw [upd_ne hb] at e
    exact (x b u e).stay (fun c v _ q => k c v q) (fun c q => by rw [upd_ne (ne_of_none q hn)]; exact q) fun c xs q => by rw [upd_ne (ne_of_none q hn)]; exact q
end

/-- what may be read as u: it is u, or a known u -/
def Rd (H : Hp) (a : Addr) (u : HO) : Prop := H a = some u ∨ ∃ o, H a = some (.frz o u)
theorem Rd.ok {P : Program} {w : World} {H : Hp} {h : Heap} {a : Addr} {u : HO} (r : Rd H a u) (x : HOk P w H h) : ObjOk P w H h a u := by
  rcases r with r | ⟨o, r⟩
  · exact x a u r
  · obtain ⟨_, q⟩ := x a _ r
    exact q
/-- what may be written -/
def Mut : Option HO → Prop
  | some (.lst _) => True
  | some (.dK _) => True
  | some (.dT _) => True
  | some (.set _ _) => True
  | some (.ins _ _ _) => True
  | some (.ext _) => True
  | _ => False
section
variable {P : Program} {w : World} {H : Hp} {h h' : Heap} {x e : Addr} {o' : HO}
/-- the object at e is changed: x itself, or the dict of the instance x -/
theorem HOk.write (ok : HOk P w H h) (mu : Mut (H x)) (he : e = x ∨ H e = some (.own x)) (k : ∀ b u, b ≠ e → h.get? b = some u → h'.get? b = some u) (heo : ∃ u, h'.get? e = some u)
    (new : ObjOk P w (upd H x o') h' x o') : HOk P w (upd H x o') h' := fun b u q => by
  have nown : ∀ c y, H c = some (.own y) → c ≠ x := fun c y r z => by subst z; rw [r] at mu; exact mu
  have ntup : ∀ c xs, H c = some (.tup xs) → c ≠ x := fun c xs r z => by subst z; rw [r] at mu; exact mu
  by_cases hb : b = x
  · subst hb; rw [upd_same] at q; cases q; exact new
  · rw [upd_ne hb] at q
    by_cases hbe : b = e
    · have q' : H b = some (.own x) := by
        rcases he with z | z
        · exact absurd (hbe.trans z) hb
        · rw [hbe]; exact z
      rw [q] at q'; cases q'
      obtain ⟨v, hv⟩ := heo
      exact ⟨v, by rw [hbe]; exact hv⟩
    · refine (ok b u q).stay (fun c v hc r => k c v ?_ r) (fun c r => by rw [upd_ne (nown c b r)]; exact r) fun c xs r => by rw [upd_ne (ntup c xs r)]; exact r
      rcases hc with rfl | hc
      · exact hbe
      · rintro rfl
        rcases he with z | z
        · exact nown c b hc z
        · rw [hc] at z; cases z; exact hb rfl
end

/-! ### kept unless tracked; of the frames at fs (the callers') the slots may change (an exception that passes writes there); of the records at ex (iterators) nothing is said -/
structure Un (fs ex : List Addr) (H H' : Hp) (h h' : Heap) : Prop where
  keep : ∀ b o, h.get? b = some o → H b = none → b ∉ fs → b ∉ ex → h'.get? b = some o
  slot : ∀ b o, h.get? b = some o → H b = none → b ∈ fs → b ∉ ex → ∃ sl, h'.get? b = some { o with slots := sl }
  free : ∀ b o, h.get? b = some o → H b = none → b ∉ ex → H' b = none
  there : ∀ b o, h.get? b = some o → b ∉ ex → ∃ o', h'.get? b = some o'
  tups : ∀ b xs, H b = some (.tup xs) → H' b = some (.tup xs)
  frzs : ∀ b o u, H b = some (.frz o u) → H' b = some (.frz o u)
  tbls : ∀ b ps, H b = some (.tbl ps) → ∃ more, H' b = some (.tbl (ps ++ more))
section
variable {fs fs' ex ex' : List Addr} {H H1 H2 : Hp} {h h1 h2 h' : Heap} {a x e : Addr} {o : HO}
theorem Un.any (u : Un fs ex H H1 h h1) {b : Addr} {ob : Obj} (q : h.get? b = some ob) (n : H b = none) (hx : b ∉ ex) : ∃ sl, h1.get? b = some { ob with slots := sl } := by
  by_cases hb : b ∈ fs
  · exact u.slot b ob q n hb hx
  · exact ⟨ob.slots, u.keep b ob q n hb hx⟩
theorem Un.kept (k : ∀ b u, h.get? b = some u → h'.get? b = some u) : Un fs ex H H h h' :=
  ⟨fun b ob q _ _ _ => k b ob q, fun b ob q _ _ _ => ⟨ob.slots, k b ob q⟩, fun _ _ _ n _ => n, fun b ob q _ => ⟨ob, k b ob q⟩, fun _ _ q => q, fun _ _ _ q => q, fun _ ps q => ⟨#[], by rw [q]; simp⟩⟩
theorem Un.refl : Un fs ex H H h h := Un.kept fun _ _ q => q
theorem Un.laid (k : ∀ b u, h.get? b = some u → h'.get? b = some u) (hp : h.objs.size ≤ a) (hn : H a = none) : Un fs ex H (upd H a o) h h' where
  keep := fun b u q _ _ _ => k b u q
  slot := fun b u q _ _ _ => ⟨u.slots, k b u q⟩
  free := fun b u q n _ => by rw [upd_ne (Nat.ne_of_lt (Nat.lt_of_lt_of_le (Heap.lt_size q) hp))]; exact n
  there := fun b u q _ => ⟨u, k b u q⟩
  tups := fun b xs q => by rw [upd_ne (ne_of_none q hn)]; exact q
  frzs := fun b u xs q => by rw [upd_ne (ne_of_none q hn)]; exact q
  tbls := fun b ps q => ⟨#[], by rw [upd_ne (ne_of_none q hn), q]; simp⟩
theorem Un.write (mu : Mut (H x)) (he : e = x ∨ H e = some (.own x)) (k : ∀ b u, b ≠ e → h.get? b = some u → h'.get? b = some u) (heo : ∃ u, h'.get? e = some u) : Un fs ex H (upd H x o) h h' := by
  have hx : ∀ b, H b = none → b ≠ x := fun b n z => by subst z; rw [n] at mu; exact mu
  have hb : ∀ b, H b = none → b ≠ e := fun b n z => by
    subst z
    rcases he with r | r
    · exact hx b n r
    · rw [n] at r; cases r
  have hm : ∀ b u, H b = some u → ¬ Mut (some u) → b ≠ x := fun b u q nm z => by subst z; rw [q] at mu; exact nm mu
  refine ⟨fun b u q n _ _ => k b u (hb b n) q, fun b u q n _ _ => ⟨u.slots, k b u (hb b n) q⟩, fun b u q n _ => by rw [upd_ne (hx b n)]; exact n, fun b u q _ => ?_,
    fun b xs q => by rw [upd_ne (hm b _ q fun z => z)]; exact q, fun b u xs q => by rw [upd_ne (hm b _ q fun z => z)]; exact q, fun b ps q => ⟨#[], by rw [upd_ne (hm b _ q fun z => z), q]; simp⟩⟩
  by_cases hbe : b = e
  · subst hbe; exact heo
  · exact ⟨u, k b u hbe q⟩
end

/-! ### the heap without what is tracked -/
def trk (h : Heap) (H : Hp) : List Addr := (List.range h.objs.size).filter fun a => (H a).isSome
def hidT (h : Heap) (H : Hp) : Heap := PySem.W.hideAll h (trk h H)
theorem hidT_size (h : Heap) (H : Hp) : (hidT h H).objs.size = h.objs.size := PySem.W.hideAll_size _ _
theorem hidT_get {h : Heap} {H : Hp} {b : Addr} {o : Obj} (e : h.get? b = some o) (n : H b = none) : (hidT h H).get? b = some o :=
  PySem.W.hideAll_get _ e fun hm => by
    have q : (H b).isSome = true := (List.mem_filter.mp hm).2
    rw [n] at q; simp at q
theorem of_hidT {h : Heap} {H : Hp} {b : Addr} {o : Obj} (e : (hidT h H).get? b = some o) : h.get? b = some o ∧ H b = none := by
  have e' : h.get? b = some o := PySem.W.of_hideAll (trk h H) e
  refine ⟨e', ?_⟩
  cases q : H b with
  | none => rfl
  | some x =>
    have hm : b ∈ trk h H := List.mem_filter.mpr ⟨List.mem_range.mpr (Heap.lt_size e'), by simp [q]⟩
    have z : (hidT h H).get? b = none := PySem.W.hideAll_none (trk h H) hm
    rw [z] at e; cases e

/-! ### OpenK's ledger, filled with every new object but one -/
end L2

namespace L2
open PySem PySem.Spec PyProof.Rows

/-- the module's facts, over the base: the heap at the law's entry without what is tracked there -/
structure Mod (K : PySem.W.Frag) (mg : Str → Option Value) (base : Heap) : Prop where
  kin : K.In base
  glob : base.Ns mainGlobals mg
  blt : ∃ mb, base.Ns builtinsNs mb ∧ ∀ x : Str, x ≠ "__name__" → mb x = bootBuiltins x
  nolimit : base.NoLimit

/-- the context: a def's body (or a comprehension's block) running. base: fixed through the whole law; s₀, H₀: the entry; outer: the frames whose slots others may change (a def's callers); stack: all frames that run;
   ex: iterators that were made ahead of the entry and are walked here (a comprehension's); fn: the names whose cells were made at the entry (a def: all; a comprehension's block: its own); calm: not within an except suite; pn: pins that every state bears; xe: what is wanted of an exception that leaves the code -/
structure Cx where
  prog : Program
  w : World
  K : PySem.W.Frag
  mg : Str → Option Value
  base : Heap
  A : Around
  N : List Str
  s_0 : Shared
  H_0 : Hp
  env : Env
  outer : List Env
  stack : List Env
  ex : List Addr
  fn : Str → Bool
  calm : Bool
  pn : List (Addr × Obj)
  xe : Value → Shared → Prop
/-- the callers' frames -/
def frs (l : List Env) : List Addr := l.filterMap (·.frame)
abbrev Cx.fs (X : Cx) : List Addr := frs X.outer

def Vis (sc : Scope) (x : Str) : Prop := sc.names.lookup x = some .local ∨ sc.names.lookup x = some .cell ∨ sc.names.lookup x = some .free
def Loc (sc : Scope) (x : Str) : Prop := sc.names.lookup x = some .local ∨ sc.names.lookup x = some .cell
def Look (env : Env) (h : Heap) (m : Str → Option Value) (x : Str) (u : Value) : Prop :=
  (env.kindOf x = some .local ∧ m x = some u) ∨ ((env.kindOf x = some .cell ∨ env.kindOf x = some .free) ∧ ∃ c, env.cells.lookup x = some c ∧ h.IsCell c (some u))

structure Cx.Ok (X : Cx) : Prop where
  mod : Mod X.K X.mg X.base
  kind : X.env.scope.kind = .function
  glob : X.env.globals = mainGlobals
  blt : X.env.builtins = builtinsNs
  above : X.s_0.heap.objs.size ≤ X.env.locals
  inj : ∀ x y c, X.env.cells.lookup x = some c → X.env.cells.lookup y = some c → x = y
  has : ∀ x, (X.env.kindOf x = some .cell ∨ X.env.kindOf x = some .free) → ∃ c, X.env.cells.lookup x = some c
  cab : ∀ x c, X.fn x = true → X.env.cells.lookup x = some c → X.s_0.heap.objs.size ≤ c
  hd : X.calm = true → X.A.handled = none
  frames : X.A.frames = some X.stack
  stk : X.stack = X.outer ∨ (X.stack = X.env :: X.outer ∧ X.env.frame = some X.env.locals)
  exf : ∀ b ∈ X.ex, b ≠ X.env.locals ∧ ∀ x c, X.env.cells.lookup x = some c → c ≠ b
  bs : ∀ b o, X.base.get? b = some o → X.s_0.heap.get? b = some o ∧ X.H_0 b = none
  bsz : X.base.objs.size ≤ X.s_0.heap.objs.size
  noex : ∀ b o, X.base.get? b = some o → b ∉ X.ex
  exfs : ∀ b ∈ X.ex, b ∉ X.fs
  funs : X.s_0.heap.FunFrames X.base X.outer
  frf : ∀ b ∈ X.fs, X.H_0 b = none

structure Inv (X : Cx) (pins : List (Addr × Obj)) (σ : List (Option V)) (H : Hp) (s : Shared) : Prop where
  ok : X.Ok
  os : s.os = X.s_0.os
  bare : AllBare s.gens
  base : Un X.fs X.ex X.H_0 H X.s_0.heap s.heap
  loc : ∃ m, s.heap.Ns X.env.locals m ∧ ∀ (i : Nat) (x : Str) (v : V), X.N[i]? = some x → σ[i]? = some (some v) → Vis X.env.scope x → ∃ u, RelV v u ∧ Look X.env s.heap m x u
  cell : ∀ x c, X.env.cells.lookup x = some c → ∃ v, s.heap.IsCell c v
  free : H X.env.locals = none
  freeC : ∀ x c, X.env.cells.lookup x = some c → H c = none
  pin : ∀ p ∈ X.pn ++ pins, s.heap.get? p.1 = some p.2 ∧ H p.1 = none ∧ p.1 ≠ X.env.locals ∧ p.1 ∉ X.fs ∧ ∀ v, p.2.data ≠ .cell v
  hok : HOk X.prog X.w H s.heap
  len : σ.length = X.N.length

section
variable {X : Cx} {pins : List (Addr × Obj)} {σ : List (Option V)} {H H' : Hp} {s : Shared} {h' : Heap}

theorem Cx.Ok.nofr (ok : X.Ok) {b : Addr} {o : Obj} (e : X.base.get? b = some o) : b ∉ X.fs := fun hb => by
  have := (ok.funs.mem hb).1
  rw [e] at this; cases this
theorem Inv.bs (I : Inv X pins σ H s) : ∀ b o, X.base.get? b = some o → s.heap.get? b = some o ∧ H b = none := fun b o e =>
  ⟨I.base.keep b o (I.ok.bs b o e).1 (I.ok.bs b o e).2 (I.ok.nofr e) (I.ok.noex b o e), I.base.free b o (I.ok.bs b o e).1 (I.ok.bs b o e).2 (I.ok.noex b o e)⟩
theorem Inv.bk (I : Inv X pins σ H s) : ∀ b o, X.base.get? b = some o → s.heap.get? b = some o := fun b o e => (I.bs b o e).1
theorem Inv.mod (I : Inv X pins σ H s) : Mod X.K X.mg X.base := I.ok.mod
theorem Inv.kIn (I : Inv X pins σ H s) : X.K.In s.heap := I.ok.mod.kin.keeps I.bk
/-- the frame over the base: for OpenK's rules (K.In X.base is I.mod.kin) -/
theorem Inv.fr (I : Inv X pins σ H s) : ∃ m, Fr X.base X.env.locals s.heap m :=
  let ⟨m, hn, _⟩ := I.loc
  ⟨m, hn, I.bk, Nat.le_trans I.ok.bsz I.ok.above⟩
theorem Inv.lt (I : Inv X pins σ H s) : X.env.locals < s.heap.objs.size := let ⟨_, hn, _⟩ := I.loc; hn.lt
theorem Inv.sz (I : Inv X pins σ H s) : X.s_0.heap.objs.size ≤ s.heap.objs.size := Nat.le_trans I.ok.above (Nat.le_of_lt I.lt)
theorem Inv.nofs (I : Inv X pins σ H s) {a : Addr} (h : s.heap.objs.size ≤ a) : a ∉ X.fs := fun hb => by
  obtain ⟨_, o, ho, _⟩ := I.ok.funs.mem hb
  exact absurd (Nat.lt_of_lt_of_le (Heap.lt_size ho) (Nat.le_trans I.sz h)) (Nat.lt_irrefl _)
theorem Inv.cne (I : Inv X pins σ H s) : ∀ x c, X.env.cells.lookup x = some c → c ≠ X.env.locals := fun x c e z => by
  obtain ⟨v, o, ho, hd⟩ := I.cell x c e
  obtain ⟨m, ⟨o', es, ep, ho', hd', _⟩, _⟩ := I.loc
  rw [z, ho'] at ho; cases ho; rw [hd'] at hd; cases hd
theorem Inv.funs (I : Inv X pins σ H s) : s.heap.FunFrames X.base X.outer := by
  have all : ∀ (l : List Env), (∀ b ∈ frs l, b ∈ X.fs) → X.s_0.heap.FunFrames X.base l → s.heap.FunFrames X.base l := by
    intro l
    induction l with
    | nil => intro _ _; trivial
    | cons env r ih =>
      intro hs hl
      obtain ⟨hk, ⟨L, o, hf, hn, ho, hd⟩, hr⟩ := hl
      have hL : L ∈ X.fs := hs L (by unfold frs; rw [List.filterMap_cons, hf]; exact List.mem_cons_self)
      obtain ⟨sl, e⟩ := I.base.slot L o ho (I.ok.frf L hL) hL fun z => I.ok.exfs L z hL
      exact ⟨hk, ⟨L, _, hf, hn, e, hd⟩, ih (fun b hb => hs b (by unfold frs; rw [List.filterMap_cons, hf]; exact List.mem_cons_of_mem _ hb)) hr⟩
  exact all X.outer (fun _ hb => hb) I.ok.funs

/-- the frames that run, for a call -/
theorem Inv.stack (I : Inv X pins σ H s) : s.heap.FunFrames X.base X.stack := by
  rcases I.ok.stk with e | ⟨e, hf⟩
  · rw [e]; exact I.funs
  · rw [e]
    obtain ⟨m, hn, _⟩ := I.loc
    refine .cons (by rw [I.ok.kind]; decide) hf hn ?_ I.funs
    exact Heap.get?_none_of_le (Nat.le_trans I.ok.bsz I.ok.above)
theorem Inv.stkSub (I : Inv X pins σ H s) : ∀ b ∈ frs X.stack, b ∈ X.env.locals :: X.fs := fun b hb => by
  rcases I.ok.stk with e | ⟨e, hf⟩
  · rw [e] at hb; exact List.mem_cons_of_mem _ hb
  · rw [e] at hb
    unfold frs at hb
    rw [List.filterMap_cons, hf] at hb
    exact hb
theorem Inv.stkFree (I : Inv X pins σ H s) : ∀ b ∈ frs X.stack, H b = none := fun b hb => by
  rcases List.mem_cons.mp (I.stkSub b hb) with e | hb
  · rw [e]; exact I.free
  · obtain ⟨_, o, ho, _⟩ := I.ok.funs.mem hb
    exact I.base.free b o ho (I.ok.frf b hb) fun z => I.ok.exfs b z hb

/-- THE STEP: the untracked objects but the frame and the records at ch are kept (the callers' frames up to slots), the frame's map is kept, the new abstract heap is held -/
theorem Inv.step {g' : Array GenState} {t' : Nat} {d' : Drawn} {ch : List Addr} (I : Inv X pins σ H s)
    (hch : ∀ b ∈ ch, (b ∈ X.ex ∨ X.s_0.heap.objs.size ≤ b) ∧ b ≠ X.env.locals ∧ (∀ x c, X.env.cells.lookup x = some c → c ≠ b) ∧ ∀ p ∈ X.pn ++ pins, p.1 ≠ b)
    (keep : ∀ b o, b ≠ X.env.locals → b ∉ X.fs → b ∉ ch → s.heap.get? b = some o → H b = none → h'.get? b = some o)
    (slot : ∀ b o, b ≠ X.env.locals → b ∈ X.fs → b ∉ ch → s.heap.get? b = some o → H b = none → ∃ sl, h'.get? b = some { o with slots := sl }) (free : ∀ b o, b ∉ ch → s.heap.get? b = some o → H b = none → H' b = none)
    (there : ∀ b o, b ∉ ch → s.heap.get? b = some o → ∃ o', h'.get? b = some o')
    (tups : ∀ b xs, H b = some (.tup xs) → H' b = some (.tup xs)) (frzs : ∀ b o u, H b = some (.frz o u) → H' b = some (.frz o u)) (tbls : ∀ b ps, H b = some (.tbl ps) → ∃ more, H' b = some (.tbl (ps ++ more)))
    (ns : ∀ m, s.heap.Ns X.env.locals m → h'.Ns X.env.locals m) (hok : HOk X.prog X.w H' h') (hg : AllBare g') :
    Inv X pins σ H' { s with heap := h', gens := g', drawn := d', toks := t' } := by
  have neL : ∀ b o, X.s_0.heap.get? b = some o → b ≠ X.env.locals := fun b o e => Nat.ne_of_lt (Nat.lt_of_lt_of_le (Heap.lt_size e) I.ok.above)
  have neC : ∀ b o, X.s_0.heap.get? b = some o → b ∉ X.ex → b ∉ ch := fun b o e hx hb => by
    rcases (hch b hb).1 with z | z
    · exact hx z
    · exact absurd (Nat.lt_of_lt_of_le (Heap.lt_size e) z) (Nat.lt_irrefl _)
  have cellK : ∀ x c, X.env.cells.lookup x = some c → ∀ v, s.heap.IsCell c v → h'.IsCell c v := fun x c e v ⟨o, ho, hd⟩ => by
    have nch : c ∉ ch := fun z => (hch c z).2.2.1 x c e rfl
    by_cases hc : c ∈ X.fs
    · obtain ⟨sl, q⟩ := slot c o (I.cne x c e) hc nch ho (I.freeC x c e)
      exact ⟨_, q, hd⟩
    · exact ⟨o, keep c o (I.cne x c e) hc nch ho (I.freeC x c e), hd⟩
  refine ⟨I.ok, I.os, hg, ⟨fun b o e n hb hx => ?_, fun b o e n hb hx => ?_, fun b o e n hx => ?_, fun b o e hx => ?_, fun b xs e => tups b xs (I.base.tups b xs e), fun b o xs e => frzs b o xs (I.base.frzs b o xs e), fun b ps e => ?_⟩, ?_, fun x c e => ?_, ?_, fun x c e => ?_, fun p hp => ?_, hok, I.len⟩
  · exact keep b o (neL b o e) hb (neC b o e hx) (I.base.keep b o e n hb hx) (I.base.free b o e n hx)
  · obtain ⟨sl, e1⟩ := I.base.slot b o e n hb hx
    obtain ⟨sl', e2⟩ := slot b _ (neL b o e) hb (neC b o e hx) e1 (I.base.free b o e n hx)
    exact ⟨sl', e2⟩
  · obtain ⟨o', e1⟩ := I.base.there b o e hx
    exact free b o' (neC b o e hx) e1 (I.base.free b o e n hx)
  · obtain ⟨o', e1⟩ := I.base.there b o e hx
    exact there b o' (neC b o e hx) e1
  · obtain ⟨m1, e1⟩ := I.base.tbls b ps e
    obtain ⟨m2, e2⟩ := tbls b _ e1
    exact ⟨m1 ++ m2, by rw [e2, Array.append_assoc]⟩
  · obtain ⟨m, hn, hl⟩ := I.loc
    refine ⟨m, ns m hn, fun i x v e1 e2 e3 => ?_⟩
    obtain ⟨u, r, l⟩ := hl i x v e1 e2 e3
    refine ⟨u, r, ?_⟩
    rcases l with l | ⟨k, c, e, z⟩
    · exact .inl l
    · exact .inr ⟨k, c, e, cellK x c e _ z⟩
  · obtain ⟨v, z⟩ := I.cell x c e
    exact ⟨v, cellK x c e v z⟩
  · obtain ⟨m, ⟨o, _, _, ho, _⟩, _⟩ := I.loc
    exact free _ o (fun z => (hch _ z).2.1 rfl) ho I.free
  · obtain ⟨v, o, ho, hd⟩ := I.cell x c e
    exact free c o (fun z => (hch c z).2.2.1 x c e rfl) ho (I.freeC x c e)
  · obtain ⟨e, n, ne, nf, d⟩ := I.pin p hp
    have nch : p.1 ∉ ch := fun z => (hch p.1 z).2.2.2 p hp rfl
    exact ⟨keep p.1 p.2 ne nf nch e n, free p.1 p.2 nch e n, ne, nf, d⟩
/-- .. where the frame's own object is kept too -/
theorem Inv.un {t' : Nat} (I : Inv X pins σ H s) (u : Un X.fs [] H H' s.heap h') (hok : HOk X.prog X.w H' h') : Inv X pins σ H' { s with heap := h', toks := t' } := by
  obtain ⟨m, ⟨o, es, ep, ho, r⟩, _⟩ := id I.loc
  obtain ⟨sl, hL⟩ := u.any ho I.free (by simp)
  exact I.step (g' := s.gens) (d' := s.drawn) (ch := []) (fun _ z => nomatch z) (fun b o _ hb _ e n => u.keep b o e n hb (by simp)) (fun b o _ hb _ e n => u.slot b o e n hb (by simp)) (fun b o _ e n => u.free b o e n (by simp)) (fun b o _ e => u.there b o e (by simp)) u.tups u.frzs u.tbls (fun m' hm => by
    obtain ⟨o', es', ep', ho', r'⟩ := hm
    rw [ho] at ho'; cases ho'
    exact ⟨_, es', ep', hL, r'⟩) hok I.bare
/-- behind a call (or a comprehension's block): the slots of this frame may have changed too, the records at ch may have turned -/
theorem Inv.call {g' : Array GenState} {t' : Nat} {d' : Drawn} {ch : List Addr} (I : Inv X pins σ H s) (u : Un (frs X.stack) ch H H' s.heap h') (hok : HOk X.prog X.w H' h') (hg : AllBare g')
    (hch : ∀ b ∈ ch, (b ∈ X.ex ∨ X.s_0.heap.objs.size ≤ b) ∧ b ≠ X.env.locals ∧ (∀ x c, X.env.cells.lookup x = some c → c ≠ b) ∧ ∀ p ∈ X.pn ++ pins, p.1 ≠ b) :
    Inv X pins σ H' { s with heap := h', gens := g', drawn := d', toks := t' } := by
  obtain ⟨m, ⟨o, es, ep, ho, r⟩, _⟩ := id I.loc
  obtain ⟨sl, hL⟩ := u.any ho I.free fun z => (hch _ z).2.1 rfl
  exact I.step (ch := ch) hch (fun b o hL hb hc e n => u.keep b o e n (fun z => (List.mem_cons.mp (I.stkSub b z)).elim hL hb) hc) (fun b o _ _ hc e n => u.any e n hc) (fun b o hc e n => u.free b o e n hc) (fun b o hc e => u.there b o e hc) u.tups u.frzs u.tbls (fun m' hm => by
    obtain ⟨o', es', ep', ho', r'⟩ := hm
    rw [ho] at ho'; cases ho'
    exact ⟨_, es', ep', hL, r'⟩) hok hg
/-- an untracked record of ours (an iterator) has turned -/
theorem Inv.turned {t' : Nat} {it : Addr} (I : Inv X pins σ H s) (k : ∀ b o, b ≠ it → s.heap.get? b = some o → h'.get? b = some o) (hn : H it = none) (hL : it ≠ X.env.locals)
    (h1 : it ∈ X.ex ∨ X.s_0.heap.objs.size ≤ it) (h2 : ∀ x c, X.env.cells.lookup x = some c → c ≠ it) (h3 : ∀ p ∈ X.pn ++ pins, p.1 ≠ it) : Inv X pins σ H { s with heap := h', toks := t' } := by
  have nit : ∀ b u, H b = some u → b ≠ it := fun b u e z => by rw [z, hn] at e; cases e
  refine I.step (g' := s.gens) (d' := s.drawn) (ch := [it]) (fun b hb => ?_) (fun b o _ _ hc e _ => k b o (fun z => hc (by simp [z])) e) (fun b o _ _ hc e _ => ⟨o.slots, k b o (fun z => hc (by simp [z])) e⟩) (fun _ _ _ _ n => n)
    (fun b o hc e => ⟨o, k b o (fun z => hc (by simp [z])) e⟩) (fun _ _ e => e) (fun _ _ _ e => e) (fun b ps e => ⟨#[], by rw [e]; simp⟩) (fun m hm => ?_) (fun b u e => ?_) I.bare
  · have e : b = it := by simpa using hb
    subst e
    exact ⟨h1, hL, h2, h3⟩
  · obtain ⟨o, es, ep, ho, r⟩ := hm
    exact ⟨o, es, ep, k _ o (Ne.symm hL) ho, r⟩
  · refine (I.hok b u e).stay (fun c v hc q => k c v ?_ q) (fun _ q => q) fun _ _ q => q
    rcases hc with z | z
    · rw [z]; exact nit b u e
    · exact nit c _ z
theorem Inv.tok (I : Inv X pins σ H s) (t : Nat) : Inv X pins σ H { s with toks := t } := I.un (h' := s.heap) (t' := t) Un.refl I.hok
/-- all objects kept -/
theorem Inv.kept {t' : Nat} (I : Inv X pins σ H s) (k : ∀ b u, s.heap.get? b = some u → h'.get? b = some u) : Inv X pins σ H { s with heap := h', toks := t' } := I.un (Un.kept k) (I.hok.kept k)
/-- a new object laid and tracked -/
theorem Inv.laid {a : Addr} {o : HO} {t' : Nat} (I : Inv X pins σ H s) (k : ∀ b u, s.heap.get? b = some u → h'.get? b = some u) (hp : s.heap.objs.size ≤ a) (new : ObjOk X.prog X.w (upd H a o) h' a o) :
    Inv X pins σ (upd H a o) { s with heap := h', toks := t' } := I.un (Un.laid k hp (I.hok.fresh hp)) (I.hok.laid k hp new)
/-- an object written -/
theorem Inv.write {x e : Addr} {o : HO} {t' : Nat} (I : Inv X pins σ H s) (mu : Mut (H x)) (he : e = x ∨ H e = some (.own x)) (k : ∀ b u, b ≠ e → s.heap.get? b = some u → h'.get? b = some u) (heo : ∃ u, h'.get? e = some u)
    (new : ObjOk X.prog X.w (upd H x o) h' x o) : Inv X pins σ (upd H x o) { s with heap := h', toks := t' } := I.un (Un.write mu he k heo) (I.hok.write mu he k heo new)
/-- forgetting slots, pins -/
theorem Inv.weak {σ' : List (Option V)} (I : Inv X pins σ H s) (hl : σ'.length = σ.length) (w : ∀ (i : Nat) v, σ'[i]? = some (some v) → σ[i]? = some (some v)) : Inv X pins σ' H s :=
  ⟨I.ok, I.os, I.bare, I.base, let ⟨m, hn, hl'⟩ := I.loc; ⟨m, hn, fun i x v e1 e2 e3 => hl' i x v e1 (w i v e2) e3⟩, I.cell, I.free, I.freeC, I.pin, I.hok, hl.trans I.len⟩
theorem Inv.pins_of {pins' : List (Addr × Obj)} (I : Inv X pins σ H s) (h : ∀ p ∈ pins', s.heap.get? p.1 = some p.2 ∧ H p.1 = none ∧ p.1 ≠ X.env.locals ∧ p.1 ∉ X.fs ∧ ∀ v, p.2.data ≠ .cell v) : Inv X pins' σ H s :=
  ⟨I.ok, I.os, I.bare, I.base, I.loc, I.cell, I.free, I.freeC, fun p hp => (List.mem_append.mp hp).elim (fun z => I.pin p (List.mem_append_left _ z)) (h p), I.hok, I.len⟩

theorem nodup_ix {N : List Str} (hN : N.Nodup) {i j : Nat} {x : Str} (a : N[i]? = some x) (b : N[j]? = some x) : i = j := by
  obtain ⟨h1, e1⟩ := List.getElem?_eq_some_iff.mp a
  obtain ⟨h2, e2⟩ := List.getElem?_eq_some_iff.mp b
  exact (List.getElem_inj hN).mp (e1.trans e2.symm)

/-- a name is stored; what changed -/
theorem store_ok2 {M : Model} {A : Around} {E : Value → Shared → Prop} {i : Nat} {x : Str} {v : V} {u : Value} {Q : Unit → Shared → Prop} (I : Inv X pins σ H s) (hN : X.N.Nodup) (hi : X.N[i]? = some x) (hx : Loc X.env.scope x) (r : RelV v u)
    (h : ∀ s', Inv X pins (σ.set i (some v)) H s' → (∃ a, Heap.SameBut a s.heap s'.heap ∧ (a = X.env.locals ∨ X.env.cells.lookup x = some a)) → Q () s') (hf : X.fn x = true ∨ X.env.scope.names.lookup x = some .local := by first | exact .inl rfl | exact .inr rfl | assumption) : wpAny M A (storeName X.env x u) Q E s := by
  obtain ⟨m, hn, hl⟩ := id I.loc
  have hcls : (X.env.scope.kind == .class || (X.env.scope.kind == .module && X.env.locals != X.env.globals)) = false := by rw [I.ok.kind]; rfl
  have hiσ : i < σ.length := by rw [I.len]; exact (List.getElem?_eq_some_iff.mp hi).1
  have cne := I.cne
  have tracked : ∀ {a : Addr} {h' : Heap}, (∃ o, s.heap.get? a = some o ∧ H a = none) → Heap.SameBut a s.heap h' → HOk X.prog X.w H h' := fun {a h'} ha hs b ob e => by
    obtain ⟨_, _, hfree⟩ := ha
    refine (I.hok b ob e).stay (fun c w' hc q => (hs.2 c ?_).trans q) (fun _ q => q) fun _ _ q => q
    rintro rfl
    rcases hc with rfl | hc
    · rw [hfree] at e; cases e
    · rw [hfree] at hc; cases hc
  rcases hx with hk | hk
  · refine wpAny_storeName_local hk hn (fun h' hn' hs => ?_) hcls
    obtain ⟨oL, _, _, hoL, _⟩ := id hn
    refine h _ ⟨I.ok, I.os, I.bare, ⟨fun b o e n hb hx => ?_, fun b o e n hb hx => ?_, I.base.free, fun b o e hx => ?_, I.base.tups, I.base.frzs, I.base.tbls⟩, ⟨_, hn', fun j y v' e1 e2 e3 => ?_⟩, fun y c e => ?_, I.free, I.freeC, fun p hp => ?_, tracked ⟨oL, hoL, I.free⟩ hs, by simpa using I.len⟩ ⟨_, hs, .inl rfl⟩
    · exact (hs.2 b (Nat.ne_of_lt (Nat.lt_of_lt_of_le (Heap.lt_size e) I.ok.above))).trans (I.base.keep b o e n hb hx)
    · obtain ⟨sl, e1⟩ := I.base.slot b o e n hb hx
      exact ⟨sl, (hs.2 b (Nat.ne_of_lt (Nat.lt_of_lt_of_le (Heap.lt_size e) I.ok.above))).trans e1⟩
    · obtain ⟨o', e1⟩ := I.base.there b o e hx
      exact ⟨o', (hs.2 b (Nat.ne_of_lt (Nat.lt_of_lt_of_le (Heap.lt_size e) I.ok.above))).trans e1⟩
    · by_cases hj : j = i
      · subst hj
        rw [hi] at e1; cases e1
        rw [List.getElem?_set_self hiσ] at e2
        cases e2
        exact ⟨u, r, .inl ⟨hk, by simp⟩⟩
      · rw [List.getElem?_set_ne (Ne.symm hj)] at e2
        obtain ⟨u', r', q⟩ := hl j y v' e1 e2 e3
        refine ⟨u', r', ?_⟩
        rcases q with ⟨k, e⟩ | ⟨k, c, e, z⟩
        · refine .inl ⟨k, ?_⟩
          have : y ≠ x := fun e => hj (nodup_ix hN e1 (e ▸ hi))
          simp [this, e]
        · exact .inr ⟨k, c, e, z.sameBut hs (cne y c e)⟩
    · obtain ⟨w', z⟩ := I.cell y c e
      exact ⟨w', z.sameBut hs (cne y c e)⟩
    · obtain ⟨e, n, ne, nf, d⟩ := I.pin p hp
      exact ⟨(hs.2 p.1 ne).trans e, n, ne, nf, d⟩
  · have hfn : X.fn x = true := by
      rcases hf with z | z
      · exact z
      · rw [z] at hk; cases hk
    obtain ⟨c, hc⟩ := I.ok.has x (.inl hk)
    obtain ⟨w', z⟩ := I.cell x c hc
    refine wpAny_storeName_cell I.ok.kind hk hc z (fun h' hc' hs => ?_)
    obtain ⟨oc, hoc, hocd⟩ := id z
    refine h { s with heap := h' } ⟨I.ok, I.os, I.bare, ⟨fun b o e n hb hx => ?_, fun b o e n hb hx => ?_, I.base.free, fun b o e hx => ?_, I.base.tups, I.base.frzs, I.base.tbls⟩, ⟨m, hn.sameBut hs (Ne.symm (cne x c hc)), fun j y v' e1 e2 e3 => ?_⟩, fun y c' e => ?_, I.free, I.freeC, fun p hp => ?_, tracked ⟨oc, hoc, I.freeC x c hc⟩ hs, by simpa using I.len⟩ ⟨c, hs, .inr hc⟩
    · exact (hs.2 b (Nat.ne_of_lt (Nat.lt_of_lt_of_le (Heap.lt_size e) (I.ok.cab x c hfn hc)))).trans (I.base.keep b o e n hb hx)
    · obtain ⟨sl, e1⟩ := I.base.slot b o e n hb hx
      exact ⟨sl, (hs.2 b (Nat.ne_of_lt (Nat.lt_of_lt_of_le (Heap.lt_size e) (I.ok.cab x c hfn hc)))).trans e1⟩
    · obtain ⟨o', e1⟩ := I.base.there b o e hx
      exact ⟨o', (hs.2 b (Nat.ne_of_lt (Nat.lt_of_lt_of_le (Heap.lt_size e) (I.ok.cab x c hfn hc)))).trans e1⟩
    · by_cases hj : j = i
      · subst hj
        rw [hi] at e1; cases e1
        rw [List.getElem?_set_self hiσ] at e2
        cases e2
        exact ⟨u, r, .inr ⟨.inl hk, c, hc, hc'⟩⟩
      · rw [List.getElem?_set_ne (Ne.symm hj)] at e2
        obtain ⟨u', r', q⟩ := hl j y v' e1 e2 e3
        refine ⟨u', r', ?_⟩
        rcases q with q | ⟨k, c', e, z'⟩
        · exact .inl q
        · refine .inr ⟨k, c', e, z'.sameBut hs ?_⟩
          rintro rfl
          exact hj (nodup_ix hN e1 (I.ok.inj _ _ _ e hc ▸ hi))
    · by_cases hcc : c' = c
      · subst hcc; exact ⟨_, hc'⟩
      · obtain ⟨w2, z2⟩ := I.cell y c' e
        exact ⟨w2, z2.sameBut hs hcc⟩
    · obtain ⟨e, n, ne, nf, d⟩ := I.pin p hp
      refine ⟨(hs.2 p.1 ?_).trans e, n, ne, nf, d⟩
      intro q
      rw [q, hoc] at e
      have q' : oc = p.2 := Option.some.inj e
      exact d w' (by rw [← q']; exact hocd)
theorem store_ok {M : Model} {A : Around} {E : Value → Shared → Prop} {i : Nat} {x : Str} {v : V} {u : Value} {Q : Unit → Shared → Prop} (I : Inv X pins σ H s) (hN : X.N.Nodup) (hi : X.N[i]? = some x) (hx : Loc X.env.scope x) (r : RelV v u)
    (h : ∀ s', Inv X pins (σ.set i (some v)) H s' → Q () s') (hf : X.fn x = true ∨ X.env.scope.names.lookup x = some .local := by first | exact .inl rfl | exact .inr rfl | assumption) : wpAny M A (storeName X.env x u) Q E s :=
  store_ok2 I hN hi hx r (fun s' I' _ => h s' I') hf
/-- behind a call or a block, the state as it is -/
theorem Inv.call' {s' : Shared} {ch : List Addr} (I : Inv X pins σ H s) (ho : s'.os = s.os) (u : Un (frs X.stack) ch H H' s.heap s'.heap) (hok : HOk X.prog X.w H' s'.heap) (hg : AllBare s'.gens)
    (hch : ∀ b ∈ ch, (b ∈ X.ex ∨ X.s_0.heap.objs.size ≤ b) ∧ b ≠ X.env.locals ∧ (∀ x c, X.env.cells.lookup x = some c → c ≠ b) ∧ ∀ p ∈ X.pn ++ pins, p.1 ≠ b) : Inv X pins σ H' s' := by
  obtain ⟨h', g', d', t', o'⟩ := s'
  have e : o' = s.os := ho
  subst e
  exact I.call (g' := g') (t' := t') (d' := d') u hok hg hch
end

/-! ### the judgements -/
/-- an exception: its class, its own dict's address (where it has one), the abstract heap behind it -/
abbrev XK := Value → Option Addr → Hp → Prop
abbrev St := List (Option V)
abbrev VK := V → Hp → Prop
/-- an expression's reading; a test's; an argument list's -/
abbrev TE := St → Hp → VK → Prop
abbrev TT := St → Hp → (Bool → Hp → Prop) → Prop
abbrev TA := St → Hp → (List V → Hp → Prop) → Prop
/-- what is wanted behind a statement -/
structure Ends where
  nx : St → Hp → Prop
  rt : VK
  bk : St → Hp → Prop := fun _ _ => False
  ct : St → Hp → Prop := fun _ _ => False
abbrev TS := Ends → St → Hp → Prop

def EP (X : Cx) (pins : List (Addr × Obj)) (σ : St) (Q : VK) (u : Value) (s' : Shared) : Prop := ∃ v H', Inv X pins σ H' s' ∧ RelV v u ∧ Q v H'
def TP (X : Cx) (pins : List (Addr × Obj)) (σ : St) (Q : Bool → Hp → Prop) (b : Bool) (s' : Shared) : Prop := ∃ H', Inv X pins σ H' s' ∧ Q b H'
def AP (X : Cx) (pins : List (Addr × Obj)) (σ : St) (Q : List V → Hp → Prop) (us : List Value) (s' : Shared) : Prop := ∃ vs H', Inv X pins σ H' s' ∧ Vals vs us ∧ Q vs H'
def SP (X : Cx) (pins : List (Addr × Obj)) (D : Ends) (f : Flow) (s' : Shared) : Prop :=
  match f with
  | .next => ∃ σ' H', Inv X pins σ' H' s' ∧ D.nx σ' H'
  | .brk => ∃ σ' H', Inv X pins σ' H' s' ∧ D.bk σ' H'
  | .cont => ∃ σ' H', Inv X pins σ' H' s' ∧ D.ct σ' H'
  | .ret u => ∃ v σ' H', Inv X pins σ' H' s' ∧ RelV v u ∧ D.rt v H'

def PE (X : Cx) (e : Expr) (t : TE) : Prop :=
  ∀ (pins : List (Addr × Obj)) (s : Shared) (σ : St) (H : Hp) (Q : VK), Inv X pins σ H s → t σ H Q → wpAny (model X.prog X.w) X.A (eval e X.env) (EP X pins σ Q) X.xe s
def PT (X : Cx) (e : Expr) (t : TT) : Prop :=
  ∀ (pins : List (Addr × Obj)) (s : Shared) (σ : St) (H : Hp) (Q : Bool → Hp → Prop), Inv X pins σ H s → t σ H Q → wpAny (model X.prog X.w) X.A (isTrue e X.env (eval e X.env)) (TP X pins σ Q) X.xe s
/-- a test whatever its 'whole' is (and, or) -/
def PW (X : Cx) (e : Expr) (t : TT) : Prop :=
  ∀ (whole : Sem Value) (pins : List (Addr × Obj)) (s : Shared) (σ : St) (H : Hp) (Q : Bool → Hp → Prop), Inv X pins σ H s → t σ H Q → wpAny (model X.prog X.w) X.A (isTrue e X.env whole) (TP X pins σ Q) X.xe s
theorem PW.pt {X : Cx} {e : Expr} {t : TT} (h : PW X e t) : PT X e t := h _
/-- an argument list (no star), from the left -/
def PA (X : Cx) (es : List Expr) (t : TA) : Prop :=
  ∀ (pos : Pos) (pins : List (Addr × Obj)) (s : Shared) (σ : St) (H : Hp) (Q : List V → Hp → Prop), Inv X pins σ H s → t σ H Q → wpAny (model X.prog X.w) X.A (spliced (backTo pos (starEach es X.env))) (AP X pins σ Q) X.xe s
def PS (X : Cx) (st : Stmt) (t : TS) : Prop :=
  ∀ (pins : List (Addr × Obj)) (s : Shared) (σ : St) (H : Hp) (D : Ends), Inv X pins σ H s → t D σ H → wpAny (model X.prog X.w) X.A (exec st X.env) (SP X pins D) X.xe s
def PSs (X : Cx) (st : List Stmt) (t : TS) : Prop :=
  ∀ (pins : List (Addr × Obj)) (s : Shared) (σ : St) (H : Hp) (D : Ends), Inv X pins σ H s → t D σ H → wpAny (model X.prog X.w) X.A (execs st X.env) (SP X pins D) X.xe s
/-- weaken the end -/
theorem thn {α : Type} {t : Sem α} {Q Q' : α → Shared → Prop} {M : Model} {A : Around} {E : Value → Shared → Prop} {s : Shared} (h : wpAny M A t Q E s) (hQ : ∀ a s, Q a s → Q' a s) : wpAny M A t Q' E s := wpAny_mono h hQ fun _ _ x => x
end L2

namespace L2
open PySem PySem.Spec PyProof.Rows
section
variable {X : Cx}

/-- two expressions in a row -/
theorem bin {a b : Expr} {ta tb : TE} (ha : PE X a ta) (hb : PE X b tb) {pins : List (Addr × Obj)} {s : Shared} {σ : St} {H : Hp} {R : V → V → Hp → Prop} (I : Inv X pins σ H s) (h : ta σ H fun x H1 => tb σ H1 fun y H2 => R x y H2)
    {α : Type} {Q : α → Shared → Prop} {f : Value → Value → Sem α}
    (hf : ∀ v u s2 x y H2, Inv X pins σ H2 s2 → RelV x v → RelV y u → R x y H2 → wpAny (model X.prog X.w) X.A (f v u) Q X.xe s2) :
    wpAny (model X.prog X.w) X.A (eval a X.env) (fun v s₁ => wpAny (model X.prog X.w) X.A (eval b X.env) (fun u s₂ => wpAny (model X.prog X.w) X.A (f v u) Q X.xe s₂) X.xe s₁) X.xe s := by
  refine thn (ha pins s σ H _ I h) fun v s1 ⟨x, H1, I1, r1, q1⟩ => ?_
  refine thn (hb pins s1 σ H1 _ I1 q1) fun u s2 ⟨y, H2, I2, r2, q2⟩ => ?_
  exact hf v u s2 x y H2 I2 r1 r2 q2

/-! ### names and constants -/
def tVar (i : Nat) : TE := fun σ H Q => ∃ v, σ[i]? = some (some v) ∧ Q v H
def tC (v : V) : TE := fun _ H Q => Q v H
theorem pe_var {i : Nat} {x : Str} {pos : Pos} (hN : X.N[i]? = some x) (hv : Vis X.env.scope x) (hd : (x == ("__debug__" : Str)) = false := by decide) (hcd : (x == ("__classdict__" : Str)) = false := by decide) : PE X (.Name x pos) (tVar i) := by
  intro pins s σ H Q I h
  obtain ⟨v, e, h⟩ := h
  obtain ⟨m, hn, hl⟩ := I.loc
  obtain ⟨u, r, l⟩ := hl i x v hN e hv
  have fin : EP X pins σ Q u s := ⟨v, H, I, r, h⟩
  rcases l with ⟨hk, hm⟩ | ⟨hk, c, hc, hcell⟩
  · exact wpAny_Name (wpAny_loadName_local I.ok.kind hk hn hm fin) hd
  · rcases hk with hk | hk
    · exact wpAny_Name (wpAny_loadName_cell I.ok.kind hk hc hcell fin) hd
    · exact wpAny_Name (wpAny_loadName_free I.ok.kind hk hc hcell fin hcd) hd
theorem pe_int {i j pos} : PE X (.Constant (.int i) j pos) (tC (.int i)) := fun _ _ _ H _ I h => wpAny_Constant_int ⟨.int i, H, I.tok _, ⟨_, rfl⟩, h⟩
theorem pe_bl {b j pos} : PE X (.Constant (.bool b) j pos) (tC (.bl b)) := fun _ _ _ H _ I h => Constant_bool ⟨.bl b, H, I, rfl, h⟩
theorem pe_non {j pos} : PE X (.Constant .none j pos) (tC .non) := fun _ _ _ H _ I h => Constant_none ⟨.non, H, I, rfl, h⟩
theorem pe_str {x j pos} : PE X (.Constant (.str x) j pos) (tC (.str x)) := fun _ _ _ H _ I h => Calls.Constant_str ⟨.str x, H, I.tok _, ⟨_, rfl⟩, h⟩

/-- a global name of the def -/
def Gl (X : Cx) (x : Str) : Prop := X.env.kindOf x = some .globalImplicit
theorem ld_glob {E : Value → Shared → Prop} {pins : List (Addr × Obj)} {s : Shared} {σ : St} {H : Hp} {x : Str} {u : Value} {pos : Pos} {Q : Value → Shared → Prop} (I : Inv X pins σ H s) (hg : Gl X x) (hm : X.mg x = some u) (h : Q u s)
    (hd : (x == ("__debug__" : Str)) = false := by decide) : wpAny (model X.prog X.w) X.A (eval (.Name x pos) X.env) Q E s :=
  Calls.Name_function_global I.ok.kind hg (Calls.loadGlobal_global (by rw [I.ok.glob]; exact I.mod.glob.keeps I.bk) hm h) hd
theorem ld_blt {E : Value → Shared → Prop} {pins : List (Addr × Obj)} {s : Shared} {σ : St} {H : Hp} {x : Str} {u : Value} {pos : Pos} {Q : Value → Shared → Prop} (I : Inv X pins σ H s) (hg : Gl X x) (hm : X.mg x = none) (hv : bootBuiltins x = some u) (h : Q u s)
    (hn : x ≠ "__name__" := by decide) (hd : (x == ("__debug__" : Str)) = false := by decide) : wpAny (model X.prog X.w) X.A (eval (.Name x pos) X.env) Q E s := by
  obtain ⟨mb, h1, h2⟩ := I.mod.blt
  exact Calls.Name_function_global I.ok.kind hg (Calls.loadGlobal_builtin (by rw [I.ok.glob]; exact I.mod.glob.keeps I.bk) hm (by rw [I.ok.blt]; exact h1.keeps I.bk) ((h2 x hn).trans hv) h) hd
/-- a module's constant, a class, a function, as a value -/
theorem pe_glob {x : Str} {v : V} {u : Value} {pos : Pos} (hg : Gl X x) (hm : X.mg x = some u) (r : RelV v u) (hd : (x == ("__debug__" : Str)) = false := by decide) : PE X (.Name x pos) (tC v) :=
  fun _ _ _ H _ I h => ld_glob I hg hm ⟨v, H, I, r, h⟩ hd

/-! ### arithmetic -/
variable {a b : Expr} {ta tb : TE} {pos : Pos}

/-! ### comparisons -/
def PC (X : Cx) (op : CmpOp) (a b : Expr) (t : TE) : Prop :=
  ∀ (pins : List (Addr × Obj)) (s : Shared) (σ : St) (H : Hp) (Q : VK), Inv X pins σ H s → t σ H Q →
    wpAny (model X.prog X.w) X.A (eval a X.env) (fun v s₁ => wpAny (model X.prog X.w) X.A (eval b X.env) (fun u s₂ => wpAny (model X.prog X.w) X.A (compareOp op v u) (EP X pins σ Q) X.xe s₂) X.xe s₁) X.xe s
/-- a comparison as a value, as a test -/
def tB (t : TE) : TT := fun σ H Q => t σ H fun x H1 => ∃ c, x = .bl c ∧ Q c H1
theorem pt_cmp {op : CmpOp} {t : TE} (h : PC X op a b t) (h1 : behindInMarks op b = false := by first | exact nobehind _ (by decide) (by decide) | rfl) : PT X (.Compare a [op] [b] pos) (tB t) := by
  intro pins s σ H Q I hw
  refine wpAny_isTrue_Compare1 (thn (h pins s σ H _ I hw) fun v s1 h1 => thn h1 fun u s2 h2 => thn h2 fun c s3 ⟨x, H1, I1, r1, q1⟩ => ?_) h1
  obtain ⟨d, rfl, q⟩ := q1
  cases r1
  exact wpAny_truthy_bool ⟨H1, I1, q⟩
/-- an expression whose value is a bool, as a test -/
theorem pt_val {e : Expr} {t : TE} (h : PE X e t) (he : ∀ whole, isTrue e X.env whole = (do let v ← whole; standAt e.pos; holding [v] (truthy v)) := by intro _; rfl) : PT X e (tB t) := by
  intro pins s σ H Q I hw
  refine isTrue_plain (thn (h pins s σ H _ I hw) fun v s1 ⟨x, H1, I1, r1, q1⟩ => ?_) (he _)
  obtain ⟨d, rfl, q⟩ := q1
  cases r1
  exact wpAny_truthy_bool ⟨H1, I1, q⟩

/-! ### and, or, not -/
variable {tA tB' : TT} {rest : List Expr}
def tAnd (t u : TT) : TT := fun σ H Q => t σ H fun c H1 => if c = true then u σ H1 Q else Q false H1
def tOr (t u : TT) : TT := fun σ H Q => t σ H fun c H1 => if c = true then Q true H1 else u σ H1 Q
def tNot (t : TT) : TT := fun σ H Q => t σ H fun c H1 => Q (!c) H1
theorem pw_and1 (ha : PT X a tA) : PW X (.BoolOp .And [a] pos) tA := by
  intro wh pins s σ H Q I h
  refine isTrue_and (thn (ha pins s σ H Q I h) fun c s1 e => ?_)
  cases c with
  | true => exact isTrue_and_nil e
  | false => exact e
theorem pw_or1 (ha : PT X a tA) : PW X (.BoolOp .Or [a] pos) tA := by
  intro wh pins s σ H Q I h
  refine isTrue_or (thn (ha pins s σ H Q I h) fun c s1 e => ?_)
  cases c with
  | false => exact isTrue_or_nil e
  | true => exact e
theorem pw_and (ha : PT X a tA) (hb : PW X (.BoolOp .And (b :: rest) pos) tB') : PW X (.BoolOp .And (a :: b :: rest) pos) (tAnd tA tB') := by
  intro wh pins s σ H Q I h
  refine isTrue_and (thn (ha pins s σ H _ I h) fun c s1 ⟨H1, I1, q1⟩ => ?_)
  cases c with
  | true => exact hb wh pins s1 σ H1 Q I1 q1
  | false => exact ⟨H1, I1, q1⟩
theorem pw_or (ha : PT X a tA) (hb : PW X (.BoolOp .Or (b :: rest) pos) tB') : PW X (.BoolOp .Or (a :: b :: rest) pos) (tOr tA tB') := by
  intro wh pins s σ H Q I h
  refine isTrue_or (thn (ha pins s σ H _ I h) fun c s1 ⟨H1, I1, q1⟩ => ?_)
  cases c with
  | true => exact ⟨H1, I1, q1⟩
  | false => exact hb wh pins s1 σ H1 Q I1 q1
theorem pt_not (ha : PT X a tA) : PT X (.UnaryOp .Not a pos) (tNot tA) := by
  intro pins s σ H Q I h
  exact isTrue_not (ha pins s σ H (fun c H1 => Q (!c) H1) I h)
/-- .. as values (bools) -/
def tAndV (ta tb : TE) : TE := fun σ H Q => ta σ H fun x H1 => ∃ c, x = .bl c ∧ if c = true then tb σ H1 Q else Q (.bl false) H1
def tOrV (ta tb : TE) : TE := fun σ H Q => ta σ H fun x H1 => ∃ c, x = .bl c ∧ if c = true then Q (.bl true) H1 else tb σ H1 Q
theorem pe_one {op} {t : TE} (h : PE X a t) : PE X (.BoolOp op [a] pos) t := fun pins s σ H Q I hw => BoolOp_one (h pins s σ H Q I hw)
theorem pe_and (ha : PE X a ta) (hb : PE X (.BoolOp .And (b :: rest) pos) tb) : PE X (.BoolOp .And (a :: b :: rest) pos) (tAndV ta tb) := by
  intro pins s σ H Q I h
  refine BoolOp_and (thn (ha pins s σ H _ I h) fun v s1 ⟨x, H1, I1, r1, q1⟩ => ?_)
  obtain ⟨c, rfl, q1⟩ := q1
  cases r1
  refine wpAny_truthy_bool ?_
  cases c with
  | true => exact hb pins s1 σ H1 Q I1 q1
  | false => exact ⟨.bl false, H1, I1, rfl, q1⟩
theorem pe_or (ha : PE X a ta) (hb : PE X (.BoolOp .Or (b :: rest) pos) tb) : PE X (.BoolOp .Or (a :: b :: rest) pos) (tOrV ta tb) := by
  intro pins s σ H Q I h
  refine BoolOp_or (thn (ha pins s σ H _ I h) fun v s1 ⟨x, H1, I1, r1, q1⟩ => ?_)
  obtain ⟨c, rfl, q1⟩ := q1
  cases r1
  refine wpAny_truthy_bool ?_
  cases c with
  | false => exact hb pins s1 σ H1 Q I1 q1
  | true => exact ⟨.bl true, H1, I1, rfl, q1⟩
/-- a if t else b -/
def tIf (t : TT) (ta tb : TE) : TE := fun σ H Q => t σ H fun c H1 => if c = true then ta σ H1 Q else tb σ H1 Q
theorem pe_ifExp {c : Expr} (hc : PT X c tA) (ha : PE X a ta) (hb : PE X b tb) : PE X (.IfExp c a b pos) (tIf tA ta tb) := by
  intro pins s σ H Q I h
  refine wpAny_IfExp (thn (hc pins s σ H _ I h) fun d s1 ⟨H1, I1, q1⟩ => ?_)
  cases d with
  | true => exact ha pins s1 σ H1 Q I1 q1
  | false => exact hb pins s1 σ H1 Q I1 q1
end
end L2

namespace L2
open PySem PySem.Spec PyProof.Rows

/-! ### a list, a tuple that is read: tracked, frozen, or an object of the module -/
def SqL (K : PySem.W.Frag) (H : Hp) (a : Addr) (xs : List V) : Prop :=
  Rd H a (.lst xs) ∨
    ∃ (o : Obj) (its : Array Value) (n : Nat), K.lookup a = some o ∧ o.cls = .type "list" ∧ o.dict = none ∧ o.data = .seq its n ∧ its.size ≤ sizeLine ∧ Vals xs its.toList
def SqT (K : PySem.W.Frag) (H : Hp) (a : Addr) (xs : List V) : Prop :=
  Rd H a (.tup xs) ∨
    ∃ (o : Obj) (its : Array Value) (n : Nat), K.lookup a = some o ∧ o.cls = .type "tuple" ∧ o.data = .seq its n ∧ its.size ≤ sizeLine ∧ Vals xs its.toList
def absV : Value → Option V
  | .none => some .non
  | .bool b => some (.bl b)
  | .int i _ => some (.int i)
  | .str x _ => some (.str x)
  | .bytes b _ => some (.byt b)
  | .float b _ => some (.flt b)
  | .ref a => some (.ref a)
  | .type n => some (.ty n)
  | _ => none
theorem RelV.abs {x : V} {u : Value} (r : RelV x u) : absV u = some x := by
  cases x with
  | non => cases r; rfl
  | bl _ => cases r; rfl
  | int _ => obtain ⟨t, rfl⟩ := r; rfl
  | str _ => obtain ⟨t, rfl⟩ := r; rfl
  | byt _ => obtain ⟨t, rfl⟩ := r; rfl
  | flt _ => obtain ⟨t, rfl⟩ := r; rfl
  | ref _ => cases r; rfl
  | ty _ => cases r; rfl
theorem RelV.inj {x y : V} {u : Value} (r : RelV x u) (q : RelV y u) : x = y := Option.some.inj (r.abs.symm.trans q.abs)
theorem Vals.inj : ∀ {xs ys : List V} {us : List Value}, Vals xs us → Vals ys us → xs = ys
  | _, _, _, .nil, .nil => rfl
  | _, _, _, .cons r t, .cons r' t' => by rw [r.inj r', Vals.inj t t']
section
variable {X : Cx} {pins : List (Addr × Obj)} {σ : St} {H : Hp} {s : Shared} {a : Addr} {xs ys : List V}
theorem SqL.of {K : PySem.W.Frag} (h : H a = some (.lst xs)) : SqL K H a xs := .inl (.inl h)
theorem SqT.of {K : PySem.W.Frag} (h : H a = some (.tup xs)) : SqT K H a xs := .inl (.inl h)
theorem Inv.list (I : Inv X pins σ H s) (h : SqL X.K H a xs) : ∃ its : List Value, Vals xs its ∧ PlainL s.heap a its.toArray ∧ xs.length ≤ sizeLine := by
  rcases h with h | ⟨o, its, n, hk, hc, hd, hs, hz, r⟩
  · obtain ⟨z, its, n, r, e⟩ := h.ok I.hok
    exact ⟨its, r, ⟨_, n, e, rfl, rfl, rfl⟩, z⟩
  · refine ⟨its.toList, r, ⟨o, n, I.kIn a o hk, hc, hd, by simpa using hs⟩, ?_⟩
    have e := r.length
    simp only [Array.length_toList] at e
    omega
theorem Inv.tuple (I : Inv X pins σ H s) (h : SqT X.K H a xs) : ∃ its : List Value, Vals xs its ∧ IsTup s.heap a its.toArray ∧ xs.length ≤ sizeLine := by
  rcases h with h | ⟨o, its, n, hk, hc, hs, hz, r⟩
  · obtain ⟨z, its, r, p⟩ := h.ok I.hok
    exact ⟨its, r, p, z⟩
  · refine ⟨its.toList, r, ⟨o, I.kIn a o hk, hc, n, by simpa using hs⟩, ?_⟩
    have e := r.length
    simp only [Array.length_toList] at e
    omega
theorem Inv.list_inj (I : Inv X pins σ H s) (h : SqL X.K H a xs) (h' : SqL X.K H a ys) : xs = ys := by
  obtain ⟨its, r, ⟨o, n, e, _, _, d⟩, _⟩ := I.list h
  obtain ⟨its', r', ⟨o', n', e', _, _, d'⟩, _⟩ := I.list h'
  rw [e] at e'; cases e'
  rw [d] at d'
  injection d' with d1 _
  have : its = its' := by simpa using congrArg Array.toList d1
  subst this
  exact r.inj r'
end

/-! ### another wish about exceptions -/
abbrev Cx.wish (X : Cx) (E : Value → Shared → Prop) : Cx := { X with xe := E }
/-- no exception leaves -/
abbrev Cx.nox (X : Cx) : Cx := X.wish fun _ _ => False
theorem Cx.Ok.wish {X : Cx} (ok : X.Ok) (E : Value → Shared → Prop) : (X.wish E).Ok :=
  ⟨ok.mod, ok.kind, ok.glob, ok.blt, ok.above, ok.inj, ok.has, ok.cab, ok.hd, ok.frames, ok.stk, ok.exf, ok.bs, ok.bsz, ok.noex, ok.exfs, ok.funs, ok.frf⟩
theorem Cx.Ok.unwish {X : Cx} {E : Value → Shared → Prop} (ok : (X.wish E).Ok) : X.Ok :=
  ⟨ok.mod, ok.kind, ok.glob, ok.blt, ok.above, ok.inj, ok.has, ok.cab, ok.hd, ok.frames, ok.stk, ok.exf, ok.bs, ok.bsz, ok.noex, ok.exfs, ok.funs, ok.frf⟩
section
variable {X : Cx} {pins : List (Addr × Obj)} {σ : St} {H : Hp} {s : Shared} {E : Value → Shared → Prop}
theorem Inv.wish (I : Inv X pins σ H s) (E : Value → Shared → Prop) : Inv (X.wish E) pins σ H s := ⟨I.ok.wish E, I.os, I.bare, I.base, I.loc, I.cell, I.free, I.freeC, I.pin, I.hok, I.len⟩
theorem Inv.unwish (I : Inv (X.wish E) pins σ H s) : Inv X pins σ H s := ⟨I.ok.unwish, I.os, I.bare, I.base, I.loc, I.cell, I.free, I.freeC, I.pin, I.hok, I.len⟩
theorem SP.unwish {D : Ends} {f : Flow} {s' : Shared} (h : SP (X.wish E) pins D f s') : SP X pins D f s' := by
  cases f with
  | next => obtain ⟨σ', H', I, q⟩ := h; exact ⟨σ', H', I.unwish, q⟩
  | brk => obtain ⟨σ', H', I, q⟩ := h; exact ⟨σ', H', I.unwish, q⟩
  | cont => obtain ⟨σ', H', I, q⟩ := h; exact ⟨σ', H', I.unwish, q⟩
  | ret u => obtain ⟨v, σ', H', I, r, q⟩ := h; exact ⟨v, σ', H', I.unwish, r, q⟩
theorem PSs.nox {st : List Stmt} {t : TS} (h : PSs X.nox st t) : PSs X st t := fun pins s σ H D I hw =>
  wpAny_mono (h pins s σ H D (I.wish _) hw) (fun _ _ q => q.unwish) fun _ _ z => False.elim z
end

/-! ### blocks and small statements -/
section
variable {X : Cx} {st : Stmt} {rest : List Stmt} {t u : TS} {e : Expr} {te : TE} {pos : Pos}
def tNext : TS := fun D σ H => D.nx σ H
def tSeq (t u : TS) : TS := fun D σ H => t { D with nx := u D } σ H
theorem pss_nil : PSs X [] tNext := fun _ _ σ H _ I h => wpAny_execs_nil ⟨σ, H, I, h⟩
theorem pss_cons (h1 : PS X st t) (h2 : PSs X rest u) : PSs X (st :: rest) (tSeq t u) := by
  intro pins s σ H D I h
  refine wpAny_execs_cons (thn (h1 pins s σ H { D with nx := u D } I h) fun f s1 q => ?_)
  cases f with
  | next =>
    obtain ⟨σ', H', I', q⟩ := q
    exact h2 pins s1 σ' H' D I' q
  | ret v => exact q
  | brk => exact q
  | cont => exact q
theorem pss_one (h1 : PS X st t) : PSs X [st] t := by
  intro pins s σ H D I h
  refine wpAny_execs_cons (thn (h1 pins s σ H D I h) fun f s1 q => ?_)
  cases f with
  | next => exact wpAny_execs_nil q
  | ret v => exact q
  | brk => exact q
  | cont => exact q
/-- in a def's body nothing is shown -/
theorem Inv.quiet {pins : List (Addr × Obj)} {σ : St} {H : Hp} {s : Shared} (I : Inv X pins σ H s) : interactive X.env = false := by simp [interactive, I.ok.kind]
/-- an expression whose value is dropped -/
def tDrop (te : TE) : TS := fun D σ H => te σ H fun _ H1 => D.nx σ H1
theorem ps_expr (he : PE X e te) (hs : swapsWith e none pos.line X.env = pure false := by rfl) : PS X (.Expr e pos) (tDrop te) := by
  intro pins s σ H D I h
  exact wpAny_Expr_any (thn (he pins s σ H _ I h) fun v s1 ⟨x, H1, I1, r1, q1⟩ => ⟨σ, H1, I1, q1⟩) I.quiet hs
def tRet (te : TE) : TS := fun D σ H => te σ H D.rt
theorem ps_ret (he : PE X e te) : PS X (.Return (some e) pos) (tRet te) := by
  intro pins s σ H D I h
  exact wpAny_Return_some (thn (he pins s σ H _ I h) fun v s1 ⟨x, H1, I1, r1, q1⟩ => ⟨x, σ, H1, I1, r1, q1⟩)
def tRetN : TS := fun D _ H => D.rt .non H
theorem ps_retN : PS X (.Return none pos) tRetN := fun _ _ σ H _ I h => wpAny_Return_none ⟨.non, σ, H, I, rfl, h⟩
def tIfS (c : TT) (t u : TS) : TS := fun D σ H => c σ H fun b H1 => if b = true then t D σ H1 else u D σ H1
theorem ps_if {c : Expr} {a b : List Stmt} {tc : TT} (hc : PT X c tc) (ha : PSs X a t) (hb : PSs X b u) : PS X (.If c a b pos) (tIfS tc t u) := by
  intro pins s σ H D I h
  refine wpAny_If (thn (hc pins s σ H _ I h) fun d s1 ⟨H1, I1, q1⟩ => ?_)
  cases d with
  | true => exact ha pins s1 σ H1 D I1 q1
  | false => exact hb pins s1 σ H1 D I1 q1
end

/-! ### targets -/
abbrev TG := V → St → Hp → (St → Hp → Prop) → Prop
abbrev TGs := List V → St → Hp → (St → Hp → Prop) → Prop
def PG (X : Cx) (target : Expr) (t : TG) : Prop :=
  ∀ (pins : List (Addr × Obj)) (s : Shared) (σ : St) (H : Hp) (v : V) (u : Value) (Q : St → Hp → Prop), Inv X pins σ H s → RelV v u → t v σ H Q →
    wpAny (model X.prog X.w) X.A (assign target X.env u) (fun _ s' => ∃ σ' H', Inv X pins σ' H' s' ∧ Q σ' H') X.xe s
/-- several targets, one after another -/
def PGs (X : Cx) (ts : List Expr) (t : TGs) : Prop :=
  ∀ (pins : List (Addr × Obj)) (s : Shared) (σ : St) (H : Hp) (vs : List V) (us : List Value) (Q : St → Hp → Prop), Inv X pins σ H s → Vals vs us → t vs σ H Q →
    wpAny (model X.prog X.w) X.A (assignInOrder ((assignEach ts X.env).map (·.2)) us) (fun _ s' => ∃ σ' H', Inv X pins σ' H' s' ∧ Q σ' H') X.xe s
/-- o[i] = v, by values -/
abbrev TSet := V → V → V → Hp → (Hp → Prop) → Prop
def PSet (X : Cx) (t : TSet) : Prop :=
  ∀ (pins : List (Addr × Obj)) (s : Shared) (σ : St) (H : Hp) (o i v : V) (ov iv u : Value) (Q : Hp → Prop), Inv X pins σ H s → RelV o ov → RelV i iv → RelV v u → t o i v H Q →
    wpAny (model X.prog X.w) X.A (setItem ov iv u) (fun _ s' => ∃ H', Inv X pins σ H' s' ∧ Q H') X.xe s
/-- a op= b, by values -/
abbrev TIp := V → V → Hp → VK → Prop
def PIp (X : Cx) (op : Operator) (t : TIp) : Prop :=
  ∀ (pins : List (Addr × Obj)) (s : Shared) (σ : St) (H : Hp) (x y : V) (v u : Value) (Q : VK), Inv X pins σ H s → RelV x v → RelV y u → t x y H Q →
    wpAny (model X.prog X.w) X.A (inplaceOp op v u) (EP X pins σ Q) X.xe s
section
variable {X : Cx} {pos : Pos}
def gName (i : Nat) : TG := fun v σ H Q => Q (σ.set i (some v)) H
theorem pg_name {i : Nat} {x : Str} (hN : X.N.Nodup) (hi : X.N[i]? = some x) (hx : Loc X.env.scope x) (hf : X.fn x = true ∨ X.env.scope.names.lookup x = some .local := by first | exact .inl rfl | exact .inr rfl | assumption) : PG X (.Name x pos) (gName i) := by
  intro pins s σ H v u Q I r h
  exact wpAny_assign_Name (store_ok I hN hi hx r (fun s' I' => ⟨_, H, I', h⟩) hf)
def gNil : TGs := fun vs σ H Q => vs = [] ∧ Q σ H
def gCons (t : TG) (u : TGs) : TGs := fun vs σ H Q => ∃ v r, vs = v :: r ∧ t v σ H fun σ' H' => u r σ' H' Q
theorem pgs_nil : PGs X [] gNil := by
  intro pins s σ H vs us Q I r h
  obtain ⟨e, h⟩ := h
  subst e
  cases r
  exact assignInOrder_nil ⟨σ, H, I, h⟩
theorem pgs_cons {e : Expr} {es : List Expr} {t : TG} {u : TGs} (h1 : PG X e t) (h2 : PGs X es u)
    (hs : (assignEach (e :: es) X.env).map (·.2) = assign e X.env :: (assignEach es X.env).map (·.2) := by rfl) : PGs X (e :: es) (gCons t u) := by
  intro pins s σ H vs us Q I r h
  obtain ⟨v, vr, e1, h⟩ := h
  subst e1
  cases r with
  | cons r rr =>
    rw [hs]
    refine assignInOrder_cons (thn (h1 pins s σ H _ _ _ I r h) fun _ s1 ⟨σ1, H1, I1, q1⟩ => ?_)
    exact h2 pins s1 σ1 H1 _ _ Q I1 rr q1
/-- (a, b, ..) = a tuple of that length -/
def gTup (K : PySem.W.Frag) (n : Nat) (t : TGs) : TG := fun v σ H Q => ∃ a xs, v = .ref a ∧ SqT K H a xs ∧ xs.length = n ∧ t xs σ H Q
theorem pg_tup {es : List Expr} {k : Nat} {t : TGs} {n : Nat} (hc : X.calm = true) (h : PGs X es t)
    (hn : (assignEach es X.env).length = n := by rfl) (hst : (assignEach es X.env).findIdx? (·.1) = none := by rfl) : PG X (.Tuple es k pos) (gTup X.K n t) := by
  intro pins s σ H v u Q I r hw
  obtain ⟨a, xs, e1, hq, hl, hw⟩ := hw
  subst e1
  cases r
  obtain ⟨its, rv, ht, hz⟩ := I.tuple hq
  refine assign_Tuple_tuple (I.ok.hd hc) ht (by simp [hn, ← hl, rv.length]) hst fun h' hx => ?_
  have I1 : Inv X pins σ H { s with heap := h' } := I.kept (t' := s.toks) fun b o e => hx b o (Nat.ne_of_lt (Heap.lt_size e)) e
  exact h pins _ σ H xs _ Q I1 (by simpa using rv) hw
/-- o[i] = .. -/
def gSub (to ti : TE) (t : TSet) : TG := fun v σ H Q => to σ H fun o H1 => ti σ H1 fun i H2 => t o i v H2 fun H3 => Q σ H3
theorem pg_sub {o i : Expr} {to ti : TE} {t : TSet} (ho : PE X o to) (hi : PE X i ti) (hs : PSet X t)
    (ha : ∀ v, assign (.Subscript o i pos) X.env v = (do
      let ov ← holding [v] (eval o X.env)
      let iv ← holding [v, ov] (eval i X.env)
      standAt pos
      holding [v, ov, iv] (setItem ov iv v)
      release [v, ov, iv] []) := by intro _; rfl) : PG X (.Subscript o i pos) (gSub to ti t) := by
  intro pins s σ H v u Q I r h
  rw [ha]
  refine wpAny_bind (wpAny_holding (thn (ho pins s σ H _ I h) fun ov s1 ⟨x, H1, I1, r1, q1⟩ => ?_))
  refine wpAny_bind (wpAny_holding (thn (hi pins s1 σ H1 _ I1 q1) fun iv s2 ⟨y, H2, I2, r2, q2⟩ => ?_))
  refine wpAny_bind (wpAny_standAt (wpAny_bind (wpAny_holding (thn (hs pins s2 σ H2 x y v ov iv u _ I2 r1 r2 r q2) fun _ s3 ⟨H3, I3, q3⟩ => ?_))))
  exact wpAny_release ⟨σ, H3, I3, q3⟩
/-- target = value -/
def tAsg (te : TE) (g : TG) : TS := fun D σ H => te σ H fun x H1 => g x σ H1 D.nx
theorem ps_asg {tg e : Expr} {te : TE} {g : TG} (he : PE X e te) (hg : PG X tg g) (hs : swapsWithSole [tg] e pos.line X.env = pure false := by rfl) (hw : swappedStores [tg] e X.env = pure none := by rfl)
    (h1 : (assignEach [tg] X.env).map (·.2) = [assign tg X.env] := by rfl) : PS X (.Assign [tg] e pos) (tAsg te g) := by
  intro pins s σ H D I h
  refine wpAny_Assign_stores (thn (he pins s σ H _ I h) fun v s1 ⟨x, H1, I1, r1, q1⟩ => ?_) hs hw
  rw [h1]
  exact thn (hg pins s1 σ H1 x v _ I1 r1 q1) fun _ s2 q => q
/-- name = value -/
theorem ps_set {i : Nat} {x : Str} {e : Expr} {te : TE} {pos' : Pos} (hN : X.N.Nodup) (hi : X.N[i]? = some x) (hx : Loc X.env.scope x) (he : PE X e te) (hs : swapsWith e (some (.Name x pos')) pos.line X.env = pure false := by rfl) (hf : X.fn x = true ∨ X.env.scope.names.lookup x = some .local := by first | exact .inl rfl | exact .inr rfl | assumption) :
    PS X (.Assign [.Name x pos'] e pos) (tAsg te (gName i)) := by
  intro pins s σ H D I h
  refine wpAny_Assign_Name (thn (he pins s σ H _ I h) fun v s1 ⟨y, H1, I1, r1, q1⟩ => ?_) hs
  exact store_ok I1 hN hi hx r1 (fun s2 I2 => ⟨_, H1, I2, q1⟩) hf
/-- name op= e -/
def tAug (i : Nat) (te : TE) (ti : TIp) : TS := fun D σ H => ∃ x, σ[i]? = some (some x) ∧ te σ H fun y H1 => ti x y H1 fun z H2 => D.nx (σ.set i (some z)) H2
theorem ps_aug {i : Nat} {x : Str} {e : Expr} {te : TE} {op : Operator} {ti : TIp} {pos' : Pos} (hN : X.N.Nodup) (hi : X.N[i]? = some x) (hx : Loc X.env.scope x) (he : PE X e te) (ho : PIp X op ti) (hf : X.fn x = true ∨ X.env.scope.names.lookup x = some .local := by first | exact .inl rfl | exact .inr rfl | assumption) :
    PS X (.AugAssign (.Name x pos') op e pos) (tAug i te ti) := by
  intro pins s σ H D I h
  obtain ⟨v, e1, h⟩ := h
  obtain ⟨m, hn, hl⟩ := I.loc
  have vis : Vis X.env.scope x := by rcases hx with k | k; exact .inl k; exact .inr (.inl k)
  obtain ⟨u, r, l⟩ := hl i x v hi e1 vis
  refine wpAny_AugAssign_Name ?_
  have go : wpAny (model X.prog X.w) X.A (eval e X.env) (fun w s₂ => wpAny (model X.prog X.w) X.A (inplaceOp op u w) (fun r s₃ => wpAny (model X.prog X.w) X.A (storeName X.env x r) (fun _ => SP X pins D .next) X.xe s₃) X.xe s₂) X.xe s := by
    refine thn (he pins s σ H _ I h) fun w s1 ⟨y, H1, I1, r1, q1⟩ => ?_
    refine thn (ho pins s1 σ H1 v y u w _ I1 r r1 q1) fun z s2 ⟨zv, H2, I2, r2, q2⟩ => ?_
    exact store_ok I2 hN hi hx r2 (fun s3 I3 => ⟨_, H2, I3, q2⟩) hf
  rcases l with ⟨hk, hm⟩ | ⟨hk, c, hc, hcell⟩
  · exact wpAny_loadName_local I.ok.kind hk hn hm go
  · rcases hk with hk | hk
    · exact wpAny_loadName_cell I.ok.kind hk hc hcell go
    · rcases hx with k | k
      · have : X.env.scope.names.lookup x = some .free := hk
        rw [k] at this; cases this
      · have : X.env.scope.names.lookup x = some .free := hk
        rw [k] at this; cases this
/-- ints -/
def ipI (f : Int → Int → Int) : TIp := fun x y H Q => ∃ i j, x = .int i ∧ y = .int j ∧ Q (.int (f i j)) H
theorem ip_add : PIp X .Add (ipI fun i j => i + j) := by
  intro pins s σ H x y v u Q I r1 r2 h
  obtain ⟨i, j, e1, e2, q⟩ := h
  subst e1; subst e2
  obtain ⟨t, rfl⟩ := r1
  obtain ⟨t', rfl⟩ := r2
  exact iadd_int ⟨.int _, H, I.tok _, ⟨_, rfl⟩, q⟩
end

/-! ### while -/
section
variable {X : Cx} {pos : Pos}
/-- the invariant W with its measure -/
def tWhile (c : TT) (tb : TS) : TS := fun D σ H => ∃ W : Nat → St → Hp → Prop, (∃ m, W m σ H) ∧ ∀ m σ H, W m σ H →
  c σ H fun b H1 => if b = true then ∃ N : St → Hp → Prop, (∀ σ' H', N σ' H' → ∃ m', m' < m ∧ W m' σ' H') ∧ tb { D with nx := N, ct := N, bk := D.nx } σ H1 else D.nx σ H1
theorem ps_while {c : Expr} {body : List Stmt} {tc : TT} {tb : TS} (hp : PassesOwn (model X.prog X.w) X.A X.env X.xe) (hc : PT X c tc) (hb : PSs X body tb) : PS X (.While c body [] pos) (tWhile tc tb) := by
  intro pins s σ H D I h
  obtain ⟨W, ⟨m0, w0⟩, turn⟩ := h
  refine wpAny_While (codeAny_whileLoop (fun n s' => ∃ σ' H', Inv X pins σ' H' s' ∧ W n σ' H') ?_ m0 ⟨σ, H, I, w0⟩)
  rintro n s1 ⟨σ1, H1, I1, w1⟩
  refine wpAny_passesOwn hp (thn (hc pins s1 σ1 H1 _ I1 (turn n σ1 H1 w1)) fun b s2 ⟨H2, I2, q2⟩ => ?_)
  cases b with
  | true =>
    obtain ⟨N, hN, q2⟩ := q2
    rw [if_pos rfl]
    refine wpAny_passesOwn hp (thn (hb pins s2 σ1 H2 _ I2 q2) fun f s3 q3 => ?_)
    cases f with
    | next =>
      obtain ⟨σ3, H3, I3, n3⟩ := q3
      obtain ⟨m', hm, w3⟩ := hN σ3 H3 n3
      exact ⟨m', hm, σ3, H3, I3, w3⟩
    | cont =>
      obtain ⟨σ3, H3, I3, n3⟩ := q3
      obtain ⟨m', hm, w3⟩ := hN σ3 H3 n3
      exact ⟨m', hm, σ3, H3, I3, w3⟩
    | brk => exact q3
    | ret v => exact q3
  | false =>
    rw [if_neg Bool.false_ne_true]
    exact wpAny_execs_nil ⟨σ1, H2, I2, q2⟩
end

/-! ### what a loop or a comprehension walks -/
/-- at turn i: it yields x (the heap may grow), or it stops -/
structure It where
  go : Nat → Hp → Prop
  yld : Nat → Hp → V → Hp → Prop
  stop : Nat → Hp → Prop
/-- the iterator's own objects may turn: they are not the frame's, not pinned, younger than the entry (or a comprehension's own) -/
def FpOk (X : Cx) (pins : List (Addr × Obj)) (H : Hp) (b : Addr) : Prop :=
  H b = none ∧ b ≠ X.env.locals ∧ b ∉ X.fs ∧ (b ∈ X.ex ∨ X.s_0.heap.objs.size ≤ b) ∧ (∀ x c, X.env.cells.lookup x = some c → c ≠ b) ∧ ∀ p ∈ X.pn ++ pins, p.1 ≠ b
theorem Inv.fpOk {X : Cx} {pins : List (Addr × Obj)} {σ : St} {H H' : Hp} {s : Shared} {b : Addr} (I : Inv X pins σ H s) (hb : s.heap.objs.size ≤ b) (hn : H' b = none) : FpOk X pins H' b := by
  refine ⟨hn, Nat.ne_of_gt (Nat.lt_of_lt_of_le I.lt hb), I.nofs hb, .inr (Nat.le_trans I.sz hb), fun x c e z => ?_, fun p hp z => ?_⟩
  · obtain ⟨v, q⟩ := I.cell x c e
    exact absurd (Nat.lt_of_lt_of_le q.lt (by rw [z]; exact hb)) (Nat.lt_irrefl _)
  · exact absurd (Nat.lt_of_lt_of_le (Heap.lt_size (I.pin p hp).1) (by rw [z]; exact hb)) (Nat.lt_irrefl _)
structure Turn (P : Program) (w : World) (K : PySem.W.Frag) (tg : Expr) (J : It) (fp : List Addr) (it : Addr) (tn : Nat → Heap → Prop) : Prop where
  mem : it ∈ fp
  obj : ∀ i h, tn i h → ∀ b ∈ fp, ∃ o, h.get? b = some o ∧ ∀ v, o.data ≠ .cell v
  keep : ∀ i h h', tn i h → (∀ b ∈ fp, ∀ o, h.get? b = some o → h'.get? b = some o) → tn i h'
  item : ∀ (X : Cx), X.prog = P → X.w = w → X.K = K → X.calm = true → ∀ (i : Nat) (pins : List (Addr × Obj)) (s : Shared) (σ : St) (H : Hp) (E : Value → Shared → Prop), Inv X pins σ H s → (∀ b ∈ fp, FpOk X pins H b) → tn i s.heap → J.go i H →
    wpAny (model P w) X.A (pyNext (.ref it)) (fun r s1 => ∃ u, r = some u ∧
      wpAny (model P w) X.A (letOwnedTupleGo tg (.ref it) u) (fun _ s2 => ∃ x H', Inv X pins σ H' s2 ∧ RelV x u ∧ J.yld i H x H' ∧ tn (i + 1) s2.heap ∧ ∀ b ∈ fp, H' b = none) E s1) E s
  done : ∀ (X : Cx), X.prog = P → X.w = w → X.K = K → X.calm = true → ∀ (i : Nat) (pins : List (Addr × Obj)) (s : Shared) (σ : St) (H : Hp) (E : Value → Shared → Prop), Inv X pins σ H s → (∀ b ∈ fp, FpOk X pins H b) → tn i s.heap → J.stop i H →
    wpAny (model P w) X.A (pyNext (.ref it)) (fun r s1 => r = none ∧ Inv X pins σ H s1) E s
  self : ∀ (A : Around) (i : Nat) (s : Shared) (Q : Value → Shared → Prop) (E : Value → Shared → Prop), tn i s.heap → Q (.ref it) s → wpAny (model P w) A (pyIter (.ref it)) Q E s
abbrev TI := St → Hp → (It → Hp → Prop) → Prop
/-- an iterator has come -/
def PIE (X : Cx) (pins : List (Addr × Obj)) (σ : St) (tg : Expr) (R : It → Hp → Prop) (itv : Value) (s2 : Shared) : Prop :=
  ∃ (it : Addr) (fp : List Addr) (tn : Nat → Heap → Prop) (J : It) (H' : Hp), itv = .ref it ∧ Inv X pins σ H' s2 ∧ Turn X.prog X.w X.K tg J fp it tn ∧ tn 0 s2.heap ∧ (∀ b ∈ fp, FpOk X pins H' b) ∧ R J H'
def PI (X : Cx) (tg iter : Expr) (wi : TI) : Prop :=
  ∀ (pins : List (Addr × Obj)) (s : Shared) (σ : St) (H : Hp) (R : It → Hp → Prop), Inv X pins σ H s → wi σ H R →
    wpAny (model X.prog X.w) X.A (eval iter X.env) (fun v s1 => wpAny (model X.prog X.w) X.A (pyIter v) (PIE X pins σ tg R) X.xe s1) X.xe s

/-- the step ahead of the store is nothing for an iterator that keeps no tuple -/
theorem go_of {M : Model} {A : Around} {E : Value → Shared → Prop} {s : Shared} {tg : Expr} {it : Addr} {u : Value} {o : Obj} {n : String} {vs : Array Value} {Q : Unit → Shared → Prop} (ho : s.heap.get? it = some o) (hc : o.cls = .type n) (hd : o.data = .fields vs)
    (hn : ["enumerate", "zip", "dict_itemiterator", "dict_reverseitemiterator", "odict_iterator", "itertools.zip_longest", "itertools.pairwise"].contains n = false) (hQ : Q () s) : wpAny M A (letOwnedTupleGo tg (.ref it) u) Q E s := by
  unfold letOwnedTupleGo
  cases tg <;> first
    | exact wpAny_pure hQ
    | (cases u <;> first
        | exact wpAny_pure hQ
        | (refine wpAny_bind (wpAny_load ho ?_)
           rw [hc, hd]
           show wpAny M A (if (["enumerate", "zip", "dict_itemiterator", "dict_reverseitemiterator", "odict_iterator", "itertools.zip_longest", "itertools.pairwise"].contains n && vs[0]? == some (rawInt _)) = true then _ else _) Q E s
           rw [if_neg (by intro h; rw [hn, Bool.false_and] at h; cases h)]
           exact wpAny_pure hQ))

/-- the list at a, as it stands at each turn (a loop may append to it) -/
def Itl (K : PySem.W.Frag) (a : Addr) : It :=
  ⟨fun i H => ∃ xs x, SqL K H a xs ∧ xs[i]? = some x, fun i H x H' => H' = H ∧ ∀ xs, SqL K H a xs → xs[i]? = some x, fun i H => ∃ xs, SqL K H a xs ∧ xs.length ≤ i⟩
/-- lo, lo + 1, .. (n of them) -/
def Itr (lo : Int) (n : Nat) : It := ⟨fun i _ => i < n, fun i H x H' => H' = H ∧ x = .int (lo + i), fun i _ => n ≤ i⟩
theorem turn_list {P : Program} {w : World} {K : PySem.W.Frag} {tg : Expr} (a it : Addr) : Turn P w K tg (Itl K a) [it] it (fun i h => h.IsListIter it a i) where
  mem := by simp
  obj := fun i h st b hb => by
    have e : b = it := by simpa using hb
    subst e
    obtain ⟨o, e, c, d⟩ := st
    exact ⟨o, e, fun v z => by rw [d] at z; cases z⟩
  keep := fun i h h' st k => st.at fun o e => k it (by simp) o e
  item := by
    intro X hP hw hK hc i pins s σ H E I hf st hg
    subst hP hw hK
    obtain ⟨xs, x, hq, hx⟩ := hg
    obtain ⟨its, rv, p, hz⟩ := I.list hq
    obtain ⟨u, hu, ru⟩ := rv.get hx
    obtain ⟨f0, f1, f2, f3, f4, f5⟩ := hf it (by simp)
    refine wpAny_pyNext_list_item st p.isList (x := u) (by simpa using hu) fun h' st' sb => ?_
    have I1 : Inv X pins σ H { s with heap := h' } := I.turned (t' := s.toks) (fun b o hb e => (sb.2 b hb).trans e) f0 f1 f3 f4 f5
    obtain ⟨o, e, c, d⟩ := id st'
    exact ⟨u, rfl, go_of (s := { s with heap := h' }) e c d (by decide) ⟨x, H, I1, ru, ⟨rfl, fun ys hy => by rw [I.list_inj hy hq]; exact hx⟩, st', fun b hb => (hf b hb).1⟩⟩
  done := by
    intro X hP hw hK hc i pins s σ H E I hf st hg
    subst hP hw hK
    obtain ⟨xs, hq, hx⟩ := hg
    obtain ⟨its, rv, p, hz⟩ := I.list hq
    obtain ⟨f0, f1, f2, f3, f4, f5⟩ := hf it (by simp)
    have hl := rv.length
    exact wpAny_pyNext_list_end (I.ok.hd hc) st p.isList (by simp; omega) fun h' eb => ⟨rfl, I.turned (t' := s.toks) (fun b o hb e => eb b o hb e) f0 f1 f3 f4 f5⟩
  self := fun _ _ _ _ _ st h => wpAny_pyIter_listiter st h
theorem turn_range {P : Program} {w : World} {K : PySem.W.Frag} {tg : Expr} (it : Addr) (lo : Int) (n : Nat) : Turn P w K tg (Itr lo n) [it] it (fun i h => IsRangeIter h it (lo + (i : Nat) * 1) ((n : Int) - (i : Nat)) 1) where
  mem := by simp
  obj := fun i h st b hb => by
    have e : b = it := by simpa using hb
    subst e
    exact ⟨_, st, fun v z => by
      have z' : Data.fields _ = Data.cell v := z
      cases z'⟩
  keep := fun i h h' st k => k it (by simp) _ st
  item := by
    intro X hP hw hK hc i pins s σ H E I hf st hg
    subst hP hw hK
    obtain ⟨f0, f1, f2, f3, f4, f5⟩ := hf it (by simp)
    have W := Walks.range (prog := X.prog) (w := X.w) (I.ok.hd hc) it lo 1 n
    refine W.item i s _ _ hg st fun v h' tk hv st' kk => ?_
    obtain ⟨t, rfl⟩ := hv
    have I1 : Inv X pins σ H { s with heap := h', toks := tk } := I.turned (fun b o hb e => kk b o (by simpa using hb) e) f0 f1 f3 f4 f5
    refine ⟨_, rfl, go_of (s := { s with heap := h', toks := tk }) (n := "range_iterator") st' rfl rfl (by decide) ⟨.int (lo + i), H, I1, ⟨t, ?_⟩, ⟨rfl, rfl⟩, st', fun b hb => (hf b hb).1⟩⟩
    rw [Int.mul_one]
  done := by
    intro X hP hw hK hc i pins s σ H E I hf st hg
    subst hP hw hK
    obtain ⟨f0, f1, f2, f3, f4, f5⟩ := hf it (by simp)
    exact wpAny_pyNext_range_end (I.ok.hd hc) st (by have : n ≤ i := hg; omega) fun h' eb => ⟨rfl, I.turned (t' := s.toks) (fun b o hb e => eb b o hb e) f0 f1 f3 f4 f5⟩
  self := fun _ _ _ _ _ st h => wpAny_pyIter_rangeiter st h
end L2

namespace L2
open PySem PySem.Spec PyProof.Rows
section
variable {X : Cx} {tg : Expr}
def iList (K : PySem.W.Frag) (tl : TE) : TI := fun σ H R => tl σ H fun x H1 => ∃ a, x = .ref a ∧ (∃ xs, SqL K H1 a xs) ∧ R (Itl K a) H1
theorem pi_list {l : Expr} {tl : TE} (hl : PE X l tl) : PI X tg l (iList X.K tl) := by
  intro pins s σ H R I h
  refine thn (hl pins s σ H _ I h) fun v s1 ⟨x, H1, I1, r1, q1⟩ => ?_
  obtain ⟨a, e, ⟨xs, hq⟩, q⟩ := q1
  subst e
  cases r1
  obtain ⟨its, rv, p, hz⟩ := I1.list hq
  refine wpAny_pyIter_list p.isList ?_
  refine ⟨s1.heap.objs.size, [s1.heap.objs.size], _, _, H1, rfl, I1.kept (t' := s1.toks) fun b o e => Heap.get?_push_of_some _ e, turn_list a _, ⟨_, Heap.get?_push_size _ rfl, rfl, rfl⟩, fun b hb => ?_, q⟩
  have e : b = s1.heap.objs.size := by simpa using hb
  subst e
  exact I1.fpOk (Nat.le_refl _) (I1.hok.fresh (Nat.le_refl _))
/-- a range object just made, walked -/
theorem range_it {pins : List (Addr × Obj)} {σ : St} {H : Hp} {s : Shared} {R : It → Hp → Prop} {E : Value → Shared → Prop} {lo hi : Int} {t u v : Tok} {tk : Nat} (I : Inv X pins σ H s) (h1 : -(2 ^ 62) ≤ lo) (h2 : lo < 2 ^ 62) (h3 : -(2 ^ 62) ≤ hi) (h4 : hi < 2 ^ 62)
    (q : R (Itr lo (hi - lo).toNat) H) : wpAny (model X.prog X.w) X.A (pyIter (.ref s.heap.objs.size)) (PIE X pins σ tg R) E { s with heap := s.heap.push { cls := .type "range", data := .fields #[.int lo t, .int hi u, .int 1 v] }, toks := tk } := by
  refine wpAny_pyIter_range (IsRange.new ..) (small_one h1 h2 h3 h4) ?_
  have I1 : Inv X pins σ H { s with heap := s.heap.push { cls := .type "range", data := .fields #[.int lo t, .int hi u, .int 1 v] }, toks := tk } := I.kept fun b o e => Heap.get?_push_of_some _ e
  refine ⟨(s.heap.push { cls := .type "range", data := .fields #[.int lo t, .int hi u, .int 1 v] }).objs.size, [(s.heap.push { cls := .type "range", data := .fields #[.int lo t, .int hi u, .int 1 v] }).objs.size], _, _, H, rfl,
    I1.kept (t' := tk) fun b o e => Heap.get?_push_of_some _ e, turn_range _ lo (hi - lo).toNat, ?_, fun b hb => ?_, q⟩
  · have e1 : lo + ((0 : Nat) : Int) * 1 = lo := by simp
    have e2 : (((hi - lo).toNat : Nat) : Int) - ((0 : Nat) : Int) = Builtin.Range.rangeSize lo hi 1 := by rw [rangeSize_one]; split <;> omega
    show IsRangeIter _ _ (lo + ((0 : Nat) : Int) * 1) ((((hi - lo).toNat : Nat) : Int) - ((0 : Nat) : Int)) 1
    rw [e1, e2]
    exact Heap.get?_push_size _ rfl
  · have e : b = (s.heap.push { cls := .type "range", data := .fields #[.int lo t, .int hi u, .int 1 v] }).objs.size := by simpa using hb
    subst e
    exact I1.fpOk (Nat.le_refl _) (I1.hok.fresh (Nat.le_refl _))
def iRng1 (ta : TA) : TI := fun σ H R => ta σ H fun vs H1 => ∃ j : Int, vs = [.int j] ∧ -(2 ^ 62) ≤ j ∧ j < 2 ^ 62 ∧ R (Itr 0 j.toNat) H1
theorem pi_range1 {a : Expr} {ta : TA} {p pos : Pos} (hg : Gl X "range") (hm : X.mg "range" = none) (ha : PA X [a] ta) (hs : starEach [a] X.env = [(false, eval a X.env)] := by rfl) : PI X tg (.Call (.Name "range" p) [a] [] pos) (iRng1 ta) := by
  intro pins s σ H R I h
  refine Call_ (ld_blt I hg hm boot_range (PyProof.Rows.callWith_type1 (thn (ha pos pins s σ H _ I h) fun us s1 ⟨vs, H1, I1, r1, q1⟩ => ?_) hs rfl))
  obtain ⟨j, e, q1, q2, q⟩ := q1
  subst e
  cases r1 with
  | cons r rr =>
    cases rr
    obtain ⟨t, rfl⟩ := r
    exact call_range_1 (range_it I1 (by omega) (by omega) q1 q2 (by simpa using q))

/-! ### for -/
/-- W: the invariant by the turn and a measure; N: what the body is to reach -/
def tFor (wi : TI) (g : TG) (tb : TS) : TS := fun D σ H => wi σ H fun J H1 => ∃ W : Nat → Nat → St → Hp → Prop, (∃ m, W 0 m σ H1) ∧ ∀ i m σ H, W i m σ H →
  (J.stop i H ∧ D.nx σ H) ∨ (J.go i H ∧ ∃ N : St → Hp → Prop, (∀ σ' H', N σ' H' → ∃ m', m' < m ∧ W (i + 1) m' σ' H') ∧ ∀ x H', J.yld i H x H' → g x σ H' fun σ2 H2 => tb { D with nx := N, ct := N, bk := D.nx } σ2 H2)
/-- the records at fp as they stand -/
def pinsAt (fp : List Addr) (h : Heap) : List (Addr × Obj) := fp.filterMap fun b => (h.get? b).map fun o => (b, o)
theorem mem_pinsAt {fp : List Addr} {h : Heap} {b : Addr} {o : Obj} (hb : b ∈ fp) (e : h.get? b = some o) : (b, o) ∈ pinsAt fp h := List.mem_filterMap.mpr ⟨b, hb, by rw [e]; rfl⟩
theorem of_pinsAt {fp : List Addr} {h : Heap} {p : Addr × Obj} (hp : p ∈ pinsAt fp h) : p.1 ∈ fp ∧ h.get? p.1 = some p.2 := by
  obtain ⟨b, hb, e⟩ := List.mem_filterMap.mp hp
  cases q : h.get? b with
  | none => rw [q] at e; cases e
  | some o =>
    rw [q] at e
    have e' : (b, o) = p := Option.some.inj e
    subst e'
    exact ⟨hb, q⟩
theorem Inv.pinned {pins : List (Addr × Obj)} {σ : St} {H : Hp} {s : Shared} {fp : List Addr} (I : Inv X pins σ H s) (hf : ∀ b ∈ fp, FpOk X pins H b) (ho : ∀ b ∈ fp, ∃ o, s.heap.get? b = some o ∧ ∀ v, o.data ≠ .cell v) : Inv X (pins ++ pinsAt fp s.heap) σ H s :=
  I.pins_of fun p hp => (List.mem_append.mp hp).elim (fun z => I.pin p (List.mem_append_right _ z)) fun z => by
    obtain ⟨hb, e⟩ := of_pinsAt z
    obtain ⟨f0, f1, f2, _⟩ := hf p.1 hb
    obtain ⟨o, e', d⟩ := ho p.1 hb
    rw [e] at e'; cases e'
    exact ⟨e, f0, f1, f2, d⟩
theorem Inv.unpinned {pins pl : List (Addr × Obj)} {σ : St} {H : Hp} {s : Shared} (I : Inv X (pins ++ pl) σ H s) : Inv X pins σ H s := I.pins_of fun p hp => I.pin p (List.mem_append_right _ (List.mem_append_left _ hp))
theorem ps_for {iter : Expr} {body : List Stmt} {wi : TI} {g : TG} {tb : TS} {pos : Pos} (hp : PassesOwn (model X.prog X.w) X.A X.env X.xe) (hc : X.calm = true) (hi : PI X tg iter wi) (hg : PG X tg g) (hb : PSs X body tb)
    (hs : ∀ x, foldedSetIterable iter X.env x = pure x := by intro _; rfl) : PS X (.For tg iter body [] pos) (tFor wi g tb) := by
  intro pins s σ H D I h
  refine wpAny_For (thn (hi pins s σ H _ I h) fun v s1 h1 => thn h1 fun itv s2 h2 => ?_) hs
  obtain ⟨it, fp, tn, J, H2, e, I2, T, st2, f2, W, ⟨m0, w0⟩, turn⟩ := h2
  subst e
  -- what stays true of the iterator's objects through the loop
  have stat : ∀ {H' : Hp}, (∀ b ∈ fp, H' b = none) → ∀ b ∈ fp, FpOk X pins H' b := fun hn b hb => ⟨hn b hb, (f2 b hb).2⟩
  refine codeAny_forLoop_any (fun n s' => ∃ i σ' H', Inv X pins σ' H' s' ∧ tn i s'.heap ∧ (∀ b ∈ fp, H' b = none) ∧ W i n σ' H') ?_ m0 ⟨0, σ, H2, I2, st2, fun b hb => (f2 b hb).1, w0⟩
  rintro n s3 ⟨i, σ3, H3, I3, st3, fr3, w3⟩
  rcases turn i n σ3 H3 w3 with ⟨stop, qn⟩ | ⟨go, N, hN, step⟩
  · refine wpAny_passesOwn hp (thn (T.done X rfl rfl rfl hc i pins s3 σ3 H3 X.xe I3 (stat fr3) st3 stop) fun r s4 ⟨hr, I4⟩ => ?_)
    subst hr
    exact wpAny_execs_nil ⟨σ3, H3, I4, qn⟩
  · refine wpAny_passesOwn hp (thn (T.item X rfl rfl rfl hc i pins s3 σ3 H3 X.xe I3 (stat fr3) st3 go) fun r s4 ⟨u, hr, h4⟩ => ?_)
    subst hr
    refine wpAny_passesOwn hp (thn h4 fun _ s5 ⟨x, H5, I5, r5, y5, st5, fr5⟩ => ?_)
    have I5' := I5.pinned (stat fr5) (T.obj _ _ st5)
    refine wpAny_passesOwn hp (thn (hg _ s5 σ3 H5 x u _ I5' r5 (step x H5 y5)) fun _ s6 ⟨σ6, H6, I6, q6⟩ => ?_)
    refine wpAny_passesOwn hp (thn (hb _ s6 σ6 H6 _ I6 q6) fun f s7 q7 => ?_)
    have again : ∀ {σ7 : St} {H7 : Hp}, Inv X (pins ++ pinsAt fp s5.heap) σ7 H7 s7 → N σ7 H7 → ∃ m, m < n ∧ ∃ i σ' H', Inv X pins σ' H' s7 ∧ tn i s7.heap ∧ (∀ b ∈ fp, H' b = none) ∧ W i m σ' H' := fun {σ7 H7} I7 n7 => by
      obtain ⟨m', hm, w7⟩ := hN σ7 H7 n7
      refine ⟨m', hm, i + 1, σ7, H7, I7.unpinned, T.keep _ _ _ st5 fun b hb o e => (I7.pin (b, o) (List.mem_append_right _ (List.mem_append_right _ (mem_pinsAt hb e)))).1, fun b hb => ?_, w7⟩
      obtain ⟨o, e, d⟩ := T.obj _ _ st5 b hb
      exact (I7.pin (b, o) (List.mem_append_right _ (List.mem_append_right _ (mem_pinsAt hb e)))).2.1
    cases f with
    | next => obtain ⟨σ7, H7, I7, n7⟩ := q7; exact again I7 n7
    | cont => obtain ⟨σ7, H7, I7, n7⟩ := q7; exact again I7 n7
    | brk => obtain ⟨σ7, H7, I7, q7⟩ := q7; exact ⟨σ7, H7, I7.unpinned, q7⟩
    | ret v => obtain ⟨x7, σ7, H7, I7, r7, q7⟩ := q7; exact ⟨x7, σ7, H7, I7.unpinned, r7, q7⟩
end

/-! ### the forms one uses -/
/-- over a list that the body leaves as it is -/
theorem for_list {K : PySem.W.Frag} {a : Addr} {xs : List V} {g : TG} {tb : TS} {D : Ends} {σ : St} {H : Hp} (Pv : Nat → St → Hp → Prop) (h0 : Pv 0 σ H) (hl : ∀ i σ H, i ≤ xs.length → Pv i σ H → SqL K H a xs)
    (hs : ∀ i x σ H, xs[i]? = some x → Pv i σ H → g x σ H fun σ2 H2 => tb { D with nx := Pv (i + 1), ct := Pv (i + 1), bk := D.nx } σ2 H2) (hd : ∀ σ H, Pv xs.length σ H → D.nx σ H) :
    ∃ W : Nat → Nat → St → Hp → Prop, (∃ m, W 0 m σ H) ∧ ∀ i m σ H, W i m σ H →
      ((Itl K a).stop i H ∧ D.nx σ H) ∨ ((Itl K a).go i H ∧ ∃ N : St → Hp → Prop, (∀ σ' H', N σ' H' → ∃ m', m' < m ∧ W (i + 1) m' σ' H') ∧ ∀ x H', (Itl K a).yld i H x H' → g x σ H' fun σ2 H2 => tb { D with nx := N, ct := N, bk := D.nx } σ2 H2) := by
  refine ⟨fun i m σ H => m = xs.length - i ∧ i ≤ xs.length ∧ Pv i σ H, ⟨xs.length, by simp, Nat.zero_le _, h0⟩, ?_⟩
  rintro i m σ H ⟨rfl, hi, p⟩
  have q := hl i σ H hi p
  by_cases hlt : i < xs.length
  · refine .inr ⟨⟨xs, xs[i], q, by simp [hlt]⟩, Pv (i + 1), fun σ' H' p' => ⟨xs.length - (i + 1), by omega, rfl, hlt, p'⟩, fun x H' y => ?_⟩
    obtain ⟨e, y⟩ := y
    subst e
    exact hs i x σ _ (y xs q) p
  · have e : i = xs.length := by omega
    subst e
    exact .inl ⟨⟨xs, q, Nat.le_refl _⟩, hd σ H p⟩
theorem for_range {lo : Int} {n : Nat} {g : TG} {tb : TS} {D : Ends} {σ : St} {H : Hp} (Pv : Nat → St → Hp → Prop) (h0 : Pv 0 σ H)
    (hs : ∀ i σ H, i < n → Pv i σ H → g (.int (lo + i)) σ H fun σ2 H2 => tb { D with nx := Pv (i + 1), ct := Pv (i + 1), bk := D.nx } σ2 H2) (hd : ∀ σ H, Pv n σ H → D.nx σ H) :
    ∃ W : Nat → Nat → St → Hp → Prop, (∃ m, W 0 m σ H) ∧ ∀ i m σ H, W i m σ H →
      ((Itr lo n).stop i H ∧ D.nx σ H) ∨ ((Itr lo n).go i H ∧ ∃ N : St → Hp → Prop, (∀ σ' H', N σ' H' → ∃ m', m' < m ∧ W (i + 1) m' σ' H') ∧ ∀ x H', (Itr lo n).yld i H x H' → g x σ H' fun σ2 H2 => tb { D with nx := N, ct := N, bk := D.nx } σ2 H2) := by
  refine ⟨fun i m σ H => m = n - i ∧ i ≤ n ∧ Pv i σ H, ⟨n, by simp, Nat.zero_le _, h0⟩, ?_⟩
  rintro i m σ H ⟨rfl, hi, p⟩
  by_cases hlt : i < n
  · refine .inr ⟨hlt, Pv (i + 1), fun σ' H' p' => ⟨n - (i + 1), by omega, rfl, hlt, p'⟩, fun x H' y => ?_⟩
    obtain ⟨e, y⟩ := y
    subst e y
    exact hs i σ _ hlt p
  · have e : i = n := by omega
    subst e
    exact .inl ⟨Nat.le_refl _, hd σ H p⟩
end L2

namespace L2
open PySem PySem.Spec PyProof.Rows

abbrev R2 := V → V → Hp → VK → Prop
/-- a two-place operation on values: f is binaryOp op, inplaceOp op or compareOp op -/
def OpR (X : Cx) (f : Value → Value → Sem Value) (r : R2) : Prop :=
  ∀ (pins : List (Addr × Obj)) (s : Shared) (σ : St) (H : Hp) (x y : V) (v u : Value) (Q : VK), Inv X pins σ H s → RelV x v → RelV y u → r x y H Q →
    wpAny (model X.prog X.w) X.A (f v u) (EP X pins σ Q) X.xe s
/-- a call of a value that is known (a builtin, a type) with values -/
def CallR (X : Cx) (f : Value) (r : List V → Hp → VK → Prop) : Prop :=
  ∀ (pins : List (Addr × Obj)) (s : Shared) (σ : St) (H : Hp) (xs : List V) (us : List Value) (Q : VK), Inv X pins σ H s → Vals xs us → r xs H Q →
    wpAny (model X.prog X.w) X.A (call f us) (EP X pins σ Q) X.xe s

def tOp (r : R2) (ta tb : TE) : TE := fun σ H Q => ta σ H fun x H1 => tb σ H1 fun y H2 => r x y H2 Q
/-- ints in, under C, and a value out -/
def rI (C : Int → Int → Prop) (g : Int → Int → V) : R2 := fun x y H Q => ∃ i j, x = .int i ∧ y = .int j ∧ C i j ∧ Q (g i j) H
def rI0 (g : Int → Int → V) : R2 := fun x y H Q => ∃ i j, x = .int i ∧ y = .int j ∧ Q (g i j) H

section
variable {X : Cx} {a b c : Expr} {ta tb tc : TE} {pos : Pos}

theorem binT (ha : PE X a ta) (hb : PE X b tb) {pins : List (Addr × Obj)} {s : Shared} {σ : St} {H : Hp} {R : V → V → Hp → Prop} (I : Inv X pins σ H s)
    (h : ta σ H fun x H1 => tb σ H1 fun y H2 => R x y H2) {Q : Value → Shared → Prop} {f : Value → Value → Sem Value}
    (hf : ∀ v u s2 x y H2, Inv X pins σ H2 s2 → RelV x v → RelV y u → R x y H2 → wpAny (model X.prog X.w) X.A (f v u) Q X.xe s2) :
    wpAny (model X.prog X.w) X.A (eval a X.env) (fun v s₁ => wpAny (model X.prog X.w) X.A (eval b X.env) (fun u s₂ => wpAny (model X.prog X.w) X.A (f v u) Q X.xe s₂) X.xe s₁) X.xe s := by
  refine thn (ha pins s σ H _ I h) fun v s1 ⟨x, H1, I1, r1, q1⟩ => ?_
  refine thn (hb pins s1 σ H1 _ I1 q1) fun u s2 ⟨y, H2, I2, r2, q2⟩ => ?_
  exact hf v u s2 x y H2 I2 r1 r2 q2

theorem pe_op {op : Operator} {r : R2} (ho : OpR X (binaryOp op) r) (ha : PE X a ta) (hb : PE X b tb) : PE X (.BinOp a op b pos) (tOp r ta tb) := by
  intro pins s σ H Q I h
  exact wpAny_BinOp (binT ha hb I h fun v u s2 x y H2 I2 rx ry q => ho pins s2 σ H2 x y v u Q I2 rx ry q)

/-! ### ints -/
theorem opI {f : Value → Value → Sem Value} {C : Int → Int → Prop} {g : Int → Int → Int}
    (rule : ∀ (i j : Int) (t u : Tok) (s : Shared) (Q : Value → Shared → Prop) (E : Value → Shared → Prop), C i j → Q (.int (g i j) s.toks) { s with toks := s.toks + 1 } → wpAny (model X.prog X.w) X.A (f (.int i t) (.int j u)) Q E s) :
    OpR X f (rI C fun i j => .int (g i j)) := by
  intro pins s σ H x y v u Q I rx ry h
  obtain ⟨i, j, rfl, rfl, hc, q⟩ := h
  obtain ⟨t, rfl⟩ := rx
  obtain ⟨t', rfl⟩ := ry
  exact rule i j t t' s _ _ hc ⟨.int (g i j), H, I.tok _, ⟨_, rfl⟩, q⟩
theorem opI0 {f : Value → Value → Sem Value} {g : Int → Int → Int}
    (rule : ∀ (i j : Int) (t u : Tok) (s : Shared) (Q : Value → Shared → Prop) (E : Value → Shared → Prop), Q (.int (g i j) s.toks) { s with toks := s.toks + 1 } → wpAny (model X.prog X.w) X.A (f (.int i t) (.int j u)) Q E s) :
    OpR X f (rI0 fun i j => .int (g i j)) := by
  intro pins s σ H x y v u Q I rx ry h
  obtain ⟨i, j, rfl, rfl, q⟩ := h
  obtain ⟨t, rfl⟩ := rx
  obtain ⟨t', rfl⟩ := ry
  exact rule i j t t' s _ _ ⟨.int (g i j), H, I.tok _, ⟨_, rfl⟩, q⟩
theorem opB0 {f : Value → Value → Sem Value} {g : Int → Int → Bool}
    (rule : ∀ (i j : Int) (t u : Tok) (s : Shared) (Q : Value → Shared → Prop) (E : Value → Shared → Prop), Q (.bool (g i j)) s → wpAny (model X.prog X.w) X.A (f (.int i t) (.int j u)) Q E s) :
    OpR X f (rI0 fun i j => .bl (g i j)) := by
  intro pins s σ H x y v u Q I rx ry h
  obtain ⟨i, j, rfl, rfl, q⟩ := h
  obtain ⟨t, rfl⟩ := rx
  obtain ⟨t', rfl⟩ := ry
  exact rule i j t t' s _ _ ⟨.bl (g i j), H, I, rfl, q⟩

def CDiv (i j : Int) : Prop := 0 < j ∧ j < 1073741824
def CMul (i j : Int) : Prop := (-(2 ^ 64) < i ∧ i < 2 ^ 64) ∨ (-(2 ^ 64) < j ∧ j < 2 ^ 64)
theorem CMul.ok {i j : Int} (h : CMul i j) : IntMulOk i j := by
  rcases h with ⟨h1, h2⟩ | ⟨h1, h2⟩
  · exact .of_left (intBits_le_64 h1 h2)
  · exact .of_right (intBits_le_64 h1 h2)

theorem op_add : OpR X (binaryOp .Add) (rI0 fun i j => .int (i + j)) := opI0 fun _ _ _ _ _ _ _ q => add_int q
theorem op_sub : OpR X (binaryOp .Sub) (rI0 fun i j => .int (i - j)) := opI0 fun _ _ _ _ _ _ _ q => sub_int q
theorem op_mul : OpR X (binaryOp .Mult) (rI CMul fun i j => .int (i * j)) := opI fun _ _ _ _ _ _ _ hc q => mul_int q hc.ok
/-- // by a positive divisor -/
theorem op_fdiv : OpR X (binaryOp .FloorDiv) (rI CDiv fun i j => .int (i / j)) := opI fun i j _ _ _ _ _ hc q => by
  have h1 : (0 : Int) < j := hc.1
  have h2 : j < 1073741824 := hc.2
  exact floordiv_int (by omega) (by rw [Int.fdiv_eq_ediv_of_nonneg i (by omega)]; exact q) (.inl (PyProof.noPylong_small (by omega)))
/-- % by a positive divisor of any size -/
theorem op_mod : OpR X (binaryOp .Mod) (rI (fun _ j => 0 < j) fun i j => .int (i % j)) := opI fun i j _ _ _ _ _ hc q => by
  have h1 : (0 : Int) < j := hc
  exact mod_int' (by omega) (by rw [Int.fmod_eq_emod_of_nonneg i (by omega)]; exact q)



/-! ### bools among ints: n += (a < b) -/
end

/-! ### comparisons -/
/-- the scalars that == tells apart as data does -/
def scal : V → V → Bool
  | .non, .non => true | .non, .int _ => true | .int _, .non => true | .non, .bl _ => true | .bl _, .non => true | .non, .str _ => true | .str _, .non => true
  | .int _, .int _ => true | .bl _, .bl _ => true | .str _, .str _ => true | .byt _, .byt _ => true
  | .int _, .str _ => true | .str _, .int _ => true | .bl _, .str _ => true | .str _, .bl _ => true
  | _, _ => false
def rEq : R2 := fun x y H Q => scal x y = true ∧ Q (.bl (decide (x = y))) H
def rNe : R2 := fun x y H Q => scal x y = true ∧ Q (.bl (!decide (x = y))) H

theorem dec_int {i j : Int} : decide (V.int i = V.int j) = (i == j) := by
  rw [Bool.eq_iff_iff]
  simp
theorem dec_bl {i j : Bool} : decide (V.bl i = V.bl j) = (i == j) := by
  rw [Bool.eq_iff_iff]
  simp
theorem dec_str {i j : Str} : decide (V.str i = V.str j) = (i == j) := by
  rw [Bool.eq_iff_iff]
  simp
theorem dec_byt {i j : Array UInt8} : decide (V.byt i = V.byt j) = (i.toList == j.toList) := by
  rw [Bool.eq_iff_iff]
  cases i
  cases j
  simp

section
variable {X : Cx} {a b c : Expr} {ta tb tc : TE} {pos : Pos}
theorem fin_bl {pins : List (Addr × Obj)} {σ : St} {H : Hp} {s : Shared} {Q : VK} {k k' : Bool} (I : Inv X pins σ H s) (q : Q (.bl k) H) (e : k = k') : EP X pins σ Q (.bool k') s := by
  subst e
  exact ⟨.bl k, H, I, rfl, q⟩
theorem op_eq : OpR X (compareOp .Eq) rEq := by
  intro pins s σ H x y v u Q I rx ry h
  obtain ⟨hs, q⟩ := h
  cases x with
  | non =>
    cases rx
    cases y with
    | non => cases ry; exact PySem.EqNone.eq_none_none (fin_bl I q (by simp))
    | bl j => cases ry; exact PySem.EqNone.eq_none_bool (fin_bl I q (by simp))
    | int j => obtain ⟨t', rfl⟩ := ry; exact PySem.EqNone.eq_none_int (fin_bl I q (by simp))
    | str j => obtain ⟨t', rfl⟩ := ry; exact PySem.EqNone.eq_none_str (fin_bl I q (by simp))
    | _ => exact absurd (show false = true from hs) Bool.false_ne_true
  | bl i =>
    cases rx
    cases y with
    | non => cases ry; exact PySem.EqNone.eq_bool_none (fin_bl I q (by simp))
    | bl j => cases ry; exact eq_bool (fin_bl I q dec_bl)
    | str j => obtain ⟨t', rfl⟩ := ry; exact PySem.EqMixed.eq_bool_str (fin_bl I q (by simp))
    | _ => exact absurd (show false = true from hs) Bool.false_ne_true
  | int i =>
    obtain ⟨t, rfl⟩ := rx
    cases y with
    | non => cases ry; exact PySem.EqNone.eq_int_none (fin_bl I q (by simp))
    | int j => obtain ⟨t', rfl⟩ := ry; exact eq_int (fin_bl I q dec_int)
    | str j => obtain ⟨t', rfl⟩ := ry; exact PySem.EqMixed.eq_int_str (fin_bl I q (by simp))
    | _ => exact absurd (show false = true from hs) Bool.false_ne_true
  | str i =>
    obtain ⟨t, rfl⟩ := rx
    cases y with
    | non => cases ry; exact PySem.EqNone.eq_str_none (fin_bl I q (by simp))
    | bl j => cases ry; exact PySem.EqMixed.eq_str_bool (fin_bl I q (by simp))
    | int j => obtain ⟨t', rfl⟩ := ry; exact PySem.EqMixed.eq_str_int (fin_bl I q (by simp))
    | str j => obtain ⟨t', rfl⟩ := ry; exact eq_str (fin_bl I q dec_str)
    | _ => exact absurd (show false = true from hs) Bool.false_ne_true
  | byt i =>
    obtain ⟨t, rfl⟩ := rx
    cases y with
    | byt j => obtain ⟨t', rfl⟩ := ry; exact PySem.W.eq_bytes (fin_bl I q dec_byt)
    | _ => exact absurd (show false = true from hs) Bool.false_ne_true
  | _ => cases y <;> exact absurd (show false = true from hs) Bool.false_ne_true
theorem op_ne : OpR X (compareOp .NotEq) rNe := by
  intro pins s σ H x y v u Q I rx ry h
  obtain ⟨hs, q⟩ := h
  cases x with
  | non =>
    cases rx
    cases y with
    | non => cases ry; exact PySem.EqNone.ne_none_none (fin_bl I q (by simp))
    | bl j => cases ry; exact PySem.EqNone.ne_none_bool (fin_bl I q (by simp))
    | int j => obtain ⟨t', rfl⟩ := ry; exact PySem.EqNone.ne_none_int (fin_bl I q (by simp))
    | str j => obtain ⟨t', rfl⟩ := ry; exact PySem.EqNone.ne_none_str (fin_bl I q (by simp))
    | _ => exact absurd (show false = true from hs) Bool.false_ne_true
  | bl i =>
    cases rx
    cases y with
    | non => cases ry; exact PySem.EqNone.ne_bool_none (fin_bl I q (by simp))
    | bl j => cases ry; exact ne_bool (fin_bl I q (congrArg not dec_bl))
    | str j => obtain ⟨t', rfl⟩ := ry; exact PySem.EqMixed.ne_bool_str (fin_bl I q (by simp))
    | _ => exact absurd (show false = true from hs) Bool.false_ne_true
  | int i =>
    obtain ⟨t, rfl⟩ := rx
    cases y with
    | non => cases ry; exact PySem.EqNone.ne_int_none (fin_bl I q (by simp))
    | int j => obtain ⟨t', rfl⟩ := ry; exact ne_int (fin_bl I q (congrArg not dec_int))
    | str j => obtain ⟨t', rfl⟩ := ry; exact PySem.EqMixed.ne_int_str (fin_bl I q (by simp))
    | _ => exact absurd (show false = true from hs) Bool.false_ne_true
  | str i =>
    obtain ⟨t, rfl⟩ := rx
    cases y with
    | non => cases ry; exact PySem.EqNone.ne_str_none (fin_bl I q (by simp))
    | bl j => cases ry; exact PySem.EqMixed.ne_str_bool (fin_bl I q (by simp))
    | int j => obtain ⟨t', rfl⟩ := ry; exact PySem.EqMixed.ne_str_int (fin_bl I q (by simp))
    | str j => obtain ⟨t', rfl⟩ := ry; exact ne_str (fin_bl I q (congrArg not dec_str))
    | _ => exact absurd (show false = true from hs) Bool.false_ne_true
  | byt i =>
    obtain ⟨t, rfl⟩ := rx
    cases y with
    | byt j => obtain ⟨t', rfl⟩ := ry; exact PySem.W.ne_bytes (fin_bl I q (congrArg not dec_byt))
    | _ => exact absurd (show false = true from hs) Bool.false_ne_true
  | _ => cases y <;> exact absurd (show false = true from hs) Bool.false_ne_true

theorem op_lt : OpR X (compareOp .Lt) (rI0 fun i j => .bl (decide (i < j))) := opB0 fun _ _ _ _ _ _ _ q => lt_int q
theorem op_le : OpR X (compareOp .LtE) (rI0 fun i j => .bl (decide (i ≤ j))) := opB0 fun _ _ _ _ _ _ _ q => le_int q
theorem op_gt : OpR X (compareOp .Gt) (rI0 fun i j => .bl (decide (j < i))) := opB0 fun _ _ _ _ _ _ _ q => gt_int q
theorem op_ge : OpR X (compareOp .GtE) (rI0 fun i j => .bl (decide (j ≤ i))) := opB0 fun _ _ _ _ _ _ _ q => ge_int q

/-- is None, is not None: the right side a value none -/
theorem op_isN : OpR X (compareOp .Is) (fun x y H Q => y = .non ∧ Q (.bl (decide (x = .non))) H) := by
  intro pins s σ H x y v u Q I rx ry h
  obtain ⟨rfl, q⟩ := h
  cases ry
  refine is_none_gen (fin_bl I q ?_)
  cases x <;> first
    | (cases rx; rfl)
    | (obtain ⟨t, rfl⟩ := rx; rfl)
theorem op_notN : OpR X (compareOp .IsNot) (fun x y H Q => y = .non ∧ Q (.bl (!decide (x = .non))) H) := by
  intro pins s σ H x y v u Q I rx ry h
  obtain ⟨rfl, q⟩ := h
  cases ry
  refine isnot_none_gen (fin_bl I q ?_)
  cases x <;> first
    | (cases rx; rfl)
    | (obtain ⟨t, rfl⟩ := rx; rfl)



theorem nomark (b : Expr) {op : CmpOp} (h : op ≠ .In := by decide) (h2 : op ≠ .NotIn := by decide) : behindInMarks op b = false := by
  have e1 : (op == CmpOp.In) = false := by cases op <;> first | rfl | exact absurd rfl h
  have e2 : (op == CmpOp.NotIn) = false := by cases op <;> first | rfl | exact absurd rfl h2
  cases b <;> simp [behindInMarks, e1, e2]
/-- a comparison as a value; hm: nomark b, or (for in, not in) by with_unfolding_all rfl -/
theorem pe_cmpR {op : CmpOp} {r : R2} (ho : OpR X (compareOp op) r) (ha : PE X a ta) (hb : PE X b tb) (hm : behindInMarks op b = false) : PE X (.Compare a [op] [b] pos) (tOp r ta tb) := by
  intro pins s σ H Q I h
  exact wpAny_Compare1 (binT ha hb I h fun v u s2 x y H2 I2 rx ry q => ho pins s2 σ H2 x y v u Q I2 rx ry q) hm
/-- a reading of a value as a test -/
def tTest (t : TE) : TT := fun σ H Q => t σ H fun x H' => ∃ k, x = .bl k ∧ Q k H'
theorem pt_cmpR {op : CmpOp} {r : R2} (ho : OpR X (compareOp op) r) (ha : PE X a ta) (hb : PE X b tb) (hm : behindInMarks op b = false) : PT X (.Compare a [op] [b] pos) (tTest (tOp r ta tb)) := by
  intro pins s σ H Q I h
  refine wpAny_isTrue_Compare1 (thn (ha pins s σ H _ I h) fun v s1 ⟨x, H1, I1, r1, q1⟩ => thn (hb pins s1 σ H1 _ I1 q1) fun u s2 ⟨y, H2, I2, r2, q2⟩ =>
    thn (ho pins s2 σ H2 x y v u _ I2 r1 r2 q2) fun c s3 ⟨z, H3, I3, r3, k, e, q3⟩ => ?_) hm
  subst e
  cases r3
  exact wpAny_truthy_bool ⟨H3, I3, q3⟩
/-- a op1 b op2 c -/
def tChain (r r' : R2) (ta tb tc : TE) : TE := fun σ H Q => ta σ H fun x H1 => tb σ H1 fun y H2 => r x y H2 fun z H3 => ∃ k, z = .bl k ∧
  (if k = true then tc σ H3 fun w' H4 => r' y w' H4 Q else Q (.bl false) H3)
theorem pe_chain {op op' : CmpOp} {r r' : R2} (ho : OpR X (compareOp op) r) (ho' : OpR X (compareOp op') r') (ha : PE X a ta) (hb : PE X b tb) (hc : PE X c tc)
    (hm : lastMarks [op, op'] [b, c] = false := by with_unfolding_all rfl) : PE X (.Compare a [op, op'] [b, c] pos) (tChain r r' ta tb tc) := by
  intro pins s σ H Q I h
  refine Compare_chain (thn (ha pins s σ H _ I h) fun v s1 ⟨x, H1, I1, r1, q1⟩ => chain_link (thn (hb pins s1 σ H1 _ I1 q1) fun u s2 ⟨y, H2, I2, r2, q2⟩ =>
    thn (ho pins s2 σ H2 x y v u _ I2 r1 r2 q2) fun d s3 ⟨z, H3, I3, r3, k, e, q3⟩ => ?_)) hm
  subst e
  cases r3
  refine wpAny_truthy_bool ?_
  cases k with
  | false => exact ite_ff ⟨.bl false, H3, I3, rfl, q3⟩
  | true => exact ite_tt (chain_last (thn (hc pins s3 σ H3 _ I3 q3) fun w' s4 ⟨z', H4, I4, r4, q4⟩ => ho' pins s4 σ H4 y z' u w' Q I4 r2 r4 q4))
theorem pt_chain {op op' : CmpOp} {r r' : R2} (ho : OpR X (compareOp op) r) (ho' : OpR X (compareOp op') r') (ha : PE X a ta) (hb : PE X b tb) (hc : PE X c tc)
    (hm : lastMarks [op, op'] [b, c] = false := by with_unfolding_all rfl) : PT X (.Compare a [op, op'] [b, c] pos) (tTest (tChain r r' ta tb tc)) := by
  intro pins s σ H Q I h
  refine isTrue_chain (thn (ha pins s σ H _ I h) fun v s1 ⟨x, H1, I1, r1, q1⟩ => test_link (thn (hb pins s1 σ H1 _ I1 q1) fun u s2 ⟨y, H2, I2, r2, q2⟩ =>
    thn (ho pins s2 σ H2 x y v u _ I2 r1 r2 q2) fun d s3 ⟨z, H3, I3, r3, k, e, q3⟩ => ?_)) hm
  subst e
  cases r3
  refine wpAny_truthy_bool ?_
  cases k with
  | false =>
    obtain ⟨k', e', q'⟩ := q3
    cases e'
    exact ite_ff ⟨H3, I3, q'⟩
  | true =>
    refine ite_tt (test_last (thn (hc pins s3 σ H3 _ I3 q3) fun w' s4 ⟨z', H4, I4, r4, q4⟩ => thn (ho' pins s4 σ H4 y z' u w' _ I4 r2 r4 q4) fun d' s5 ⟨z2, H5, I5, r5, k2, e2, q5⟩ => ?_))
    subst e2
    cases r5
    exact wpAny_truthy_bool ⟨H5, I5, q5⟩

/-! ### truth -/
theorem line63 : (sizeLine : Nat) < 2 ^ 63 := by rw [sizeLine_eq]; decide

/-! ### strs and bytes -/


/-! ### scalar builtins, by CallR -/
theorem vals1 {x : V} {us : List Value} (r : Vals [x] us) : ∃ u, us = [u] ∧ RelV x u := by
  cases r with
  | cons r1 r2 => cases r2; exact ⟨_, rfl, r1⟩
theorem vals2 {x y : V} {us : List Value} (r : Vals [x, y] us) : ∃ u w', us = [u, w'] ∧ RelV x u ∧ RelV y w' := by
  cases r with
  | cons r1 r2 =>
    cases r2 with
    | cons r3 r4 => cases r4; exact ⟨_, _, rfl, r1, r3⟩
theorem call_abs : CallR X (.builtin "abs") (fun xs H Q => ∃ i, xs = [.int i] ∧ Q (.int (if i < 0 then -i else i)) H) := by
  intro pins s σ H xs us Q I r h
  obtain ⟨i, rfl, q⟩ := h
  obtain ⟨u, rfl, t, rfl⟩ := vals1 r
  exact call_abs_int fun u tk => ⟨.int (if i < 0 then -i else i), H, I.tok _, ⟨_, rfl⟩, q⟩
theorem call_max2 (hc : X.calm = true) : CallR X (.builtin "max") (fun xs H Q => ∃ i j, xs = [.int i, .int j] ∧ Q (.int (if j > i then j else i)) H) := by
  intro pins s σ H xs us Q I r h
  obtain ⟨i, j, rfl, q⟩ := h
  obtain ⟨u, w', rfl, ⟨t, rfl⟩, ⟨t', rfl⟩⟩ := vals2 r
  refine max_two_ints (I.ok.hd hc) fun h' tk k => ⟨_, H, I.kept k, ?_, q⟩
  by_cases hj : j > i
  · rw [if_pos hj, if_pos hj]; exact ⟨_, rfl⟩
  · rw [if_neg hj, if_neg hj]; exact ⟨_, rfl⟩
theorem call_min2 (hc : X.calm = true) : CallR X (.builtin "min") (fun xs H Q => ∃ i j, xs = [.int i, .int j] ∧ Q (.int (if j < i then j else i)) H) := by
  intro pins s σ H xs us Q I r h
  obtain ⟨i, j, rfl, q⟩ := h
  obtain ⟨u, w', rfl, ⟨t, rfl⟩, ⟨t', rfl⟩⟩ := vals2 r
  refine min_two_ints (I.ok.hd hc) fun h' tk k => ⟨_, H, I.kept k, ?_, q⟩
  by_cases hj : j < i
  · rw [if_pos hj, if_pos hj]; exact ⟨_, rfl⟩
  · rw [if_neg hj, if_neg hj]; exact ⟨_, rfl⟩
theorem call_ord : CallR X (.builtin "ord") (fun xs H Q => ∃ x, xs = [.str x] ∧ x.length = 1 ∧ Q (.int (x.cps.getD 0 0 : Nat)) H) := by
  intro pins s σ H xs us Q I r h
  obtain ⟨x, rfl, hz, q⟩ := h
  obtain ⟨u, rfl, t, rfl⟩ := vals1 r
  exact ord_of_one hz ⟨.int _, H, I.tok _, ⟨_, rfl⟩, q⟩
end
end L2

namespace L2
open PySem PySem.Spec PyProof.Rows

/-! ### an instance, its attributes a map -/
structure ObjM (h : Heap) (x dx C : Addr) (mA : Str → Option Value) : Prop where
  obj : h.get? x = some (PySem.W.instObj C dx)
  ns : h.Ns1 dx mA
  ne : dx ≠ x

theorem lookIn_ns {h : Heap} {dx : Addr} {mA : Str → Option Value} (n : h.Ns1 dx mA) : ∃ od, h.get? dx = some od ∧ ∀ name, PySem.W.lookIn name od = some (mA name) := by
  obtain ⟨o, es, ep, ho, hd, hk, _, hm⟩ := n
  refine ⟨o, ho, fun name => ?_⟩
  have e := hm name
  unfold nsFind findBy at e
  rw [← Array.find?_toList] at e
  unfold PySem.W.lookIn
  rw [hd]
  dsimp only
  split
  · rename_i y q
    rw [q] at e
    exact congrArg some e
  · rename_i q
    rw [q] at e
    have a : es.toList.any (·.refKey) = false := by
      rw [List.any_eq_false]
      intro y hy
      obtain ⟨z, t, hkey⟩ := hk y (Array.mem_toList_iff.mp hy)
      simp [DictEntry.refKey, hkey]
    have a' : ¬ es.toList.any (·.refKey) = true := by rw [a]; exact Bool.false_ne_true
    rw [if_neg a']
    exact congrArg some e

theorem ObjM.look {h : Heap} {x dx C : Addr} {mA : Str → Option Value} (I : ObjM h x dx C mA) : ∃ od, PySem.W.InstAt h x (PySem.W.instObj C dx) C (some od) ∧ ∀ name, PySem.W.lookIn name od = some (mA name) :=
  let ⟨od, ho, hl⟩ := lookIn_ns I.ns
  ⟨od, ⟨I.obj, rfl, rfl, ho⟩, hl⟩

section
variable {prog : Program} {w : World} {A : Around} {E : Value → Shared → Prop} {s : Shared} {K : PySem.W.Frag} {x dx C f : Addr} {mA : Str → Option Value} {name : Str} {v : Value}

theorem get_map {expr : Bool} {Q : Value → Shared → Prop} (X : K.In s.heap) (I : ObjM s.heap x dx C mA) (hg : PySem.W.plainGet K C name = true) (hh : PySem.W.hasDictIn K C = true)
    (ha : PySem.W.findIn K (.ref C) name = some none) (hv : mA name = some v) (hv' : PySem.W.handedIn v = true) (h : Q v { s with toks := s.toks + 1 }) :
    wpAny (model prog w) A (getAttr (.ref x) name expr) Q E s := by
  obtain ⟨od, J, hl⟩ := I.look
  exact PySem.W.get_value X J (PySem.W.plainGet_of hg).1 (PySem.W.findObj_own hh ha rfl (by rw [hl, hv])) hv' h


theorem get_meth {pl : Sem Bool} {Q : Value × List Value → Shared → Prop} (X : K.In s.heap) (I : ObjM s.heap x dx C mA) (hg : PySem.W.plainGet K C name = true)
    (hf : PySem.W.findIn K (.ref C) name = some (some (.ref f))) (ht : PySem.W.isFn K (.ref f) = true) (hv : mA name = none) (h : Q (.ref f, [.ref x]) s) :
    wpAny (model prog w) A (getMethod (.ref x) name pl) Q E s := by
  obtain ⟨od, J, hl⟩ := I.look
  exact PySem.W.method_fn X J (PySem.W.plainGet_of hg).1 (PySem.W.plainGet_of hg).2 hf (beq_iff_eq.mp ht) (by show (PySem.W.lookIn name od).map (·.isSome) = some false; rw [hl, hv]; rfl) h

theorem set_map {ns : List Str} {Q : Unit → Shared → Prop} (X : K.In s.heap) (I : ObjM s.heap x dx C mA)
    (hs : PySem.W.findIn K (.ref C) "__setattr__" = some (some (.builtin "object.__setattr__"))) (hp : PySem.W.plainOver K C = true) (ht : PySem.W.takerIn K C name = some none) (hh : PySem.W.hasDictIn K C = true)
    (hw : PySem.Within mA ns) (hsz : ns.length ≤ sizeLine)
    (h : ∀ h', ObjM h' x dx C (fun y => if y = name then some v else mA y) → Heap.SameBut dx s.heap h' → Q () { s with heap := h', toks := s.toks + 2 }) :
    wpAny (model prog w) A (setAttr (.ref x) name v) Q E s := by
  obtain ⟨od, J, hl⟩ := I.look
  refine PySem.W.set_plain X J hs (PySem.W.osa_open (s := { s with toks := s.toks + 1 }) (r := none) X J hp ht fun b => ?_)
  obtain ⟨cd, hc, hd'⟩ := PySem.W.any_some hh
  have hx : s.heap.get? x = some ⟨.ref C, some dx, .plain, #[]⟩ := I.obj
  refine wpAny_bind (wpAny_pure (wpAny_bind (wpAny_bind (wpAny_loadPart hx (wpAny_bind (PySem.W.Looks.here (s := { s with toks := s.toks + 1 }) (PySem.W.looks_clsIn X hc) ?_))))))
  rw [hd']
  refine wpAny_pure (a := some dx) (wpAny_bind (wpAny_pure (wpAny_bind ?_)))
  refine wpAny_nsSet1 (s := { s with toks := s.toks + 1 }) I.ns fun h' hn2 hs2 => ?_
  obtain ⟨oD, esD, epD, hoD, hdD, hcD⟩ := hn2.count (PySem.Within.cons name v hw)
  refine wpAny_bind (wpAny_lookBehind hoD (by rw [hdD]; exact pastItsLine_dict (Nat.le_trans hcD (by rw [List.length_cons]; omega))) ?_)
  exact wpAny_pure (h _ ⟨(hs2.2 _ (Ne.symm I.ne)).trans I.obj, hn2, I.ne⟩ hs2)

/-- C(..): the dict at the heap's end, the instance behind it; then its __init__ -/
theorem make_map {R : Result → Shared → Prop} {vs : List Value} {kw : List (Str × Value)} (X : K.In s.heap) (hm : PySem.W.makesIn K C = true)
    (hi : PySem.W.findIn K (.ref C) "__init__" = some (some (.ref f))) (hf : PySem.W.typeIn K (.ref f) = some (.type "function"))
    (h : codeAny (model prog w) (A.under (.builtin "type.__call__" ⟨.ref C :: vs, kw⟩)) (.call (.ref f) ⟨.ref (s.heap.objs.size + 1) :: vs, kw⟩) (PySem.W.InitBack (s.heap.objs.size + 1) R)
      { s with heap := (s.heap.push PySem.W.emptyDict).push (PySem.W.instObj C s.heap.objs.size) }) :
    codeAny (model prog w) A (.call (.ref C) ⟨vs, kw⟩) R s := by
  obtain ⟨hh, g, d, t, os⟩ := s
  exact PySem.W.make_core (PySem.W.makes_of X hm) (PySem.W.looks_findIn X hi) (fun self => PySem.W.bind_fn X self hf) (.inl rfl) h
end

/-! ### the attributes as a list of pairs -/
def putF (f : Str) (v : V) : List (Str × V) → List (Str × V)
  | [] => [(f, v)]
  | (g, x) :: r => if g = f then (g, v) :: r else (g, x) :: putF f v r
theorem lookup_putF (f g : Str) (v : V) : ∀ fs : List (Str × V), (putF f v fs).lookup g = if g = f then some v else fs.lookup g
  | [] => by
    show List.lookup g [(f, v)] = _
    by_cases h : g = f
    · have hb : (g == f) = true := beq_iff_eq.mpr h
      simp only [List.lookup, hb, if_pos h]
    · have hb : (g == f) = false := beq_eq_false_iff_ne.mpr h
      simp only [List.lookup, hb, if_neg h]
  | (k, x) :: r => by
    have ih := lookup_putF f g v r
    rw [show putF f v ((k, x) :: r) = (if k = f then (k, v) :: r else (k, x) :: putF f v r) from rfl]
    by_cases hk : k = f
    · rw [if_pos hk]
      by_cases h : g = k
      · have hb : (g == k) = true := beq_iff_eq.mpr h
        simp only [List.lookup, hb, if_pos (h.trans hk)]
      · have hb : (g == k) = false := beq_eq_false_iff_ne.mpr h
        simp only [List.lookup, hb, if_neg (fun e : g = f => h (e.trans hk.symm))]
    · rw [if_neg hk]
      by_cases h : g = k
      · have hb : (g == k) = true := beq_iff_eq.mpr h
        simp only [List.lookup, hb, if_neg (fun e : g = f => hk (h.symm.trans e))]
      · have hb : (g == k) = false := beq_eq_false_iff_ne.mpr h
        simp only [List.lookup, hb]
        exact ih
theorem keys_putF (f : Str) (v : V) : ∀ fs : List (Str × V), f ∈ (putF f v fs).map (·.1) ∧ ∀ g, g ∈ fs.map (·.1) → g ∈ (putF f v fs).map (·.1)
  | [] => ⟨by simp [putF], fun g h => by simp at h⟩
  | (k, x) :: r => by
    obtain ⟨i1, i2⟩ := keys_putF f v r
    rw [show putF f v ((k, x) :: r) = (if k = f then (k, v) :: r else (k, x) :: putF f v r) from rfl]
    by_cases hk : k = f
    · rw [if_pos hk]
      subst hk
      exact ⟨by simp, fun g h => by simpa using h⟩
    · rw [if_neg hk]
      refine ⟨?_, fun g h => ?_⟩
      · rw [List.map_cons]
        exact List.mem_cons_of_mem _ i1
      · rw [List.map_cons] at h ⊢
        rcases List.mem_cons.mp h with e | e
        · exact List.mem_cons.mpr (.inl e)
        · exact List.mem_cons_of_mem _ (i2 g e)
theorem length_putF (f : Str) (v : V) : ∀ fs : List (Str × V), (putF f v fs).length ≤ fs.length + 1
  | [] => by simp [putF]
  | (k, x) :: r => by
    have ih := length_putF f v r
    rw [show putF f v ((k, x) :: r) = (if k = f then (k, v) :: r else (k, x) :: putF f v r) from rfl]
    by_cases hk : k = f
    · rw [if_pos hk, List.length_cons, List.length_cons]; omega
    · rw [if_neg hk, List.length_cons, List.length_cons]; omega

theorem RelO.some_of {v : V} {o : Option Value} (r : RelO (some v) o) : ∃ u, o = some u ∧ RelV v u := by
  cases o with
  | none => exact (show False from r).elim
  | some u => exact ⟨u, rfl, r⟩
theorem RelO.none_of {o : Option Value} (r : RelO none o) : o = none := by
  cases o with
  | none => rfl
  | some u => exact (show False from r).elim
theorem handed_of {v : V} {u : Value} (r : RelV v u) : PySem.W.handedIn u = true := by
  cases v with
  | non => cases (show u = Value.none from r); rfl
  | bl b => cases (show u = Value.bool b from r); rfl
  | int i => obtain ⟨t, e⟩ := (show ∃ t, u = Value.int i t from r); cases e; rfl
  | str x => obtain ⟨t, e⟩ := (show ∃ t, u = Value.str x t from r); cases e; rfl
  | byt b => obtain ⟨t, e⟩ := (show ∃ t, u = Value.bytes b t from r); cases e; rfl
  | flt b => obtain ⟨t, e⟩ := (show ∃ t, u = Value.float b t from r); cases e; rfl
  | ref a => cases (show u = Value.ref a from r); rfl
  | ty n => cases (show u = Value.type n from r); rfl

section
variable {P : Program} {w : World} {H H' : Hp} {h h' : Heap} {a C dx : Addr} {fs fs' : List (Str × V)}
theorem ins_get (hok : HOk P w H h) (e : H a = some (.ins C dx fs)) : ∃ mA, ObjM h a dx C mA ∧ (∀ f, RelO (fs.lookup f) (mA f)) ∧ PySem.Within mA (fs.map (·.1)) ∧ fs.length ≤ 1000 ∧ H dx = some (.own a) := by
  obtain ⟨d, z, ne, ob, mA, n, r, q⟩ := (show ObjOk P w H h a (.ins C dx fs) from hok a _ e)
  exact ⟨mA, ⟨ob, n, ne⟩, r, q, z, d⟩
end

/-! ### what of the text a class must have -/
structure Cls (K : PySem.W.Frag) (C : Addr) : Prop where
  pg : PySem.W.plainGet K C Str.empty = true
  hd : PySem.W.hasDictIn K C = true
  po : PySem.W.plainOver K C = true
  sa : PySem.W.findIn K (.ref C) "__setattr__" = some (some (.builtin "object.__setattr__"))
theorem Cls.get {K : PySem.W.Frag} {C : Addr} (c : Cls K C) (f : Str) : PySem.W.plainGet K C f = true := c.pg
/-- no class of it has the name -/
def NoAttr (K : PySem.W.Frag) (C : Addr) (f : Str) : Prop := PySem.W.findIn K (.ref C) f = some none
theorem NoAttr.taker {K : PySem.W.Frag} {C : Addr} {f : Str} (n : NoAttr K C f) : PySem.W.takerIn K C f = some none := by
  unfold PySem.W.takerIn
  rw [show PySem.W.findIn K (.ref C) f = some none from n]
  rfl
/-- a method: a plain def of the class or of one above it -/
structure Meth (K : PySem.W.Frag) (C : Addr) (m : Str) (f : Addr) : Prop where
  at_ : PySem.W.findIn K (.ref C) m = some (some (.ref f))
  fn : PySem.W.isFn K (.ref f) = true
  kp : PySem.W.keepIn K (.ref f) = true

section
variable {X : Cx} {pins : List (Addr × Obj)} {σ : St} {H : Hp} {s : Shared} {a C dx : Addr} {fs : List (Str × V)} {f : Str} {v : V} {A : Around} {E : Value → Shared → Prop}

theorem getattr_ok {b : Bool} {Q : Value → Shared → Prop} (I : Inv X pins σ H s) (e : H a = some (.ins C dx fs)) (c : Cls X.K C) (n : NoAttr X.K C f) (l : fs.lookup f = some v)
    (h : ∀ u s', Inv X pins σ H s' → RelV v u → Q u s') : wpAny (model X.prog X.w) A (getAttr (.ref a) f b) Q E s := by
  obtain ⟨mA, O, r, _, _, _⟩ := ins_get I.hok e
  obtain ⟨u, hu, ru⟩ := RelO.some_of (v := v) (o := mA f) (by rw [← l]; exact r f)
  exact get_map I.kIn O (c.get f) c.hd n hu (handed_of ru) (h u _ (I.tok _) ru)


theorem getmeth_ok {m : Str} {g : Addr} {pl : Sem Bool} {Q : Value × List Value → Shared → Prop} (I : Inv X pins σ H s) (e : H a = some (.ins C dx fs)) (c : Cls X.K C) (k : Meth X.K C m g) (l : fs.lookup m = none)
    (h : Q (.ref g, [.ref a]) s) : wpAny (model X.prog X.w) A (getMethod (.ref a) m pl) Q E s := by
  obtain ⟨mA, O, r, _, _, _⟩ := ins_get I.hok e
  have hn : mA m = none := RelO.none_of (by rw [← l]; exact r m)
  exact get_meth I.kIn O (c.get m) k.at_ k.fn hn h

theorem setattr_ok {y : V} {u : Value} {Q : Unit → Shared → Prop} (I : Inv X pins σ H s) (e : H a = some (.ins C dx fs)) (c : Cls X.K C) (n : NoAttr X.K C f) (hl : fs.length < 1000) (ry : RelV y u)
    (h : ∀ s', Inv X pins σ (upd H a (.ins C dx (putF f y fs))) s' → Q () s') : wpAny (model X.prog X.w) A (setAttr (.ref a) f u) Q E s := by
  obtain ⟨mA, O, r, wi, _, ho⟩ := ins_get I.hok e
  have hz : (fs.map (·.1)).length ≤ sizeLine := by rw [List.length_map, sizeLine_eq]; omega
  refine set_map I.kIn O c.sa c.po n.taker c.hd wi hz fun h' O' sb => h _ ?_
  have hd : ∃ o, h'.get? dx = some o := let ⟨o, _, _, e', _⟩ := O'.ns; ⟨o, e'⟩
  refine I.write (x := a) (e := dx) (by rw [e]; exact True.intro) (.inr ho) (fun b q hb z => (sb.2 b hb).trans z) hd ?_
  refine ⟨by rw [upd_ne O.ne]; exact ho, ?_, O.ne, O'.obj, _, O'.ns, fun g => ?_, fun g hg => ?_⟩
  · have := length_putF f y fs; omega
  · show RelO ((putF f y fs).lookup g) (if g = f then some u else mA g)
    rw [lookup_putF]
    by_cases q : g = f
    · rw [if_pos q, if_pos q]; exact ry
    · rw [if_neg q, if_neg q]; exact r g
  · by_cases q : g = f
    · rw [q]; exact (keys_putF f y fs).1
    · refine (keys_putF f y fs).2 g (wi g fun z => hg ?_)
      show (if g = f then some u else mA g) = none
      rw [if_neg q]; exact z

/-- a new instance, tracked, without attributes -/
theorem Inv.made (I : Inv X pins σ H s) : Inv X pins σ (upd (upd H s.heap.objs.size (.own (s.heap.objs.size + 1))) (s.heap.objs.size + 1) (.ins C s.heap.objs.size []))
    { s with heap := (s.heap.push PySem.W.emptyDict).push (PySem.W.instObj C s.heap.objs.size) } := by
  have e1 : (s.heap.push PySem.W.emptyDict).get? s.heap.objs.size = some PySem.W.emptyDict := Heap.get?_push_size s.heap rfl
  have e2 : ((s.heap.push PySem.W.emptyDict).push (PySem.W.instObj C s.heap.objs.size)).get? (s.heap.objs.size + 1) = some (PySem.W.instObj C s.heap.objs.size) := by
    have := Heap.get?_push_size (s.heap.push PySem.W.emptyDict) (o := PySem.W.instObj C s.heap.objs.size) rfl
    rwa [Heap.size_push] at this
  have e3 : (s.heap.push PySem.W.emptyDict).Ns s.heap.objs.size (fun _ => none) := ⟨PySem.W.emptyDict, #[], _, e1, rfl, (fun e he => absurd he (by simp)), fun _ => rfl⟩
  have I1 := I.laid (a := s.heap.objs.size) (o := .own (s.heap.objs.size + 1)) (h' := s.heap.push PySem.W.emptyDict) (t' := s.toks) (fun b u q => Heap.get?_push_of_some _ q) (Nat.le_refl _) ⟨_, e1⟩
  refine I1.laid (a := s.heap.objs.size + 1) (o := .ins C s.heap.objs.size []) (t' := s.toks) (fun b u q => Heap.get?_push_of_some _ q) (Nat.le_of_eq (Heap.size_push _ _)) ?_
  have ne : s.heap.objs.size ≠ s.heap.objs.size + 1 := Nat.ne_of_lt (Nat.lt_succ_self _)
  refine ⟨by rw [upd_ne ne, upd_same], Nat.zero_le _, ne, e2, fun _ => none, (Heap.Ns1.of_empty e3).at fun o q => Heap.get?_push_of_some _ q, fun _ => True.intro, fun y hy => absurd rfl hy⟩

/-- e.f where nothing but the object is asked: through attributeBase (super) and the last hold -/
theorem attr_of {prog : Program} {w : World} {env : Env} {e : Expr} {f : Str} {pos : Pos} {s : Shared} {Q : Value → Shared → Prop} (hb : attributeBase e f env (eval e env) = eval e env)
    (h : wpAny (model prog w) A (eval e env) (fun o s₁ => wpAny (model prog w) A (getAttr o f true) Q E s₁) E s) : wpAny (model prog w) A (eval (.Attribute e f pos) env) Q E s :=
  Attribute_any_ h (by rw [arm_eval_Attribute, hb])
end

/-! ### readings and rules -/
/-- e.f, an attribute of the instance -/
def tFld (K : PySem.W.Frag) (ta : TE) (f : Str) : TE := fun σ H Q => ta σ H fun x H1 => ∃ a C dx fs v, x = .ref a ∧ H1 a = some (.ins C dx fs) ∧ Cls K C ∧ NoAttr K C f ∧ fs.lookup f = some v ∧ Q v H1
/-- e.f = value -/
def sFld (K : PySem.W.Frag) (ta tv : TE) (f : Str) : TS := fun D σ H => tv σ H fun y H1 => ta σ H1 fun x H2 => ∃ a C dx fs, x = .ref a ∧ H2 a = some (.ins C dx fs) ∧ Cls K C ∧ NoAttr K C f ∧ fs.length < 1000 ∧
  D.nx σ (upd H2 a (.ins C dx (putF f y fs)))
/-- an augmented operator on two values -/
def InOp (X : Cx) (op : Operator) (rd : V → V → Hp → VK → Prop) : Prop :=
  ∀ (pins : List (Addr × Obj)) (s : Shared) (σ : St) (H : Hp) (x y : V) (u v : Value) (Q : VK), Inv X pins σ H s → RelV x u → RelV y v → rd x y H Q → wpAny (model X.prog X.w) X.A (inplaceOp op u v) (EP X pins σ Q) X.xe s
/-- e.f op= value -/
def sFldAug (K : PySem.W.Frag) (ta tv : TE) (rd : V → V → Hp → VK → Prop) (f : Str) : TS := fun D σ H => ta σ H fun x H1 => ∃ a C dx fs v, x = .ref a ∧ H1 a = some (.ins C dx fs) ∧ Cls K C ∧ NoAttr K C f ∧ fs.lookup f = some v ∧
  tv σ H1 fun y H2 => rd v y H2 fun z H3 => ∃ dx' fs', H3 a = some (.ins C dx' fs') ∧ fs'.length < 1000 ∧ D.nx σ (upd H3 a (.ins C dx' (putF f z fs')))

section
variable {X : Cx} {o e value : Expr} {f : Str} {pos pos' tpos : Pos} {ta tv : TE}
theorem pe_fld (he : PE X e ta) (hb : attributeBase e f X.env (eval e X.env) = eval e X.env) : PE X (.Attribute e f pos) (tFld X.K ta f) := by
  intro pins s σ H Q I h
  refine attr_of hb (thn (he pins s σ H _ I h) fun u s1 ⟨x, H1, I1, rx, a, C, dx, fs, v, ex, ea, c, n, l, q⟩ => ?_)
  subst ex
  obtain rfl : u = Value.ref a := rx
  exact getattr_ok I1 ea c n l fun u' s2 I2 ru => ⟨v, H1, I2, ru, q⟩
theorem ps_fld (ha : PE X o ta) (hv : PE X value tv) (hs : swapsWith value (some (.Attribute o f pos')) pos.line X.env = pure false) : PS X (.Assign [.Attribute o f pos'] value pos) (sFld X.K ta tv f) := by
  intro pins s σ H D I h
  refine plainObj_wpAny_Assign_Attribute (thn (hv pins s σ H _ I h) fun u s1 ⟨y, H1, I1, ry, q⟩ => thn (ha pins s1 σ H1 _ I1 q) fun ov s2 ⟨x, H2, I2, rx, a, C, dx, fs, ex, ea, c, n, l, q2⟩ => ?_) hs
  subst ex
  obtain rfl : ov = Value.ref a := rx
  exact setattr_ok I2 ea c n l ry fun s3 I3 => ⟨σ, _, I3, q2⟩
theorem ps_fldaug {op : Operator} {rd : V → V → Hp → VK → Prop} (ha : PE X o ta) (hv : PE X value tv) (hop : InOp X op rd) : PS X (.AugAssign (.Attribute o f tpos) op value pos) (sFldAug X.K ta tv rd f) := by
  intro pins s σ H D I h
  refine wpAny_AugAssign_AttributeAny (thn (ha pins s σ H _ I h) fun ov s1 ⟨x, H1, I1, rx, a, C, dx, fs, v, ex, ea, c, n, l, q⟩ => ?_)
  subst ex
  obtain rfl : ov = Value.ref a := rx
  refine getattr_ok I1 ea c n l fun u s2 I2 ru => thn (hv pins s2 σ H1 _ I2 q) fun w3 s3 ⟨y, H2, I3, ry, q3⟩ => thn (hop pins s3 σ H2 v y u w3 _ I3 ru ry q3) fun w4 s4 ⟨z, H3, I4, rz, dx', fs', ea', l', q4⟩ => ?_
  exact setattr_ok I4 ea' c n l' rz fun s5 I5 => ⟨σ, _, I5, q4⟩
def rAdd : V → V → Hp → VK → Prop := fun x y H Q => ∃ i j, x = .int i ∧ y = .int j ∧ Q (.int (i + j)) H
theorem in_add : InOp X .Add rAdd := by
  rintro pins s σ H x y u v Q I rx ry ⟨i, j, rfl, rfl, q⟩
  obtain ⟨t, rfl⟩ := (show ∃ t, u = Value.int i t from rx)
  obtain ⟨t', rfl⟩ := (show ∃ t', v = Value.int j t' from ry)
  exact PyProof.Rows.iadd_int ⟨.int (i + j), H, I.tok _, ⟨_, rfl⟩, q⟩

/-- what is between an instance and its method: the tree of a method call -/
theorem methcall_of {pl : Sem Bool} {m : Str} {apos : Pos} {args : List Expr} {pins : List (Addr × Obj)} {s : Shared} {σ : St} {H : Hp} {Q : Value → Shared → Prop} {te : TE} (he : PE X e te) (I : Inv X pins σ H s)
    (h : te σ H fun x H1 => ∃ a C dx fs g, x = .ref a ∧ H1 a = some (.ins C dx fs) ∧ Cls X.K C ∧ Meth X.K C m g ∧ fs.lookup m = none ∧
      ∀ s1, Inv X pins σ H1 s1 → wpAny (model X.prog X.w) X.A (callWith pos (.ref g) [.ref a] (backTo pos (starEach args X.env)) (backToKw pos (keywordEach [] X.env))) Q X.xe s1)
    (ht : eval (.Call (.Attribute e m apos) args [] pos) X.env = (do
      let ov ← eval e X.env
      standAt apos.atName
      let (f, first) ← holding [ov] (getMethod ov m pl)
      callWith pos f first (backTo pos (starEach args X.env)) (backToKw pos (keywordEach [] X.env)))) :
    wpAny (model X.prog X.w) X.A (eval (.Call (.Attribute e m apos) args [] pos) X.env) Q X.xe s := by
  refine PySem.W.methodCall_KW (pl := pl) (thn (he pins s σ H _ I h) fun u s1 ⟨x, H1, I1, rx, a, C, dx, fs, g, ex, ea, c, k, l, q⟩ => ?_) ht
  subst ex
  obtain rfl : u = Value.ref a := rx
  exact getmeth_ok I1 ea c k l (q s1 I1)
end

/-! ### isinstance -/
end L2

namespace L2
open PySem PySem.Spec PyProof.Rows

/-! ### room -/
structure Room (k : Nat) (A : Around) : Prop where
  hd : A.handled = none
  dp : A.depth + 3 * k + 5 < recursionLimit
  un : A.units + 16 * k + 200 < cLine
theorem Room.mono {j k : Nat} {A : Around} (r : Room k A) (h : j ≤ k) : Room j A := ⟨r.hd, by have := r.dp; omega, by have := r.un; omega⟩
theorem Room.deeper {k : Nat} {A : Around} (r : Room (k + 1) A) (env : Env) : Room k (A.deeper env) :=
  ⟨r.hd, by have := r.dp; show A.depth + 1 + 3 * k + 5 < _; omega, by have := r.un; show A.units + 3 + 16 * k + 200 < _; omega⟩
theorem make_depth {A : Around} {C : Addr} {us : List Value} {kw : List (Str × Value)} : (A.under (.builtin "type.__call__" ⟨.ref C :: us, kw⟩)).depth = A.depth + 1 := by
  first | rfl | simp [Around.under, Code.weight, Code.isCreation, Code.isGuard, Code.isCaller, Code.frames, Code.isFrame, guardIds]
theorem make_units {A : Around} {C : Addr} {us : List Value} {kw : List (Str × Value)} : (A.under (.builtin "type.__call__" ⟨.ref C :: us, kw⟩)).units = A.units + 1 := by
  first | rfl | simp [Around.under, Code.cUnits, Code.frames, Code.isFrame]
theorem Room.make {k : Nat} {A : Around} (r : Room (k + 1) A) (C : Addr) (us : List Value) (kw : List (Str × Value)) : Room k (A.under (.builtin "type.__call__" ⟨.ref C :: us, kw⟩)) :=
  ⟨r.hd, by have := r.dp; rw [make_depth]; omega, by have := r.un; rw [make_units]; omega⟩
theorem Room.depth {k : Nat} {A : Around} (r : Room k A) : A.depth < recursionLimit := by have := r.dp; omega
theorem Room.units {k : Nat} {A : Around} (r : Room k A) : A.units + 64 < cLine := by have := r.un; omega

/-! ### argument lists and displays -/
def tNil : TA := fun _ H Q => Q [] H
def tCons (ta : TE) (tr : TA) : TA := fun σ H Q => ta σ H fun x H1 => tr σ H1 fun xs H2 => Q (x :: xs) H2
section
variable {X : Cx} {e : Expr} {es : List Expr} {te : TE} {t : TA} {pos : Pos}
theorem pa_nil : PA X [] tNil := fun _ _ _ _ H Q I h => Calls.spliced_nil ⟨[], H, I, .nil, h⟩
theorem pa_cons (ha : PE X e te) (hr : PA X es t) (hs : starEach (e :: es) X.env = (false, eval e X.env) :: starEach es X.env := by rfl) : PA X (e :: es) (tCons te t) := by
  intro pos pins s σ H Q I h
  rw [hs]
  show wpAny _ _ (spliced ((false, eval e X.env) :: backTo pos (starEach es X.env))) _ _ s
  refine Calls.spliced_cons (thn (ha pins s σ H _ I h) fun u s1 ⟨x, H1, I1, r1, q1⟩ => ?_)
  exact thn (hr pos pins s1 σ H1 _ I1 q1) fun us s2 ⟨xs, H2, I2, r2, q2⟩ => ⟨x :: xs, H2, I2, .cons r1 r2, q2⟩

/-- a tuple, a list of written items -/
def tTup (t : TA) : TE := fun σ H Q => t σ H fun xs H1 => xs.length ≤ sizeLine ∧ ∀ p, H1 p = none → Q (.ref p) (upd H1 p (.tup xs))
def tLst (t : TA) : TE := fun σ H Q => t σ H fun xs H1 => xs.length ≤ sizeLine ∧ ∀ p, H1 p = none → Q (.ref p) (upd H1 p (.lst xs))
theorem pe_tup {x1} (h : PA X es t) : PE X (.Tuple es x1 pos) (tTup t) := by
  intro pins s σ H Q I hq
  refine wpAny_Tuple_spliced (thn (h pos pins s σ H _ I hq) fun us s1 ⟨xs, H1, I1, r, z, q⟩ => ⟨by rw [← r.length]; exact z, ?_⟩)
  have hf : H1 s1.heap.objs.size = none := I1.hok.fresh (Nat.le_refl _)
  refine ⟨.ref s1.heap.objs.size, upd H1 s1.heap.objs.size (.tup xs), I1.laid (t' := s1.toks) (fun b u e => Heap.get?_push_of_some _ e) (Nat.le_refl _) ?_, rfl, q _ hf⟩
  exact ⟨z, us, r, ⟨_, Heap.get?_push_size _ rfl, rfl, _, rfl⟩⟩
theorem pe_lst (h : PA X es t) : PE X (.List es pos) (tLst t) := by
  intro pins s σ H Q I hq
  refine wpAny_List_spliced (thn (h pos pins s σ H _ I hq) fun us s1 ⟨xs, H1, I1, r, z, q⟩ => ⟨by rw [← r.length]; exact z, ?_⟩)
  have hf : H1 s1.heap.objs.size = none := I1.hok.fresh (Nat.le_refl _)
  refine ⟨.ref s1.heap.objs.size, upd H1 s1.heap.objs.size (.lst xs), I1.laid (t' := s1.toks) (fun b u e => Heap.get?_push_of_some _ e) (Nat.le_refl _) ?_, rfl, q _ hf⟩
  exact ⟨z, us, 0, r, Heap.get?_push_size _ rfl⟩
end

/-! ### what a def promises -/
/-- a def's promise: the bound arguments in the parameters' order, the heap, the wanted end, the wanted exception -/
abbrev Sp := List V → Hp → VK → XK → Prop
/-- how an exception lies behind a call (file 08 gives it): the callers' frames, abstract heap and state ahead of the call, the wish, the exception, the state -/
abbrev CXT := List Env → Hp → Shared → XK → Value → Shared → Prop

/-- the state at a call -/
structure Env0 (P : Program) (w : World) (K : PySem.W.Frag) (mg : Str → Option Value) (base : Heap) (A : Around) (outer : List Env) (s : Shared) (H : Hp) : Prop where
  frames : A.frames = some outer
  mod : Mod K mg base
  bs : ∀ b o, base.get? b = some o → s.heap.get? b = some o ∧ H b = none
  bsz : base.objs.size ≤ s.heap.objs.size
  funs : s.heap.FunFrames base outer
  frf : ∀ b ∈ frs outer, H b = none
  hok : HOk P w H s.heap
  bare : AllBare s.gens
/-- a call's end -/
def CE (outer : List Env) (P : Program) (w : World) (H : Hp) (s : Shared) (Q : VK) (u : Value) (s' : Shared) : Prop :=
  ∃ v H', s'.os = s.os ∧ AllBare s'.gens ∧ Un (frs outer) [] H H' s.heap s'.heap ∧ HOk P w H' s'.heap ∧ RelV v u ∧ Q v H'
def CR (CX : CXT) (outer : List Env) (P : Program) (w : World) (H : Hp) (s : Shared) (Q : VK) (E : XK) (r : Result) (s' : Shared) : Prop :=
  match r with
  | .ok (.ret u) => CE outer P w H s Q u s'
  | .ok _ => False
  | .error e => CX outer H s E e s'
structure FnOk (P : Program) (w : World) (K : PySem.W.Frag) (mg : Str → Option Value) (base : Heap) (CX : CXT) (k : Nat) (f : Addr) (fd : FuncData) (ps : List Str) (sp : Sp) : Prop where
  len : ∀ vs H Q E, sp vs H Q E → vs.length = ps.length
  run : ∀ (A : Around) (outer : List Env) (s : Shared) (H : Hp) (args : Args) (us : List Value) (vs : List V) (Q : VK) (E : XK), Room k A → Env0 P w K mg base A outer s H → BindsTo s fd args (ps.zip us) → Vals vs us → sp vs H Q E →
    codeAny (model P w) A (.call (.ref f) args) (CR CX outer P w H s Q E) s

theorem Env0.make {P : Program} {w : World} {K : PySem.W.Frag} {mg : Str → Option Value} {base : Heap} {A : Around} {outer : List Env} {s : Shared} {H : Hp} (e : Env0 P w K mg base A outer s H) (C : Addr) (us : List Value) (kw : List (Str × Value)) :
    Env0 P w K mg base (A.under (.builtin "type.__call__" ⟨.ref C :: us, kw⟩)) outer s H := ⟨by first | exact e.frames | (simpa [Around.under, Code.envs, Code.isFrame, pushEnvs] using e.frames), e.mod, e.bs, e.bsz, e.funs, e.frf, e.hok, e.bare⟩

section
variable {X : Cx} {pins : List (Addr × Obj)} {σ : St} {H : Hp} {s s' : Shared}
/-- from a body: what a callee wants -/
theorem Inv.env0 (I : Inv X pins σ H s) : Env0 X.prog X.w X.K X.mg X.base X.A X.stack s H :=
  ⟨I.ok.frames, I.ok.mod, I.bs, Nat.le_trans I.ok.bsz I.sz, I.stack, I.stkFree, I.hok, I.bare⟩
/-- behind a call -/
theorem Inv.after {Q : VK} {u : Value} (I : Inv X pins σ H s) (h : CE X.stack X.prog X.w H s Q u s') : EP X pins σ Q u s' := by
  obtain ⟨v, H', os, bare, un, hok, r, q⟩ := h
  obtain ⟨hh, g, d, t, os'⟩ := s'
  obtain rfl : os' = s.os := os
  exact ⟨v, H', I.call (h' := hh) (g' := g) (d' := d) (t' := t) (ch := []) un hok bare (fun b z => absurd z (by simp)), r, q⟩
end

/-! ### calls -/
/-- f(..): the written arguments, then the defaults dvs; E: what is wanted of an exception -/
def tCall (sp : Sp) (dvs : List V) (E : XK) (t : TA) : TE := fun σ H Q => t σ H fun vs H1 => sp (vs ++ dvs) H1 Q E
/-- o.m(..) of an instance of the class at C -/
def tMeth (C : Addr) (m : Str) (sp : Sp) (dvs : List V) (E : XK) (ta : TE) (t : TA) : TE := fun σ H Q => ta σ H fun x H1 => ∃ a dx fs, x = .ref a ∧ H1 a = some (.ins C dx fs) ∧ fs.lookup m = none ∧
  t σ H1 fun vs H2 => sp (x :: (vs ++ dvs)) H2 Q E
/-- C(..): a new instance and its dict, then __init__ -/
def tMake (C : Addr) (sp : Sp) (dvs : List V) (E : XK) (t : TA) : TE := fun σ H Q => t σ H fun vs H1 => ∀ x dx, H1 x = none → H1 dx = none → dx ≠ x →
  sp (.ref x :: (vs ++ dvs)) (upd (upd H1 dx (.own x)) x (.ins C dx [])) (fun v H2 => v = .non ∧ Q (.ref x) H2) E

/-- how the parameters are bound: us the positional arguments, kw the keywords' values by name, ds the defaults that fill up -/
def Binds (K : PySem.W.Frag) (fd : FuncData) (ps : List Str) (ds : List Value) : Prop :=
  ∀ (s : Shared) (us : List Value), K.In s.heap → (us ++ ds).length = ps.length → BindsTo s fd ⟨us, []⟩ (ps.zip (us ++ ds))
/-- every parameter is given -/
theorem Binds.all {K : PySem.W.Frag} {fd : FuncData} {ps : List Str} (h : ∀ us : List Value, us.length = ps.length → bindArgs fd ⟨us, []⟩ = pure (ps.zip us)) : Binds K fd ps [] := fun s us _ hl => by
  rw [List.append_nil] at hl ⊢
  exact .of_eq (h us hl)

/-- an exception of a callee reaches what this body wants of exceptions -/
def Passes (CX : CXT) (X : Cx) (E : XK) : Prop := ∀ (pins : List (Addr × Obj)) (σ : St) (H : Hp) (s : Shared) (e : Value) (s' : Shared), Inv X pins σ H s → CX X.stack H s E e s' → X.xe e s'

section
variable {X : Cx} {CX : CXT} {k : Nat} {f C : Addr} {fd : FuncData} {ps : List Str} {sp : Sp} {dvs : List V} {ds : List Value} {E : XK} {x m : Str} {p pos apos : Pos} {e o : Expr} {es : List Expr} {ta : TE} {t : TA}

/-- the callee runs -/
theorem run_fn {pins : List (Addr × Obj)} {σ : St} {H : Hp} {s : Shared} {Q : VK} {us : List Value} {vs : List V} (F : FnOk X.prog X.w X.K X.mg X.base CX k f fd ps sp) (hr : Room k X.A) (hb : Binds X.K fd ps ds) (hd : Vals dvs ds) (hx : Passes CX X E)
    (I : Inv X pins σ H s) (r : Vals vs us) (h : sp (vs ++ dvs) H Q E) : wpAny (model X.prog X.w) X.A (call (.ref f) us) (EP X pins σ Q) X.xe s := by
  have r2 : Vals (vs ++ dvs) (us ++ ds) := r.append hd
  have hl : (us ++ ds).length = ps.length := by rw [← r2.length]; exact F.len _ _ _ _ h
  refine wpAny_call (codeAny_mono (F.run X.A X.stack s H ⟨us, []⟩ (us ++ ds) (vs ++ dvs) Q E hr I.env0 (hb s us I.kIn hl) r2 h) fun r s' hq => ?_)
  cases r with
  | error e => exact hx pins σ H s e s' I hq
  | ok fl =>
    cases fl with
    | ret u => exact I.after hq
    | next => exact False.elim hq
    | brk => exact False.elim hq
    | cont => exact False.elim hq

theorem pe_call (F : FnOk X.prog X.w X.K X.mg X.base CX k f fd ps sp) (hr : Room k X.A) (hg : Gl X x) (hm : X.mg x = some (.ref f)) (hk : PySem.W.keepIn X.K (.ref f) = true) (hb : Binds X.K fd ps ds) (hd : Vals dvs ds) (hx : Passes CX X E)
    (ha : PA X (e :: es) t) (hdb : (x == ("__debug__" : Str)) = false := by decide) (he : starEach (e :: es) X.env = (false, eval e X.env) :: starEach es X.env := by rfl) (hpl : (backTo pos (starEach es X.env)).any (·.1) = false := by rfl) :
    PE X (.Call (.Name x p) (e :: es) [] pos) (tCall sp dvs E t) := by
  intro pins s σ H Q I h
  refine wpAny_Call_Name_kw (ld_glob I hg hm ?_ hdb)
  refine PySem.W.callWith_K (h₀ := X.base) I.ok.mod.kin hk (thn (ha pos pins s σ H _ I h) fun us s1 ⟨vs, H1, I1, r, q⟩ => ⟨I1.kIn, ?_⟩) he hpl
  exact run_fn F hr hb hd hx I1 r q

/-- o.m(e, ..) -/
theorem pe_meth {pl : Sem Bool} (he : PE X o ta) (c : Cls X.K C) (hm : Meth X.K C m f) (F : FnOk X.prog X.w X.K X.mg X.base CX k f fd ps sp) (hr : Room k X.A) (hb : Binds X.K fd ps ds) (hd : Vals dvs ds) (hx : Passes CX X E) (ha : PA X (e :: es) t)
    (hst : starEach (e :: es) X.env = (false, eval e X.env) :: starEach es X.env := by rfl) (hpl : (backTo pos (starEach es X.env)).any (·.1) = false := by rfl)
    (ht : eval (.Call (.Attribute o m apos) (e :: es) [] pos) X.env = (do
      let ov ← eval o X.env
      standAt apos.atName
      let (f, first) ← holding [ov] (getMethod ov m pl)
      callWith pos f first (backTo pos (starEach (e :: es) X.env)) (backToKw pos (keywordEach [] X.env))) := by rfl) :
    PE X (.Call (.Attribute o m apos) (e :: es) [] pos) (tMeth C m sp dvs E ta t) := by
  intro pins s σ H Q I h
  refine PySem.W.methodCall_KW (pl := pl) (thn (he pins s σ H _ I h) fun u s1 ⟨x, H1, I1, rx, a, dx, fs, ex, ea, l, q⟩ => ?_) ht
  subst ex
  obtain rfl : u = Value.ref a := rx
  refine getmeth_ok I1 ea c hm l ?_
  refine PySem.W.callWith_K (first := [.ref a]) (h₀ := X.base) I.ok.mod.kin hm.kp (thn (ha pos pins s1 σ H1 _ I1 q) fun us s2 ⟨vs, H2, I2, r, q2⟩ => ⟨I2.kIn, ?_⟩) hst hpl
  exact run_fn (us := .ref a :: us) (vs := .ref a :: vs) F hr hb hd hx I2 (.cons rfl r) q2
/-- o.m() -/
theorem pe_meth0 {pl : Sem Bool} (he : PE X o ta) (c : Cls X.K C) (hm : Meth X.K C m f) (F : FnOk X.prog X.w X.K X.mg X.base CX k f fd ps sp) (hr : Room k X.A) (hb : Binds X.K fd ps ds) (hd : Vals dvs ds) (hx : Passes CX X E)
    (ht : eval (.Call (.Attribute o m apos) [] [] pos) X.env = (do
      let ov ← eval o X.env
      standAt apos.atName
      let (f, first) ← holding [ov] (getMethod ov m pl)
      callWith pos f first (backTo pos (starEach [] X.env)) (backToKw pos (keywordEach [] X.env))) := by rfl) :
    PE X (.Call (.Attribute o m apos) [] [] pos) (tMeth C m sp dvs E ta tNil) := by
  intro pins s σ H Q I h
  refine PySem.W.methodCall_KW (pl := pl) (thn (he pins s σ H _ I h) fun u s1 ⟨x, H1, I1, rx, a, dx, fs, ex, ea, l, q⟩ => ?_) ht
  subst ex
  obtain rfl : u = Value.ref a := rx
  refine getmeth_ok I1 ea c hm l ?_
  exact PySem.W.callWith_K0 (first := [.ref a]) I1.kIn hm.kp (run_fn (us := [.ref a]) (vs := [.ref a]) F hr hb hd hx I1 (.cons rfl .nil) q)

/-- what a class must have to be made -/
structure Mk (K : PySem.W.Frag) (C f : Addr) : Prop where
  makes : PySem.W.makesIn K C = true
  init : PySem.W.findIn K (.ref C) "__init__" = some (some (.ref f))
  fn : PySem.W.isFn K (.ref f) = true
  kp : PySem.W.keepIn K (.ref C) = true

theorem run_make {pins : List (Addr × Obj)} {σ : St} {H : Hp} {s : Shared} {Q : VK} {us : List Value} {vs : List V} (M : Mk X.K C f) (F : FnOk X.prog X.w X.K X.mg X.base CX k f fd ps sp) (hr : Room (k + 1) X.A) (hb : Binds X.K fd ps ds) (hd : Vals dvs ds)
    (hx : Passes CX X E) (I : Inv X pins σ H s) (r : Vals vs us)
    (h : ∀ x dx, H x = none → H dx = none → dx ≠ x → sp (.ref x :: (vs ++ dvs)) (upd (upd H dx (.own x)) x (.ins C dx [])) (fun v H2 => v = .non ∧ Q (.ref x) H2) E) :
    wpAny (model X.prog X.w) X.A (call (.ref C) us) (EP X pins σ Q) X.xe s := by
  have hq := h (s.heap.objs.size + 1) s.heap.objs.size (I.hok.fresh (Nat.le_succ _)) (I.hok.fresh (Nat.le_refl _)) (Nat.ne_of_lt (Nat.lt_succ_self _))
  have I2 := Inv.made (C := C) I
  have r2 : Vals (V.ref (s.heap.objs.size + 1) :: (vs ++ dvs)) (Value.ref (s.heap.objs.size + 1) :: (us ++ ds)) := .cons rfl (r.append hd)
  have hl : (Value.ref (s.heap.objs.size + 1) :: us ++ ds).length = ps.length := by
    have e := r2.length
    rw [F.len _ _ _ _ hq] at e
    exact e.symm
  refine wpAny_call (make_map (f := f) I.kIn M.makes M.init (beq_iff_eq.mp M.fn) (codeAny_mono (F.run _ X.stack _ _ ⟨Value.ref (s.heap.objs.size + 1) :: us, []⟩ (Value.ref (s.heap.objs.size + 1) :: (us ++ ds)) _ _ E (hr.make C us [])
    (I2.env0.make C us []) (hb _ (Value.ref (s.heap.objs.size + 1) :: us) I2.kIn hl) r2 hq) fun r s' hq' => ?_))
  cases r with
  | error e => exact hx pins σ _ _ e s' I2 hq'
  | ok fl =>
    cases fl with
    | ret u =>
      obtain ⟨v, H', I3, rv, ev, q3⟩ := I2.after hq'
      subst ev
      exact ⟨rv, ⟨V.ref (s.heap.objs.size + 1), H', I3, rfl, q3⟩⟩
    | next => exact False.elim hq'
    | brk => exact False.elim hq'
    | cont => exact False.elim hq'
theorem pe_make (M : Mk X.K C f) (F : FnOk X.prog X.w X.K X.mg X.base CX k f fd ps sp) (hr : Room (k + 1) X.A) (hg : Gl X x) (hm : X.mg x = some (.ref C)) (hb : Binds X.K fd ps ds) (hd : Vals dvs ds) (hx : Passes CX X E)
    (ha : PA X (e :: es) t) (hdb : (x == ("__debug__" : Str)) = false := by decide) (he : starEach (e :: es) X.env = (false, eval e X.env) :: starEach es X.env := by rfl) (hpl : (backTo pos (starEach es X.env)).any (·.1) = false := by rfl) :
    PE X (.Call (.Name x p) (e :: es) [] pos) (tMake C sp dvs E t) := by
  intro pins s σ H Q I h
  refine wpAny_Call_Name_kw (ld_glob I hg hm ?_ hdb)
  refine PySem.W.callWith_K (h₀ := X.base) I.ok.mod.kin M.kp (thn (ha pos pins s σ H _ I h) fun us s1 ⟨vs, H1, I1, r, q⟩ => ⟨I1.kIn, ?_⟩) he hpl
  exact run_make M F hr hb hd hx I1 r q
theorem pe_make0 (M : Mk X.K C f) (F : FnOk X.prog X.w X.K X.mg X.base CX k f fd ps sp) (hr : Room (k + 1) X.A) (hg : Gl X x) (hm : X.mg x = some (.ref C)) (hb : Binds X.K fd ps ds) (hd : Vals dvs ds) (hx : Passes CX X E)
    (hdb : (x == ("__debug__" : Str)) = false := by decide) : PE X (.Call (.Name x p) [] [] pos) (tMake C sp dvs E tNil) := by
  intro pins s σ H Q I h
  refine wpAny_Call_Name_kw (ld_glob I hg hm ?_ hdb)
  exact PySem.W.callWith_K0 I.kIn M.kp (run_make (us := []) M F hr hb hd hx I .nil h)
end

/-! ### keywords -/

/-! ### a def's body keeps its promise -/
/-- names: the parameters first -/
structure FnScope (N P : List Str) (sc : Scope) : Prop where
  kind : sc.kind = .function
  co : sc.isCoroutine = false
  gen : sc.isGenerator = false
  nd : N.Nodup
  pre : N.take P.length = P
  par : ∀ x ∈ P, sc.names.lookup x = some .local ∨ sc.names.lookup x = some .cell
  nofree : ∀ y ∈ sc.names, y.2 ≠ .free

theorem bindL_out {kindOf : Str → Option NameKind} {x : Str} : ∀ {binds : List (Str × Value)} {m : Str → Option Value}, (∀ v, (x, v) ∉ binds) → bindL kindOf binds m x = m x
  | [], _, _ => rfl
  | (n, v) :: r, m, h => by
    unfold bindL
    rw [bindL_out fun w hw => h w (List.mem_cons_of_mem _ hw)]
    split
    · have : x ≠ n := by rintro rfl; exact h v List.mem_cons_self
      simp [this]
    · rfl
theorem bindC_out {kindOf : Str → Option NameKind} {x : Str} : ∀ {binds : List (Str × Value)} {m : Str → Option Value}, (∀ v, (x, v) ∉ binds) → bindC kindOf binds m x = m x
  | [], _, _ => rfl
  | (n, v) :: r, m, h => by
    unfold bindC
    rw [bindC_out fun w hw => h w (List.mem_cons_of_mem _ hw)]
    split
    · rfl
    · have : x ≠ n := by rintro rfl; exact h v List.mem_cons_self
      simp [this]
theorem bindL_get {kindOf : Str → Option NameKind} {x : Str} {v : Value} : ∀ {P : List Str} {vs : List Value} {i : Nat} {m : Str → Option Value}, P.Nodup → P[i]? = some x → vs[i]? = some v → kindOf x = some .local →
    bindL kindOf (P.zip vs) m x = some v
  | [], _, _, _, _, h, _, _ => by simp at h
  | _ :: _, [], _, _, _, _, h, _ => by simp at h
  | p :: P, w :: vs, 0, m, nd, h1, h2, hk => by
    simp at h1 h2; subst h1; subst h2
    show bindL kindOf ((p, w) :: P.zip vs) m p = _
    unfold bindL
    rw [bindL_out fun v hv => (List.nodup_cons.mp nd).1 (List.of_mem_zip hv).1, if_pos hk]
    simp
  | p :: P, w :: vs, i + 1, m, nd, h1, h2, hk => by
    show bindL kindOf ((p, w) :: P.zip vs) m x = _
    unfold bindL
    exact bindL_get (i := i) (List.nodup_cons.mp nd).2 (by simpa using h1) (by simpa using h2) hk
theorem bindC_get {kindOf : Str → Option NameKind} {x : Str} {v : Value} : ∀ {P : List Str} {vs : List Value} {i : Nat} {m : Str → Option Value}, P.Nodup → P[i]? = some x → vs[i]? = some v → kindOf x ≠ some .local →
    bindC kindOf (P.zip vs) m x = some v
  | [], _, _, _, _, h, _, _ => by simp at h
  | _ :: _, [], _, _, _, _, h, _ => by simp at h
  | p :: P, w :: vs, 0, m, nd, h1, h2, hk => by
    simp at h1 h2; subst h1; subst h2
    show bindC kindOf ((p, w) :: P.zip vs) m p = _
    unfold bindC
    rw [bindC_out fun v hv => (List.nodup_cons.mp nd).1 (List.of_mem_zip hv).1, if_neg hk]
    simp
  | p :: P, w :: vs, i + 1, m, nd, h1, h2, hk => by
    show bindC kindOf ((p, w) :: P.zip vs) m x = _
    unfold bindC
    exact bindC_get (i := i) (List.nodup_cons.mp nd).2 (by simpa using h1) (by simpa using h2) hk

/-- the names' values at the entry -/
def start (N : List Str) (vs : List V) : St := vs.map some ++ List.replicate (N.length - vs.length) none

/-- the context of a def's body, at its entry; an exception leaves the frame, then lies as CX says -/
def cxOf (CX : CXT) (P : Program) (w : World) (K : PySem.W.Frag) (mg : Str → Option Value) (base : Heap) (N : List Str) (qual : Str) (scope : Scope) (f : Addr) (cd : Value) (A : Around) (outer : List Env) (s : Shared) (H : Hp) (E : XK) : Cx where
  prog := P
  w := w
  K := K
  mg := mg
  base := base
  A := A.deeper (envOfC qual scope s.heap.objs.size f cd)
  N := N
  s_0 := s
  H_0 := H
  env := envOfC qual scope s.heap.objs.size f cd
  outer := outer
  stack := envOfC qual scope s.heap.objs.size f cd :: outer
  ex := []
  calm := true
  fn := fun _ => true
  pn := []
  xe := fun e s' => wpAny (model P w) (A.deeper (envOfC qual scope s.heap.objs.size f cd)) (leaving (envOfC qual scope s.heap.objs.size f cd) e) (fun _ s'' => CX outer H s E e s'') (fun e' s'' => CX outer H s E e' s'') s'

theorem cell_has {sc : Scope} {n : Nat} {x : Str} (h : sc.names.lookup x = some .cell) : ∃ c, (cellsFrom n sc.names []).lookup x = some c := by
  have q := PySem.W.cellsFrom_some sc.names n [] (.inl h)
  exact Option.isSome_iff_exists.mp q

theorem inv_start {CX : CXT} {P : Program} {w : World} {K : PySem.W.Frag} {mg : Str → Option Value} {base : Heap} {N ps : List Str} {qual : Str} {scope : Scope} {f : Addr} {cd : Value} {A : Around} {outer : List Env} {s s1 : Shared} {H : Hp} {E : XK} {us : List Value} {vs : List V}
    (S : FnScope N ps scope) (hd : A.handled = none) (e0 : Env0 P w K mg base A outer s H) (hl : vs.length = ps.length) (r : Vals vs us)
    (x : InCallC s s.heap.objs.size (bindL (envOfC qual scope s.heap.objs.size f cd).kindOf (ps.zip us) fun _ => none) (cellsFrom (s.heap.objs.size + 1) scope.names []) (bindC (envOfC qual scope s.heap.objs.size f cd).kindOf (ps.zip us) fun _ => none) s1) :
    Inv (cxOf CX P w K mg base N qual scope f cd A outer s H E) [] (start N vs) H s1 := by
  have hpl : ps.length ≤ N.length := by have := congrArg List.length S.pre; rw [List.length_take] at this; omega
  obtain ⟨h1, tk, rfl, hk⟩ := x.done
  have noA : ∀ b : Addr, b ∉ (cxOf CX P w K mg base N qual scope f cd A outer s H E).ex := fun b z => absurd (show b ∈ ([] : List Addr) from z) (by simp)
  refine ⟨⟨e0.mod, S.kind, rfl, rfl, Nat.le_refl _, fun y z c h1 h2 => ?_, fun y hy => ?_, fun y c _ h => ?_, fun _ => hd, Around.frames_deeper e0.frames, .inr ⟨rfl, rfl⟩, fun b z => absurd z (noA b), e0.bs, e0.bsz, fun b _ _ => noA b, fun b z => absurd z (noA b), e0.funs, e0.frf⟩,
    rfl, e0.bare, Un.kept hk, ⟨_, x.toInCall.ns, fun i y v h1 h2 h3 => ?_⟩, fun y c h => ⟨_, x.cell y c h⟩, e0.hok.fresh (Nat.le_refl _), fun y c h => ?_, fun p hp => absurd (show p ∈ ([] : List (Addr × Obj)) from hp) (by simp), e0.hok.kept hk, ?_⟩
  · exact name_of_addr x.apart (PySem.mem_of_lookup h1) (PySem.mem_of_lookup h2)
  · have hy : scope.names.lookup y = some .cell ∨ scope.names.lookup y = some .free := hy
    rcases hy with hy | hy
    · exact cell_has hy
    · exact absurd rfl (S.nofree _ (PySem.mem_of_lookup hy))
  · exact Nat.le_of_lt (x.above y c (PySem.mem_of_lookup h))
  · have hi : i < vs.length := by
      unfold start at h2
      by_cases hi : i < vs.length
      · exact hi
      · rw [List.getElem?_append_right (by simpa using hi)] at h2
        rw [List.getElem?_replicate] at h2
        split at h2 <;> cases h2
    have ha : vs[i]? = some v := by
      unfold start at h2
      rw [List.getElem?_append_left (by simpa using hi), List.getElem?_map] at h2
      cases e : vs[i]? with
      | none => rw [e] at h2; cases h2
      | some a => rw [e] at h2; cases h2; rfl
    obtain ⟨u, hu, rv⟩ := r.get ha
    have hp : ps[i]? = some y := by
      rw [← S.pre, List.getElem?_take_of_lt (by omega)]; exact h1
    have ndP : ps.Nodup := by rw [← S.pre]; exact S.nd.sublist (List.take_sublist _ _)
    refine ⟨u, rv, ?_⟩
    rcases S.par y (List.mem_of_getElem? hp) with k | k
    · exact .inl ⟨k, bindL_get ndP hp hu k⟩
    · obtain ⟨c, e⟩ := cell_has (n := s.heap.objs.size + 1) k
      refine .inr ⟨.inl k, c, e, ?_⟩
      have q := x.cell y c e
      rw [bindC_get ndP hp hu (by show scope.names.lookup y ≠ _; rw [k]; decide)] at q
      exact q
  · exact e0.hok.fresh (Nat.le_of_lt (x.above y c (PySem.mem_of_lookup h)))
  · unfold start
    show _ = N.length
    rw [List.length_append, List.length_map, List.length_replicate]
    omega

/-- THE RULE: a def (or a method) of the text, by its body. The body's reading t is chosen for each entry; it is run at the parameters' values -/
theorem fn_of {CX : CXT} {P : Program} {w : World} {K : PySem.W.Frag} {mg : Str → Option Value} {base : Heap} {k : Nat} {f : Addr} {name qual : Str} {params : Arguments} {body : List Stmt} {scope : Scope} {dV kV doc pm cdv ct oc : Value} {an od : Option Addr}
    {osl : Array (Option Value)} {N ps : List Str} {sp : Sp} (lk : K.lookup f = some ⟨oc, od, .func (PySem.W.fnOf name qual params body scope dV kV doc pm an cdv ct), osl⟩) (hcd : PySem.W.codeIn K cdv qual = true) (S : FnScope N ps scope)
    (len : ∀ vs H Q E, sp vs H Q E → vs.length = ps.length)
    (hbody : ∀ (A : Around) (outer : List Env) (s : Shared) (H : Hp) (vs : List V) (Q : VK) (E : XK), Room k (A.deeper (envOfC qual scope s.heap.objs.size f cdv)) → sp vs H Q E →
      ∃ t, PSs (cxOf CX P w K mg base N qual scope f cdv A outer s H E) body t ∧ t { nx := fun _ H' => Q .non H', rt := Q } (start N vs) H) :
    FnOk P w K mg base CX (k + 1) f (PySem.W.fnOf name qual params body scope dV kV doc pm an cdv ct) ps sp := by
  refine ⟨len, fun A outer s H args us vs Q E hr e0 hb r hsp => ?_⟩
  have hl := len _ _ _ _ hsp
  have KX : K.In s.heap := e0.mod.kin.keeps fun b o e => (e0.bs b o e).1
  have lim : s.heap.NoLimit := e0.mod.nolimit.keeps fun b o e => (e0.bs b o e).1
  have hkind : ∀ y ∈ ps.zip us, scope.names.lookup y.1 = some .local ∨ (scope.names.lookup y.1 = some .cell ∧ ((cellsFrom (s.heap.objs.size + 1) scope.names []).lookup y.1).isSome = true) := fun ⟨n, v⟩ hy => by
    rcases S.par n (List.of_mem_zip hy).1 with q | q
    · exact .inl q
    · exact .inr ⟨q, PySem.W.cellsFrom_some _ _ _ (.inl q)⟩
  refine codeAny_call_function hr.depth (KX _ _ lk) rfl S.co S.gen rfl (PySem.W.codeRec_of KX hcd) (hb _ _ _ _ ?_)
  refine wpAny_newFunctionEnv_cells S.kind hkind fun env he s1 x => ?_
  subst he
  refine ⟨lim.keeps x.toInCall.keep, codeAny_func ?_⟩
  obtain ⟨t, ht, hq⟩ := hbody A outer s H vs Q E (hr.deeper _) hsp
  have I : Inv (cxOf CX P w K mg base N qual scope f cdv A outer s H E) [] (start N vs) H s1 := inv_start S hr.hd e0 hl r x
  refine wpAny_mono (ht [] s1 (start N vs) H _ I hq) (fun fl s' hs => ?_) fun e s' hs => hs
  have fin : ∀ {σ' : St} {H' : Hp} {v : V} {u : Value}, Inv (cxOf CX P w K mg base N qual scope f cdv A outer s H E) [] σ' H' s' → RelV v u → Q v H' → CE outer P w H s Q u s' :=
    fun {σ' H' v u} J rv q => ⟨v, H', J.os, J.bare, J.base, J.hok, rv, q⟩
  cases fl with
  | ret u =>
    obtain ⟨v, σ', H', J, rv, q⟩ := hs
    exact fin J rv q
  | next =>
    obtain ⟨σ', H', J, q⟩ := hs
    exact fin (v := V.non) (u := Value.none) J rfl q
  | brk =>
    obtain ⟨_, _, _, q⟩ := hs
    exact False.elim q
  | cont =>
    obtain ⟨_, _, _, q⟩ := hs
    exact False.elim q
end L2

namespace L2
open PySem PySem.Spec PyProof.Rows
section
variable {X : Cx} {x : Str} {p pos : Pos} {e : Expr} {es : List Expr} {t : TA} {id T : String} {r : List V → Hp → VK → Prop}

def tCB (r : List V → Hp → VK → Prop) (t : TA) : TE := fun σ H Q => t σ H fun vs H1 => r vs H1 Q
/-- f(e, ..), f a built-in function -/
theorem pe_callB (hc : CallR X (.builtin id) r) (hg : Gl X x) (hm : X.mg x = none) (hv : bootBuiltins x = some (.builtin id)) (ha : PA X (e :: es) t) (hn : x ≠ "__name__" := by decide) (hdb : (x == ("__debug__" : Str)) = false := by decide)
    (he : starEach (e :: es) X.env = (false, eval e X.env) :: starEach es X.env := by rfl) (hpl : (backTo pos (starEach es X.env)).any (·.1) = false := by rfl) : PE X (.Call (.Name x p) (e :: es) [] pos) (tCB r t) := by
  intro pins s σ H Q I h
  refine wpAny_Call_Name_kw (ld_blt I hg hm hv ?_ hn hdb)
  exact PyProof.Rows.callWith_builtin1 (thn (ha pos pins s σ H _ I h) fun us s1 ⟨vs, H1, I1, r1, q1⟩ => hc pins s1 σ H1 vs us Q I1 r1 q1) he hpl
/-- T(e, ..), T a built-in type -/
theorem pe_callTy (hc : CallR X (.type T) r) (hg : Gl X x) (hm : X.mg x = none) (hv : bootBuiltins x = some (.type T)) (ha : PA X (e :: es) t) (hn : x ≠ "__name__" := by decide) (hdb : (x == ("__debug__" : Str)) = false := by decide)
    (he : starEach (e :: es) X.env = (false, eval e X.env) :: starEach es X.env := by rfl) (hpl : (backTo pos (starEach es X.env)).any (·.1) = false := by rfl) : PE X (.Call (.Name x p) (e :: es) [] pos) (tCB r t) := by
  intro pins s σ H Q I h
  refine wpAny_Call_Name_kw (ld_blt I hg hm hv ?_ hn hdb)
  exact PyProof.Rows.callWith_type1 (thn (ha pos pins s σ H _ I h) fun us s1 ⟨vs, H1, I1, r1, q1⟩ => hc pins s1 σ H1 vs us Q I1 r1 q1) he hpl
end
end L2

namespace HT
open PySem PyProof.Rows



section
open PySem.SeqAt
open PySem.AutoSeq1 (wpAny_loadPart')
open PySem.MeetsSeq PySem.MeetsSeq2 PySem.MeetsSeq3

end

section
variable {prog : Program} {w : World} {A : Around} {E : Value → Shared → Prop} {s : Shared}



/-! ### t[a:b], not the whole -/
/-- a slice's bound as a place among n (d where it is left out) -/
def sIx (n d : Nat) : Option Int → Nat
  | none => d
  | some v => if v < 0 then (v + (n : Int)).toNat else min v.toNat n
theorem sIx_none (n d : Nat) : sIx n d none = d := rfl
theorem sIx_nat (n d k : Nat) : sIx n d (some (k : Int)) = min k n := by
  show (if (k : Int) < 0 then ((k : Int) + (n : Int)).toNat else min (k : Int).toNat n) = min k n
  rw [if_neg (by omega), Int.toNat_natCast]

end
end HT

namespace L2
open PySem PySem.Spec PyProof.Rows

/-! ### the parts of a slice -/
abbrev TO := St → Hp → (Option Int → Hp → Prop) → Prop
/-- a slice's part (left out, or an int) -/
def PO (X : Cx) (e : Option Expr) (t : TO) : Prop :=
  ∀ (pins : List (Addr × Obj)) (s : Shared) (σ : St) (H : Hp) (Q : Option Int → Hp → Prop), Inv X pins σ H s → t σ H Q →
    wpAny (model X.prog X.w) X.A (evalPart e X.env) (fun u s' => ∃ o H', Inv X pins σ H' s' ∧ IsPart u o ∧ Q o H') X.xe s
def tNoPart : TO := fun _ H Q => Q none H
def tPart (t : TE) : TO := fun σ H Q => t σ H fun x H1 => ∃ i, x = .int i ∧ Q (some i) H1


section
variable {X : Cx} {e : Expr} {te : TE} {lo hi : Option Expr} {tl th : TO} {pos p2 : Pos}

theorem po_none : PO X none tNoPart := by
  intro pins s σ H Q I h
  rw [evalPart_none]
  exact wpAny_pure ⟨none, H, I, .none, h⟩
theorem po_some (h : PE X e te) : PO X (some e) (tPart te) := by
  intro pins s σ H Q I hw
  rw [evalPart_some]
  refine thn (h pins s σ H _ I hw) fun u s1 ⟨x, H1, I1, r1, q1⟩ => ?_
  obtain ⟨i, rfl, q⟩ := q1
  obtain ⟨t, rfl⟩ := r1
  exact ⟨some i, H1, I1, .int i t, q⟩

/-- what a slice of a value is, by values: the slice object stands at sl -/
def SlR (X : Cx) (r : V → Option Int → Option Int → Hp → VK → Prop) : Prop :=
  ∀ (pins : List (Addr × Obj)) (s : Shared) (σ : St) (H : Hp) (x : V) (v vl vu : Value) (lo hi : Option Int) (sl : Addr) (Q : VK), Inv X pins σ H s → RelV x v → s.heap.IsSliceOf sl vl vu .none → IsPart vl lo → IsPart vu hi → r x lo hi H Q →
    ∃ T id, typeLookup (.type T) "__getitem__" = pure (some (.builtin id)) ∧ s.TypeIs v T ∧ wpAny (model X.prog X.w) X.A (getItem v (.ref sl)) (EP X pins σ Q) X.xe s
def tSl (r : V → Option Int → Option Int → Hp → VK → Prop) (te : TE) (tl th : TO) : TE := fun σ H Q => te σ H fun x H1 => tl σ H1 fun l H2 => th σ H2 fun u H3 => r x l u H3 Q
/-- a[lo:hi], any a -/
theorem pe_slice {r : V → Option Int → Option Int → Hp → VK → Prop} (hr : SlR X r) (he : PE X e te) (hl : PO X lo tl) (hu : PO X hi th) : PE X (.Subscript e (.Slice lo hi none p2) pos) (tSl r te tl th) := by
  intro pins s σ H Q I h
  refine Subscript_ (thn (he pins s σ H _ I h) fun v s1 ⟨x, H1, I1, r1, q1⟩ => ?_)
  refine wpAny_Slice (thn (hl pins s1 σ H1 _ I1 q1) fun vl s2 ⟨l, H2, I2, pl, q2⟩ => thn (hu pins s2 σ H2 _ I2 q2) fun vu s3 ⟨u, H3, I3, pu, q3⟩ => ?_)
  rw [evalPart_none]
  refine wpAny_pure ?_
  have I4 : Inv X pins σ H3 { s3 with heap := s3.heap.push { cls := .type "slice", data := .fields #[vl, vu, .none] } } := I3.kept (t' := s3.toks) fun b ob q => Heap.get?_push_of_some _ q
  obtain ⟨T, id, hT, ht, hg⟩ := hr pins { s3 with heap := s3.heap.push { cls := .type "slice", data := .fields #[vl, vu, .none] } } σ H3 x v vl vu l u s3.heap.objs.size Q I4 r1 (Heap.IsSliceOf.new ..) pl pu q3
  show wpAny (model X.prog X.w) X.A (subscriptTail e (.Slice lo hi none p2) v (.ref s3.heap.objs.size)) (EP X pins σ Q) X.xe { s3 with heap := s3.heap.push { cls := .type "slice", data := .fields #[vl, vu, .none] } }
  exact tail_any (ops := [.ref s3.heap.objs.size, v]) ht hT hg (by with_unfolding_all rfl)

/-- the items of xs[lo:hi] -/
def cutV (xs : List V) (lo hi : Option Int) : List V := (xs.drop (HT.sIx xs.length 0 lo)).take (HT.sIx xs.length xs.length hi - HT.sIx xs.length 0 lo)
theorem cutV_length (xs : List V) (lo hi : Option Int) : (cutV xs lo hi).length ≤ xs.length := by
  unfold cutV
  rw [List.length_take, List.length_drop]
  omega

/-! ### t < u, t + u -/
end
end L2

namespace L2
open PySem PySem.Spec PyProof.Rows

/-! ### places -/
/-- the place that an index of any sign means -/
def ixN (n : Nat) (i : Int) : Option Nat := if 0 ≤ i then (if i < n then some i.toNat else none) else if -(n : Int) ≤ i then some (i + n).toNat else none
def atI {α : Type} (xs : List α) (i : Int) : Option α := (ixN xs.length i).bind fun j => xs[j]?
theorem ixN_seq {n : Nat} {i : Int} {j : Nat} (h : ixN n i = some j) : seqIndex? i n = some j ∧ j < n ∧ -(n : Int) ≤ i ∧ i < n := by
  unfold ixN at h
  by_cases h0 : 0 ≤ i
  · rw [if_pos h0] at h
    by_cases h1 : i < n
    · rw [if_pos h1] at h
      have e : i.toNat = j := Option.some.inj h
      exact ⟨by rw [seqIndex_of h0 h1, e], by omega, by omega, h1⟩
    · rw [if_neg h1] at h; cases h
  · rw [if_neg h0] at h
    by_cases h1 : -(n : Int) ≤ i
    · rw [if_pos h1] at h
      have e : (i + n).toNat = j := Option.some.inj h
      exact ⟨by rw [seqIndex_neg (by omega) h1, e], by omega, h1, by omega⟩
    · rw [if_neg h1] at h; cases h
theorem atI_get {α : Type} {xs : List α} {i : Int} {v : α} (h : atI xs i = some v) : ∃ j, seqIndex? i xs.length = some j ∧ xs[j]? = some v ∧ j < xs.length ∧ -(xs.length : Int) ≤ i ∧ i < xs.length := by
  unfold atI at h
  cases e : ixN xs.length i with
  | none => rw [e] at h; cases h
  | some j =>
    rw [e] at h
    obtain ⟨h1, h2, h3, h4⟩ := ixN_seq e
    exact ⟨j, h1, h, h2, h3, h4⟩
theorem atI_nat {α : Type} {xs : List α} {j : Nat} {v : α} (h : xs[j]? = some v) : atI xs (j : Int) = some v := by
  have hj : j < xs.length := (List.getElem?_eq_some_iff.mp h).1
  have e : ixN xs.length (j : Int) = some j := by
    unfold ixN
    rw [if_pos (by omega), if_pos (by omega)]; simp
  unfold atI; rw [e]; exact h

/-! ### what may be subscripted -/
/-- what stands as an index of a plain subscript -/
def PlainIx (b : Expr) : Prop := ∀ o i, subscripted b false o i = operate [o, i] (getItem o i)
/-- a subscript by values -/
def IxR (X : Cx) (r : R2) : Prop :=
  ∀ (value slice : Expr) (pins : List (Addr × Obj)) (s : Shared) (σ : St) (H : Hp) (x y : V) (v u : Value) (Q : VK), Inv X pins σ H s → RelV x v → RelV y u → r x y H Q →
    subscripted slice false v u = operate [v, u] (getItem v u) → wpAny (model X.prog X.w) X.A (subscriptTail value slice v u) (EP X pins σ Q) X.xe s
/-- a call of a builtin's method by values: the receiver, the arguments -/
def MtR (X : Cx) (id : String) (r : V → List V → Hp → VK → Prop) : Prop :=
  ∀ (pins : List (Addr × Obj)) (s : Shared) (σ : St) (H : Hp) (x : V) (xs : List V) (v : Value) (us : List Value) (Q : VK), Inv X pins σ H s → RelV x v → Vals xs us → r x xs H Q →
    wpAny (model X.prog X.w) X.A (call (.builtin id) (v :: us)) (EP X pins σ Q) X.xe s
section
variable {X : Cx} {a b : Expr} {ta tb : TE} {pos : Pos}
/-- a[b] -/
theorem pe_ix {r : R2} (hr : IxR X r) (ha : PE X a ta) (hb : PE X b tb) (hs : PlainIx b) : PE X (.Subscript a b pos) (tOp r ta tb) := by
  intro pins s σ H Q I h
  exact Subscript_ (binT ha hb I h fun v u s2 x y H2 I2 rx ry q => hr a b pins s2 σ H2 x y v u Q I2 rx ry q (hs _ _))

def rIxL (K : PySem.W.Frag) : R2 := fun x y H Q => ∃ p xs i v, x = .ref p ∧ y = .int i ∧ SqL K H p xs ∧ atI xs i = some v ∧ Q v H
def rIxT (K : PySem.W.Frag) : R2 := fun x y H Q => ∃ p xs i v, x = .ref p ∧ y = .int i ∧ SqT K H p xs ∧ atI xs i = some v ∧ Q v H
def rIxS : R2 := fun x y H Q => ∃ z i c, x = .str z ∧ y = .int i ∧ z.length ≤ sizeLine ∧ atI z.cps.toList i = some c ∧ Q (.str ⟨#[c]⟩) H
theorem ix_list : IxR X (rIxL X.K) := by
  intro value slice pins s σ H x y v u Q I rx ry h hs
  obtain ⟨p, xs, i, z, rfl, rfl, hq, he, q⟩ := h
  cases rx
  obtain ⟨t, rfl⟩ := ry
  obtain ⟨its, r, pl, hz⟩ := I.list hq
  obtain ⟨j, h1, h2, h3, h4, h5⟩ := atI_get he
  obtain ⟨w, ew, rw'⟩ := r.get h2
  have hl := r.length
  have hn := line63
  have fin : EP X pins σ Q w s := ⟨z, H, I, rw', q⟩
  by_cases h0 : 0 ≤ i
  · have hj : i.toNat = j := by
      rw [seqIndex_of h0 h5] at h1
      exact Option.some.inj h1
    exact item_listR pl.isList h0 (by omega) (by rw [hj]; simpa using ew) fin hs
  · have hj : (i + (its.toArray.size : Int)).toNat = j := by
      rw [seqIndex_neg (by omega) h4] at h1
      rw [List.size_toArray, ← hl]
      exact Option.some.inj h1
    exact subscriptTail_builtinR (x := w) pl.isList.typeIs slot_list_getitem.lookup
      (wpAny_getItem_list_neg (Q := fun r s' => r = w ∧ EP X pins σ Q r s') pl.isList (by omega) (by rw [List.size_toArray] <;> omega) (by omega) (by rw [hj]; simpa using ew) ⟨rfl, fin⟩) hs
theorem ix_tup : IxR X (rIxT X.K) := by
  intro value slice pins s σ H x y v u Q I rx ry h hs
  obtain ⟨p, xs, i, z, rfl, rfl, hq, he, q⟩ := h
  cases rx
  obtain ⟨t, rfl⟩ := ry
  obtain ⟨its, r, pl, hz⟩ := I.tuple hq
  obtain ⟨j, h1, h2, h3, h4, h5⟩ := atI_get he
  obtain ⟨w, ew, rw'⟩ := r.get h2
  have hl := r.length
  have hn := line63
  have fin : EP X pins σ Q w s := ⟨z, H, I, rw', q⟩
  exact subscriptTail_builtinR (x := w) pl.typeIs slot_tuple_getitem.lookup
    (getItem_tuple (j := j) (Q := fun r s' => r = w ∧ EP X pins σ Q r s') pl (by omega) (by omega) (by rw [List.size_toArray, ← hl]; exact h1) (by simpa using ew) ⟨rfl, fin⟩) hs
theorem ix_str : IxR X rIxS := by
  intro value slice pins s σ H x y v u Q I rx ry h hs
  obtain ⟨z, i, c, rfl, rfl, hz, he, q⟩ := h
  obtain ⟨t, rfl⟩ := rx
  obtain ⟨t', rfl⟩ := ry
  obtain ⟨j, h1, h2, h3, h4, h5⟩ := atI_get he
  have hl : z.cps.toList.length = z.length := by simp [Str.length]
  rw [hl] at h1 h4 h5
  have hn := line63
  exact tail_any (typeIs_str s z t) slot_str_getitem.lookup (getItem_str (c := c) (by
    have e1 : decide (i < -(2 ^ 63 : Int)) = false := decide_eq_false (by omega)
    have e2 : decide (i ≥ 2 ^ 63) = false := decide_eq_false (by omega)
    rw [e1, e2, Bool.or_false]) (by rw [h1]; simpa using h2) ⟨.str ⟨#[c]⟩, H, I.tok _, ⟨_, rfl⟩, q⟩) hs

/-! ### xs[i] = v, any sign -/
/-- the list's object behind a store -/
theorem mapSeq_set (its : List Value) (n j : Nat) (u : Value) : Obj.mapSeq (·.setIfInBounds j u) { cls := .type "list", data := .seq its.toArray n } = { cls := .type "list", data := .seq (its.set j u).toArray n } := by
  simp [Obj.mapSeq]
theorem Inv.lst {pins : List (Addr × Obj)} {σ : St} {H : Hp} {s : Shared} {p : Addr} {xs : List V} (I : Inv X pins σ H s) (h : H p = some (.lst xs)) :
    ∃ (its : List Value) (n : Nat), Vals xs its ∧ s.heap.get? p = some { cls := .type "list", data := .seq its.toArray n } ∧ xs.length ≤ sizeLine := by
  obtain ⟨z, its, n, r, e⟩ := I.hok p _ h
  exact ⟨its, n, r, e, z⟩
/-- the list at p is written by an update of its object -/
theorem Inv.lstUpd {pins : List (Addr × Obj)} {σ : St} {H : Hp} {s : Shared} {p : Addr} {xs ys : List V} {its its' : List Value} {n n' : Nat} {f : Obj → Obj} (I : Inv X pins σ H s) (h : H p = some (.lst xs))
    (ho : s.heap.get? p = some { cls := .type "list", data := .seq its.toArray n }) (hf : f { cls := .type "list", data := .seq its.toArray n } = { cls := .type "list", data := .seq its'.toArray n' }) (r : Vals ys its') (hz : ys.length ≤ sizeLine) (t : Nat) :
    Inv X pins σ (upd H p (.lst ys)) { s with heap := s.heap.update p f, toks := t } := by
  have e : (s.heap.update p f).get? p = some { cls := .type "list", data := .seq its'.toArray n' } := by
    rw [Heap.get?_update_self f ho (by rw [hf] <;> rfl), hf]
  refine I.write (x := p) (e := p) (by rw [h]; trivial) (.inl rfl) (fun b u hb q => (Heap.get?_update_other _ _ (Ne.symm hb)).trans q) ⟨_, e⟩ ?_
  exact ⟨hz, its', n', r, e⟩
def rSetL : V → V → V → Hp → (Hp → Prop) → Prop := fun o i v H Q => ∃ p xs k j, o = .ref p ∧ i = .int k ∧ H p = some (.lst xs) ∧ ixN xs.length k = some j ∧ Q (upd H p (.lst (xs.set j v)))
theorem set_list : PSet X rSetL := by
  intro pins s σ H o i v ov iv u Q I ro ri rv h
  obtain ⟨p, xs, k, j, rfl, rfl, hp, hj, q⟩ := h
  cases ro
  obtain ⟨t, rfl⟩ := ri
  obtain ⟨its, n, r, ho, hz⟩ := I.lst hp
  obtain ⟨h1, h2, h3, h4⟩ := ixN_seq hj
  have hl := r.length
  have hn := line63
  have I' : Inv X pins σ (upd H p (.lst (xs.set j v))) { s with heap := s.heap.update p (Obj.mapSeq (·.setIfInBounds j u)) } :=
    I.lstUpd hp ho (mapSeq_set its n j u) (r.set rv j) (by rw [List.length_set]; exact hz) s.toks
  by_cases h0 : 0 ≤ k
  · have hk : k.toNat = j := by
      rw [seqIndex_of h0 h4] at h1
      exact Option.some.inj h1
    exact PySem.W.ki_setAt ho h0 (by omega) (by rw [List.size_toArray, ← hl]; exact h4) (by rw [hk]; exact ⟨_, I', q⟩)
  · have hk : (k + (its.toArray.size : Int)).toNat = j := by
      rw [seqIndex_neg (by omega) h3] at h1
      rw [List.size_toArray, ← hl]
      exact Option.some.inj h1
    exact PySem.W.ki_setBack ho (by omega) (by rw [List.size_toArray, ← hl]; exact h3) (by omega) (by rw [hk]; exact ⟨_, I', q⟩)

/-! ### slices -/
theorem slice_bounds (lo hi : Option Int) (n : Nat) : (sliceBounds lo hi none n).1 = ((HT.sIx n 0 lo : Nat) : Int) ∧ (sliceBounds lo hi none n).2.1 = ((HT.sIx n n hi : Nat) : Int) ∧ (sliceBounds lo hi none n).2.2 = 1 := by
  refine ⟨?_, ?_, rfl⟩
  · cases lo with
    | none => simp [sliceBounds, HT.sIx]
    | some i =>
      simp only [sliceBounds, HT.sIx, Option.getD_none, show (1 : Int) > 0 by decide, if_true]
      by_cases h : i < 0
      · simp only [h, if_true] <;> omega
      · simp only [h, if_false] <;> omega
  · cases hi with
    | none => simp [sliceBounds, HT.sIx]
    | some i =>
      simp only [sliceBounds, HT.sIx, Option.getD_none, show (1 : Int) > 0 by decide, if_true]
      by_cases h : i < 0
      · simp only [h, if_true] <;> omega
      · simp only [h, if_false] <;> omega
theorem slicePick_cut (its : List Value) (lo hi : Option Int) : slicePick its.toArray lo hi none = ((its.drop (HT.sIx its.length 0 lo)).take (HT.sIx its.length its.length hi - HT.sIx its.length 0 lo)).toArray := by
  obtain ⟨h1, h2, h3⟩ := slice_bounds lo hi its.toArray.size
  unfold slicePick
  rw [h1, h2, h3]
  simp only [sliceRange_one, pick_run, List.size_toArray] <;> rfl
/-- xs[lo:hi] of a list: a new list -/
def rSlL (K : PySem.W.Frag) : V → Option Int → Option Int → Hp → VK → Prop := fun x lo hi H Q => ∃ a xs, x = .ref a ∧ SqL K H a xs ∧ ∀ p, H p = none → Q (.ref p) (upd H p (.lst (cutV xs lo hi)))
theorem sl_list : SlR X (rSlL X.K) := by
  intro pins s σ H x v vl vu lo hi sl Q I rx hs pl pu h
  obtain ⟨a, xs, rfl, hx, q⟩ := h
  cases rx
  obtain ⟨its, r, ht, hz⟩ := I.list hx
  have hlen := r.length
  refine ⟨"list", _, slot_list_getitem.lookup, ht.isList.typeIs, ?_⟩
  refine wpAny_getItem_list_slice ht.isList hs pl pu .none (by simp) ?_ (by rw [List.size_toArray] <;> omega)
  rw [slicePick_cut, ← hlen]
  refine ⟨.ref s.heap.objs.size, _, I.laid (t' := s.toks) (o := .lst (cutV xs lo hi)) (fun b ob q => Heap.get?_push_of_some _ q) (Nat.le_refl _) ?_, rfl, q _ (I.hok.fresh (Nat.le_refl _))⟩
  exact ⟨Nat.le_trans (cutV_length xs lo hi) hz, _, 0, (r.drop (HT.sIx xs.length 0 lo)).take (HT.sIx xs.length xs.length hi - HT.sIx xs.length 0 lo), Heap.get?_push_size _ rfl⟩

/-! ### in, not in: flat items -/
def flatV : V → Bool
  | .non => true
  | .bl _ => true
  | .int _ => true
  | .str _ => true
  | _ => false
/-- == of flat values -/
def eqV : V → V → Bool
  | .non, .non => true
  | .bl a, .bl b => a == b
  | .bl a, .int b => (if a then 1 else 0) == b
  | .int a, .bl b => a == (if b then 1 else 0)
  | .int a, .int b => a == b
  | .str a, .str b => a == b
  | _, _ => false
theorem eqAt_V {A : Around} {s : Shared} {y x : V} {u v : Value} (ry : RelV y u) (rx : RelV x v) (fy : flatV y = true) (fx : flatV x = true) : SeqAt.EqAt A s u v (eqV y x) := by
  cases y with
  | non =>
    cases ry
    cases x with
    | non => cases rx; exact SeqAt.EqAt.same _
    | bl b => cases rx; exact SeqAt.EqAt.none_bool b
    | int b => obtain ⟨t, rfl⟩ := rx; exact SeqAt.EqAt.none_int b t
    | str b => obtain ⟨t, rfl⟩ := rx; exact SeqAt.EqAt.none_str b t
    | _ => exact absurd (show false = true from fx) Bool.false_ne_true
  | bl a =>
    cases ry
    cases x with
    | non => cases rx; exact SeqAt.EqAt.bool_none a
    | bl b => cases rx; exact SeqAt.EqAt.bool_bool a b
    | int b => obtain ⟨t, rfl⟩ := rx; exact SeqAt.EqAt.bool_int a b t
    | str b => obtain ⟨t, rfl⟩ := rx; exact SeqAt.EqAt.bool_str a b t
    | _ => exact absurd (show false = true from fx) Bool.false_ne_true
  | int a =>
    obtain ⟨t', rfl⟩ := ry
    cases x with
    | non => cases rx; exact SeqAt.EqAt.int_none a t'
    | bl b => cases rx; exact SeqAt.EqAt.int_bool a t' b
    | int b => obtain ⟨t, rfl⟩ := rx; exact SeqAt.EqAt.int_int a t' b t
    | str b => obtain ⟨t, rfl⟩ := rx; exact SeqAt.EqAt.int_str a t' b t
    | _ => exact absurd (show false = true from fx) Bool.false_ne_true
  | str a =>
    obtain ⟨t', rfl⟩ := ry
    cases x with
    | non => cases rx; exact SeqAt.EqAt.str_none a t'
    | bl b => cases rx; exact SeqAt.EqAt.str_bool a t' b
    | int b => obtain ⟨t, rfl⟩ := rx; exact SeqAt.EqAt.str_int a t' b t
    | str b => obtain ⟨t, rfl⟩ := rx; exact SeqAt.EqAt.str_str a t' b t
    | _ => exact absurd (show false = true from fx) Bool.false_ne_true
  | _ => exact absurd (show false = true from fy) Bool.false_ne_true
/-- the items' answers, read off the values (a value's own answer does not lean on its token) -/
def eqU (x : V) (u : Value) : Bool := match u with
  | .none => eqV .non x
  | .bool b => eqV (.bl b) x
  | .int i _ => eqV (.int i) x
  | .str z _ => eqV (.str z) x
  | _ => false
theorem eqU_of {x y : V} {u : Value} (r : RelV y u) (f : flatV y = true) : eqU x u = eqV y x := by
  cases y with
  | non => cases r; rfl
  | bl b => cases r; rfl
  | int i => obtain ⟨t, rfl⟩ := r; rfl
  | str z => obtain ⟨t, rfl⟩ := r; rfl
  | _ => exact absurd (show false = true from f) Bool.false_ne_true
theorem any_eqU {x : V} : ∀ {xs : List V} {us : List Value}, Vals xs us → xs.all flatV = true → us.any (eqU x) = xs.any fun y => eqV y x
  | _, _, .nil, _ => rfl
  | y :: xs, u :: us, .cons r t, f => by
    rw [List.all_cons, Bool.and_eq_true] at f
    rw [List.any_cons, List.any_cons, eqU_of r f.1, any_eqU t f.2]
theorem mem_eqAt {A : Around} {s : Shared} {x : V} {v : Value} (rx : RelV x v) (fx : flatV x = true) : ∀ {xs : List V} {us : List Value}, Vals xs us → xs.all flatV = true → ∀ u ∈ us, SeqAt.EqAt A s u v (eqU x u)
  | _, _, .nil, _ => fun u hu => by cases hu
  | y :: xs, u :: us, .cons r t, f => fun u' hu => by
    rw [List.all_cons, Bool.and_eq_true] at f
    rcases List.mem_cons.mp hu with rfl | hu
    · rw [eqU_of r f.1]; exact eqAt_V r rx f.1 fx
    · exact mem_eqAt rx fx t f.2 u' hu
def inV (x : V) (xs : List V) : Bool := xs.any fun y => eqV y x
/-- x in a list or tuple of flat items -/
def rIn (K : PySem.W.Frag) (neg : Bool) : R2 := fun x y H Q => ∃ p xs, y = .ref p ∧ (SqL K H p xs ∨ SqT K H p xs) ∧ flatV x = true ∧ xs.all flatV = true ∧ Q (.bl (if neg then !inV x xs else inV x xs)) H
theorem op_notIn_seq : OpR X (compareOp .NotIn) (rIn X.K true) := by
  intro pins s σ H x y v u Q I rx ry h
  obtain ⟨p, xs, rfl, hq, fx, fs, q⟩ := h
  cases ry
  rcases hq with hq | hq
  · obtain ⟨its, r, pl, hz⟩ := I.list hq
    refine SeqAt.notIn_listAt (eqU x) pl.isList (fun w hw => mem_eqAt rx fx r fs w (by simpa using hw)) ⟨.bl _, H, I, rfl, ?_⟩
    rw [show its.toArray.any (eqU x) = its.any (eqU x) by simp, any_eqU r fs]
    exact q
  · obtain ⟨its, r, pl, hz⟩ := I.tuple hq
    refine SeqAt.notIn_tupleAt (eqU x) pl (fun w hw => mem_eqAt rx fx r fs w (by simpa using hw)) ⟨.bl _, H, I, rfl, ?_⟩
    rw [show its.toArray.any (eqU x) = its.any (eqU x) by simp, any_eqU r fs]
    exact q

/-! ### len, list(x), tuple(x) of any list or tuple that is read -/
theorem call_len_seq : CallR X (.builtin "len") (fun xs H Q => ∃ p ys, xs = [.ref p] ∧ (SqL X.K H p ys ∨ SqT X.K H p ys) ∧ Q (.int ys.length) H) := by
  intro pins s σ H xs us Q I r h
  obtain ⟨p, ys, rfl, hq, q⟩ := h
  obtain ⟨u, rfl, rx⟩ := vals1 r
  cases rx
  have hn := line63
  rcases hq with hq | hq
  · obtain ⟨its, r', pl, hz⟩ := I.list hq
    have hlen := r'.length
    exact Calls.call_len_list pl.isList (by simp only [List.size_toArray] <;> omega) ⟨.int ys.length, H, I.tok _, ⟨s.toks + 1, by rw [List.size_toArray, hlen]⟩, q⟩
  · obtain ⟨its, r', pl, hz⟩ := I.tuple hq
    have hlen := r'.length
    exact len_tuple pl (by simp only [List.size_toArray] <;> omega) ⟨.int ys.length, H, I.tok _, ⟨s.toks + 1, by rw [List.size_toArray, hlen]⟩, q⟩
theorem call_len_str : CallR X (.builtin "len") (fun xs H Q => ∃ z, xs = [.str z] ∧ z.length ≤ sizeLine ∧ Q (.int z.length) H) := by
  intro pins s σ H xs us Q I r h
  obtain ⟨z, rfl, hz, q⟩ := h
  obtain ⟨u, rfl, t, rfl⟩ := vals1 r
  have hn := line63
  exact len_str (by omega) ⟨.int z.length, H, I.tok _, ⟨_, rfl⟩, q⟩
theorem call_list_of : CallR X (.type "list") (fun xs H Q => ∃ p ys, xs = [.ref p] ∧ (SqL X.K H p ys ∨ SqT X.K H p ys) ∧ ∀ l, H l = none → Q (.ref l) (upd H l (.lst ys))) := by
  intro pins s σ H xs us Q I r h
  obtain ⟨p, ys, rfl, hq, q⟩ := h
  obtain ⟨u, rfl, rx⟩ := vals1 r
  cases rx
  have fin : ∀ (its : List Value), Vals ys its → ys.length ≤ sizeLine → ∀ (h' : Heap) (c' : Nat), (∀ b o', s.heap.get? b = some o' → h'.get? b = some o') →
      h'.get? s.heap.objs.size = some { cls := .type "list", dict := none, data := .seq its.toArray c', slots := #[] } → EP X pins σ Q (.ref s.heap.objs.size) { s with heap := h' } := fun its r' hz h' c' kp e =>
    ⟨.ref s.heap.objs.size, _, I.laid (t' := s.toks) kp (Nat.le_refl _) (show ObjOk X.prog X.w _ h' _ (.lst ys) from ⟨hz, its, c', r', e⟩), rfl, q _ (I.hok.fresh (Nat.le_refl _))⟩
  rcases hq with hq | hq
  · obtain ⟨its, r', pl, hz⟩ := I.list hq
    have hlen := r'.length
    obtain ⟨o, ho, hc, n, hd⟩ := pl.isList
    exact call_list_seq p (.inl rfl) ho hc hd (fun h' c' kp e => fin its r' hz h' c' kp e) (by simp only [List.size_toArray] <;> omega)
  · obtain ⟨its, r', pl, hz⟩ := I.tuple hq
    have hlen := r'.length
    obtain ⟨o, ho, hc, n, hd⟩ := pl
    exact call_list_seq p (.inr rfl) ho hc hd (fun h' c' kp e => fin its r' hz h' c' kp e) (by simp only [List.size_toArray] <;> omega)

/-! ### the call of a builtin's method: o.m(..) -/
/-- the value is of that builtin type -/
def tyV (K : PySem.W.Frag) (T : String) (x : V) (H : Hp) : Prop := match x with
  | .str _ => T = "str"
  | .int _ => T = "int"
  | .ref p => (T = "list" ∧ ∃ xs, SqL K H p xs) ∨ (T = "tuple" ∧ ∃ o, K.lookup p = some o ∧ o.cls = .type "tuple" ∧ o.dict = none) ∨
      (T = "dict" ∧ ((∃ kvs, H p = some (.dK kvs)) ∨ ∃ kvs, H p = some (.dT kvs))) ∨ (T = "set" ∧ ∃ S n, H p = some (.set S n))
  | _ => False
theorem tyV_is {pins : List (Addr × Obj)} {σ : St} {H : Hp} {s : Shared} {T : String} {x : V} {v : Value} (I : Inv X pins σ H s) (r : RelV x v) (ty : tyV X.K T x H) :
    s.TypeIs v T ∧ ∀ a, v = .ref a → ∃ ob, s.heap.get? a = some ob ∧ ob.dict = none := by
  cases x with
  | str z =>
    obtain ⟨t, rfl⟩ := r
    cases (show T = "str" from ty)
    exact ⟨typeIs_str s z t, fun _ e => nomatch e⟩
  | int i =>
    obtain ⟨t, rfl⟩ := r
    cases (show T = "int" from ty)
    exact ⟨typeIs_int s i t, fun _ e => nomatch e⟩
  | ref p =>
    cases r
    rcases ty with ⟨rfl, xs, hq⟩ | ⟨rfl, o, hk, hc, hd⟩ | ⟨rfl, hk⟩ | ⟨rfl, S, n, hk⟩
    · obtain ⟨its, _, pl, _⟩ := I.list hq
      refine ⟨pl.isList.typeIs, fun a e => ?_⟩
      cases e
      obtain ⟨o, n, e, c, hd, _⟩ := pl
      exact ⟨o, e, hd⟩
    · refine ⟨⟨o, I.kIn p o hk, hc⟩, fun a e => ?_⟩
      cases e
      exact ⟨o, I.kIn _ o hk, hd⟩
    · have z : ∃ o, s.heap.get? p = some o ∧ o.ExactDict := by
        rcases hk with ⟨kvs, hk⟩ | ⟨kvs, hk⟩
        · obtain ⟨_, _, _, _, o, _, _, e, ex, _⟩ := I.hok p _ hk
          exact ⟨o, e, ex⟩
        · obtain ⟨_, _, _, _, o, _, _, e, ex, _⟩ := I.hok p _ hk
          exact ⟨o, e, ex⟩
      obtain ⟨o, e, ex⟩ := z
      refine ⟨⟨o, e, ex.1⟩, fun a e2 => ?_⟩
      cases e2
      exact ⟨o, e, ex.2.1⟩
    · obtain ⟨o, _, _, _, e, ex, _⟩ := I.hok p _ hk
      refine ⟨⟨o, e, ex.1⟩, fun a e2 => ?_⟩
      cases e2
      exact ⟨o, e, ex.2.1⟩
  | _ => exact False.elim ty
def tBM (K : PySem.W.Frag) (T : String) (r : V → List V → Hp → VK → Prop) (to : TE) (t : TA) : TE := fun σ H Q => to σ H fun x H1 => tyV K T x H1 ∧ t σ H1 fun xs H2 => r x xs H2 Q
variable {o e : Expr} {es : List Expr} {to : TE} {t : TA} {name : Str} {apos cpos : Pos} {T id : String} {r : V → List V → Hp → VK → Prop}
theorem pe_bm (pa : PlainAttrs T) (slot : Slot T name id) (hty : typeOf (.builtin id) = pure (.type "method_descriptor")) (hm : MtR X id r) (ho : PE X o to) (ha : PA X (e :: es) t)
    (hbase : attributeBase o name X.env (eval o X.env) = eval o X.env := by rfl)
    (hfew : ((backTo cpos (starEach (e :: es) X.env)).all (fun x => !x.1) && (backToKw cpos (keywordEach [] X.env)).all (fun x => x.1.isSome)
      && decide ((e :: es).length + ([] : List Keyword).length + (if ([] : List Keyword).isEmpty then 0 else 1) < 30)) = true := by rfl)
    (hline : (apos.endLine == cpos.line) = true := by rfl) (hs : starEach (e :: es) X.env = (false, eval e X.env) :: starEach es X.env := by rfl) (hplain : (backTo cpos (starEach es X.env)).any (·.1) = false := by rfl) :
    PE X (.Call (.Attribute o name apos) (e :: es) [] cpos) (tBM X.K T r to t) := by
  intro pins s σ H Q I h
  refine wpAny_Call_method_late hbase hfew hline rfl (thn (ho pins s σ H _ I h) fun v s1 ⟨x, H1, I1, r1, ty, q1⟩ => ?_)
  obtain ⟨h1, h2⟩ := tyV_is I1 r1 ty
  refine ⟨T, id, pa, slot, hty, h1, h2, ?_⟩
  have hA := ha cpos pins s1 σ H1 _ I1 q1
  rw [hs] at hA ⊢
  refine Calls.callWith_builtin (by show (false || (backTo cpos (starEach es X.env)).any (·.1)) = false; rw [hplain] <;> rfl) (Calls.evalArgs_plain ?_)
  exact thn hA fun us s2 ⟨vs, H2, I2, r2, q2⟩ => hm pins s2 σ H2 x vs v us Q I2 r1 r2 q2
/- xs.append(e), list.index on a module's tuple .. are MtR facts of 06m -/
end
end L2

namespace L2
open PySem PySem.Spec PyProof.Rows

def MtM (X : Cx) (id : String) (r : V → List V → Hp → VK → Prop) : Prop :=
  ∀ (pins : List (Addr × Obj)) (s : Shared) (σ : St) (H : Hp) (x : V) (xs : List V) (v : Value) (us : List Value) (Q : VK), Inv X pins σ H s → RelV x v → Vals xs us → r x xs H Q →
    wpAny (model X.prog X.w) X.A (call (.builtin id) (v :: us)) (EP X pins σ Q) X.xe s

/-! ### lists of values -/
theorem Vals.one : ∀ {x : V} {us : List Value}, Vals [x] us → ∃ u, us = [u] ∧ RelV x u
  | _, _, .cons r .nil => ⟨_, rfl, r⟩
theorem Vals.rep {xs : List V} {us : List Value} (h : Vals xs us) : ∀ k : Nat, Vals (List.replicate k xs).flatten (List.replicate k us).flatten
  | 0 => .nil
  | k + 1 => by
    rw [List.replicate_succ, List.replicate_succ, List.flatten_cons, List.flatten_cons]
    exact Vals.append h (Vals.rep h k)
theorem foldl_rep (its : List Value) : ∀ (k : Nat) (acc : List Value),
    List.foldl (fun x1 x2 => x1 ++ x2) acc.toArray (List.replicate k its.toArray) = (acc ++ (List.replicate k its).flatten).toArray
  | 0, acc => by simp
  | k + 1, acc => by
    have e : acc.toArray ++ its.toArray = (acc ++ its).toArray := by simp
    have e2 : (acc ++ its) ++ (List.replicate k its).flatten = acc ++ (List.replicate (k + 1) its).flatten := by
      rw [List.replicate_succ, List.flatten_cons, List.append_assoc]
    rw [← e2, ← foldl_rep its k (acc ++ its), ← e, List.replicate_succ, List.foldl_cons]

section
variable {X : Cx} {pins : List (Addr × Obj)} {σ : St} {H : Hp} {s : Shared} {l b : Addr} {xs ys zs : List V}

/-! ### the two steps: a tracked list is rewritten, a new list is laid -/
theorem Inv.lset {its its' : List Value} {n : Nat} {f : Array Value → Array Value} {t' : Nat} (I : Inv X pins σ H s) (hH : H l = some (.lst xs))
    (e : s.heap.get? l = some { cls := .type "list", data := .seq its.toArray n }) (hf : f its.toArray = its'.toArray) (hv : Vals ys its') (hz : ys.length ≤ sizeLine) :
    Inv X pins σ (upd H l (.lst ys)) { s with heap := s.heap.update l (Obj.mapSeq f), toks := t' } := by
  have q := PySem.IsL.update e f
  rw [hf] at q
  refine I.write (x := l) (e := l) (by rw [hH]; exact trivial) (.inl rfl) (fun b' u hb hu => (Heap.get?_update_other s.heap (Obj.mapSeq f) (Ne.symm hb)).trans hu) ⟨_, q⟩ ?_
  exact ⟨hz, its', _, hv, q⟩
theorem Inv.lnew {its : List Value} {t' : Nat} (I : Inv X pins σ H s) (hv : Vals ys its) (hz : ys.length ≤ sizeLine) :
    Inv X pins σ (upd H s.heap.objs.size (.lst ys)) { s with heap := s.heap.push { cls := .type "list", data := .seq its.toArray }, toks := t' } :=
  I.laid (fun _ _ q => Heap.get?_push_of_some _ q) (Nat.le_refl _) ⟨hz, its, 0, hv, Heap.get?_push_size _ rfl⟩
theorem Inv.fresh (I : Inv X pins σ H s) : H s.heap.objs.size = none := I.hok.fresh (Nat.le_refl _)
theorem Inv.lstM (I : Inv X pins σ H s) (hH : H l = some (.lst xs)) : xs.length ≤ sizeLine ∧ ∃ (its : List Value) (n : Nat), Vals xs its ∧ xs.length = its.length ∧ s.heap.get? l = some { cls := .type "list", data := .seq its.toArray n } := by
  obtain ⟨z, its, n, r, e⟩ := I.hok l _ hH
  exact ⟨z, its, n, r, r.length, e⟩

theorem notLongL {n : Nat} (h : n ≤ sizeLine) : Builtin.List.listTooLong n = false := by
  unfold Builtin.List.listTooLong
  exact decide_eq_false (by omega)
end

section
variable {X : Cx}

/-! ### methods -/
def rAppend : V → List V → Hp → VK → Prop := fun x vs H Q => ∃ l xs y, x = .ref l ∧ vs = [y] ∧ H l = some (.lst xs) ∧ xs.length < sizeLine ∧ Q .non (upd H l (.lst (xs ++ [y])))
theorem mt_append : MtM X "list.append" rAppend := by
  intro pins s σ H x vs v us Q I rx rv h
  obtain ⟨l, xs, y, rfl, rfl, hH, hz, q⟩ := h
  cases rx
  obtain ⟨u, rfl, ru⟩ := rv.one
  obtain ⟨z, its, n, r, hl, e⟩ := I.lstM hH
  refine call_meets F.slot_list_append ⟨_, e, rfl⟩ F.entry_list_append (F.args_list_append_2 _ _) (PySem.list_append l its.toArray n u (by rw [List.size_toArray]; omega)) ⟨e, ?_⟩
  refine ⟨.non, _, I.lset (its' := its ++ [u]) hH e (by simp) (r.append (.cons ru .nil)) ?_, rfl, q⟩
  rw [List.length_append, List.length_singleton]
  omega

def rExtend : V → List V → Hp → VK → Prop := fun x vs H Q => ∃ l b xs zs, x = .ref l ∧ vs = [.ref b] ∧ H l = some (.lst xs) ∧ H b = some (.lst zs) ∧ xs.length + zs.length ≤ sizeLine ∧ Q .non (upd H l (.lst (xs ++ zs)))
theorem mt_extend : MtM X "list.extend" rExtend := by
  intro pins s σ H x vs v us Q I rx rv h
  obtain ⟨l, b, xs, zs, rfl, rfl, hH, hB, hz, q⟩ := h
  cases rx
  obtain ⟨u, rfl, ru⟩ := rv.one
  cases ru
  obtain ⟨z, its, n, r, hl, e⟩ := I.lstM hH
  obtain ⟨z2, its2, n2, r2, hl2, e2⟩ := I.lstM hB
  have hsz : its.toArray.size + its2.toArray.size ≤ sizeLine := by rw [List.size_toArray, List.size_toArray]; omega
  have hlong : ¬ (!its.toArray.isEmpty && Builtin.List.listTooLong (its.toArray.size + its2.toArray.size)) = true := by
    rw [notLongL hsz, Bool.and_false]
    exact Bool.false_ne_true
  refine call_meets F.slot_list_extend ⟨_, e, rfl⟩ F.entry_list_extend (F.args_list_extend_2 _ _)
    (AutoSeq1.list_extend_list_list_0 l its.toArray n b its2.toArray n2 hlong (by rw [List.size_toArray]; omega) (by omega)) ⟨e, e2, ?_⟩
  refine ⟨.non, _, I.lset (its' := its ++ its2) hH e (by simp) (r.append r2) ?_, rfl, q⟩
  rw [List.length_append]
  omega





/-! ### list + list, list += list, list * int -/
def rCat : R2 := fun x y H Q => ∃ l b xs zs, x = .ref l ∧ y = .ref b ∧ H l = some (.lst xs) ∧ H b = some (.lst zs) ∧ xs.length + zs.length ≤ sizeLine ∧ ∀ p, H p = none → Q (.ref p) (upd H p (.lst (xs ++ zs)))
theorem op_cat : OpR X (binaryOp .Add) rCat := by
  intro pins s σ H x y v u Q I rx ry h
  obtain ⟨l, b, xs, zs, rfl, rfl, hH, hB, hz, q⟩ := h
  cases rx
  cases ry
  obtain ⟨z, its, n, r, hl, e⟩ := I.lstM hH
  obtain ⟨z2, its2, n2, r2, hl2, e2⟩ := I.lstM hB
  refine PySem.P.add_list e e2 ?_ (by rw [List.size_toArray, List.size_toArray]; omega)
  have ea : its.toArray ++ its2.toArray = (its ++ its2).toArray := by simp
  rw [ea]
  exact ⟨.ref _, _, I.lnew (t' := s.toks) (r.append r2) (by rw [List.length_append]; omega), rfl, q _ I.fresh⟩
/-- a list times an int (a negative one is nothing) -/
def rRep : R2 := fun x y H Q => ∃ l k xs, x = .ref l ∧ y = .int k ∧ H l = some (.lst xs) ∧ -(2 ^ 63) ≤ k ∧ k < 2 ^ 63 ∧ xs.length * k.toNat ≤ sizeLine ∧
  ∀ p, H p = none → Q (.ref p) (upd H p (.lst (List.replicate k.toNat xs).flatten))
theorem len_rep {α : Type} (xs : List α) (k : Nat) : (List.replicate k xs).flatten.length = k * xs.length := by
  induction k with
  | zero => simp
  | succ k ih => rw [List.replicate_succ, List.flatten_cons, List.length_append, ih, Nat.succ_mul, Nat.add_comm]
theorem op_rep : OpR X (binaryOp .Mult) rRep := by
  intro pins s σ H x y v u Q I rx ry h
  obtain ⟨l, k, xs, rfl, rfl, hH, h1, h2, hz, q⟩ := h
  cases rx
  obtain ⟨t, rfl⟩ := ry
  obtain ⟨z, its, n, r, hl, e⟩ := I.lstM hH
  have hlen : its.toArray.size * k.toNat ≤ sizeLine := by rw [List.size_toArray, ← hl]; exact hz
  have hcap : ¬ its.toArray.size * k.toNat > (2 ^ 63 - 1) / 8 := by
    have : (sizeLine : Nat) ≤ (2 ^ 63 - 1) / 8 := by decide
    omega
  have hfit : ¬ (!Builtin.List.listFitsIndex k) = true := by
    rw [fitsIndex_both h1 h2]
    exact Bool.false_ne_true
  have hlong : ¬ Builtin.List.listTooLong (its.toArray.size * k.toNat) = true := by
    rw [notLongL hlen]
    exact Bool.false_ne_true
  have hnew : List.foldl (fun x1 x2 => x1 ++ x2) #[] (List.replicate (if its.toArray.isEmpty = true then 0 else k.toNat) its.toArray) = (List.replicate k.toNat its).flatten.toArray := by
    have f0 : ∀ m : Nat, List.foldl (fun x1 x2 => x1 ++ x2) #[] (List.replicate m its.toArray) = (List.replicate m its).flatten.toArray := fun m => by
      have := foldl_rep its m []
      rw [List.nil_append] at this
      exact this
    rw [f0]
    cases its with
    | nil => simp
    | cons a r' => rw [if_neg (by simp)]
  refine wpAny_binaryOp_repeat_ref (T := "list") (U := "int") (by decide) ⟨_, e, rfl⟩ (fun s' => typeIs_int s' k t) noFill_list_mul F.fills_int_mul F.slot_int_rmul repeat_list F.slot_int_index.lookup
    (call_meets F.slot_int_rmul (typeIs_int s k t) F.entry_int_rmul (F.args_int_rmul_2 _ _) (int___rmul___int_list k t l its.toArray n)
      ⟨e, rfl, ⟨_, e, rfl⟩, call_meets F.slot_list_mul ⟨_, e, rfl⟩ F.entry_list_mul (F.args_list_mul_2 _ _) (AutoListH.list___mul___list_int_3 l its.toArray n k t hfit hcap hlong) ⟨e, ?_⟩⟩)
  rw [hnew]
  exact ⟨.ref _, _, I.lnew (t' := s.toks) (r.rep k.toNat) (by rw [len_rep, Nat.mul_comm]; exact hz), rfl, q _ I.fresh⟩

/-! ### del xs[i] -/
end

/-! ### xs[a:b] = ys -/
section
variable {prog : Program} {w : World} {A : Around} {E : Value → Shared → Prop} {s : Shared}
set_option maxRecDepth 100000 in
end

end L2

namespace L2
open PySem PySem.Spec PyProof.Rows

theorem Vals.bls : ∀ {bs : List Bool} {us : List Value}, Vals (bs.map V.bl) us → us = bs.map Value.bool
  | [], us, h => by
    rw [List.map_nil] at h
    cases h
    rfl
  | b :: bs, us, h => by
    rw [List.map_cons] at h
    cases h with
    | cons r t =>
      cases r
      rw [Vals.bls t, List.map_cons]
theorem Vals.ref1 {a : Addr} {us : List Value} (r : Vals [V.ref a] us) : us = [Value.ref a] := by
  cases r with
  | cons r t =>
    cases t
    cases r
    rfl

/-! ### the library's walks over a list of ints, kept objects alone -/

/-! ### the calls, by values (CallR of 03t; MtR of 06l) -/
section
variable {X : Cx}

/-! sorted, sort (fewer than 64 items: the library's own bound) -/
end

/-! ### list.index, flat items -/

/-! ### type(x) of an own instance; is, is not of a module's class -/

/-! ### any(xs), all(xs) of a list of bools -/
theorem iter_any {prog : Program} {w : World} {A : Around} {E : Value → Shared → Prop} {s : Shared} {l : Addr} {items : Array Value} {Q : Value → Shared → Prop} (hl : s.heap.IsList l items)
    (h : ∀ s₂ : Shared, s₂ = { s with heap := s.heap.push { cls := .type "list_iterator", data := .fields #[.ref l, .int 0 0] } } →
      (s₂.heap.IsListIter s.heap.objs.size l 0 ∧ s₂.heap.IsList l items) → l ≠ s.heap.objs.size → Q (.ref s.heap.objs.size) s₂) : wpAny (model prog w) A (pyIter (.ref l)) Q E s := by
  have hlt : l < s.heap.objs.size := by obtain ⟨_, e, _⟩ := hl; exact Heap.lt_size e
  exact wpAny_pyIter_list hl (h _ rfl ⟨⟨_, Heap.get?_push_size _ rfl, rfl, rfl⟩, hl.push _⟩ (Nat.ne_of_lt hlt))
theorem truth_bools {prog : Program} {w : World} {A : Around} {bs : List Bool} {its : List Value} (e : its = bs.map Value.bool) :
    TruthOf prog w A (fun i v => its.toArray[i]? = some v) (fun i => bs.getD i false) := fun i v s Q E hv hq => by
  have hv' : its[i]? = some v := by simpa using hv
  rw [e, List.getElem?_map] at hv'
  obtain ⟨b, hb, rfl⟩ := Option.map_eq_some_iff.mp hv'
  have hg : bs.getD i false = b := by rw [List.getD_eq_getElem?_getD, hb] <;> rfl
  have hq' : Q (bs.getD i false) s := hq
  rw [hg] at hq'
  exact wpAny_truthy_bool hq'
theorem any_range : ∀ bs : List Bool, (List.range bs.length).any (fun i => bs.getD i false) = bs.any id
  | [] => rfl
  | b :: bs => by
    rw [List.length_cons, List.range_succ_eq_map, List.any_cons, List.any_map, List.any_cons, ← any_range bs]
    all_goals rfl
theorem all_range : ∀ bs : List Bool, (List.range bs.length).all (fun i => bs.getD i false) = bs.all id
  | [] => rfl
  | b :: bs => by
    rw [List.length_cons, List.range_succ_eq_map, List.all_cons, List.all_map, List.all_cons, ← all_range bs]
    all_goals rfl
section
variable {X : Cx}
def rAll (K : PySem.W.Frag) : List V → Hp → VK → Prop := fun vs H Q => ∃ (a : Addr) (bs : List Bool), vs = [V.ref a] ∧ SqL K H a (bs.map V.bl) ∧ Q (.bl (bs.all id)) H
theorem cr_all (hc : X.calm = true) : CallR X (.builtin "all") (rAll X.K) := by
  intro pins s σ H vs us Q I r h
  obtain ⟨a, bs, rfl, hs, q⟩ := h
  obtain ⟨its, rv, hl, _⟩ := I.list hs
  rw [Vals.ref1 r]
  have hb := rv.bls
  refine call_all_walk (iter_any hl.isList fun s₂ e2 st hne => ?_)
  subst e2
  refine ⟨_, _, _, _, _, _, _, rfl, Walks.list (A := X.A.in1) (I.ok.hd hc) _ a hne its.toArray, st, truth_bools hb, fun h' tk hk => ?_⟩
  refine ⟨.bl _, H, I.kept fun b o eo => hk b o (fun hmem => ?_) (Heap.get?_push_of_some _ eo), ?_, q⟩
  · rcases List.mem_cons.mp hmem with e1 | hmem
    · exact absurd (e1 ▸ Heap.lt_size eo) (Nat.lt_irrefl _)
    · cases hmem
  · show Value.bool _ = Value.bool _
    rw [← all_range, hb, List.size_toArray, List.length_map]
end

/-! ### == and != of data at any depth: none, bools, ints, texts, lists, tuples -/
end L2

namespace L2
open PySem PySem.Spec PyProof.Rows
abbrev CellAt (h : Heap) (c : Addr) (v : Option Value) : Prop := h.IsCell c v
def relS (scope sc : Scope) : Scope :=
  { scope with names := scope.names.map fun (n, k) => if (k == .free && sc.kind == .function && sc.names.lookup n == some .cell) then (n, .cell) else (n, k) }

def cloFrom (cells : List (Str × Addr)) : List (Str × NameKind) → List (Str × Addr) → List (Str × Addr)
  | [], acc => acc
  | (n, k) :: r, acc => if k == .free then cloFrom cells r ((n, (cells.lookup n).getD 0) :: acc) else cloFrom cells r acc

theorem closure_loop (env : Env) (f : Str × NameKind → List (Str × Addr) → Sem (ForInStep (List (Str × Addr))))
    (hf : ∀ n k c, f (n, k) c = if k == .free then (do let a ← cellOf env n; pure (.yield ((n, a) :: c))) else pure (.yield c)) :
    ∀ (names : List (Str × NameKind)) (acc : List (Str × Addr)), (∀ y ∈ names, y.2 = .free → ∃ c, env.cells.lookup y.1 = some c) → forIn names acc f = pure (cloFrom env.cells names acc)
  | [], acc, _ => by rw [List.forIn_nil]; rfl
  | (n, k) :: r, acc, h => by
    rw [List.forIn_cons, hf]
    have ih := fun acc => closure_loop env f hf r acc fun y hy => h y (List.mem_cons_of_mem _ hy)
    unfold cloFrom
    by_cases hk : (k == NameKind.free) = true
    · rw [if_pos hk, if_pos hk]
      obtain ⟨c, hc⟩ := h (n, k) List.mem_cons_self (by simpa using hk)
      have e : cellOf env n = pure c := by unfold cellOf; rw [hc]
      rw [e]
      have e2 : (env.cells.lookup n).getD 0 = c := by rw [hc]; rfl
      rw [e2]
      exact ih _
    · rw [if_neg hk, if_neg hk]
      exact ih _
theorem closure_ok {scope : Scope} {env : Env} (h : ∀ y ∈ scope.names, y.2 = .free → ∃ c, env.cells.lookup y.1 = some c) : closureFor scope env = pure (cloFrom env.cells scope.names []) := by
  simp only [closureFor]
  rw [closure_loop env _ (fun n k c => rfl) scope.names [] h]
  rfl

theorem mem_lookup {α : Type} : ∀ {l : List (Str × α)} {n : Str} {c : α}, (n, c) ∈ l → ∃ c', l.lookup n = some c'
  | (k, v) :: r, n, c, h => by
    rw [List.lookup_cons]
    cases hb : n == k with
    | true => exact ⟨_, rfl⟩
    | false =>
      rcases List.mem_cons.mp h with e | h
      · cases e; simp at hb
      · exact mem_lookup h

theorem cloFrom_mem {cells : List (Str × Addr)} : ∀ {names : List (Str × NameKind)} {acc : List (Str × Addr)} {n : Str} {c : Addr}, (n, c) ∈ cloFrom cells names acc → (n, c) ∈ acc ∨ ((n, .free) ∈ names ∧ c = (cells.lookup n).getD 0)
  | [], _, _, _, h => .inl h
  | (m, k) :: r, acc, n, c, h => by
    unfold cloFrom at h
    split at h
    · rename_i hk
      have hk : k = .free := by simpa using hk
      rcases cloFrom_mem h with h | ⟨h1, h2⟩
      · rcases List.mem_cons.mp h with e | h
        · cases e; exact .inr ⟨hk ▸ List.mem_cons_self, rfl⟩
        · exact .inl h
      · exact .inr ⟨List.mem_cons_of_mem _ h1, h2⟩
    · rcases cloFrom_mem h with h | ⟨h1, h2⟩
      · exact .inl h
      · exact .inr ⟨List.mem_cons_of_mem _ h1, h2⟩
theorem cloFrom_acc {cells : List (Str × Addr)} : ∀ {names : List (Str × NameKind)} {acc : List (Str × Addr)} {p : Str × Addr}, p ∈ acc → p ∈ cloFrom cells names acc
  | [], _, _, h => h
  | (m, k) :: r, acc, p, h => by
    unfold cloFrom
    split
    · exact cloFrom_acc (List.mem_cons_of_mem _ h)
    · exact cloFrom_acc h
theorem cloFrom_has {cells : List (Str × Addr)} : ∀ {names : List (Str × NameKind)} {acc : List (Str × Addr)} {n : Str}, (n, .free) ∈ names → (n, (cells.lookup n).getD 0) ∈ cloFrom cells names acc
  | (m, k) :: r, acc, n, h => by
    unfold cloFrom
    rcases List.mem_cons.mp h with e | h
    · cases e
      exact cloFrom_acc List.mem_cons_self
    · split
      · exact cloFrom_has h
      · exact cloFrom_has h

theorem cells_mem : ∀ {names : List (Str × NameKind)} {h : Heap} {acc : List (Str × Addr)} {x : Str} {c : Addr}, (x, c) ∈ cellsFrom h.objs.size names acc →
    (x, c) ∈ acc ∨ ((x, .cell) ∈ names ∧ h.objs.size ≤ c ∧ CellAt (pushCells h names) c none)
  | [], _, _, _, _, h => .inl h
  | (n, k) :: r, h, acc, x, c, hm => by
    unfold cellsFrom at hm
    unfold pushCells
    split at hm
    · rename_i hk
      rw [if_pos hk]
      have hk : k = .cell := by simpa using hk
      rw [← Heap.size_push h { cls := .type "cell", data := .cell none }] at hm
      rcases cells_mem hm with hm | ⟨h1, h2, h3⟩
      · rcases List.mem_cons.mp hm with e | hm
        · cases e
          exact .inr ⟨hk ▸ List.mem_cons_self, Nat.le_refl _, _, pushCells_keeps r _ _ _ (Heap.get?_push_size _ rfl), rfl⟩
        · exact .inl hm
      · rw [Heap.size_push] at h2
        exact .inr ⟨List.mem_cons_of_mem _ h1, Nat.le_of_succ_le h2, h3⟩
    · rename_i hk
      rw [if_neg hk]
      rcases cells_mem hm with hm | ⟨h1, h2, h3⟩
      · exact .inl hm
      · exact .inr ⟨List.mem_cons_of_mem _ h1, h2, h3⟩
theorem cells_acc : ∀ {names : List (Str × NameKind)} {n : Nat} {acc : List (Str × Addr)} {p : Str × Addr}, p ∈ acc → p ∈ cellsFrom n names acc
  | [], _, _, _, h => h
  | (m, k) :: r, n, acc, p, h => by
    unfold cellsFrom
    split
    · exact cells_acc (List.mem_cons_of_mem _ h)
    · exact cells_acc h
theorem cells_has : ∀ {names : List (Str × NameKind)} {n : Nat} {acc : List (Str × Addr)} {x : Str}, (x, .cell) ∈ names → ∃ c, (x, c) ∈ cellsFrom n names acc
  | (m, k) :: r, n, acc, x, h => by
    unfold cellsFrom
    rcases List.mem_cons.mp h with e | h
    · cases e
      exact ⟨n, cells_acc List.mem_cons_self⟩
    · split
      · exact cells_has h
      · exact cells_has h
theorem cells_inj : ∀ {names : List (Str × NameKind)} {h : Heap} {acc : List (Str × Addr)} {x y : Str} {c : Addr}, (∀ p ∈ acc, p.2 < h.objs.size) → (∀ x y c, (x, c) ∈ acc → (y, c) ∈ acc → x = y) →
    (x, c) ∈ cellsFrom h.objs.size names acc → (y, c) ∈ cellsFrom h.objs.size names acc → x = y
  | [], _, _, _, _, _, _, hi, h1, h2 => hi _ _ _ h1 h2
  | (n, k) :: r, h, acc, x, y, c, hl, hi, h1, h2 => by
    unfold cellsFrom at h1 h2
    split at h1
    · rename_i hk
      rw [if_pos hk] at h2
      rw [← Heap.size_push h { cls := .type "cell", data := .cell none }] at h1 h2
      refine cells_inj (h := h.push _) (fun p hp => ?_) (fun x y c a b => ?_) h1 h2
      · rw [Heap.size_push]
        rcases List.mem_cons.mp hp with rfl | hp
        · exact Nat.lt_succ_self _
        · exact Nat.lt_succ_of_lt (hl p hp)
      · rcases List.mem_cons.mp a with e | a <;> rcases List.mem_cons.mp b with e' | b
        · cases e; cases e'; rfl
        · cases e; exact absurd (hl _ b) (Nat.lt_irrefl _)
        · cases e'; exact absurd (hl _ a) (Nat.lt_irrefl _)
        · exact hi _ _ _ a b
    · rename_i hk
      rw [if_neg hk] at h2
      exact cells_inj hl hi h1 h2

theorem newEnv_comp {M : Model} {A : Around} {E : Value → Shared → Prop} {s : Shared} {scope : Scope} {globals : Addr} {closure : List (Str × Addr)} {qual : Str} {func : Option Addr} {code : Value} {around : Env} {builtins : Addr} {Q : Env → Shared → Prop}
    (h : Q (newEnv scope s.heap.objs.size globals (cellsFrom (s.heap.objs.size + 1) scope.names closure) qual func code (some around) builtins)
      { s with heap := pushCells (s.heap.push { cls := .type "dict", data := .dict #[] }) scope.names }) :
    wpAny M A (newFunctionEnv scope globals closure [] qual func code (some around) builtins) Q E s := by
  simp only [newFunctionEnv, Option.isSome_some, if_true]
  refine wpAny_bind (wpAny_alloc ?_)
  refine wpAny_bind (wpAny_layCells _ (fun n k c => rfl) scope.names closure _ _ ?_)
  rw [show ({ s with heap := s.heap.push { cls := .type "dict", data := .dict #[] } } : Shared).heap.objs.size = s.heap.objs.size + 1 from Heap.size_push ..]
  rw [List.forIn_nil]
  exact wpAny_bind (wpAny_pure (wpAny_pure h))

/-- every name of the written scope, in the scope that runs -/
theorem lookup_relS {sc : Scope} : ∀ {names : List (Str × NameKind)} {x : Str} {k : NameKind},
    (names.map fun (n, k) => if (k == NameKind.free && sc.kind == .function && sc.names.lookup n == some .cell) then (n, NameKind.cell) else (n, k)).lookup x = some k →
    ∃ k', names.lookup x = some k' ∧ (k = k' ∨ (k' = .free ∧ k = .cell))
  | [], _, _, h => by simp at h
  | (n, k₀) :: r, x, k, h => by
    have ih := @lookup_relS sc r x k
    have h' : List.lookup x ((if (k₀ == NameKind.free && sc.kind == .function && sc.names.lookup n == some .cell) = true then (n, NameKind.cell) else (n, k₀)) :: (r.map _)) = some k := h
    cases hx : x == n with
    | true =>
      simp only [List.lookup_cons, hx]
      by_cases hc : (k₀ == NameKind.free && sc.kind == .function && sc.names.lookup n == some .cell) = true
      · rw [if_pos hc] at h'
        simp only [List.lookup_cons, hx] at h'
        cases h'
        simp only [Bool.and_eq_true, beq_iff_eq] at hc
        exact ⟨k₀, rfl, .inr ⟨hc.1.1, rfl⟩⟩
      · rw [if_neg hc] at h'
        simp only [List.lookup_cons, hx] at h'
        cases h'
        exact ⟨_, rfl, .inl rfl⟩
    | false =>
      simp only [List.lookup_cons, hx]
      by_cases hc : (k₀ == NameKind.free && sc.kind == .function && sc.names.lookup n == some .cell) = true
      · rw [if_pos hc] at h'
        simp only [List.lookup_cons, hx] at h'
        exact ih h'
      · rw [if_neg hc] at h'
        simp only [List.lookup_cons, hx] at h'
        exact ih h'



/-- the names of a comprehension's block: its own (with their places in N), or captured -/
structure BlkOk (N : List Str) (sc scope : Scope) (own : List (Str × Nat)) : Prop where
  kind : scope.kind = .function
  uniq : ∀ y ∈ scope.names, scope.names.lookup y.1 = some y.2
  ix : ∀ p ∈ own, N[p.2]? = some p.1
  free : ∀ y ∈ scope.names, y.2 = .free → sc.names.lookup y.1 = some .cell ∨ sc.names.lookup y.1 = some .free
  own : ∀ y ∈ scope.names, y.2 = .local ∨ y.2 = .cell → y.1 ∈ own.map (·.1) ∨ y.1 ∉ N
/-- the slots of the block's own names forgotten -/
def wipe (σ : St) : List Nat → St
  | [] => σ
  | v :: vs => (wipe σ vs).set v none
theorem wipe_length (σ : St) : ∀ vs : List Nat, (wipe σ vs).length = σ.length
  | [] => rfl
  | v :: vs => by unfold wipe; rw [List.length_set, wipe_length σ vs]
theorem wipe_some {σ : St} {i : Nat} {x : V} : ∀ {vs : List Nat}, (wipe σ vs)[i]? = some (some x) → σ[i]? = some (some x) ∧ i ∉ vs
  | [], h => ⟨h, by simp⟩
  | v :: vs, h => by
    unfold wipe at h
    by_cases hi : v = i
    · subst hi
      by_cases hv : v < (wipe σ vs).length
      · rw [List.getElem?_set_self hv] at h; cases h
      · rw [List.getElem?_eq_none (by simpa using hv)] at h; cases h
    · rw [List.getElem?_set_ne hi] at h
      obtain ⟨h1, h2⟩ := wipe_some h
      exact ⟨h1, by simp only [List.mem_cons, not_or]; exact ⟨fun e => hi e.symm, h2⟩⟩

/-- the context of a block that starts at s, its iterator's objects at fp -/
abbrev Cx.blk (X : Cx) (s : Shared) (H : Hp) (scope : Scope) (cenv : Env) (fp : List Addr) : Cx := { X with s_0 := s, H_0 := H, env := cenv, outer := X.stack, ex := fp, fn := fun x => scope.names.lookup x == some .cell, pn := [], xe := fun _ _ => False }
section
variable {X : Cx} {pins : List (Addr × Obj)} {σ : St} {H : Hp} {s : Shared}
theorem block_start {scope : Scope} {own : List (Str × Nat)} {fp : List Addr} (I : Inv X pins σ H s) (ok : BlkOk X.N X.env.scope scope own) (hN : X.N.Nodup) (hfp : ∀ b ∈ fp, FpOk X pins H b ∧ b < s.heap.objs.size) :
    Inv (X.blk s H scope (compEnvC scope (cellsFrom (s.heap.objs.size + 1) scope.names (cloFrom X.env.cells scope.names [])) s.heap.objs.size X.env) fp) [] (wipe σ (own.map (·.2))) H { s with heap := pushCells (s.heap.push { cls := .type "dict", data := .dict #[] }) scope.names } := by
  have hfree : ∀ y ∈ scope.names, y.2 = .free → ∃ c, X.env.cells.lookup y.1 = some c := fun y hy e => by
    rcases ok.free y hy e with k | k
    · exact I.ok.has _ (.inl k)
    · exact I.ok.has _ (.inr k)
  generalize hcenv : compEnvC scope (cellsFrom (s.heap.objs.size + 1) scope.names (cloFrom X.env.cells scope.names [])) s.heap.objs.size X.env = cenv
  have kp : ∀ b o, s.heap.get? b = some o → (pushCells (s.heap.push { cls := .type "dict", data := .dict #[] }) scope.names).get? b = some o := fun b o e => pushCells_keeps _ _ _ _ (Heap.get?_push_of_some _ e)
  have hL : cenv.locals = s.heap.objs.size := by rw [← hcenv]; rfl
  have hcl : cenv.cells = cellsFrom (s.heap.objs.size + 1) scope.names (cloFrom X.env.cells scope.names []) := by rw [← hcenv]; rfl
  have hsc : cenv.scope = relS scope X.env.scope := by rw [← hcenv]; rfl
  rw [← Heap.size_push s.heap { cls := .type "dict", data := .dict #[] }] at hcl
  have cm : ∀ {y c}, (y, c) ∈ cloFrom X.env.cells scope.names [] → X.env.cells.lookup y = some c ∧ c < s.heap.objs.size := fun {y c} hm => by
    rcases cloFrom_mem hm with hm | ⟨h1, rfl⟩
    · cases hm
    · obtain ⟨c, hc⟩ := hfree _ h1 rfl
      rw [hc]
      obtain ⟨w, z⟩ := I.cell _ _ hc
      exact ⟨rfl, z.lt⟩
  have mem : ∀ {y c}, cenv.cells.lookup y = some c → (X.env.cells.lookup y = some c ∧ c < s.heap.objs.size) ∨ (s.heap.objs.size + 1 ≤ c ∧ CellAt (pushCells (s.heap.push { cls := .type "dict", data := .dict #[] }) scope.names) c none) := fun {y c} e => by
    rw [hcl] at e
    rcases cells_mem (PySem.mem_of_lookup e) with hm | ⟨_, h2, h3⟩
    · exact .inl (cm hm)
    · rw [Heap.size_push] at h2; exact .inr ⟨h2, h3⟩
  have look : ∀ {y}, scope.names.lookup y = some .free → ∃ c, cenv.cells.lookup y = some c ∧ X.env.cells.lookup y = some c := fun {y} hl => by
    have hy : (y, NameKind.free) ∈ scope.names := PySem.mem_of_lookup hl
    obtain ⟨c', e'⟩ := mem_lookup (cells_acc (names := scope.names) (n := (s.heap.push { cls := .type "dict", data := .dict #[] }).objs.size) (cloFrom_has (cells := X.env.cells) (acc := []) hy))
    rw [← hcl] at e'
    refine ⟨c', e', ?_⟩
    rw [hcl] at e'
    rcases cells_mem (PySem.mem_of_lookup e') with hm | ⟨h1, _, _⟩
    · exact (cm hm).1
    · have := ok.uniq _ h1
      rw [hl] at this; cases this
  have okB : (X.blk s H scope cenv fp).Ok := by
    refine ⟨I.ok.mod, by show cenv.scope.kind = _; rw [hsc]; exact ok.kind, by show cenv.globals = _; rw [← hcenv]; exact I.ok.glob, by show cenv.builtins = _; rw [← hcenv]; exact I.ok.blt, by show s.heap.objs.size ≤ cenv.locals; rw [hL]; exact Nat.le_refl _,
      fun y z c e1 e2 => ?_, fun y hy => ?_, fun y c z e => ?_, I.ok.hd, I.ok.frames, .inl rfl, fun b hb => ⟨?_, fun y c e z => ?_⟩, I.bs, Nat.le_trans I.ok.bsz I.sz, fun b o e hb => ?_, fun b hb z => ?_, I.stack, I.stkFree⟩
    · have e1 : cenv.cells.lookup y = some c := e1
      have e2 : cenv.cells.lookup z = some c := e2
      rw [hcl] at e1 e2
      refine cells_inj (fun p hp => ?_) (fun y z c a b => I.ok.inj y z c (cm a).1 (cm b).1) (PySem.mem_of_lookup e1) (PySem.mem_of_lookup e2)
      rw [Heap.size_push]
      exact Nat.lt_succ_of_lt (cm (y := p.1) (c := p.2) hp).2
    · show ∃ c, cenv.cells.lookup y = some c
      have key : ∀ k, cenv.kindOf y = some k → (k = .cell ∨ k = .free) → ∃ c, cenv.cells.lookup y = some c := fun k hk hk' => by
        unfold Env.kindOf at hk
        rw [hsc] at hk
        obtain ⟨k', e, r⟩ := lookup_relS hk
        have : k' = .cell ∨ k' = .free := by
          rcases r with rfl | ⟨rfl, _⟩
          · exact hk'
          · exact .inr rfl
        rcases this with rfl | rfl
        · obtain ⟨c, hm⟩ := cells_has (n := (s.heap.push { cls := .type "dict", data := .dict #[] }).objs.size) (acc := cloFrom X.env.cells scope.names []) (PySem.mem_of_lookup e)
          obtain ⟨c', e'⟩ := mem_lookup hm
          exact ⟨c', by rw [hcl]; exact e'⟩
        · obtain ⟨c, h1, _⟩ := look e
          exact ⟨c, h1⟩
      rcases hy with hy | hy
      · exact key _ hy (.inl rfl)
      · exact key _ hy (.inr rfl)
    · have z : (scope.names.lookup y == some NameKind.cell) = true := z
      have z : scope.names.lookup y = some .cell := by simpa using z
      have e : cenv.cells.lookup y = some c := e
      rw [hcl] at e
      rcases cells_mem (PySem.mem_of_lookup e) with hm | ⟨_, h2, _⟩
      · rcases cloFrom_mem hm with hm | ⟨h1, _⟩
        · cases hm
        · have q := ok.uniq _ h1
          rw [z] at q; cases q
      · rw [Heap.size_push] at h2
        exact Nat.le_of_succ_le h2
    · show b ≠ cenv.locals
      rw [hL]; exact Nat.ne_of_lt (hfp b hb).2
    · have e : cenv.cells.lookup y = some c := e
      rcases mem e with ⟨h1, _⟩ | ⟨h1, _⟩
      · exact (hfp b hb).1.2.2.2.2.1 y c h1 z
      · have h2 : s.heap.objs.size + 1 ≤ b := by rw [← z]; exact h1
        exact absurd (Nat.lt_of_lt_of_le (hfp b hb).2 (Nat.le_of_succ_le h2)) (Nat.lt_irrefl _)
    · rcases (hfp b hb).1.2.2.2.1 with z | z
      · exact I.ok.noex b o e z
      · exact absurd (Nat.lt_of_lt_of_le (Heap.lt_size e) (Nat.le_trans I.ok.bsz z)) (Nat.lt_irrefl _)
    · rcases List.mem_cons.mp (I.stkSub b z) with z | z
      · exact (hfp b hb).1.2.1 z
      · exact (hfp b hb).1.2.2.1 z
  refine ⟨okB, rfl, I.bare, Un.kept kp, ⟨fun _ => none, ?_, fun i y av e1 e2 e3 => ?_⟩, fun y c e => ?_, ?_, fun y c e => ?_, fun p hp => ?_, I.hok.kept kp, by rw [wipe_length]; exact I.len⟩
  · show Heap.Ns _ cenv.locals _
    rw [hL]
    exact Heap.Ns.keeps (Heap.Ns.new ..) fun b o e => pushCells_keeps _ _ _ _ e
  · obtain ⟨e2, hne⟩ := wipe_some e2
    have hfr : scope.names.lookup y = some .free ∧ (cenv.kindOf y = some .cell ∨ cenv.kindOf y = some .free) := by
      have key : ∀ k, cenv.scope.names.lookup y = some k → k = .local ∨ k = .cell ∨ k = .free → scope.names.lookup y = some .free ∧ (cenv.kindOf y = some .cell ∨ cenv.kindOf y = some .free) := fun k hk hk' => by
        have hk0 := hk
        rw [hsc] at hk
        obtain ⟨k', e, r⟩ := lookup_relS hk
        have no : ¬ (k' = .local ∨ k' = .cell) := fun hh => by
          rcases ok.own _ (PySem.mem_of_lookup e) hh with e' | e'
          · obtain ⟨p, hp, hpy⟩ := List.mem_map.mp e'
            have e3 := ok.ix p hp
            have : p.1 = y := hpy
            rw [this] at e3
            exact hne (List.mem_map.mpr ⟨p, hp, nodup_ix hN e3 e1⟩)
          · exact e' (List.mem_of_getElem? e1)
        rcases r with rfl | ⟨rfl, rfl⟩
        · rcases hk' with rfl | rfl | rfl
          · exact absurd (.inl rfl) no
          · exact absurd (.inr rfl) no
          · exact ⟨e, .inr hk0⟩
        · exact ⟨e, .inl hk0⟩
      have e3 : Vis cenv.scope y := e3
      rcases e3 with e3 | e3 | e3
      · exact key _ e3 (.inl rfl)
      · exact key _ e3 (.inr (.inl rfl))
      · exact key _ e3 (.inr (.inr rfl))
    obtain ⟨m, hn, hl⟩ := I.loc
    have hvis : Vis X.env.scope y := (ok.free _ (PySem.mem_of_lookup hfr.1) rfl).elim (fun k => .inr (.inl k)) (fun k => .inr (.inr k))
    obtain ⟨w, r, q⟩ := hl i y av e1 e2 hvis
    refine ⟨w, r, .inr ⟨hfr.2, ?_⟩⟩
    obtain ⟨c, h1, h2⟩ := look hfr.1
    rcases q with ⟨k, _⟩ | ⟨_, c', e', z⟩
    · have k : X.env.scope.names.lookup y = some .local := k
      rcases ok.free _ (PySem.mem_of_lookup hfr.1) rfl with k' | k' <;> rw [show X.env.scope.names.lookup y = _ from k'] at k <;> cases k
    · rw [h2] at e'; cases e'
      exact ⟨c, h1, z.keeps kp⟩
  · have e : cenv.cells.lookup y = some c := e
    rcases mem e with ⟨h1, _⟩ | ⟨_, z⟩
    · obtain ⟨w, z⟩ := I.cell y c h1
      exact ⟨w, z.keeps kp⟩
    · exact ⟨_, z⟩
  · show H cenv.locals = none
    rw [hL]; exact I.hok.fresh (Nat.le_refl _)
  · have e : cenv.cells.lookup y = some c := e
    rcases mem e with ⟨h1, _⟩ | ⟨h1, _⟩
    · exact I.freeC y c h1
    · exact I.hok.fresh (Nat.le_of_succ_le h1)
  · exact absurd (show p ∈ ([] : List (Addr × Obj)) ++ [] from hp) (by simp)

/-- an item appended to a tracked list -/
theorem app_ok {E : Value → Shared → Prop} {D : Addr} {xs : List V} {y : V} {v : Value} {Q : Value → Shared → Prop} (I : Inv X pins σ H s) (hD : H D = some (.lst xs)) (hz : xs.length < sizeLine) (r : RelV y v)
    (h : ∀ s', Inv X pins σ (upd H D (.lst (xs ++ [y]))) s' → Q .none s') : wpAny (model X.prog X.w) X.A (call (.builtin "list.append") [.ref D, v]) Q E s := by
  obtain ⟨hz', its, n, ri, e⟩ := I.hok D _ hD
  have hl := ri.length
  refine append_at (hsz := by rw [List.size_toArray]; omega) e fun h' sb ho' => ?_
  refine h { s with heap := h' } (I.write (t' := s.toks) (by rw [hD]; trivial) (.inl rfl) (fun b u hb q => (sb.2 b hb).trans q) ⟨_, ho'⟩ ⟨by rw [List.length_append]; exact hz, its ++ [v], n + 1, ri.append (.cons r .nil), ?_⟩)
  rw [ho']
  simp

/-- a clause's tests -/
def PTs (X : Cx) (ifs : List Expr) (t : TT) : Prop :=
  ∀ (pins : List (Addr × Obj)) (s : Shared) (σ : St) (H : Hp) (Q : Bool → Hp → Prop), Inv X pins σ H s → t σ H Q →
    wpAny (model X.prog X.w) X.A (forIn ifs true fun c r => if r = true then do let ok ← isTrue c X.env (eval c X.env); pure (ForInStep.yield ok) else pure (ForInStep.yield r)) (TP X pins σ Q) X.xe s
def tYes : TT := fun _ H Q => Q true H
theorem pts_nil : PTs X [] tYes := fun _ _ _ H _ I h => wpAny_tests_nil ⟨H, I, h⟩
theorem pts_one {c : Expr} {t : TT} (h : PT X c t) : PTs X [c] t := fun pins s σ H Q I hw => wpAny_tests_one (h pins s σ H Q I hw)
end

theorem thnF {α : Type} {t : Sem α} {Q Q' : α → Shared → Prop} {M : Model} {A : Around} {E : Value → Shared → Prop} {s : Shared} (h : wpAny M A t Q (fun _ _ => False) s) (hQ : ∀ a s, Q a s → Q' a s) : wpAny M A t Q' E s := wpAny_mono h hQ fun _ _ z => False.elim z

/-- the loop of a list comprehension's block, the target of any form (codeAny_compLoop_tests asks a target that no tuple goes to; statement and proof follow it, PyProof/CompMap.lean:41-61, with the step letOwnedTupleGo kept) -/
theorem compLoop_any {prog : Program} {w : World} {A : Around} {R : Result → Shared → Prop} {s : Shared} {elt target iter : Expr} {ifs : List Expr} {scope : Scope} {pos : Pos} {it acc : Value} {env : Env} (I : Nat → Shared → Prop)
    (turn : ∀ n s, I n s → wpAny (model prog w) A (pyNext it) (fun r s₁ => match r with
      | none => R (.ok .next) s₁
      | some v => wpAny (model prog w) A (letOwnedTupleGo target it v) (fun _ s₁' => wpAny (model prog w) A (assign target env v) (fun _ s₂ =>
          wpAny (model prog w) A (forIn ifs true fun c r => if r = true then do let ok ← isTrue c env (eval c env); pure (ForInStep.yield ok) else pure (ForInStep.yield r)) (fun ok s₃ =>
            if ok = true then wpAny (model prog w) A (eval elt env) (fun x s₄ =>
              wpAny (model prog w) A (call (.builtin "list.append") [acc, x]) (fun _ s₅ => ∃ m, m < n ∧ I m s₅) (notedBy (model prog w) A env fun e s' => R (.error e) s') s₄) (notedBy (model prog w) A env fun e s' => R (.error e) s') s₃
            else ∃ m, m < n ∧ I m s₃) (notedBy (model prog w) A env fun e s' => R (.error e) s') s₂) (notedBy (model prog w) A env fun e s' => R (.error e) s') s₁') (notedBy (model prog w) A env fun e s' => R (.error e) s') s₁) (notedBy (model prog w) A env fun e s' => R (.error e) s') s)
    (n : Nat) (h : I n s) :
    codeAny (model prog w) A (.compLoop (.ListComp elt [⟨target, iter, ifs, 0⟩] scope pos) 0 it acc env) R s := by
  refine codeAny_loop rfl I (fun n s hI => ?_) n h
  show wpAny _ A ((compTurn (.ListComp elt [⟨target, iter, ifs, 0⟩] scope pos) 0 it acc env).onRaise (fun x => do noteFrame x env; theTreesLotGoes x)) _ _ s
  refine wpAny_noted ?_
  rw [compTurn_list]
  refine wpAny_bind (wpAny_standAt (wpAny_bind (wpAny_mono (turn n s hI) (fun r s₁ h₁ => ?_) fun _ _ h' => h')))
  cases r with
  | none => exact wpAny_pure h₁
  | some v =>
    refine wpAny_bind (wpAny_mono h₁ (fun _ s₁' h₁' => ?_) fun _ _ h' => h')
    refine wpAny_bind (wpAny_mono h₁' (fun _ s₂ h₂ => wpAny_bind (wpAny_mono h₂ (fun ok s₃ h₃ => ?_) fun _ _ h' => h')) fun _ _ h' => h')
    cases ok with
    | false => exact wpAny_pure ⟨rfl, h₃⟩
    | true =>
      exact wpAny_bind (wpAny_bind (wpAny_mono h₃ (fun x s₄ h₄ => wpAny_bind (wpAny_mono h₄ (fun _ s₅ h₅ => wpAny_pure (wpAny_pure ⟨rfl, h₅⟩)) fun _ _ h' => h')) fun _ _ h' => h'))

section
variable {X : Cx}
/-- [elt for target in iter if ..]: D the new list; W by the turn and a measure, Nx what a turn is to reach -/
def tLc (wi : TI) (g : TG) (tt : TT) (te : TE) (vs : List Nat) : TE := fun σ H Q => wi σ H fun J H1 => ∀ D, H1 D = none → ∃ W : Nat → Nat → Hp → Prop, (∃ m, W 0 m (upd H1 D (.lst []))) ∧ ∀ i m H, W i m H →
  (J.stop i H ∧ Q (.ref D) H) ∨ (J.go i H ∧ ∃ Nx : Hp → Prop, (∀ H', Nx H' → ∃ m', m' < m ∧ W (i + 1) m' H') ∧ ∀ x H', J.yld i H x H' → g x (wipe σ vs) H' fun σ2 H2 => wipe σ2 vs = wipe σ vs ∧ tt σ2 H2 fun b H3 =>
    if b = true then te σ2 H3 fun y H4 => ∃ acc, H4 D = some (.lst acc) ∧ acc.length < sizeLine ∧ Nx (upd H4 D (.lst (acc ++ [y]))) else Nx H3)
theorem lc_core {pins : List (Addr × Obj)} {s : Shared} {σ : St} {H : Hp} {Q : VK} {elt tg iter : Expr} {ifs : List Expr} {scope : Scope} {own : List (Str × Nat)} {pos pos' : Pos} {wi : TI} {g : TG} {tt : TT} {te : TE} {use : Option (Value → Sem Unit)} {Qf : Value → Shared → Prop}
    (hc : X.calm = true) (hN : X.N.Nodup) (I : Inv X pins σ H s) (hi : PI X tg iter wi) (ok : BlkOk X.N X.env.scope scope own)
    (hg : ∀ (s : Shared) (H : Hp) (C : Addr) (cl : List (Str × Addr)) (fp : List Addr), PG (X.blk s H scope (compEnvC scope cl C X.env) fp) tg g) (ht : ∀ (s : Shared) (H : Hp) (C : Addr) (cl : List (Str × Addr)) (fp : List Addr), PTs (X.blk s H scope (compEnvC scope cl C X.env) fp) ifs tt)
    (he : ∀ (s : Shared) (H : Hp) (C : Addr) (cl : List (Str × Addr)) (fp : List Addr), PE (X.blk s H scope (compEnvC scope cl C X.env) fp) elt te) (hs : ∀ x, foldedSetIterable iter X.env x = pure x)
    (h : tLc wi g tt te (own.map (·.2)) σ H Q)
    (hRR : ∀ D C s' m H', Inv X pins σ H' s' → Q (.ref D) H' → s'.heap.Ns C m → FpOk X pins H' C → compPost (model X.prog X.w) X.A X.xe use Qf (.ref D) C (.ok .next) s') :
    wpAny (model X.prog X.w) X.A (comprehension (.ListComp elt [⟨tg, iter, ifs, 0⟩] scope pos) scope X.env pos' (newList []) false (eval iter X.env) use) Qf X.xe s := by
  have hfree : ∀ y ∈ scope.names, y.2 = .free → ∃ c, X.env.cells.lookup y.1 = some c := fun y hy e => by
    rcases ok.free y hy e with k | k
    · exact I.ok.has _ (.inl k)
    · exact I.ok.has _ (.inr k)
  refine wpAny_comprehension_free (use := use) rfl hs (closure_ok hfree) ok.kind (fun y hy e => by rw [ok.uniq y hy, e])
    (thn (hi pins s σ H _ I h) fun xv s1 hx => thn hx fun itv s2 h2 => ?_)
  obtain ⟨it, fp, tn, J, H2, e, I2, T, st2, f2, q⟩ := h2
  subst e
  refine wpAny_newObj_type (newEnv_comp ?_) (by show 0 ≤ sizeLine; decide)
  generalize hD : s2.heap.objs.size = D
  have hDn : H2 D = none := I2.hok.fresh (Nat.le_of_eq hD)
  obtain ⟨W, ⟨m0, w0⟩, turn⟩ := q D hDn
  -- the new list
  generalize hs3 : ({ s2 with heap := s2.heap.push { cls := .type "list", data := .seq ([] : List Value).toArray } } : Shared) = s3
  have I3 : Inv X pins σ (upd H2 D (.lst [])) s3 := by
    rw [← hs3]
    refine I2.laid (t' := s2.toks) (fun b o e => Heap.get?_push_of_some _ e) (Nat.le_of_eq hD) ⟨Nat.zero_le _, [], 0, .nil, ?_⟩
    rw [← hD]
    exact Heap.get?_push_size _ rfl
  have h3 : s3.heap = s2.heap.push { cls := .type "list", data := .seq ([] : List Value).toArray } := by rw [← hs3]
  have sz : ∀ b ∈ fp, b < s2.heap.objs.size := fun b hb => by
    obtain ⟨o, e, _⟩ := T.obj _ _ st2 b hb
    exact Heap.lt_size e
  have f3 : ∀ b ∈ fp, FpOk X pins (upd H2 D (.lst [])) b ∧ b < s3.heap.objs.size := fun b hb => by
    have hlt := sz b hb
    refine ⟨⟨?_, (f2 b hb).2⟩, by rw [h3, Heap.size_push]; exact Nat.lt_succ_of_lt hlt⟩
    rw [upd_ne (by rw [← hD]; exact Nat.ne_of_lt hlt)]
    exact (f2 b hb).1
  have st3 : tn 0 s3.heap := T.keep _ _ _ st2 fun b _ o e => by rw [h3]; exact Heap.get?_push_of_some _ e
  have I4 := block_start I3 ok hN f3
  have pg := hg s3 (upd H2 D (.lst [])) s3.heap.objs.size (cellsFrom (s3.heap.objs.size + 1) scope.names (cloFrom X.env.cells scope.names [])) fp
  have pt := ht s3 (upd H2 D (.lst [])) s3.heap.objs.size (cellsFrom (s3.heap.objs.size + 1) scope.names (cloFrom X.env.cells scope.names [])) fp
  have pe := he s3 (upd H2 D (.lst [])) s3.heap.objs.size (cellsFrom (s3.heap.objs.size + 1) scope.names (cloFrom X.env.cells scope.names [])) fp
  show codeAny _ _ (.compStart (.ListComp elt [⟨tg, iter, ifs, 0⟩] scope pos) 0 (.ref it) (.ref D) (compEnvC scope (cellsFrom (s3.heap.objs.size + 1) scope.names (cloFrom X.env.cells scope.names [])) s3.heap.objs.size X.env)) (compPost (model X.prog X.w) X.A X.xe use Qf (.ref D) s3.heap.objs.size) { s3 with heap := pushCells (s3.heap.push { cls := .type "dict", data := .dict #[] }) scope.names }
  have nfp : ∀ b ∈ fp, (upd H2 D (.lst [])) b = none := fun b hb => (f3 b hb).1.1
  generalize hce : compEnvC scope (cellsFrom (s3.heap.objs.size + 1) scope.names (cloFrom X.env.cells scope.names [])) s3.heap.objs.size X.env = ce at I4 pg pt pe ⊢
  have cL : ce.locals = s3.heap.objs.size := by subst hce; rfl
  generalize hH3 : upd H2 D (.lst []) = H3 at I3 I4 pg pt pe w0 nfp f3
  generalize hs4 : ({ s3 with heap := pushCells (s3.heap.push { cls := .type "dict", data := .dict #[] }) scope.names } : Shared) = s4 at I4 ⊢
  have st4 : tn 0 s4.heap := T.keep _ _ _ st3 fun b _ o e => by rw [← hs4]; exact pushCells_keeps _ _ _ _ (Heap.get?_push_of_some _ e)
  have stat : ∀ {σ' : St} {H' : Hp} {s' : Shared}, Inv (X.blk s3 H3 scope ce fp) [] σ' H' s' → (∀ b ∈ fp, H' b = none) → ∀ b ∈ fp, FpOk (X.blk s3 H3 scope ce fp) [] H' b := fun {σ' H' s'} I' hn b hb =>
    ⟨hn b hb, (I'.ok.exf b hb).1, I'.ok.exfs b hb, .inl hb, fun x c e => (I'.ok.exf b hb).2 x c e, fun p hp => absurd (show p ∈ ([] : List (Addr × Obj)) ++ [] from hp) (by simp)⟩
  have loop : codeAny (model X.prog X.w) X.A (.compLoop (.ListComp elt [⟨tg, iter, ifs, 0⟩] scope pos) 0 (.ref it) (.ref D) ce) (compPost (model X.prog X.w) X.A X.xe use Qf (.ref D) s3.heap.objs.size) s4 := by
    refine compLoop_any (fun n s' => ∃ i H', Inv (X.blk s3 H3 scope ce fp) [] (wipe σ (own.map (·.2))) H' s' ∧ tn i s'.heap ∧ (∀ b ∈ fp, H' b = none) ∧ W i n H') ?_ m0 ⟨0, H3, I4, st4, nfp, w0⟩
    rintro n s5 ⟨i, H5, I5, st5, n5, w5⟩
    rcases turn i n H5 w5 with ⟨stop, qq⟩ | ⟨go, Nx, hNx, step⟩
    · have td := T.done (X.blk s3 H3 scope ce fp) rfl rfl rfl hc i [] s5 _ H5 (fun _ _ => False) I5 (stat I5 n5) st5 stop
      refine thnF td fun r s6 ⟨hr, I6⟩ => ?_
      subst hr
      -- back in the def's context
      have I7 : Inv X pins σ H5 s6 := I3.call' (ch := fp) I6.os I6.base I6.hok I6.bare fun b hb => ⟨(f3 b hb).1.2.2.2.1, (f3 b hb).1.2.1, (f3 b hb).1.2.2.2.2.1, (f3 b hb).1.2.2.2.2.2⟩
      have nC : H5 s3.heap.objs.size = none := by
        have z : H5 ce.locals = none := I6.free
        rw [cL] at z
        exact z
      obtain ⟨m, hn, _⟩ := I6.loc
      have hn : s6.heap.Ns ce.locals m := hn
      rw [cL] at hn
      exact hRR D s3.heap.objs.size s6 m H5 I7 qq hn (I3.fpOk (Nat.le_refl _) nC)
    · have ti := T.item (X.blk s3 H3 scope ce fp) rfl rfl rfl hc i [] s5 _ H5 (fun _ _ => False) I5 (stat I5 n5) st5 go
      refine thnF ti fun r s6 ⟨u, hr, h6⟩ => ?_
      subst hr
      refine thnF h6 fun _ s7 ⟨x, H7, I7, r7, y7, st7, n7⟩ => ?_
      have I7' := I7.pinned (stat I7 n7) (T.obj _ _ st7)
      refine thnF (pg _ s7 _ H7 x u _ I7' r7 (step x H7 y7)) fun _ s8 ⟨σ8, H8, I8, hw8, q8⟩ => ?_
      refine thnF (pt _ s8 σ8 H8 _ I8 q8) fun b s9 ⟨H9, I9, q9⟩ => ?_
      -- the turn's end
      have fin : ∀ {s' : Shared} {H' : Hp}, Inv (X.blk s3 H3 scope ce fp) ([] ++ pinsAt fp s7.heap) σ8 H' s' → Nx H' → ∃ m, m < n ∧ ∃ i H', Inv (X.blk s3 H3 scope ce fp) [] (wipe σ (own.map (·.2))) H' s' ∧ tn i s'.heap ∧ (∀ b ∈ fp, H' b = none) ∧ W i m H' := fun {s' H'} I' nx => by
        obtain ⟨m', hm, w'⟩ := hNx H' nx
        have pin' : ∀ b ∈ fp, ∀ o, s7.heap.get? b = some o → s'.heap.get? b = some o ∧ H' b = none := fun b hb o e =>
          let z := I'.pin (b, o) (List.mem_append_right _ (List.mem_append_right _ (mem_pinsAt hb e)))
          ⟨z.1, z.2.1⟩
        have hl : (wipe σ (own.map (·.2))).length = σ8.length := by rw [← hw8, wipe_length]
        refine ⟨m', hm, i + 1, H', (I'.unpinned (pins := [])).weak hl (fun j v e => ?_), T.keep _ _ _ st7 fun b hb o e => (pin' b hb o e).1, fun b hb => ?_, w'⟩
        · rw [← hw8] at e
          exact (wipe_some e).1
        · obtain ⟨o, e, _⟩ := T.obj _ _ st7 b hb
          exact (pin' b hb o e).2
      cases b with
      | false =>
        simp only [Bool.false_eq_true, if_false] at q9 ⊢
        exact fin I9 q9
      | true =>
        simp only [if_true] at q9 ⊢
        refine thnF (pe _ s9 σ8 H9 _ I9 q9) fun z s10 ⟨yv, H10, I10, r10, acc, hD10, hz10, nx⟩ => ?_
        exact app_ok (X := X.blk s3 H3 scope ce fp) I10 hD10 hz10 r10 fun s11 I11 => fin I11 nx
  exact codeAny_compStart_list loop (T.self X.A 0 _ _ _ st4 loop)
/-- as a value -/
theorem pe_lc {elt tg iter : Expr} {ifs : List Expr} {scope : Scope} {own : List (Str × Nat)} {pos : Pos} {wi : TI} {g : TG} {tt : TT} {te : TE} (hc : X.calm = true) (hN : X.N.Nodup) (hi : PI X tg iter wi) (ok : BlkOk X.N X.env.scope scope own)
    (hg : ∀ (s : Shared) (H : Hp) (C : Addr) (cl : List (Str × Addr)) (fp : List Addr), PG (X.blk s H scope (compEnvC scope cl C X.env) fp) tg g) (ht : ∀ (s : Shared) (H : Hp) (C : Addr) (cl : List (Str × Addr)) (fp : List Addr), PTs (X.blk s H scope (compEnvC scope cl C X.env) fp) ifs tt)
    (he : ∀ (s : Shared) (H : Hp) (C : Addr) (cl : List (Str × Addr)) (fp : List Addr), PE (X.blk s H scope (compEnvC scope cl C X.env) fp) elt te) (hs : ∀ x, foldedSetIterable iter X.env x = pure x := by intro _; rfl) :
    PE X (.ListComp elt [⟨tg, iter, ifs, 0⟩] scope pos) (tLc wi g tt te (own.map (·.2))) := by
  intro pins s σ H Q I h
  rw [eval_ListComp]
  refine lc_core hc hN I hi ok hg ht he hs h fun D C s' m H' I' q hn f => ⟨m, hn, fun h'' sb => ?_⟩
  obtain ⟨f0, f1, f2, f3, f4, f5⟩ := f
  exact ⟨.ref D, H', I'.turned (t' := s'.toks) (fun b o hb e => (sb.2 b hb).trans e) f0 f1 f3 f4 f5, rfl, q⟩
/-- name = [..] on one line, the name a local -/
theorem ps_setLc {i : Nat} {y : Str} {py : Pos} {elt tg iter : Expr} {ifs : List Expr} {scope : Scope} {own : List (Str × Nat)} {pos spos : Pos} {wi : TI} {g : TG} {tt : TT} {te : TE} (hc : X.calm = true) (hN : X.N.Nodup) (hy : X.N[i]? = some y) (hyl : X.env.scope.names.lookup y = some .local)
    (hsw : swapsWith (.ListComp elt [⟨tg, iter, ifs, 0⟩] scope pos) (some (.Name y py)) spos.line X.env = pure true) (hi : PI X tg iter wi) (ok : BlkOk X.N X.env.scope scope own)
    (hg : ∀ (s : Shared) (H : Hp) (C : Addr) (cl : List (Str × Addr)) (fp : List Addr), PG (X.blk s H scope (compEnvC scope cl C X.env) fp) tg g) (ht : ∀ (s : Shared) (H : Hp) (C : Addr) (cl : List (Str × Addr)) (fp : List Addr), PTs (X.blk s H scope (compEnvC scope cl C X.env) fp) ifs tt)
    (he : ∀ (s : Shared) (H : Hp) (C : Addr) (cl : List (Str × Addr)) (fp : List Addr), PE (X.blk s H scope (compEnvC scope cl C X.env) fp) elt te) (hs : ∀ x, foldedSetIterable iter X.env x = pure x := by intro _; rfl) :
    PS X (.Assign [.Name y py] (.ListComp elt [⟨tg, iter, ifs, 0⟩] scope pos) spos) (tAsg (tLc wi g tt te (own.map (·.2))) (gName i)) := by
  intro pins s σ H D I h
  rw [exec_Assign_Name_used _ _ _ _ hsw]
  refine wpAny_bind (wpAny_standAt (wpAny_bind ?_))
  show wpAny _ X.A (do let _ ← comprehension (.ListComp elt [⟨tg, iter, ifs, 0⟩] scope pos) scope X.env (firstIterPos [⟨tg, iter, ifs, 0⟩] pos) (newList []) false (eval iter X.env) (some (assign (.Name y py) X.env))) _ _ s
  have h : tLc wi g tt te (own.map (·.2)) σ H (fun x H1 => gName i x σ H1 D.nx) := h
  refine wpAny_bind (thn (lc_core (Qf := fun _ s' => SP X pins D .next s') hc hN I hi ok hg ht he hs h fun L C s' m H' I' q hn f => ?_) fun _ s' hq => wpAny_pure (wpAny_pure hq))
  show wpAny _ _ (assign (.Name y py) X.env (.ref L)) _ _ _
  refine wpAny_assign_Name (store_ok2 (v := V.ref L) I' hN hy (.inl hyl) rfl (fun s2 I2 ⟨a, sb, ha⟩ => ?_) (.inr hyl))
  obtain ⟨f0, f1, f2, f3, f4, f5⟩ := f
  have haC : C ≠ a := by
    rcases ha with z | z
    · rw [z]; exact f1
    · exact fun e => f4 y a z e.symm
  refine ⟨m, hn.sameBut sb haC, fun h3 sb3 => ?_⟩
  exact ⟨_, H', I2.turned (t' := s2.toks) (fun b o hb e => (sb3.2 b hb).trans e) f0 f1 f3 f4 f5, q⟩
theorem sw_true {elt : Expr} {gs : List Comprehension} {scope : Scope} {pos py : Pos} {y : Str} {l : Nat} {env : Env} (hk : env.scope.kind = .function) (hy : env.scope.names.lookup y = some .local) (hl : (py.line == pos.line) = true)
    (ha : (scope.names.any fun (n, k) => n == y && (k == .local || k == .cell)) = false) : swapsWith (.ListComp elt gs scope pos) (some (.Name y py)) l env = pure true := by
  have ky : env.kindOf y = some .local := hy
  have hb : env.blockKind = .function := by unfold Env.blockKind; rw [hk]; rfl
  unfold swapsWith
  simp only [hb, ky, ha, Expr.pos, hl]
  rfl
end

/-! ### the forms one uses -/
/-- over a range: Pv by the turn and the heap (the new list at D within) -/
theorem lc_range {lo : Int} {n : Nat} {g : TG} {tt : TT} {te : TE} {vs : List Nat} {σ : St} {H1 : Hp} {D : Addr} {Qd : Hp → Prop} (Pv : Nat → Hp → Prop) (h0 : Pv 0 (upd H1 D (.lst [])))
    (hs : ∀ i H, i < n → Pv i H → g (.int (lo + i)) (wipe σ vs) H fun σ2 H2 => wipe σ2 vs = wipe σ vs ∧ tt σ2 H2 fun b H3 =>
      if b = true then te σ2 H3 fun y H4 => ∃ acc, H4 D = some (.lst acc) ∧ acc.length < sizeLine ∧ Pv (i + 1) (upd H4 D (.lst (acc ++ [y]))) else Pv (i + 1) H3) (hd : ∀ H, Pv n H → Qd H) :
    ∃ W : Nat → Nat → Hp → Prop, (∃ m, W 0 m (upd H1 D (.lst []))) ∧ ∀ i m H, W i m H →
      ((Itr lo n).stop i H ∧ Qd H) ∨ ((Itr lo n).go i H ∧ ∃ Nx : Hp → Prop, (∀ H', Nx H' → ∃ m', m' < m ∧ W (i + 1) m' H') ∧ ∀ x H', (Itr lo n).yld i H x H' → g x (wipe σ vs) H' fun σ2 H2 => wipe σ2 vs = wipe σ vs ∧ tt σ2 H2 fun b H3 =>
        if b = true then te σ2 H3 fun y H4 => ∃ acc, H4 D = some (.lst acc) ∧ acc.length < sizeLine ∧ Nx (upd H4 D (.lst (acc ++ [y]))) else Nx H3) := by
  refine ⟨fun i m H => m = n - i ∧ i ≤ n ∧ Pv i H, ⟨n, by simp, Nat.zero_le _, h0⟩, ?_⟩
  rintro i m H ⟨rfl, hi, p⟩
  by_cases hlt : i < n
  · refine .inr ⟨hlt, Pv (i + 1), fun H' p' => ⟨n - (i + 1), by omega, rfl, hlt, p'⟩, fun x H' y => ?_⟩
    obtain ⟨e, y⟩ := y
    subst e y
    exact hs i _ hlt p
  · have e : i = n := by omega
    subst e
    exact .inl ⟨Nat.le_refl _, hd H p⟩
/-- over a list that the block leaves as it is -/
theorem lc_list {K : PySem.W.Frag} {a : Addr} {xs : List V} {g : TG} {tt : TT} {te : TE} {vs : List Nat} {σ : St} {H1 : Hp} {D : Addr} {Qd : Hp → Prop} (Pv : Nat → Hp → Prop) (h0 : Pv 0 (upd H1 D (.lst []))) (hl : ∀ i H, i ≤ xs.length → Pv i H → SqL K H a xs)
    (hs : ∀ i x H, xs[i]? = some x → Pv i H → g x (wipe σ vs) H fun σ2 H2 => wipe σ2 vs = wipe σ vs ∧ tt σ2 H2 fun b H3 =>
      if b = true then te σ2 H3 fun y H4 => ∃ acc, H4 D = some (.lst acc) ∧ acc.length < sizeLine ∧ Pv (i + 1) (upd H4 D (.lst (acc ++ [y]))) else Pv (i + 1) H3) (hd : ∀ H, Pv xs.length H → Qd H) :
    ∃ W : Nat → Nat → Hp → Prop, (∃ m, W 0 m (upd H1 D (.lst []))) ∧ ∀ i m H, W i m H →
      ((Itl K a).stop i H ∧ Qd H) ∨ ((Itl K a).go i H ∧ ∃ Nx : Hp → Prop, (∀ H', Nx H' → ∃ m', m' < m ∧ W (i + 1) m' H') ∧ ∀ x H', (Itl K a).yld i H x H' → g x (wipe σ vs) H' fun σ2 H2 => wipe σ2 vs = wipe σ vs ∧ tt σ2 H2 fun b H3 =>
        if b = true then te σ2 H3 fun y H4 => ∃ acc, H4 D = some (.lst acc) ∧ acc.length < sizeLine ∧ Nx (upd H4 D (.lst (acc ++ [y]))) else Nx H3) := by
  refine ⟨fun i m H => m = xs.length - i ∧ i ≤ xs.length ∧ Pv i H, ⟨xs.length, by simp, Nat.zero_le _, h0⟩, ?_⟩
  rintro i m H ⟨rfl, hi, p⟩
  have q := hl i H hi p
  by_cases hlt : i < xs.length
  · refine .inr ⟨⟨xs, xs[i], q, by simp [hlt]⟩, Pv (i + 1), fun H' p' => ⟨xs.length - (i + 1), by omega, rfl, hlt, p'⟩, fun x H' y => ?_⟩
    obtain ⟨e, y⟩ := y
    subst e
    exact hs i x _ (y xs q) p
  · have e : i = xs.length := by omega
    subst e
    exact .inl ⟨⟨xs, q, Nat.le_refl _⟩, hd H p⟩
def blkC (N : List Str) (sc scope : Scope) (own : List (Str × Nat)) : Bool :=
  (match scope.kind with | .function => true | _ => false) && (scope.names.all fun y => decide (scope.names.lookup y.1 = some y.2)) && (own.all fun p => decide (N[p.2]? = some p.1)) &&
    (scope.names.all fun y => match y.2 with
      | .free => (match sc.names.lookup y.1 with | some .cell => true | some .free => true | _ => false)
      | .local => decide (y.1 ∈ own.map (·.1)) || decide (y.1 ∉ N)
      | .cell => decide (y.1 ∈ own.map (·.1)) || decide (y.1 ∉ N)
      | _ => true)
theorem blkOk_by {N : List Str} {sc scope : Scope} {own : List (Str × Nat)} (h : blkC N sc scope own = true) : BlkOk N sc scope own := by
  unfold blkC at h
  simp only [Bool.and_eq_true, List.all_eq_true, decide_eq_true_eq] at h
  obtain ⟨⟨⟨h1, h2⟩, h3⟩, h4⟩ := h
  refine ⟨?_, h2, h3, fun y hy e => ?_, fun y hy e => ?_⟩
  · split at h1
    · assumption
    · cases h1
  · have q := h4 y hy
    simp only [e] at q
    split at q <;> first | exact .inl (by assumption) | exact .inr (by assumption) | cases q
  · have q := h4 y hy
    rcases e with e | e <;> (simp only [e, Bool.or_eq_true, decide_eq_true_eq] at q; exact q)
end L2

namespace L2
open PySem PySem.Spec PyProof.Rows



end L2

namespace L2
open PySem PySem.Spec PyProof.Rows

/-! ### lists of pairs as tables -/
section
variable {κ : Type} [DecidableEq κ]
def valV (kvs : List (κ × V)) (k : κ) : Option V := (kvs.find? fun kv => decide (kv.1 = k)).map (·.2)
/-- in its place, or at the end -/
def putK (kvs : List (κ × V)) (k : κ) (v : V) : List (κ × V) :=
  if (kvs.any fun kv => decide (kv.1 = k)) = true then kvs.map (fun kv => if kv.1 = k then (kv.1, v) else kv) else kvs ++ [(k, v)]

theorem valV_nil {k : κ} : valV ([] : List (κ × V)) k = none := rfl
theorem valV_pos {p : κ × V} {r : List (κ × V)} {k : κ} (e : p.1 = k) : valV (p :: r) k = some p.2 := by simp [valV, List.find?_cons, e]
theorem valV_neg {p : κ × V} {r : List (κ × V)} {k : κ} (e : ¬ p.1 = k) : valV (p :: r) k = valV r k := by simp [valV, List.find?_cons, e]
theorem valV_any (k : κ) : ∀ kvs : List (κ × V), (kvs.any fun kv => decide (kv.1 = k)) = (valV kvs k).isSome
  | [] => rfl
  | p :: r => by
    rw [List.any_cons]
    by_cases e : p.1 = k
    · simp only [valV_pos e, decide_eq_true e, Bool.true_or, Option.isSome_some]
    · rw [valV_neg e, decide_eq_false e, Bool.false_or]; exact valV_any k r
theorem valV_map (k j : κ) (y : V) : ∀ kvs : List (κ × V), valV (kvs.map fun kv => if kv.1 = k then (kv.1, y) else kv) j = (valV kvs j).map fun x => if j = k then y else x
  | [] => rfl
  | p :: r => by
    have ih := valV_map k j y r
    rw [List.map_cons]
    by_cases h : p.1 = k
    · rw [if_pos h]
      by_cases e : p.1 = j
      · rw [valV_pos (p := (p.1, y)) e, valV_pos e, Option.map_some, if_pos (e.symm.trans h)]
      · rw [valV_neg (p := (p.1, y)) e, valV_neg e, ih]
    · rw [if_neg h]
      by_cases e : p.1 = j
      · rw [valV_pos (p := p) e, valV_pos e, Option.map_some, if_neg (fun z => h (e.trans z))]
      · rw [valV_neg (p := p) e, valV_neg e, ih]
theorem valV_snoc (k j : κ) (y : V) : ∀ kvs : List (κ × V), valV kvs k = none → valV (kvs ++ [(k, y)]) j = if j = k then some y else valV kvs j
  | [], _ => by
    by_cases e : k = j
    · rw [if_pos e.symm]; exact valV_pos (p := (k, y)) e
    · rw [if_neg (fun z => e z.symm)]; exact valV_neg (p := (k, y)) e
  | p :: r, hn => by
    rw [List.cons_append]
    have hk : ¬ p.1 = k := fun z => by rw [valV_pos z] at hn; cases hn
    rw [valV_neg hk] at hn
    have ih := valV_snoc k j y r hn
    by_cases e : p.1 = j
    · rw [valV_pos e, valV_pos e, if_neg (fun z => hk (e.trans z))]
    · rw [valV_neg e, valV_neg e, ih]
theorem valV_put (kvs : List (κ × V)) (k j : κ) (y : V) : valV (putK kvs k y) j = if j = k then some y else valV kvs j := by
  unfold putK
  by_cases a : (kvs.any fun kv => decide (kv.1 = k)) = true
  · rw [if_pos a, valV_map]
    rw [valV_any] at a
    by_cases e : j = k
    · obtain ⟨x, hx⟩ := Option.isSome_iff_exists.mp a
      rw [if_pos e, e, hx, Option.map_some, if_pos rfl]
    · rw [if_neg e]
      cases valV kvs j with
      | none => rfl
      | some x => rw [Option.map_some, if_neg e]
  · rw [if_neg a]
    refine valV_snoc k j y kvs ?_
    rw [valV_any] at a
    cases q : valV kvs k with
    | none => rfl
    | some x => rw [q] at a; exact (a rfl).elim
theorem length_putK (kvs : List (κ × V)) (k : κ) (v : V) : (putK kvs k v).length ≤ kvs.length + 1 := by
  unfold putK
  split
  · rw [List.length_map]; omega
  · rw [List.length_append, List.length_cons, List.length_nil]; omega
theorem putK_new {kvs : List (κ × V)} {k : κ} (v : V) (h : valV kvs k = none) : putK kvs k v = kvs ++ [(k, v)] := by
  unfold putK
  rw [valV_any, h]
  exact if_neg (by decide)

theorem RelO.isSome_eq {o : Option V} {u : Option Value} (r : RelO o u) : o.isSome = u.isSome := by
  cases o with
  | none => cases u with
    | none => rfl
    | some _ => exact (show False from r).elim
  | some _ => cases u with
    | none => exact (show False from r).elim
    | some _ => rfl

/-- raw tables of the same keys -/
theorem KV.val {kvs : List (κ × V)} {vs : List (κ × Value)} (r : KV kvs vs) (k : κ) : RelO (valV kvs k) (valueAt vs k) := by
  unfold KV at r
  induction r with
  | nil => exact True.intro
  | @cons p q ps qs h t ih =>
    obtain ⟨h1, h2⟩ := h
    by_cases e : p.1 = k
    · have e' : q.1 = k := h1.symm.trans e
      have b : valueAt (q :: qs) k = some q.2 := by simp [valueAt, List.find?_cons, e']
      rw [valV_pos e, b]; exact h2
    · have e' : ¬ q.1 = k := fun z => e (h1.trans z)
      have b : valueAt (q :: qs) k = valueAt qs k := by simp [valueAt, List.find?_cons, e']
      rw [valV_neg e, b]; exact ih
theorem KV.any {kvs : List (κ × V)} {vs : List (κ × Value)} (r : KV kvs vs) (k : κ) : (kvs.any fun kv => decide (kv.1 = k)) = vs.any fun kv => decide (kv.1 = k) := by
  unfold KV at r
  induction r with
  | nil => rfl
  | cons h t ih => rw [List.any_cons, List.any_cons, ih, h.1]
theorem KV.repl {kvs : List (κ × V)} {vs : List (κ × Value)} (r : KV kvs vs) (k : κ) {y : V} {u : Value} (ry : RelV y u) :
    KV (kvs.map fun kv => if kv.1 = k then (kv.1, y) else kv) (vs.map fun kv => if kv.1 = k then (kv.1, u) else kv) := by
  unfold KV at r ⊢
  induction r with
  | nil => exact .nil
  | @cons p q ps qs h t ih =>
    rw [List.map_cons, List.map_cons]
    refine .cons ?_ ih
    obtain ⟨h1, h2⟩ := h
    by_cases e : p.1 = k
    · rw [if_pos e, if_pos (h1.symm.trans e)]; exact ⟨h1, ry⟩
    · rw [if_neg e, if_neg (fun z => e (h1.trans z))]; exact ⟨h1, h2⟩
theorem KV.put {kvs : List (κ × V)} {vs : List (κ × Value)} (r : KV kvs vs) (k : κ) {y : V} {u : Value} (ry : RelV y u) : KV (putK kvs k y) (stored vs k u) := by
  unfold putK stored
  rw [r.any k]
  by_cases e : (vs.any fun kv => decide (kv.1 = k)) = true
  · rw [if_pos e, if_pos e]; exact r.repl k ry
  · rw [if_neg e, if_neg e]; exact Paired.snoc r ⟨rfl, ry⟩
theorem KV.length {kvs : List (κ × V)} {vs : List (κ × Value)} (r : KV kvs vs) : kvs.length = vs.length := Paired.length r
end


/-! ### a tracked dict, its keys ints and texts or tuples of these -/
theorem kV_is {P : Program} {w : World} {k : Key} {u : Value} (r : RelV (kV k) u) : (mixKind P w).is k u = true := by
  cases k with
  | inl i => obtain ⟨t, e⟩ := (show ∃ t, u = Value.int i t from r); subst e; exact mixKind_int P w i t
  | inr x => obtain ⟨t, e⟩ := (show ∃ t, u = Value.str x t from r); subst e; exact mixKind_str P w x t
theorem items_are {P : Program} {w : World} : ∀ {ks : List Key} {us : List Value}, Vals (ks.map kV) us → ItemsAre (mixKind P w) ks us
  | [], _, r => by rw [List.map_nil] at r; cases r; exact .nil
  | k :: ks, _, r => by
    rw [List.map_cons] at r
    cases r with
    | cons h t => exact .cons (kV_is h) (items_are t)

/-- raw entries of a dict with tuple keys -/
abbrev KT (H : Hp) : List (List Key × V) → List (List Key × Addr × Value) → Prop := Paired fun p q => p.1 = q.1 ∧ H q.2.1 = some (.tup (p.1.map kV)) ∧ RelV p.2 q.2.2
theorem KT.val {H : Hp} {kvs : List (List Key × V)} {xs : List (List Key × Addr × Value)} (r : KT H kvs xs) (k : List Key) : RelO (valV kvs k) ((atKey xs k).map (·.2)) := by
  induction r with
  | nil => exact True.intro
  | @cons p q ps qs h t ih =>
    obtain ⟨h1, _, h2⟩ := h
    by_cases e : p.1 = k
    · have e' : q.1 = k := h1.symm.trans e
      have b : atKey (q :: qs) k = some q.2 := by simp [atKey, List.find?_cons, e']
      rw [valV_pos e, b]; exact h2
    · have e' : ¬ q.1 = k := fun z => e (h1.trans z)
      have b : atKey (q :: qs) k = atKey qs k := by simp [atKey, List.find?_cons, e']
      rw [valV_neg e, b]; exact ih
theorem KT.repl {H : Hp} {kvs : List (List Key × V)} {xs : List (List Key × Addr × Value)} (r : KT H kvs xs) (k : List Key) {y : V} {u : Value} (ry : RelV y u) :
    KT H (kvs.map fun kv => if kv.1 = k then (kv.1, y) else kv) (xs.map (putAt k u)) := by
  induction r with
  | nil => exact .nil
  | @cons p q ps qs h t ih =>
    rw [List.map_cons, List.map_cons]
    refine .cons ?_ ih
    obtain ⟨h1, h2, h3⟩ := h
    unfold putAt
    by_cases e : p.1 = k
    · rw [if_pos e, if_pos (h1.symm.trans e)]; exact ⟨h1, h2, ry⟩
    · rw [if_neg e, if_neg (fun z => e (h1.trans z))]; exact ⟨h1, h2, h3⟩
theorem KT.put {H : Hp} {kvs : List (List Key × V)} {xs : List (List Key × Addr × Value)} (r : KT H kvs xs) (k : List Key) {b : Addr} {y : V} {u : Value} (hb : H b = some (.tup (k.map kV))) (ry : RelV y u) :
    KT H (putK kvs k y) (storedH xs k b u) := by
  have e : (kvs.any fun kv => decide (kv.1 = k)) = (atKey xs k).isSome := by
    rw [valV_any, (r.val k).isSome_eq, Option.isSome_map]
  unfold putK storedH
  rw [e]
  by_cases q : (atKey xs k).isSome = true
  · rw [if_pos q, if_pos q]; exact r.repl k ry
  · rw [if_neg q, if_neg q]; exact Paired.snoc r ⟨rfl, hb, ry⟩
theorem KT.keeps {H H' : Hp} {kvs : List (List Key × V)} {xs : List (List Key × Addr × Value)} (r : KT H kvs xs) (ht : ∀ b ys, H b = some (.tup ys) → H' b = some (.tup ys)) : KT H' kvs xs :=
  Paired.mapP r fun _ _ z => ⟨z.1, ht _ _ z.2.1, z.2.2⟩

section
variable {P : Program} {w : World} {H : Hp} {h : Heap} {a : Addr}
theorem rd_of {u : HO} (ok : HOk P w H h) (e : Rd H a u) : ObjOk P w H h a u := e.ok ok
theorem dk_rd {kvs : List (Key × V)} (ok : HOk P w H h) (e : Rd H a (.dK kvs)) : kvs.length ≤ sizeLine ∧ (a == sysModules) = false ∧ ∃ vs, KV kvs vs ∧ h.DictOf (mixKind P w) a vs :=
  show ObjOk P w H h a (.dK kvs) from rd_of ok e
theorem dk_of {kvs : List (Key × V)} (ok : HOk P w H h) (e : H a = some (.dK kvs)) : kvs.length ≤ sizeLine ∧ (a == sysModules) = false ∧ ∃ vs, KV kvs vs ∧ h.DictOf (mixKind P w) a vs := dk_rd ok (.inl e)
/-- a tracked tuple of ints and texts is a key -/
theorem key_of {ks : List Key} (ok : HOk P w H h) (e : H a = some (.tup (ks.map kV))) : (tupleKind (mixKind P w)).is h ks a := by
  obtain ⟨_, its, r, o, h1, h2, n, h3⟩ := (show ObjOk P w H h a (.tup (ks.map kV)) from ok a _ e)
  exact ⟨o, its.toArray, n, h1, h2, h3, by simpa using items_are r⟩
theorem dt_rd {kvs : List (List Key × V)} (ok : HOk P w H h) (e : Rd H a (.dT kvs)) : kvs.length ≤ sizeLine ∧ (a == sysModules) = false ∧
    ∃ xs, KT H kvs xs ∧ h.DictOfH (tupleKind (mixKind P w)) a xs := by
  obtain ⟨z, y, xs, r, o, es, ep, h1, h2, h3, h4, h5⟩ := (show ObjOk P w H h a (.dT kvs) from rd_of ok e)
  refine ⟨z, y, xs, r, o, es, ep, h1, h2, h3, h4, fun x hx => ?_, h5⟩
  have all : ∀ {l : List (List Key × V)} {m : List (List Key × Addr × Value)}, KT H l m → ∀ x ∈ m, (tupleKind (mixKind P w)).is h x.1 x.2.1 := by
    intro l m q
    induction q with
    | nil => intro x hx; exact nomatch hx
    | @cons p q ps qs hq t ih =>
      intro x hx
      rcases List.mem_cons.mp hx with e | hx
      · subst e
        exact key_of ok (by rw [← hq.1]; exact hq.2.1)
      · exact ih x hx
  exact all r x hx
theorem dt_of {kvs : List (List Key × V)} (ok : HOk P w H h) (e : H a = some (.dT kvs)) : kvs.length ≤ sizeLine ∧ (a == sysModules) = false ∧
    ∃ xs, KT H kvs xs ∧ h.DictOfH (tupleKind (mixKind P w)) a xs := dt_rd ok (.inl e)
end

/-- what the dict at a holds at the key y -/
def DGet (H : Hp) (a : Addr) (y : V) (r : Option V) : Prop :=
  (∃ kvs k, Rd H a (.dK kvs) ∧ y = kV k ∧ r = valV kvs k) ∨ ∃ kvs k b, Rd H a (.dT kvs) ∧ y = .ref b ∧ H b = some (.tup (k.map kV)) ∧ r = valV kvs k
/-- the heap behind a[y] = v -/
def DPut (H : Hp) (a : Addr) (y v : V) (H' : Hp) : Prop :=
  (∃ kvs k, H a = some (.dK kvs) ∧ y = kV k ∧ kvs.length < sizeLine ∧ H' = upd H a (.dK (putK kvs k v))) ∨
  ∃ kvs k b, H a = some (.dT kvs) ∧ y = .ref b ∧ H b = some (.tup (k.map kV)) ∧ kvs.length < sizeLine ∧ H' = upd H a (.dT (putK kvs k v))
theorem DGet.k {H : Hp} {a : Addr} {kvs : List (Key × V)} {k : Key} (e : H a = some (.dK kvs)) : DGet H a (kV k) (valV kvs k) := .inl ⟨kvs, k, .inl e, rfl, rfl⟩
theorem DPut.k {H : Hp} {a : Addr} {kvs : List (Key × V)} {k : Key} {v : V} (e : H a = some (.dK kvs)) (hl : kvs.length < sizeLine) : DPut H a (kV k) v (upd H a (.dK (putK kvs k v))) := .inl ⟨kvs, k, e, rfl, hl, rfl⟩


section
variable {X : Cx} {pins : List (Addr × Obj)} {σ : St} {H : Hp} {s : Shared} {a : Addr} {y v : V} {u r : Value} {o : Option V} {A : Around} {E : Value → Shared → Prop}

theorem Inv.big (I : Inv X pins σ H s) : sysModules < s.heap.objs.size := by
  have h : mainGlobals < s.heap.objs.size := (I.mod.glob.keeps I.bk).lt
  exact Nat.lt_trans (by decide) h

/-- y in d -/
theorem d_in {Q : Value → Shared → Prop} (hu : A.units + 1 < cLine) (I : Inv X pins σ H s) (g : DGet H a y o) (ry : RelV y u) (h : ∀ s', Inv X pins σ H s' → Q (.bool o.isSome) s') :
    wpAny (model X.prog X.w) A (compareOp .In u (.ref a)) Q E s := by
  rcases g with ⟨kvs, k, e, ey, l⟩ | ⟨kvs, k, b, e, ey, eb, l⟩
  · subst ey
    obtain ⟨z, hd, vs, rel, dd⟩ := dk_rd I.hok e
    refine wpAny_in_of (kV_is ry) hd dd.mapOf ?_
    rw [← (rel.val k).isSome_eq, ← l]
    exact h _ (I.tok _)
  · subst ey
    cases (show u = Value.ref b from ry)
    obtain ⟨z, hd, xs, rel, dd⟩ := dt_rd I.hok e
    refine wpAny_in_heap (tupleKind_room_in1 hu) (key_of I.hok eb) hd dd ?_
    have q := (rel.val k).isSome_eq
    rw [Option.isSome_map] at q
    rw [← q, ← l]
    exact h _ (I.tok _)
theorem d_notIn {Q : Value → Shared → Prop} (hu : A.units + 1 < cLine) (I : Inv X pins σ H s) (g : DGet H a y o) (ry : RelV y u) (h : ∀ s', Inv X pins σ H s' → Q (.bool (!o.isSome)) s') :
    wpAny (model X.prog X.w) A (compareOp .NotIn u (.ref a)) Q E s := by
  rcases g with ⟨kvs, k, e, ey, l⟩ | ⟨kvs, k, b, e, ey, eb, l⟩
  · subst ey
    obtain ⟨z, hd, vs, rel, dd⟩ := dk_rd I.hok e
    refine wpAny_notIn_of (kV_is ry) hd dd.mapOf ?_
    rw [← (rel.val k).isSome_eq, ← l]
    exact h _ (I.tok _)
  · subst ey
    cases (show u = Value.ref b from ry)
    obtain ⟨z, hd, xs, rel, dd⟩ := dt_rd I.hok e
    refine wpAny_notIn_heap (tupleKind_room_in1 hu) (key_of I.hok eb) hd dd ?_
    have q := (rel.val k).isSome_eq
    rw [Option.isSome_map] at q
    rw [← q, ← l]
    exact h _ (I.tok _)
/-- a dict's object is replaced -/
theorem d_write {h' : Heap} {t' : Nat} {ob : HO} (I : Inv X pins σ H s) (mu : Mut (H a)) (hs : Heap.SameBut a s.heap h') (he : ∃ q, h'.get? a = some q) (new : ObjOk X.prog X.w (upd H a ob) h' a ob) :
    Inv X pins σ (upd H a ob) { s with heap := h', toks := t' } :=
  I.write (x := a) (e := a) mu (.inl rfl) (fun b q hb z => (hs.2 b hb).trans z) he new
theorem dk_new {P : Program} {w : World} {H' : Hp} {h' : Heap} {kvs : List (Key × V)} {vs : List (Key × Value)} (z : kvs.length ≤ sizeLine) (hd : (a == sysModules) = false) (rel : KV kvs vs) (dd : h'.DictOf (mixKind P w) a vs) :
    ObjOk P w H' h' a (.dK kvs) := ⟨z, hd, vs, rel, dd⟩
/-- d[y] = v -/
theorem d_setItem {H' : Hp} {Q : Unit → Shared → Prop} (hu : A.units + 1 < cLine) (I : Inv X pins σ H s) (g : DPut H a y v H') (ry : RelV y u) (rv : RelV v r) (h : ∀ s', Inv X pins σ H' s' → Q () s') :
    wpAny (model X.prog X.w) A (setItem (.ref a) u r) Q E s := by
  rcases g with ⟨kvs, k, e, ey, l, eH⟩ | ⟨kvs, k, b, e, ey, eb, l, eH⟩
  · subst ey eH
    obtain ⟨z, hd, vs, rel, dd⟩ := dk_of I.hok e
    have hz : vs.length ≤ sizeLine := by rw [← rel.length]; exact z
    have hl : (putK kvs k v).length ≤ sizeLine := by have := length_putK kvs k v; omega
    refine wpAny_setItem_pairs (hsz := hz) (kV_is ry) dd fun h' dd' hs => h _ ?_
    have he : ∃ q, h'.get? a = some q := let ⟨q, _, _, hq, _⟩ := dd'; ⟨q, hq⟩
    exact d_write I (by rw [e]; exact True.intro) hs he (dk_new hl hd (rel.put k rv) dd')
  · subst ey eH
    cases (show u = Value.ref b from ry)
    obtain ⟨z, hd, xs, rel, dd⟩ := dt_of I.hok e
    have hz : xs.length ≤ sizeLine := by rw [← Paired.length rel]; exact z
    have hl : (putK kvs k v).length ≤ sizeLine := by have := length_putK kvs k v; omega
    refine wpAny_setItem_heap (hsz := hz) (tupleKind_room_in1 hu) (key_of I.hok eb) dd fun h' dd' hs => h _ ?_
    obtain ⟨q, es, ep, hq, h2, h3, h4, _, h5⟩ := dd'
    refine d_write I (by rw [e]; exact True.intro) hs ⟨q, hq⟩ ⟨hl, hd, _, (rel.put k eb rv).keeps fun c ys ec => ?_, q, es, ep, hq, h2, h3, h4, h5⟩
    rw [upd_ne (ne_of ec e (fun z => nomatch z))]
    exact ec
end



/-! ### readings and rules -/


/-- y in d, y not in d -/
def tDIn (ty td : TE) : TE := fun σ H Q => ty σ H fun y H1 => td σ H1 fun x H2 => ∃ a o, x = .ref a ∧ DGet H2 a y o ∧ Q (.bl o.isSome) H2
def tDNotIn (ty td : TE) : TE := fun σ H Q => ty σ H fun y H1 => td σ H1 fun x H2 => ∃ a o, x = .ref a ∧ DGet H2 a y o ∧ Q (.bl (!o.isSome)) H2
/-- d[y] = v -/
def sDPut (td ty tv : TE) : TS := fun D σ H => tv σ H fun v H1 => td σ H1 fun x H2 => ty σ H2 fun y H3 => ∃ a H4, x = .ref a ∧ DPut H3 a y v H4 ∧ D.nx σ H4

section
variable {X : Cx} {o i e value : Expr} {pos pos' tpos : Pos} {td ty tv : TE}
theorem pc_din (hu : X.A.units + 1 < cLine) (hi : PE X i ty) (ho : PE X o td) : PC X .In i o (tDIn ty td) := by
  intro pins s σ H Q I h
  refine thn (hi pins s σ H _ I h) fun iv s1 ⟨y, H1, I1, ry, q1⟩ => thn (ho pins s1 σ H1 _ I1 q1) fun u s2 ⟨x, H2, I2, rx, a, ov, ex, g, q2⟩ => ?_
  subst ex
  obtain rfl : u = Value.ref a := rx
  exact d_in hu I2 g ry fun s3 I3 => ⟨.bl ov.isSome, H2, I3, rfl, q2⟩
theorem pc_dnotin (hu : X.A.units + 1 < cLine) (hi : PE X i ty) (ho : PE X o td) : PC X .NotIn i o (tDNotIn ty td) := by
  intro pins s σ H Q I h
  refine thn (hi pins s σ H _ I h) fun iv s1 ⟨y, H1, I1, ry, q1⟩ => thn (ho pins s1 σ H1 _ I1 q1) fun u s2 ⟨x, H2, I2, rx, a, ov, ex, g, q2⟩ => ?_
  subst ex
  obtain rfl : u = Value.ref a := rx
  exact d_notIn hu I2 g ry fun s3 I3 => ⟨.bl (!ov.isSome), H2, I3, rfl, q2⟩
theorem ps_dput (hu : X.A.units + 1 < cLine) (ho : PE X o td) (hi : PE X i ty) (hv : PE X value tv) (hs : swapsWith value (some (.Subscript o i pos')) pos.line X.env = pure false) :
    PS X (.Assign [.Subscript o i pos'] value pos) (sDPut td ty tv) := by
  intro pins s σ H D I h
  refine wpAny_Assign_Subscript (thn (hv pins s σ H _ I h) fun r s1 ⟨v, H1, I1, rv, q1⟩ => thn (ho pins s1 σ H1 _ I1 q1) fun u s2 ⟨x, H2, I2, rx, q2⟩ => thn (hi pins s2 σ H2 _ I2 q2) fun iv s3 ⟨y, H3, I3, ry, a, H4, ex, g, q3⟩ => ?_) hs
  subst ex
  obtain rfl : u = Value.ref a := rx
  exact d_setItem hu I3 g ry rv fun s4 I4 => ⟨σ, H4, I4, q3⟩
end


/-! ### displays -/
theorem dk_empty {P : Program} {w : World} {H : Hp} (h : Heap) (hb : sysModules < h.objs.size) : ObjOk P w H (h.push { cls := .type "dict", data := .dict #[] }) h.objs.size (.dK []) :=
  ⟨Nat.zero_le _, beq_eq_false_iff_ne.mpr (Ne.symm (Nat.ne_of_lt hb)), [], .nil, Heap.DictOf.new h⟩
/-- {}, to be a dict of the kind that is wanted -/
def tDNewK : TE := fun _ H Q => ∀ p, H p = none → Q (.ref p) (upd H p (.dK []))
section
variable {X : Cx} {pos : Pos}
theorem pe_dnewK : PE X (.Dict [] [] pos) tDNewK := fun pins s σ H Q I h =>
  wpAny_Dict_empty ⟨.ref s.heap.objs.size, _, I.laid (a := s.heap.objs.size) (o := .dK []) (t' := s.toks) (fun _ _ q => Heap.get?_push_of_some _ q) (Nat.le_refl _) (dk_empty s.heap I.big), rfl, h _ (I.hok.fresh (Nat.le_refl _))⟩
end




/-! ### methods -/




/-! ### dict(d): a copy -/


end L2

namespace L2
open PySem PySem.Spec PyProof.Rows



end L2

namespace L2
open PySem PySem.Spec PyProof.Rows

theorem boot_reversed5 : bootBuiltins "reversed" = some (.type "reversed") := by decide +kernel

section
variable {X : Cx} {pins : List (Addr × Obj)} {σ : St} {H : Hp} {s : Shared} {h' : Heap}
/-- several records of ours have turned -/
theorem Inv.turnedL {t' : Nat} {ch : List Addr} (I : Inv X pins σ H s) (k : ∀ b o, b ∉ ch → s.heap.get? b = some o → h'.get? b = some o) (hf : ∀ b ∈ ch, FpOk X pins H b) : Inv X pins σ H { s with heap := h', toks := t' } := by
  have nit : ∀ b u, H b = some u → b ∉ ch := fun b u e z => by
    have q := (hf b z).1
    rw [q] at e; cases e
  refine I.step (g' := s.gens) (d' := s.drawn) (ch := ch) (fun b hb => ⟨(hf b hb).2.2.2.1, (hf b hb).2.1, (hf b hb).2.2.2.2.1, (hf b hb).2.2.2.2.2⟩) (fun b o _ _ hc e _ => k b o hc e) (fun b o _ _ hc e _ => ⟨o.slots, k b o hc e⟩)
    (fun _ _ _ _ n => n) (fun b o hc e => ⟨o, k b o hc e⟩) (fun _ _ e => e) (fun _ _ _ e => e) (fun b ps e => ⟨#[], by rw [e]; simp⟩) (fun m hm => ?_) (fun b u e => ?_) I.bare
  · obtain ⟨o, es, ep, ho, r⟩ := hm
    exact ⟨o, es, ep, k _ o (fun z => (hf _ z).2.1 rfl) ho, r⟩
  · refine (I.hok b u e).stay (fun c v hc q => k c v ?_ q) (fun _ q => q) fun _ _ q => q
    rcases hc with z | z
    · rw [z]; exact nit b u e
    · exact nit c _ z
/-- .. and one new object is laid -/
theorem Inv.turnedNew {t' : Nat} {ch : List Addr} {T : Addr} {ob : HO} (I : Inv X pins σ H s) (k : ∀ b o, b ∉ ch → s.heap.get? b = some o → h'.get? b = some o) (hf : ∀ b ∈ ch, FpOk X pins H b) (hT : s.heap.objs.size ≤ T)
    (new : ObjOk X.prog X.w (upd H T ob) h' T ob) : Inv X pins σ (upd H T ob) { s with heap := h', toks := t' } := by
  have hn : H T = none := I.hok.fresh hT
  have nit : ∀ b u, H b = some u → b ∉ ch := fun b u e z => by
    have q := (hf b z).1
    rw [q] at e; cases e
  refine I.step (g' := s.gens) (d' := s.drawn) (ch := ch) (fun b hb => ⟨(hf b hb).2.2.2.1, (hf b hb).2.1, (hf b hb).2.2.2.2.1, (hf b hb).2.2.2.2.2⟩) (fun b o _ _ hc e _ => k b o hc e) (fun b o _ _ hc e _ => ⟨o.slots, k b o hc e⟩)
    (fun b o _ e n => ?_) (fun b o hc e => ⟨o, k b o hc e⟩) (fun b xs e => ?_) (fun b o u e => ?_) (fun b ps e => ⟨#[], ?_⟩) (fun m hm => ?_) (fun b u e => ?_) I.bare
  · rw [upd_ne (Nat.ne_of_lt (Nat.lt_of_lt_of_le (Heap.lt_size e) hT))]; exact n
  · rw [upd_ne (ne_of_none e hn)]; exact e
  · rw [upd_ne (ne_of_none e hn)]; exact e
  · rw [upd_ne (ne_of_none e hn), e]; simp
  · obtain ⟨o, es, ep, ho, r⟩ := hm
    exact ⟨o, es, ep, k _ o (fun z => (hf _ z).2.1 rfl) ho, r⟩
  · by_cases hb : b = T
    · subst hb
      rw [upd_same] at e
      cases e
      exact new
    · rw [upd_ne hb] at e
      refine (I.hok b u e).stay (fun c v hc q => k c v ?_ q) (fun c q => by rw [upd_ne (ne_of_none q hn)]; exact q) fun c xs q => by rw [upd_ne (ne_of_none q hn)]; exact q
      rcases hc with z | z
      · rw [z]; exact nit b u e
      · exact nit c _ z

/-! ### locking a thing while a statement runs -/
end
section
variable {X : Cx}

/-! ### one iterator just laid -/
end

/-! ### range with a step -/

/-! ### reversed(list) -/

/-! ### a str -/

/-! ### a dict's keys: any dict's entries -/

/-! ### a locked dict -/


/-! ### for k in d, d.keys(), d.values(), d.items() -/

/-! ### enumerate(list) -/
/-- the list at a as it stands at each turn, each item in a new pair -/
def Ite (K : PySem.W.Frag) (a : Addr) : It :=
  ⟨fun i H => ∃ (xs : List V) (x : V), SqL K H a xs ∧ xs[i]? = some x, fun i H v H' => ∃ T x, v = .ref T ∧ H T = none ∧ H' = upd H T (.tup [.int (i : Nat), x]) ∧ ∀ xs, SqL K H a xs → xs[i]? = some x, fun i H => ∃ xs : List V, SqL K H a xs ∧ xs.length ≤ i⟩
theorem turn_enum {P : Program} {w : World} {K : PySem.W.Frag} {elts : List Expr} {kk : Nat} {tpos : Pos} (a e it : Addr) :
    Turn P w K (.Tuple elts kk tpos) (Ite K a) [e, it] e (fun i h => (∃ old, IsEnum h e it ((i : Nat) : Int) old) ∧ h.IsListIter it a i ∧ e ≠ it) where
  mem := by simp
  obj := fun i h st b hb => by
    obtain ⟨⟨old, he⟩, ⟨o, ho, hc, hd⟩, _⟩ := st
    have e' : b = e ∨ b = it := by simpa using hb
    rcases e' with z | z
    · rw [z]; exact ⟨_, he, fun v q => nomatch q⟩
    · rw [z]; exact ⟨o, ho, fun v q => by rw [hd] at q; cases q⟩
  keep := fun i h h' st k => let ⟨⟨old, he⟩, hi, hne⟩ := st; ⟨⟨old, k e (by simp) _ he⟩, hi.at fun o q => k it (by simp) o q, hne⟩
  item := by
    intro X hP hw hK hc i pins s σ H E I hf st hg
    subst hP hw hK
    obtain ⟨⟨old, he⟩, hit, hne⟩ := st
    obtain ⟨xs, x, hq, hx⟩ := hg
    obtain ⟨its, rv, p, hz⟩ := I.list hq
    obtain ⟨u, hu, ru⟩ := rv.get hx
    have hel : e < s.heap.objs.size := Heap.lt_size he
    have hil : it < s.heap.objs.size := by obtain ⟨_, q, _⟩ := hit; exact Heap.lt_size q
    refine wpAny_pyNext_enum_item he hit p.isList (x := u) (by simpa using hu) hne fun h' ho hit' hT hsz hk => ?_
    refine ⟨_, rfl, wpAny_letOwnedTupleGo_enum (s := { s with heap := h', toks := s.toks + 1 }) ho fun h'' he' sb => ?_⟩
    have hT2 : h''.get? s.heap.objs.size = some { cls := .type "tuple", data := .seq #[.int i s.toks, u] } := (sb.2 _ (Nat.ne_of_gt hel)).trans hT
    have new : ObjOk X.prog X.w (upd H s.heap.objs.size (.tup [.int (i : Nat), x])) h'' s.heap.objs.size (.tup [.int (i : Nat), x]) :=
      ⟨by show 2 ≤ sizeLine; decide, [.int i s.toks, u], .cons ⟨_, rfl⟩ (.cons ru .nil), ⟨_, hT2, rfl, _, rfl⟩⟩
    have I1 : Inv X pins σ (upd H s.heap.objs.size (.tup [.int (i : Nat), x])) { s with heap := h'', toks := s.toks + 1 } :=
      I.turnedNew (ch := [e, it]) (fun b ob hb q => (sb.2 b (fun z => hb (by simp [z]))).trans (hk b ob (fun z => hb (by simp [z])) (fun z => hb (by simp [z])) q)) hf (Nat.le_refl _) new
    refine ⟨.ref s.heap.objs.size, _, I1, rfl, ⟨_, x, rfl, I.hok.fresh (Nat.le_refl _), rfl, fun ys hy => by rw [I.list_inj hy hq]; exact hx⟩, ⟨⟨u, ?_⟩, hit'.at fun o q => (sb.2 it (Ne.symm hne)).trans q, hne⟩, fun b hb => ?_⟩
    · have e1 : ((i + 1 : Nat) : Int) = (i : Int) + 1 := by omega
      rw [e1]; exact he'
    · have hb' : b < s.heap.objs.size := by
        have e' : b = e ∨ b = it := by simpa using hb
        rcases e' with z | z
        · rw [z]; exact hel
        · rw [z]; exact hil
      rw [upd_ne (Nat.ne_of_lt hb')]
      exact (hf b hb).1
  done := by
    intro X hP hw hK hc i pins s σ H E I hf st hg
    subst hP hw hK
    obtain ⟨⟨old, he⟩, hit, hne⟩ := st
    obtain ⟨xs, hq, hx⟩ := hg
    obtain ⟨its, rv, p, hz⟩ := I.list hq
    obtain ⟨f0, f1, f2, f3, f4, f5⟩ := hf it (by simp)
    have hl := rv.length
    exact wpAny_pyNext_enum_end (I.ok.hd hc) he hit p.isList (by simp; omega) fun h' eb => ⟨rfl, I.turned (t' := s.toks) (fun b o hb q => eb b o hb q) f0 f1 f3 f4 f5⟩
  self := fun A i s Q E st h => let ⟨⟨_, he⟩, _⟩ := st; wpAny_pyIter_enum he h
def iEnum (K : PySem.W.Frag) (ta : TA) : TI := fun σ H R => ta σ H fun vs H1 => ∃ a xs, vs = [.ref a] ∧ SqL K H1 a xs ∧ R (Ite K a) H1
theorem pi_enum {X : Cx} {e : Expr} {ta : TA} {p pos tpos : Pos} {elts : List Expr} {kk : Nat} (hg : Gl X "enumerate") (hm : X.mg "enumerate" = none) (ha : PA X [e] ta) (hs : starEach [e] X.env = [(false, eval e X.env)] := by rfl) :
    PI X (.Tuple elts kk tpos) (.Call (.Name "enumerate" p) [e] [] pos) (iEnum X.K ta) := by
  intro pins s σ H R I h
  refine Call_ (ld_blt I hg hm boot_enumerate (PyProof.Rows.callWith_type1 (thn (ha pos pins s σ H _ I h) fun us s1 ⟨vs, H1, I1, r1, q1⟩ => ?_) hs rfl))
  obtain ⟨a, xs, ex, hq, q⟩ := q1
  subst ex
  cases r1 with
  | cons r rr =>
    cases rr
    cases r
    obtain ⟨its, rv, p', hz⟩ := I1.list hq
    refine call_enumerate_list p'.isList fun h' he hit hsz hk => wpAny_pyIter_enum he ?_
    have I2 : Inv X pins σ H1 { s1 with heap := h' } := I1.kept (t' := s1.toks) hk
    refine ⟨s1.heap.objs.size + 1, [s1.heap.objs.size + 1, s1.heap.objs.size], _, _, H1, rfl, I2, turn_enum a (s1.heap.objs.size + 1) s1.heap.objs.size, ⟨⟨.none, he⟩, hit, Nat.succ_ne_self _⟩, fun b hb => ?_, q⟩
    have e' : b = s1.heap.objs.size + 1 ∨ b = s1.heap.objs.size := by simpa using hb
    have hle : s1.heap.objs.size ≤ b := by
      rcases e' with z | z
      · rw [z]; exact Nat.le_add_right _ _
      · rw [z]; exact Nat.le_refl _
    exact I1.fpOk hle (I1.hok.fresh hle)
/-! ### zip(list, list) -/
theorem boot_zip5 : bootBuiltins "zip" = some (.type "zip") := by decide +kernel
/-- the lists at a and b as they stand at each turn, the items in new pairs -/
def Itz (K : PySem.W.Frag) (a b : Addr) : It :=
  ⟨fun i H => ∃ (xs ys : List V) (x y : V), SqL K H a xs ∧ SqL K H b ys ∧ xs[i]? = some x ∧ ys[i]? = some y,
    fun i H v H' => ∃ T x y, v = .ref T ∧ H T = none ∧ H' = upd H T (.tup [x, y]) ∧ (∀ xs, SqL K H a xs → xs[i]? = some x) ∧ ∀ ys, SqL K H b ys → ys[i]? = some y,
    fun i H => ∃ xs ys : List V, SqL K H a xs ∧ SqL K H b ys ∧ (xs.length ≤ i ∨ ys.length ≤ i)⟩
theorem turn_zip {P : Program} {w : World} {K : PySem.W.Frag} {elts : List Expr} {kk : Nat} {tpos : Pos} {a b z TI TO i1 i2 : Addr} (D : ZipApart z TI TO i1 i2 a b) :
    Turn P w K (.Tuple elts kk tpos) (Itz K a b) [z, TI, TO, i1, i2] z (fun i h => IsZip h z TI TO .none ∧ IsPair h TI (.ref i1) (.ref i2) ∧ (∃ x y, IsPair h TO x y) ∧ h.IsListIter i1 a i ∧ h.IsListIter i2 b i) where
  mem := by simp
  obj := fun i h st c hc => by
    obtain ⟨hz, hTI, ⟨x, y, hTO⟩, ⟨o1, e1, _, d1⟩, ⟨o2, e2, _, d2⟩⟩ := st
    have e' : c = z ∨ c = TI ∨ c = TO ∨ c = i1 ∨ c = i2 := by simpa using hc
    rcases e' with q | q | q | q | q
    · rw [q]; exact ⟨_, hz, fun v q => nomatch q⟩
    · rw [q]; exact ⟨_, hTI, fun v q => nomatch q⟩
    · rw [q]; exact ⟨_, hTO, fun v q => nomatch q⟩
    · rw [q]; exact ⟨o1, e1, fun v q => by rw [d1] at q; cases q⟩
    · rw [q]; exact ⟨o2, e2, fun v q => by rw [d2] at q; cases q⟩
  keep := fun i h h' st k => by
    obtain ⟨hz, hTI, ⟨x, y, hTO⟩, h1, h2⟩ := st
    exact ⟨k z (by simp) _ hz, k TI (by simp) _ hTI, ⟨x, y, k TO (by simp) _ hTO⟩, h1.at fun o q => k i1 (by simp) o q, h2.at fun o q => k i2 (by simp) o q⟩
  item := by
    intro X hP hw hK hc i pins s σ H E I hf st hg
    subst hP hw hK
    obtain ⟨hz, hTI, ⟨x0, y0, hTO⟩, h1, h2⟩ := st
    obtain ⟨xs, ys, x, y, hqx, hqy, hx, hy⟩ := hg
    obtain ⟨its, rv, p, _⟩ := I.list hqx
    obtain ⟨its2, rv2, p2, _⟩ := I.list hqy
    obtain ⟨u, hu, ru⟩ := rv.get hx
    obtain ⟨u2, hu2, ru2⟩ := rv2.get hy
    have hzl : z < s.heap.objs.size := Heap.lt_size hz
    refine wpAny_pyNext_zip_item D hz hTI hTO h1 h2 p.isList p2.isList (x := u) (y := u2) (by simpa using hu) (by simpa using hu2) fun h' z' TO' h1' h2' hT hsz hk => ?_
    refine ⟨_, rfl, wpAny_letOwnedTupleGo_zip (s := { s with heap := h' }) z' fun h'' z'' sb => ?_⟩
    have hT2 : h''.get? s.heap.objs.size = some { cls := .type "tuple", data := .seq #[u, u2] } := (sb.2 _ (Nat.ne_of_gt hzl)).trans hT
    have new : ObjOk X.prog X.w (upd H s.heap.objs.size (.tup [x, y])) h'' s.heap.objs.size (.tup [x, y]) :=
      ⟨by show 2 ≤ sizeLine; decide, [u, u2], .cons ru (.cons ru2 .nil), ⟨_, hT2, rfl, _, rfl⟩⟩
    have I1 : Inv X pins σ (upd H s.heap.objs.size (.tup [x, y])) { s with heap := h'' } :=
      I.turnedNew (t' := s.toks) (ch := [z, TI, TO, i1, i2]) (fun c o hb q => (sb.2 c (fun q' => hb (by simp [q']))).trans (hk c o (fun q' => hb (by simp [q'])) (fun q' => hb (by simp [q'])) (fun q' => hb (by simp [q'])) (fun q' => hb (by simp [q'])) q)) hf (Nat.le_refl _) new
    refine ⟨.ref s.heap.objs.size, _, I1, rfl, ⟨_, x, y, rfl, I.hok.fresh (Nat.le_refl _), rfl, fun l hl => by rw [I.list_inj hl hqx]; exact hx, fun l hl => by rw [I.list_inj hl hqy]; exact hy⟩, ⟨z'', ?_, ⟨u, u2, ?_⟩, ?_, ?_⟩, fun c hcm => ?_⟩
    · exact (sb.2 _ D.TIz).trans (hk _ _ D.TIz D.TITO D.TIi1 D.TIi2 hTI)
    · exact (sb.2 _ D.TOz).trans TO'
    · exact h1'.at fun o q => (sb.2 _ D.i1z).trans q
    · exact h2'.at fun o q => (sb.2 _ D.i2z).trans q
    · have hlt : c < s.heap.objs.size := by
        have e' : c = z ∨ c = TI ∨ c = TO ∨ c = i1 ∨ c = i2 := by simpa using hcm
        rcases e' with q | q | q | q | q
        · rw [q]; exact hzl
        · rw [q]; exact Heap.lt_size hTI
        · rw [q]; exact Heap.lt_size hTO
        · rw [q]; obtain ⟨_, e1, _⟩ := h1; exact Heap.lt_size e1
        · rw [q]; obtain ⟨_, e2, _⟩ := h2; exact Heap.lt_size e2
      rw [upd_ne (Nat.ne_of_lt hlt)]
      exact (hf c hcm).1
  done := by
    intro X hP hw hK hc i pins s σ H E I hf st hg
    subst hP hw hK
    obtain ⟨hz, hTI, ⟨x0, y0, hTO⟩, h1, h2⟩ := st
    obtain ⟨xs, ys, hqx, hqy, hend⟩ := hg
    obtain ⟨its, rv, p, _⟩ := I.list hqx
    obtain ⟨its2, rv2, p2, _⟩ := I.list hqy
    have l1 := rv.length
    have l2 := rv2.length
    have he : its.toArray[i]? = none ∨ its2.toArray[i]? = none := by
      rcases hend with q | q
      · exact .inl (by simp; omega)
      · exact .inr (by simp; omega)
    exact wpAny_pyNext_zip_end (I.ok.hd hc) D hz hTI hTO h1 h2 p.isList p2.isList he fun h' hk => ⟨rfl, I.turnedL (t' := s.toks) (ch := [z, TI, TO, i1, i2]) (fun c o hb q =>
      hk c o (fun q' => hb (by simp [q'])) (fun q' => hb (by simp [q'])) (fun q' => hb (by simp [q'])) (fun q' => hb (by simp [q'])) q) hf⟩
  self := fun A i s Q E st h => wpAny_pyIter_zip st.1 h
def iZip (K : PySem.W.Frag) (ta : TA) : TI := fun σ H R => ta σ H fun vs H1 => ∃ a b xs ys, vs = [.ref a, .ref b] ∧ SqL K H1 a xs ∧ SqL K H1 b ys ∧ R (Itz K a b) H1
theorem pi_zip {X : Cx} {e e2 : Expr} {ta : TA} {p pos tpos : Pos} {elts : List Expr} {kk : Nat} (hg : Gl X "zip") (hm : X.mg "zip" = none) (ha : PA X [e, e2] ta)
    (hs : starEach [e, e2] X.env = (false, eval e X.env) :: starEach [e2] X.env := by rfl) (hpl : (backTo pos (starEach [e2] X.env)).any (·.1) = false := by rfl) :
    PI X (.Tuple elts kk tpos) (.Call (.Name "zip" p) [e, e2] [] pos) (iZip X.K ta) := by
  intro pins s σ H R I h
  refine Call_ (ld_blt I hg hm boot_zip5 (PyProof.Rows.callWith_type1 (thn (ha pos pins s σ H _ I h) fun us s1 ⟨vs, H1, I1, r1, q1⟩ => ?_) hs hpl))
  obtain ⟨a, b, xs, ys, ex, hqx, hqy, q⟩ := q1
  subst ex
  cases r1 with
  | cons r rr =>
    cases rr with
    | cons r' rr =>
      cases rr
      cases r
      cases r'
      obtain ⟨its, rv, p1, _⟩ := I1.list hqx
      obtain ⟨its2, rv2, p2, _⟩ := I1.list hqy
      have la : a < s1.heap.objs.size := p1.lt
      have lb : b < s1.heap.objs.size := p2.lt
      refine call_zip_2 p1.isList p2.isList fun h' hz hTI hTO h1 h2 hsz hk => wpAny_pyIter_zip hz ?_
      have I2 : Inv X pins σ H1 { s1 with heap := h' } := I1.kept (t' := s1.toks) hk
      refine ⟨s1.heap.objs.size + 4, [s1.heap.objs.size + 4, s1.heap.objs.size + 2, s1.heap.objs.size + 3, s1.heap.objs.size, s1.heap.objs.size + 1], _, _, H1, rfl, I2, turn_zip (PySem.W.ktu_apart s1.heap.objs.size a b la lb), ⟨hz, hTI, ⟨_, _, hTO⟩, h1, h2⟩, fun c hcm => ?_, q⟩
      have e' : c = s1.heap.objs.size + 4 ∨ c = s1.heap.objs.size + 2 ∨ c = s1.heap.objs.size + 3 ∨ c = s1.heap.objs.size ∨ c = s1.heap.objs.size + 1 := by simpa using hcm
      have hle : s1.heap.objs.size ≤ c := by
        rcases e' with z | z | z | z | z
        · rw [z]; exact Nat.le_add_right _ _
        · rw [z]; exact Nat.le_add_right _ _
        · rw [z]; exact Nat.le_add_right _ _
        · rw [z]; exact Nat.le_refl _
        · rw [z]; exact Nat.le_add_right _ _
      exact I1.fpOk hle (I1.hok.fresh hle)
end L2

section 
namespace Bits
open PySem PyProof.Rows








end Bits
end 

section 
namespace TL
open PySem PySem.Builtin PySem.Builtin.Str PySem.StrLaws

abbrev tl (x : Str) : List Nat := x.cps.toList
theorem ext_tl {x y : Str} (h : tl x = tl y) : x = y := Str.ext' (Array.toList_inj.mp h)
theorem tl_append (x y : Str) : tl (x ++ y) = tl x ++ tl y := by
  show (x ++ y).cps.toList = _
  rw [Str.cps_append, Array.toList_append]

/-! ### the list functions -/




/-! ### the model's split and partition are these -/




/-! ### computing spl and par -/

/-- joined lists -/
def joinL (S : List Nat) : List (List Nat) → List Nat
  | [] => []
  | [p] => p
  | p :: q :: r => p ++ (S ++ joinL S (q :: r))
theorem tl_join (y : Str) : ∀ parts : List Str, tl (Str.join y parts) = joinL (tl y) (parts.map tl)
  | [] => rfl
  | [_] => rfl
  | x :: z :: r => by
    show tl (x ++ y ++ Str.join y (z :: r)) = tl x ++ (tl y ++ joinL (tl y) ((z :: r).map tl))
    rw [tl_append, tl_append, tl_join y (z :: r), List.append_assoc]
theorem join_eq (y : Str) (parts : List Str) : Txt.join y parts = Str.join y parts := glued_eq_join y parts

/-! ### digits -/

/-! ### words: x.split() -/
end TL
end 

namespace L2
open PySem PySem.Spec PyProof.Rows


theorem strs_of_vals : ∀ {ys : List Str} {us : List Value}, Vals (ys.map V.str) us → StrsAre us ys
  | [], _, .nil => .nil
  | y :: ys, _, .cons r t => by
    obtain ⟨k, rfl⟩ := r
    exact .cons y k (strs_of_vals t)



section
variable {X : Cx}




/-- sep.join(a list | a tuple of texts) -/
theorem mt_join : MtR X "str.join" (fun x xs H Q => ∃ a p, ∃ ys : List Str, x = .str a ∧ xs = [.ref p] ∧ (SqL X.K H p (ys.map V.str) ∨ SqT X.K H p (ys.map V.str)) ∧
    (ys.map (·.length)).sum + ys.length * a.length ≤ 16777216 ∧ Q (.str (Txt.join a ys)) H) := by
  intro pins s σ H x xs v us Q I rx rs h
  obtain ⟨a, p, ys, rfl, rfl, hp, hz, h⟩ := h
  obtain ⟨t, rfl⟩ := rx
  cases rs with
  | cons r1 rs =>
    cases rs
    cases r1
    rcases hp with hp | hp
    · obtain ⟨its, r, ⟨o, n, ho, hc, _, hd⟩, _⟩ := I.list hp
      exact PyProof.Rows.join_list (items := its.toArray) ⟨o, ho, hc, n, hd⟩ (by rw [List.toList_toArray]; exact strs_of_vals r) hz fun t' k => ⟨.str _, H, I.tok k, ⟨t', rfl⟩, h⟩
    · obtain ⟨its, r, ht, _⟩ := I.tuple hp
      exact PyProof.Rows.join_tuple (items := its.toArray) ht (by rw [List.toList_toArray]; exact strs_of_vals r) hz fun t' k => ⟨.str _, H, I.tok k, ⟨t', rfl⟩, h⟩

/-! ### of a text alone -/

/-! ### of a text and a text -/
theorem mt1 {id : String} {g : Str → Str → V} (rule : ∀ (a b : Str) (t u : Tok) (s : Shared) (Q : Value → Shared → Prop), (∀ (v : Value) (k : Nat), RelV (g a b) v → Q v { s with toks := k }) →
    wpAny (model X.prog X.w) X.A (call (.builtin id) [.str a t, .str b u]) Q X.xe s) : MtR X id (fun x xs H Q => ∃ a b, x = .str a ∧ xs = [.str b] ∧ Q (g a b) H) := by
  intro pins s σ H x xs v us Q I rx rs h
  obtain ⟨a, b, rfl, rfl, h⟩ := h
  obtain ⟨t, rfl⟩ := rx
  cases rs with
  | cons r1 rs =>
    cases rs
    obtain ⟨u, rfl⟩ := r1
    exact rule a b t u s _ fun v k r => ⟨g a b, H, I.tok k, r, h⟩
theorem mt_find : MtR X "str.find" (fun x xs H Q => ∃ a b, x = .str a ∧ xs = [.str b] ∧ Q (.int (Txt.find a b)) H) :=
  mt1 (g := fun a b => .int (Txt.find a b)) fun _ _ _ _ s _ h => PySem.SC.find (h _ (s.toks + 1) ⟨_, rfl⟩)

end

section
variable {X : Cx} {o e : Expr} {to te : TE}
def tM1 (r : V → List V → Hp → VK → Prop) (to te : TE) : TE := fun σ H Q => to σ H fun x H1 => (∃ a, x = .str a) ∧ te σ H1 fun y H2 => r x [y] H2 Q
theorem pe_m1 {id : String} {name : Str} {apos pos : Pos} {r : V → List V → Hp → VK → Prop} (slot : Slot "str" name id) (ty : typeOf (.builtin id) = pure (.type "method_descriptor")) (rule : MtR X id r) (ho : PE X o to) (he : PE X e te)
    (hs : starEach [e] X.env = [(false, eval e X.env)] := by rfl) (hbase : attributeBase o name X.env (eval o X.env) = eval o X.env := by rfl) (hline : (apos.endLine == pos.line) = true := by rfl) :
    PE X (.Call (.Attribute o name apos) [e] [] pos) (tM1 r to te) := by
  intro pins s σ H Q I h
  refine PySem.Call_method1 hbase hs hline (thn (ho pins s σ H _ I h) fun v s1 ⟨x, H1, I1, r1, q1⟩ => ?_)
  obtain ⟨⟨a, rfl⟩, q1⟩ := q1
  obtain ⟨t, rfl⟩ := _root_.id r1
  refine ⟨"str", _, F.plainAttrs_str, slot, ty, typeIs_str _ _ _, (fun _ e => nomatch e), Calls.callWith_builtin rfl (Calls.evalArgs_plain (Calls.spliced_cons ?_))⟩
  exact thn (he pins s1 σ H1 _ I1 q1) fun u s2 ⟨y, H2, I2, r2, q2⟩ => Calls.spliced_nil (rule pins s2 σ H2 _ [y] _ [u] Q I2 r1 (.cons r2 .nil) q2)

theorem pe_join {apos pos : Pos} (ho : PE X o to) (he : PE X e te) (hs : starEach [e] X.env = [(false, eval e X.env)] := by rfl) (hbase : attributeBase o "join" X.env (eval o X.env) = eval o X.env := by rfl) (hline : (apos.endLine == pos.line) = true := by rfl) :
    PE X (.Call (.Attribute o "join" apos) [e] [] pos) (tM1 (fun x xs H Q => ∃ a p, ∃ ys : List Str, x = .str a ∧ xs = [.ref p] ∧ (SqL X.K H p (ys.map V.str) ∨ SqT X.K H p (ys.map V.str)) ∧
      (ys.map (·.length)).sum + ys.length * a.length ≤ 16777216 ∧ Q (.str (Txt.join a ys)) H) to te) :=
  pe_m1 F.slot_str_join F.type_str_join mt_join ho he hs hbase hline
end
end L2

namespace L2
open PySem PySem.Spec PyProof.Rows


/-! ### slices of a text -/


end L2

namespace Att
open PySem PySem.W PySem.Calls PyProof.Rows

/-! ### the script -/



/-! ### the attachment: holds_open's last premise (the goal 'hc' behind k_head) from a wpAny of the law's body -/



/-! ### rules over ANY heap (no ledger) from facts about the written part K: the library's own take a ledger (News) for what they write -/
section
variable {prog : Program} {w : World} {A : Around} {E : Value → Shared → Prop} {s : Shared} {K : Frag}





/-! the whole heap as the ledger: makes every rule that writes through a ledger a rule over any heap -/

end
end Att

namespace L2
open PySem PySem.Spec PyProof.Rows



end L2

namespace L2
open PySem PySem.Spec PyProof.Rows


end L2

/- THE LAST THEOREM (shape; LID, My.* are yours):
   My.Adr: a structure of the addresses that your layer names (classes, functions); My.Txt K t: a structure (Prop) of the equations over K;
   My.txt_mk : {K} {implicit addresses ..} (e1 : nsIn K mainGlobals "law" = some (some (.ref f))) (e2 : K.lookup f = some ⟨oc, od, .func (fnOf "law" "law" params body scope dV kV doc pm an cdv ct), sl⟩) (e3 : codeIn K cdv "law" = true) .. : ∃ t, My.Txt K t

set_option maxRecDepth 100000 in
set_option maxHeartbeats 0 in
theorem PySem.Challenge.cw_LID_holds : PySem.Challenge.rw_LID.Holds := by
  w_on; o_law; k_head; (case hw => w_witness2)
  k_fill
  refine L2.walk_of (l := PySem.Challenge.rw_LID) (n := 63) (k := 40) (x := "script") (CX := fun w => ..) (sp := fun _ => My.sp_law) rfl (by decide) rfl ⟨rfl, by decide, by decide⟩ (fun w h Y => PySem.W.kIn_of Y) ?F ?S ?C
  case F =>
    intro w mg fa h KX G hmg
    have T : ∃ t, My.Txt (L2.KOf KX) t := by
      dsimp only [L2.KOf]                          -- K must stand as «<heap const> w.params» for k_is
      refine' My.txt_mk ?e1 ?e2 ?e3 ..
      (case e1 => PySem.W.k_is)                    -- in the order: a name -> its address -> its object -> its parts
      (case e2 => PySem.W.k_is)
      ..
    obtain ⟨t, T⟩ := T
    have e0 := hmg.symm.trans (PySem.W.mg_of KX G T.law)
    cases e0                                       -- fa is the law's own address
    exact ⟨_, fun s u => .of_eq rfl, fun base kb nb => My.law_fn T kb nb⟩     -- if «.of_eq rfl» comes too early: refine' ⟨_, ?b, fun base kb nb => My.law_fn T kb nb⟩; exact fun s u => .of_eq rfl
  case S => exact fun w H a ns hl hO hS => ..
  case C => exact ..
(the tactic k_is has no namespace: write k_is) -/

/-! SHORT WORDS over the layer: a def of the text, its body, what a loop and a test want. -/
namespace L2
open PySem PySem.Spec PyProof.Rows

/-! ### the text by places -/
/-- the j-th statement of a class's body -/
def inClass (s : Stmt) (j : Nat) : Stmt := match s with
  | .ClassDef _ _ _ body _ _ _ _ _ _ _ => body.getD j (.Pass ⟨0, 0, 0, 0⟩)
  | _ => .Pass ⟨0, 0, 0, 0⟩
def defArgs (s : Stmt) : Arguments := match s with
  | .FunctionDef _ a _ _ _ _ _ _ _ _ => a
  | _ => { posonlyargs := [], args := [], vararg := none, kwonlyargs := [], kw_defaults := [], kwarg := none, defaults := [] }
def defBody (s : Stmt) : List Stmt := match s with
  | .FunctionDef _ _ b _ _ _ _ _ _ _ => b
  | _ => []
def defScope (s : Stmt) : Scope := match s with
  | .FunctionDef _ _ _ _ _ _ sc _ _ _ => sc
  | _ => { kind := .function, names := [], isGenerator := false, isCoroutine := false }

/-! ### no exception leaves a def -/
abbrev CX0 : CXT := fun _ _ _ _ _ _ => False
abbrev E0 : XK := fun _ _ _ => False
theorem pass0 {X : Cx} : Passes CX0 X E0 := fun _ _ _ _ _ _ _ h => h.elim

/-! ### a def (or method) of the text as it stands behind the top -/
structure Fun (K : PySem.W.Frag) (x qual : Str) (st : Stmt) (f : Addr) (fd : FuncData) : Prop where
  ex : ∃ (oc : Value) (od : Option Addr) (kV doc pm : Value) (an : Option Addr) (cdv ct : Value) (osl : Array (Option Value)),
    fd = PySem.W.fnOf x qual (defArgs st) (defBody st) (defScope st) .none kV doc pm an cdv ct ∧ K.lookup f = some ⟨oc, od, .func fd, osl⟩ ∧ PySem.W.codeIn K cdv qual = true
  kp : PySem.W.keepIn K (.ref f) = true
section
variable {P : Program} {w : World} {K : PySem.W.Frag} {mg : Str → Option Value} {base : Heap}
/-- THE RULE for a def: its body as a term of rules, and the reading of that term -/
theorem Fun.ok {x qual : Str} {st : Stmt} {f : Addr} {fd : FuncData} {N ps : List Str} {k : Nat} {sp : Sp} (F : Fun K x qual st f fd) (S : FnScope N ps (defScope st)) (len : ∀ vs H Q E, sp vs H Q E → vs.length = ps.length)
    (hbody : ∀ (cdv : Value) (A : Around) (outer : List Env) (s : Shared) (H : Hp) (vs : List V) (Q : VK) (E : XK), Room k (A.deeper (envOfC qual (defScope st) s.heap.objs.size f cdv)) → sp vs H Q E →
      ∃ t, PSs (cxOf CX0 P w K mg base N qual (defScope st) f cdv A outer s H E).nox (defBody st) t ∧ t { nx := fun _ H' => Q .non H', rt := Q } (start N vs) H) : FnOk P w K mg base CX0 (k + 1) f fd ps sp := by
  obtain ⟨oc, od, kV, doc, pm, an, cdv, ct, osl, rfl, lk, hcd⟩ := F.ex
  refine fn_of lk hcd S len fun A outer s H vs Q E hr hsp => ?_
  obtain ⟨t, h, q⟩ := hbody cdv A outer s H vs Q E hr hsp
  exact ⟨t, h.nox, q⟩
/-- how its arguments bind (no defaults): h is «fun _ _ _ _ _ _ us hl => match us, hl with | [_, _], _ => rfl», one _ a parameter -/
theorem Fun.binds {x qual : Str} {st : Stmt} {f : Addr} {fd : FuncData} {ps : List Str} (F : Fun K x qual st f fd)
    (h : ∀ (kV doc pm : Value) (an : Option Addr) (cdv ct : Value) (us : List Value), us.length = ps.length → bindArgs (PySem.W.fnOf x qual (defArgs st) (defBody st) (defScope st) .none kV doc pm an cdv ct) ⟨us, []⟩ = pure (ps.zip us)) : Binds K fd ps [] := by
  obtain ⟨oc, od, kV, doc, pm, an, cdv, ct, osl, rfl, lk, hcd⟩ := F.ex
  exact .all (h kV doc pm an cdv ct)
theorem fun_mk {x qual : Str} {st : Stmt} {f : Addr} {oc : Value} {od an : Option Addr} {osl : Array (Option Value)} {kV doc pm cdv ct : Value} (l : K.lookup f = some ⟨oc, od, .func (PySem.W.fnOf x qual (defArgs st) (defBody st) (defScope st) .none kV doc pm an cdv ct), osl⟩)
    (c : PySem.W.codeIn K cdv qual = true) (k : PySem.W.keepIn K (.ref f) = true) : Fun K x qual st f (PySem.W.fnOf x qual (defArgs st) (defBody st) (defScope st) .none kV doc pm an cdv ct) := ⟨⟨oc, od, kV, doc, pm, an, cdv, ct, osl, rfl, l, c⟩, k⟩
end
theorem hu_of {A : Around} {k : Nat} (hr : Room k A) : A.units + 1 < cLine := Nat.lt_of_le_of_lt (Nat.add_le_add_left (by decide : 1 ≤ 64) _) hr.units

/-! ### expressions in short: the name that stands in the i-th slot -/
section
variable {X : Cx}
theorem pv (i : Nat) {x : Str} {pos : Pos} (hN : X.N[i]? = some x := by rfl) (hv : Vis X.env.scope x := by first | exact Or.inl rfl | exact Or.inr (Or.inl rfl) | exact Or.inr (Or.inr rfl)) (hd : (x == ("__debug__" : Str)) = false := by decide)
    (hcd : (x == ("__classdict__" : Str)) = false := by decide) : PE X (.Name x pos) (tVar i) := pe_var hN hv hd hcd
end

/-! ### tests -/
theorem iteF {A B : Prop} (h : B) : if false = true then A else B := by
  rw [if_neg Bool.false_ne_true]
  exact h
theorem iteT {A B : Prop} (h : A) : if true = true then A else B := by
  rw [if_pos rfl]
  exact h
theorem ite2 {c A B : Prop} [Decidable c] (h1 : c → A) (h2 : ¬ c → B) : if c then A else B := by
  by_cases h : c
  · rw [if_pos h]
    exact h1 h
  · rw [if_neg h]
    exact h2 h
theorem iteNS {c A B : Prop} [Decidable c] (hc : c) (h : B) : if (!decide c) = true then A else B := by
  rw [decide_eq_true hc]
  exact iteF h

/-! ### heaps -/
/-- all that was tracked is as it was -/
def Same (H H' : Hp) : Prop := ∀ b o, H b = some o → H' b = some o
theorem Same.refl (H : Hp) : Same H H := fun _ _ h => h
theorem Same.trans {H H1 H2 : Hp} (a : Same H H1) (b : Same H1 H2) : Same H H2 := fun c o h => b c o (a c o h)
theorem Same.free {H H' : Hp} (e : Same H H') {l : Addr} (h : H' l = Option.none) : H l = Option.none := by
  cases q : H l with
  | none => rfl
  | some o =>
    rw [e l o q] at h
    cases h
theorem Same.seq {K : PySem.W.Frag} {H H' : Hp} {a : Addr} {xs : List V} (e : Same H H') (h : SqL K H a xs) : SqL K H' a xs := by
  rcases h with (h | ⟨o, h⟩) | h
  · exact .inl (.inl (e _ _ h))
  · exact .inl (.inr ⟨o, e _ _ h⟩)
  · exact .inr h

/-! ### a dict's pairs: keys that differ -/
/-! ### lists -/
end L2
end
section
section
set_option Elab.async false
set_option linter.all false
set_option maxRecDepth 100000
set_option maxHeartbeats 2000000
namespace L2
open PySem PySem.Spec PyProof.Rows
open PySem.W (WData Codec OpenSpec Well WellAll ReadsW ReadsAllW)
/-! ### an answer as data -/
mutual
/-- x stands for the datum d, lists and tuples all the way -/
inductive Dw (K : PySem.W.Frag) (H : Hp) : V → WData → Prop
  | non : Dw K H .non .none
  | bl (b : Bool) : Dw K H (.bl b) (.bool b)
  | int (i : Int) : Dw K H (.int i) (.int i)
  | str (x : Str) : Dw K H (.str x) (.str x)
  | byt (b : Array UInt8) : Dw K H (.byt b) (.bytes b.toList)
  | lst {a : Addr} {xs : List V} {ds : List WData} : SqL K H a xs → DwAll K H xs ds → Dw K H (.ref a) (.list ds)
  | tup {a : Addr} {xs : List V} {ds : List WData} : SqT K H a xs → DwAll K H xs ds → Dw K H (.ref a) (.tuple ds)
inductive DwAll (K : PySem.W.Frag) (H : Hp) : List V → List WData → Prop
  | nil : DwAll K H [] []
  | cons {v : V} {vs : List V} {d : WData} {ds : List WData} : Dw K H v d → DwAll K H vs ds → DwAll K H (v :: vs) (d :: ds)
end
theorem dw_ints {K : PySem.W.Frag} {H : Hp} : ∀ ns : List Int, DwAll K H (ns.map V.int) (ns.map WData.int)
  | [] => .nil
  | n :: r => .cons (.int n) (dw_ints r)
theorem ints_dw {K : PySem.W.Frag} {H : Hp} : ∀ (ns : List Int) (xs : List V), DwAll K H xs (ns.map WData.int) → xs = ns.map V.int
  | [], xs, h => by
    cases h
    rfl
  | n :: r, xs, h => by
    cases h with
    | cons h1 h2 =>
      cases h1
      rw [ints_dw r _ h2] <;> rfl
section
variable {P : Program} {w : World} {K : PySem.W.Frag} {H : Hp} {h : Heap} {R : PySem.W.WRecords} {cl : Str → Option Addr}
theorem sqL_at {a : Addr} {xs : List V} (hok : HOk P w H h) (KX : K.In h) (q : SqL K H a xs) : ∃ (its : List Value) (o : Obj) (n : Nat), Vals xs its ∧ h.get? a = some o ∧ o.cls = .type "list" ∧ o.data = .seq its.toArray n := by
  rcases q with q | ⟨o, its, n, e, hc, _, hd, _, hv⟩
  · obtain ⟨_, its, n, hv, e⟩ := (show ObjOk P w H h a (.lst xs) from q.ok hok)
    exact ⟨its, _, n, hv, e, rfl, rfl⟩
  · exact ⟨its.toList, o, n, hv, KX _ _ e, hc, by simp [hd]⟩
theorem sqT_at {a : Addr} {xs : List V} (hok : HOk P w H h) (KX : K.In h) (q : SqT K H a xs) : ∃ (its : List Value) (o : Obj) (n : Nat), Vals xs its ∧ h.get? a = some o ∧ o.cls = .type "tuple" ∧ o.data = .seq its.toArray n := by
  rcases q with q | ⟨o, its, n, e, hc, hd, _, hv⟩
  · obtain ⟨_, its, hv, o, e, hc, n, hd⟩ := (show ObjOk P w H h a (.tup xs) from q.ok hok)
    exact ⟨its, o, n, hv, e, hc, hd⟩
  · exact ⟨its.toList, o, n, hv, KX _ _ e, hc, by simp [hd]⟩
mutual
theorem Dw.reads (hok : HOk P w H h) (KX : K.In h) : ∀ (d : WData) (v : V) (u : Value), Dw K H v d → RelV v u → ∃ as, ReadsW R cl h u d as
  | .none, _, _, x, r => by
    cases x
    cases r
    exact ⟨_, ReadsW.none⟩
  | .bool b, _, _, x, r => by
    cases x
    cases r
    exact ⟨_, ReadsW.bool b⟩
  | .int i, _, _, x, r => by
    cases x
    obtain ⟨t, rfl⟩ := r
    exact ⟨_, ReadsW.int i t⟩
  | .str s, _, _, x, r => by
    cases x
    obtain ⟨t, rfl⟩ := r
    exact ⟨_, ReadsW.str s t⟩
  | .bytes b, _, _, x, r => by
    cases x
    obtain ⟨t, rfl⟩ := r
    exact ⟨_, ReadsW.bytes _ t⟩
  | .list ds, _, _, x, r => by
    cases x with
    | lst hs ha =>
      cases r
      obtain ⟨its, o, n, rv, ho, hc, hd⟩ := sqL_at hok KX hs
      obtain ⟨as, hr⟩ := Dw.readsAll hok KX ds _ its ha rv
      exact ⟨_, ReadsW.list ho hc hd hr⟩
  | .tuple ds, _, _, x, r => by
    cases x with
    | tup hs ha =>
      cases r
      obtain ⟨its, o, n, rv, ho, hc, hd⟩ := sqT_at hok KX hs
      obtain ⟨as, hr⟩ := Dw.readsAll hok KX ds _ its ha rv
      exact ⟨_, ReadsW.tuple ho hc hd hr⟩
  | .float _, _, _, x, _ => by cases x
  | .dict _, _, _, x, _ => by cases x
  | .bytearray _, _, _, x, _ => by cases x
  | .set _, _, _, x, _ => by cases x
  | .frozenset _, _, _, x, _ => by cases x
  | .obj _ _, _, _, x, _ => by cases x
theorem Dw.readsAll (hok : HOk P w H h) (KX : K.In h) : ∀ (ds : List WData) (vs : List V) (us : List Value), DwAll K H vs ds → Vals vs us → ∃ as, ReadsAllW R cl h us ds as
  | [], _, _, x, r => by
    cases x
    cases r
    exact ⟨_, ReadsAllW.nil⟩
  | d :: ds, _, _, x, r => by
    cases x with
    | cons h1 h2 =>
      cases r with
      | cons r1 r2 =>
        obtain ⟨as, q1⟩ := Dw.reads hok KX d _ _ h1 r1
        obtain ⟨bs, q2⟩ := Dw.readsAll hok KX ds _ _ h2 r2
        exact ⟨_, ReadsAllW.cons q1 q2⟩
end
end
/-! ### the arguments -/
mutual
/-- data that a codec tells -/
def plW : WData → Bool
  | .none => true
  | .bool _ => true
  | .int _ => true
  | .str _ => true
  | .bytes _ => true
  | .list xs => plWs xs
  | .tuple xs => plWs xs
  | _ => false
def plWs : List WData → Bool
  | [] => true
  | x :: r => plW x && plWs r
end
theorem plWs_map {α : Type} {f : α → WData} (h : ∀ a, plW (f a) = true) : ∀ l : List α, plWs (l.map f) = true
  | [] => rfl
  | x :: r => by
    show (plW (f x) && plWs (r.map f)) = true
    rw [h x, plWs_map h r] <;> rfl
theorem pl_enc : ∀ (c : Codec) (a : c.denote), plW (c.enc a) = true
  | .unit, _ => rfl
  | .bool, _ => rfl
  | .int _ _, _ => rfl
  | .nat _ _, _ => rfl
  | .u8, _ => rfl
  | .bytes _ _, _ => rfl
  | .text _ _ _ _, _ => rfl
  | .list _ _ c, a => plWs_map (fun x => pl_enc c x) a
  | .pair c d, a => by
    show (plW (c.enc a.1) && (plW (d.enc a.2) && true)) = true
    rw [pl_enc c a.1, pl_enc d a.2] <;> rfl
  | .triple c d e, a => by
    show (plW (c.enc a.1) && (plW (d.enc a.2.1) && (plW (e.enc a.2.2) && true))) = true
    rw [pl_enc c a.1, pl_enc d a.2.1, pl_enc e a.2.2] <;> rfl
  | .option c, none => rfl
  | .option c, some x => pl_enc c x
theorem pl_encAll : ∀ (cs : List Codec) (a : Codec.denoteAll cs), plWs (Codec.encAll cs a) = true
  | [], _ => rfl
  | c :: cs, a => by
    show (plW (c.enc a.1) && plWs (Codec.encAll cs a.2)) = true
    rw [pl_enc c a.1, pl_encAll cs a.2] <;> rfl
theorem weight_mem : ∀ {xs : List WData} {d : WData}, d ∈ xs → d.weight ≤ WData.weightAll xs
  | [], d, h => absurd h (by simp)
  | x :: r, d, h => by
    show d.weight ≤ x.weight + 1 + WData.weightAll r
    rcases List.mem_cons.mp h with e | m
    · rw [e]
      omega
    · have z := weight_mem m
      omega
def toV : Value → V
  | .none => .non
  | .bool b => .bl b
  | .int i _ => .int i
  | .str x _ => .str x
  | .bytes b _ => .byt b
  | .ref a => .ref a
  | _ => .non
/-- a value of the arguments, its objects among A -/
def OkU (A : List Addr) : Value → Prop
  | .none => True
  | .bool _ => True
  | .int _ _ => True
  | .str _ _ => True
  | .bytes _ _ => True
  | .ref a => a ∈ A
  | _ => False
theorem OkU.mono {A B : List Addr} (h : ∀ a ∈ A, a ∈ B) : ∀ {u : Value}, OkU A u → OkU B u := fun {u} x => by
  cases u with
  | ref a => exact h a x
  | none => trivial
  | bool b => trivial
  | int i t => trivial
  | str s t => trivial
  | bytes b t => trivial
  | _ => exact False.elim x
theorem relV_toV {A : List Addr} {u : Value} (x : OkU A u) : RelV (toV u) u := by
  cases u with
  | ref a => rfl
  | none => rfl
  | bool b => rfl
  | int i t => exact ⟨t, rfl⟩
  | str s t => exact ⟨t, rfl⟩
  | bytes b t => exact ⟨t, rfl⟩
  | _ => exact False.elim x
theorem vals_toV {A : List Addr} : ∀ {vs : List Value}, (∀ u ∈ vs, OkU A u) → Vals (vs.map toV) vs
  | [], _ => .nil
  | u :: r, h => .cons (relV_toV (h u (List.mem_cons_self ..))) (vals_toV fun x hx => h x (List.mem_cons_of_mem _ hx))
/-- an object of the arguments -/
def ArgOb (h : Heap) (A : List Addr) (a : Addr) : Prop := ∃ vs : List Value, vs.length ≤ sizeLine ∧ (∀ u ∈ vs, OkU A u) ∧
  (h.get? a = some { cls := .type "list", data := .seq vs.toArray } ∨ h.get? a = some { cls := .type "tuple", data := .seq vs.toArray })
theorem ArgOb.mono {h : Heap} {A B : List Addr} {a : Addr} (k : ∀ a ∈ A, a ∈ B) (x : ArgOb h A a) : ArgOb h B a := by
  obtain ⟨vs, h1, h2, h3⟩ := x
  exact ⟨vs, h1, fun u hu => (h2 u hu).mono k, h3⟩
theorem wellAll_len {P : Params} {h : Heap} : ∀ {vs : List Value} {ds : List WData}, WellAll P h vs ds → vs.length = ds.length
  | _, _, .nil => rfl
  | _, _, .cons _ b => by
    show _ + 1 = _ + 1
    rw [wellAll_len b]
theorem well_list {P : Params} {h : Heap} {v : Value} {ds : List WData} (x : Well P h v (.list ds)) : ∃ (a : Addr) (vs : List Value), v = .ref a ∧ h.get? a = some { cls := .type "list", data := .seq vs.toArray } ∧ WellAll P h vs ds := by
  cases x with
  | list ho hall => exact ⟨_, _, rfl, ho, hall⟩
theorem well_tuple {P : Params} {h : Heap} {v : Value} {ds : List WData} (x : Well P h v (.tuple ds)) : ∃ (a : Addr) (vs : List Value), v = .ref a ∧ h.get? a = some { cls := .type "tuple", data := .seq vs.toArray } ∧ WellAll P h vs ds := by
  cases x with
  | tuple ho hall => exact ⟨_, _, rfl, ho, hall⟩
theorem well_cons {P : Params} {h : Heap} {us : List Value} {d : WData} {ds : List WData} (x : WellAll P h us (d :: ds)) : ∃ (v : Value) (vs : List Value), us = v :: vs ∧ Well P h v d ∧ WellAll P h vs ds := by
  cases x with
  | cons a b => exact ⟨_, _, rfl, a, b⟩
theorem line_of {n : Nat} (h : n ≤ 1048576) : n ≤ sizeLine := Nat.le_trans h (by decide)
section
variable {P : Params} {h : Heap}
mutual
theorem area_one : ∀ (d : WData) (v : Value), Well P h v d → plW d = true → d.weight ≤ 1048576 → ∃ A : List Addr, OkU A v ∧ ∀ a ∈ A, ArgOb h A a
  | .none, _, x, _, _ => by
    cases x
    exact ⟨[], trivial, fun a m => absurd m (by simp)⟩
  | .bool b, _, x, _, _ => by
    cases x
    exact ⟨[], trivial, fun a m => absurd m (by simp)⟩
  | .int i, _, x, _, _ => by
    cases x
    exact ⟨[], trivial, fun a m => absurd m (by simp)⟩
  | .str s, _, x, _, _ => by
    cases x
    exact ⟨[], trivial, fun a m => absurd m (by simp)⟩
  | .bytes b, _, x, _, _ => by
    cases x
    exact ⟨[], trivial, fun a m => absurd m (by simp)⟩
  | .list ds, _, x, p, z => by
    obtain ⟨a, vs, rfl, ho, hall⟩ := well_list x
    have z2 : WData.weightAll ds ≤ 1048576 := z
    obtain ⟨A, h1, h2⟩ := area_all ds _ hall p fun d hd => Nat.le_trans (weight_mem hd) z2
    have k : ∀ b ∈ A, b ∈ a :: A := fun b hb => List.mem_cons_of_mem _ hb
    refine ⟨a :: A, List.mem_cons_self .., fun b hb => ?_⟩
    rcases List.mem_cons.mp hb with e | m
    · rw [e]
      exact ⟨vs, line_of (by rw [wellAll_len hall]; exact Nat.le_trans (PySem.W.length_le_weightAllW ds) z2), fun u hu => (h1 u hu).mono k, .inl ho⟩
    · exact (h2 b m).mono k
  | .tuple ds, _, x, p, z => by
    obtain ⟨a, vs, rfl, ho, hall⟩ := well_tuple x
    have z2 : WData.weightAll ds ≤ 1048576 := z
    obtain ⟨A, h1, h2⟩ := area_all ds _ hall p fun d hd => Nat.le_trans (weight_mem hd) z2
    have k : ∀ b ∈ A, b ∈ a :: A := fun b hb => List.mem_cons_of_mem _ hb
    refine ⟨a :: A, List.mem_cons_self .., fun b hb => ?_⟩
    rcases List.mem_cons.mp hb with e | m
    · rw [e]
      exact ⟨vs, line_of (by rw [wellAll_len hall]; exact Nat.le_trans (PySem.W.length_le_weightAllW ds) z2), fun u hu => (h1 u hu).mono k, .inr ho⟩
    · exact (h2 b m).mono k
  | .float _, _, _, p, _ => Bool.noConfusion (show false = true from p)
  | .dict _, _, _, p, _ => Bool.noConfusion (show false = true from p)
  | .bytearray _, _, _, p, _ => Bool.noConfusion (show false = true from p)
  | .set _, _, _, p, _ => Bool.noConfusion (show false = true from p)
  | .frozenset _, _, _, p, _ => Bool.noConfusion (show false = true from p)
  | .obj _ _, _, _, p, _ => Bool.noConfusion (show false = true from p)
theorem area_all : ∀ (ds : List WData) (vs : List Value), WellAll P h vs ds → plWs ds = true → (∀ d ∈ ds, d.weight ≤ 1048576) → ∃ A : List Addr, (∀ u ∈ vs, OkU A u) ∧ ∀ a ∈ A, ArgOb h A a
  | [], _, x, _, _ => by
    cases x
    exact ⟨[], fun u m => absurd m (by simp), fun a m => absurd m (by simp)⟩
  | d :: ds, _, x, p, z => by
    obtain ⟨v, vs, rfl, x1, x2⟩ := well_cons x
    have q : plW d = true ∧ plWs ds = true := Bool.and_eq_true_iff.mp p
    obtain ⟨A, a1, a2⟩ := area_one d v x1 q.1 (z d (List.mem_cons_self ..))
    obtain ⟨B, b1, b2⟩ := area_all ds vs x2 q.2 fun e he => z e (List.mem_cons_of_mem _ he)
    have kA : ∀ b ∈ A, b ∈ A ++ B := fun b hb => List.mem_append.mpr (.inl hb)
    have kB : ∀ b ∈ B, b ∈ A ++ B := fun b hb => List.mem_append.mpr (.inr hb)
    refine ⟨A ++ B, fun u hu => ?_, fun b hb => ?_⟩
    · rcases List.mem_cons.mp hu with e | m
      · rw [e]
        exact a1.mono kA
      · exact (b1 u m).mono kB
    · rcases List.mem_append.mp hb with m | m
      · exact (a2 b m).mono kA
      · exact (b2 b m).mono kB
end
end
/-- what is tracked of an argument's object -/
def hoOf (o : Obj) : Option HO := match o.data with
  | .seq vs _ => if (o.cls == Value.type "list") = true then some (.frz o (.lst (vs.toList.map toV))) else some (.frz o (.tup (vs.toList.map toV)))
  | _ => none
def argH (K : PySem.W.Frag) (h : Heap) (A : List Addr) : Hp := fun b => if b ∈ A then (if (K.lookup b).isNone = true then (h.get? b).bind hoOf else none) else none
/-- nothing is tracked but what is known to the object -/
def OnlyF (H : Hp) : Prop := ∀ b, H b = none ∨ ∃ o u, H b = some (.frz o u)
theorem hoOf_lst (vs : List Value) : hoOf { cls := .type "list", data := .seq vs.toArray } = some (.frz { cls := .type "list", data := .seq vs.toArray } (.lst (vs.map toV))) := by
  show (if (Value.type "list" == Value.type "list") = true then some (HO.frz { cls := .type "list", data := .seq vs.toArray } (.lst (vs.toArray.toList.map toV))) else some (HO.frz { cls := .type "list", data := .seq vs.toArray } (.tup (vs.toArray.toList.map toV)))) = _
  rw [if_pos (beq_self_eq_true _)]
theorem hoOf_tup (vs : List Value) : hoOf { cls := .type "tuple", data := .seq vs.toArray } = some (.frz { cls := .type "tuple", data := .seq vs.toArray } (.tup (vs.map toV))) := by
  show (if (Value.type "tuple" == Value.type "list") = true then some (HO.frz { cls := .type "tuple", data := .seq vs.toArray } (.lst (vs.toArray.toList.map toV))) else some (HO.frz { cls := .type "tuple", data := .seq vs.toArray } (.tup (vs.toArray.toList.map toV)))) = _
  rw [if_neg (by decide)]
section
variable {P : Program} {w : World} {K : PySem.W.Frag} {h : Heap} {A : List Addr}
theorem argH_at {b : Addr} {o : Obj} (hb : b ∈ A) (hk : K.lookup b = none) (e : h.get? b = some o) : argH K h A b = hoOf o := by
  unfold argH
  rw [if_pos hb, hk, if_pos (show (none : Option Obj).isNone = true from rfl), e] <;> rfl
theorem of_argH {b : Addr} {u : HO} (q : argH K h A b = some u) : b ∈ A ∧ K.lookup b = none := by
  unfold argH at q
  by_cases hb : b ∈ A
  · rw [if_pos hb] at q
    cases hk : K.lookup b with
    | none => exact ⟨hb, rfl⟩
    | some o =>
      rw [hk, if_neg (by simp)] at q
      cases q
  · rw [if_neg hb] at q
    cases q
/-- what stands tracked -/
theorem argH_is (ar : ∀ a ∈ A, ArgOb h A a) {b : Addr} {u : HO} (q : argH K h A b = some u) : K.lookup b = none ∧ ∃ vs : List Value, vs.length ≤ sizeLine ∧ (∀ u ∈ vs, OkU A u) ∧
    ((h.get? b = some { cls := .type "list", data := .seq vs.toArray } ∧ u = .frz { cls := .type "list", data := .seq vs.toArray } (.lst (vs.map toV))) ∨
     (h.get? b = some { cls := .type "tuple", data := .seq vs.toArray } ∧ u = .frz { cls := .type "tuple", data := .seq vs.toArray } (.tup (vs.map toV)))) := by
  obtain ⟨hb, hk⟩ := of_argH q
  obtain ⟨vs, h1, h2, h3⟩ := ar b hb
  refine ⟨hk, vs, h1, h2, ?_⟩
  rcases h3 with e | e
  · rw [argH_at hb hk e, hoOf_lst] at q
    exact .inl ⟨e, (Option.some.inj q).symm⟩
  · rw [argH_at hb hk e, hoOf_tup] at q
    exact .inr ⟨e, (Option.some.inj q).symm⟩
theorem argH_only (ar : ∀ a ∈ A, ArgOb h A a) : OnlyF (argH K h A) := fun b => by
  cases q : argH K h A b with
  | none => exact .inl rfl
  | some u =>
    obtain ⟨_, vs, _, _, ⟨_, e⟩ | ⟨_, e⟩⟩ := argH_is ar q
    · exact .inr ⟨_, _, by rw [e]⟩
    · exact .inr ⟨_, _, by rw [e]⟩
theorem argH_ok (ar : ∀ a ∈ A, ArgOb h A a) : HOk P w (argH K h A) h := fun b u q => by
  obtain ⟨_, vs, h1, h2, ⟨e, rfl⟩ | ⟨e, rfl⟩⟩ := argH_is ar q
  · exact ⟨e, by rw [List.length_map]; exact h1, vs, _, vals_toV h2, e⟩
  · exact ⟨e, by rw [List.length_map]; exact h1, vs, vals_toV h2, _, e, rfl, _, rfl⟩
theorem seq_inj {c c' : Value} {vs us : List Value} (e : (some { cls := c, data := .seq vs.toArray } : Option Obj) = some { cls := c', data := .seq us.toArray }) : c = c' ∧ vs = us := by
  have e1 := Option.some.inj e
  have e2 : c = c' := congrArg Obj.cls e1
  have e3 : Data.seq vs.toArray = Data.seq us.toArray := congrArg Obj.data e1
  injection e3 with e4
  refine ⟨e2, ?_⟩
  have e5 := congrArg Array.toList e4
  simpa using e5
/-- a list argument -/
theorem argL (KX : K.In h) (ar : ∀ a ∈ A, ArgOb h A a) {a : Addr} {vs : List Value} (ha : a ∈ A) (e : h.get? a = some { cls := .type "list", data := .seq vs.toArray }) : (∀ u ∈ vs, OkU A u) ∧ SqL K (argH K h A) a (vs.map toV) := by
  obtain ⟨us, h1, h2, h3⟩ := ar a ha
  have hu : us = vs := by
    rcases h3 with q | q
    · rw [e] at q
      exact (seq_inj q).2.symm
    · rw [e] at q
      exact absurd (Value.type.inj (seq_inj q).1) (by decide)
  subst hu
  refine ⟨h2, ?_⟩
  cases hk : K.lookup a with
  | none => exact .inl (.inr ⟨_, by rw [argH_at ha hk e, hoOf_lst]⟩)
  | some o =>
    have e2 := KX a o hk
    rw [e] at e2
    obtain rfl := Option.some.inj e2
    exact .inr ⟨_, us.toArray, _, hk, rfl, rfl, rfl, by rw [List.size_toArray]; exact h1, by simpa using vals_toV h2⟩
theorem argT (KX : K.In h) (ar : ∀ a ∈ A, ArgOb h A a) {a : Addr} {vs : List Value} (ha : a ∈ A) (e : h.get? a = some { cls := .type "tuple", data := .seq vs.toArray }) : (∀ u ∈ vs, OkU A u) ∧ SqT K (argH K h A) a (vs.map toV) := by
  obtain ⟨us, h1, h2, h3⟩ := ar a ha
  have hu : us = vs := by
    rcases h3 with q | q
    · rw [e] at q
      exact absurd (Value.type.inj (seq_inj q).1) (by decide)
    · rw [e] at q
      exact (seq_inj q).2.symm
  subst hu
  refine ⟨h2, ?_⟩
  cases hk : K.lookup a with
  | none => exact .inl (.inr ⟨_, by rw [argH_at ha hk e, hoOf_tup]⟩)
  | some o =>
    have e2 := KX a o hk
    rw [e] at e2
    obtain rfl := Option.some.inj e2
    exact .inr ⟨_, us.toArray, _, hk, rfl, rfl, by rw [List.size_toArray]; exact h1, by simpa using vals_toV h2⟩
mutual
theorem dw_one {Pm : Params} (KX : K.In h) (ar : ∀ a ∈ A, ArgOb h A a) : ∀ (d : WData) (v : Value), Well Pm h v d → plW d = true → OkU A v → Dw K (argH K h A) (toV v) d
  | .none, _, x, _, _ => by
    cases x
    exact .non
  | .bool b, _, x, _, _ => by
    cases x
    exact .bl b
  | .int i, _, x, _, _ => by
    cases x
    exact .int i
  | .str s, _, x, _, _ => by
    cases x
    exact .str s
  | .bytes b, _, x, _, _ => by
    cases x
    have z := Dw.byt (K := K) (H := argH K h A) b.toArray
    exact z
  | .list ds, _, x, p, hu => by
    obtain ⟨a, vs, rfl, ho, hall⟩ := well_list x
    obtain ⟨h2, hs⟩ := argL KX ar hu ho
    exact .lst hs (dw_all KX ar ds _ hall p h2)
  | .tuple ds, _, x, p, hu => by
    obtain ⟨a, vs, rfl, ho, hall⟩ := well_tuple x
    obtain ⟨h2, hs⟩ := argT KX ar hu ho
    exact .tup hs (dw_all KX ar ds _ hall p h2)
  | .float _, _, _, p, _ => Bool.noConfusion (show false = true from p)
  | .dict _, _, _, p, _ => Bool.noConfusion (show false = true from p)
  | .bytearray _, _, _, p, _ => Bool.noConfusion (show false = true from p)
  | .set _, _, _, p, _ => Bool.noConfusion (show false = true from p)
  | .frozenset _, _, _, p, _ => Bool.noConfusion (show false = true from p)
  | .obj _ _, _, _, p, _ => Bool.noConfusion (show false = true from p)
theorem dw_all {Pm : Params} (KX : K.In h) (ar : ∀ a ∈ A, ArgOb h A a) : ∀ (ds : List WData) (vs : List Value), WellAll Pm h vs ds → plWs ds = true → (∀ u ∈ vs, OkU A u) → DwAll K (argH K h A) (vs.map toV) ds
  | [], _, x, _, _ => by
    cases x
    exact .nil
  | d :: ds, _, x, p, hu => by
    obtain ⟨v, vs, rfl, x1, x2⟩ := well_cons x
    have q : plW d = true ∧ plWs ds = true := Bool.and_eq_true_iff.mp p
    exact .cons (dw_one KX ar d v x1 q.1 (hu _ (List.mem_cons_self ..))) (dw_all KX ar ds vs x2 q.2 fun u m => hu u (List.mem_cons_of_mem _ m))
end
end
/-! ### the call -/
theorem spec_call {P : Program} {w : World} {K : PySem.W.Frag} {mg mb : Str → Option Value} {CX : CXT} {k : Nat} {fa : Addr} {fd : FuncData} {ps : List Str} {sp : Sp} {s₁ : Shared} {vals : List Value} {ds : List WData} {R : PySem.W.WRecords} {cl : Str → Option Addr} {d0 : WData}
    (KX : K.In s₁.heap) (hns : s₁.heap.Ns mainGlobals mg) (hb : s₁.heap.Ns builtinsNs mb) (hbb : ∀ x : Str, x ≠ "__name__" → mb x = bootBuiltins x) (hlim : s₁.heap.NoLimit) (hg : s₁.gens = #[])
    (hwl : WellAll w.params s₁.heap vals ds) (hpl : plWs ds = true) (hwt : ∀ d ∈ ds, d.weight ≤ 1048576) (hr : Room k callerA)
    (F : ∀ base : Heap, K.In base → base.Ns mainGlobals mg → FnOk P w K mg base CX k fa fd ps sp) (hbind : ∀ (s : Shared) (us : List Value), us.length = ps.length → BindsTo s fd ⟨us, []⟩ (ps.zip us)) (hlen : ds.length = ps.length)
    (hsp : ∀ (H : Hp) (xs : List V), OnlyF H → DwAll K H xs ds → sp xs H (fun v H' => Dw K H' v d0) fun _ _ _ => False)
    (hCX : ∀ H e s', CX [] H s₁ (fun _ _ _ => False) e s' → False) :
    codeAny (model P w) callerA (.call (.ref fa) ⟨vals, []⟩) (fun r s' => ∃ u as, r = .ok (.ret u) ∧ ReadsW R cl s'.heap u d0 as ∧ OldK s₁.heap s'.heap ∧ s'.os = s₁.os ∧ AllBare s'.gens) s₁ := by
  obtain ⟨A, ho, ar⟩ := area_all ds vals hwl hpl hwt
  have hO : OnlyF (argH K s₁.heap A) := argH_only ar
  have hok : HOk P w (argH K s₁.heap A) s₁.heap := argH_ok ar
  have hS := dw_all KX ar ds vals hwl hpl ho
  have hV := vals_toV ho
  have hK : ∀ b u, argH K s₁.heap A b = some u → K.lookup b = none := fun b u q => (argH_is ar q).1
  have noA : ∀ {b : Addr} {o : Obj} {es : Array DictEntry} {ep : Nat}, s₁.heap.get? b = some o → o.data = .dict es ep → argH K s₁.heap A b = none := fun {b o es ep} e d => by
    cases q : argH K s₁.heap A b with
    | none => rfl
    | some u =>
      obtain ⟨_, vs, _, _, ⟨e2, _⟩ | ⟨e2, _⟩⟩ := argH_is ar q
      · rw [e2] at e
        cases e
        have d' : Data.seq vs.toArray _ = Data.dict es ep := d
        cases d'
      · rw [e2] at e
        cases e
        have d' : Data.seq vs.toArray _ = Data.dict es ep := d
        cases d'
  generalize argH K s₁.heap A = H at hO hok hS hK noA
  have base_of : ∀ {b : Addr} {o : Obj}, s₁.heap.get? b = some o → H b = none → (hidT s₁.heap H).get? b = some o := fun e n => hidT_get e n
  have nsK : ∀ {b : Addr} {m : Str → Option Value}, s₁.heap.Ns b m → (hidT s₁.heap H).Ns b m := fun {b m} ⟨o, es, ep, e, d, r⟩ => ⟨o, es, ep, base_of e (noA e d), d, r⟩
  have nK : ∀ b o, K.lookup b = some o → H b = none := fun b o e => by
    cases q : H b with
    | none => rfl
    | some u =>
      rw [hK b u q] at e
      cases e
  have hKb : K.In (hidT s₁.heap H) := fun b o e => base_of (KX b o e) (nK b o e)
  have hM : Mod K mg (hidT s₁.heap H) := ⟨hKb, nsK hns, ⟨mb, nsK hb, hbb⟩, let ⟨mc, h1, h2⟩ := hlim; ⟨mc, nsK h1, h2⟩⟩
  have e0 : Env0 P w K mg (hidT s₁.heap H) callerA [] s₁ H := ⟨rfl, hM, fun b o e => of_hidT e, Nat.le_of_eq (hidT_size _ _), trivial, fun b hb => absurd (show b ∈ ([] : List Addr) from hb) (by simp), hok, .of_eq hg⟩
  have hl : vals.length = ps.length := by rw [wellAll_len hwl]; exact hlen
  refine codeAny_mono ((F _ hKb (nsK hns)).run callerA [] s₁ H ⟨vals, []⟩ vals (vals.map toV) _ _ hr e0 (hbind s₁ vals hl) hV (hsp H _ hO hS)) fun r s' x => ?_
  cases r with
  | error e => exact (hCX H e s' x).elim
  | ok fl =>
    cases fl with
    | next => exact False.elim x
    | brk => exact False.elim x
    | cont => exact False.elim x
    | ret u =>
      obtain ⟨v, H', os, bare, un, hok', r', q⟩ := x
      have kept : ∀ b o, s₁.heap.get? b = some o → s'.heap.get? b = some o := fun b o e => by
        cases q2 : H b with
        | none => exact un.keep b o e q2 (by intro z; exact absurd (show b ∈ ([] : List Addr) from z) (by simp)) (by simp)
        | some u2 =>
          rcases hO b with z | ⟨ob, u3, z⟩
          · rw [q2] at z
            cases z
          · have z2 := un.frzs b ob _ z
            obtain ⟨e1, _⟩ := hok b _ z
            obtain ⟨e2, _⟩ := hok' b _ z2
            rw [e] at e1
            cases e1
            exact e2
      have KX' : K.In s'.heap := fun b o e => kept b o (KX b o e)
      obtain ⟨as, hrd⟩ := Dw.reads (R := R) (cl := cl) hok' KX' d0 v u q r'
      exact ⟨u, as, rfl, hrd, OldK.of_keep kept, os, bare⟩
/-! ### the row -/
theorem layable_weight {ds : List WData} (h : WData.layableAll ds = true) : ∀ d ∈ ds, d.weight ≤ 1048576 := fun d hd =>
  (PySem.W.layableW_iff.mp (List.all_eq_true.mp h d hd)).2.2
theorem encAll_len : ∀ (cs : List Codec) (a : Codec.denoteAll cs), (Codec.encAll cs a).length = cs.length
  | [], _ => rfl
  | c :: cs, a => by
    show (Codec.encAll cs a.2).length + 1 = cs.length + 1
    rw [encAll_len cs a.2]
/-- the goal that k_headS leaves (case hc), from the promise of the row's def: whatever the arguments that the codecs let and the row asks for, the def gives what stands for enc (f ..) -/
theorem walk_spec {r : OpenSpec} {k : Nat} {q : Program} {loose : List Str} {XP : (Str → Option Value) → Heap → Prop} {YP : World → Heap → Prop} {d : DefRec} {K : Params → PySem.W.Frag} {CX : World → CXT} {ps : List Str} {sp : World → Sp}
    (hwell : r.wellSaid = true) (hdf : d.params.defaults = []) (hlen : r.args.length = ps.length) (hr : Room k callerA)
    (hY : ∀ (w : World) (h : Heap), YP w h → (K w.params).In h)
    (F : ∀ (w : World) (mg : Str → Option Value) (fa : Addr) (h : Heap), YP w h → (K w.params).In h → h.Ns mainGlobals mg → mg d.name = some (.ref fa) →
      ∃ fd : FuncData, (∀ (s : Shared) (us : List Value), us.length = ps.length → BindsTo s fd ⟨us, []⟩ (ps.zip us)) ∧
        ∀ base : Heap, (K w.params).In base → base.Ns mainGlobals mg → FnOk r.prog w (K w.params) mg base (CX w) k fa fd ps (sp w))
    (hsp : ∀ (w : World) (H : Hp) (xs : List V) (a : Codec.denoteAll r.args), OnlyF H → Codec.withinAll r.args a = true → Codec.app r.args r.asked a = true → DwAll (K w.params) H xs (Codec.encAll r.args a) →
      sp w xs H (fun v H' => Dw (K w.params) H' v (r.ret.enc (Codec.app r.args r.f a))) fun _ _ _ => False)
    (hCX : ∀ (w : World) (H : Hp) (s : Shared) (e : Value) (s' : Shared), CX w [] H s (fun _ _ _ => False) e s' → False) :
    PySem.W.WalkOS q loose XP YP r d [] (fun f vs => PySem.call f vs) := by
  intro w s_0 s₁ mg mb G Y fa o pm cd doc dV kV ho hd hcd hD hmg hg args vals as hpre hlay hrd hwl hlo
  obtain ⟨a, e1, e2⟩ := PySem.W.os_pre_some hpre
  obtain ⟨e3, hwi⟩ := Codec.encAll_of_decAll r.args args a e1
  subst e3
  have KX := hY w _ Y
  obtain ⟨fd, hb, hF⟩ := F w mg fa _ Y KX G.T.g hmg
  refine PySem.W.enter_call (codeAny_mono (spec_call (R := []) (cl := classAt s_0.heap) (d0 := r.ret.enc (Codec.app r.args r.f a)) KX G.T.g G.T.b G.T.builtins G.T.nolimit hg hwl (pl_encAll _ _) (layable_weight hlay) hr hF hb (by rw [encAll_len]; exact hlen)
    (fun H xs hO hS => hsp w H xs a hO hwi e2 hS) fun H e s' => hCX w H s₁ e s') fun r' s' hq => ?_)
  obtain ⟨u, as', rfl, h1, h2, h3, h4⟩ := hq
  exact ⟨.inl ⟨u, _, as', rfl, fun _ => rfl, h1, (OpenSpec.post_iff hwell hwi _ _).mpr rfl, fun z => Bool.noConfusion (show false = true from z)⟩, h2, h3, h4⟩
/-- the same where the promise hangs on the written part alone -/
theorem walk_specK {r : OpenSpec} {k : Nat} {q : Program} {loose : List Str} {XP : (Str → Option Value) → Heap → Prop} {YP : World → Heap → Prop} {d : DefRec} {K : Params → PySem.W.Frag} {CX : CXT} {ps : List Str} {sp : PySem.W.Frag → Sp}
    (hwell : r.wellSaid = true) (hdf : d.params.defaults = []) (hlen : r.args.length = ps.length) (hr : Room k callerA)
    (hY : ∀ (w : World) (h : Heap), YP w h → (K w.params).In h)
    (F : ∀ (w : World) (mg : Str → Option Value) (fa : Addr) (h : Heap), YP w h → (K w.params).In h → h.Ns mainGlobals mg → mg d.name = some (.ref fa) →
      ∃ fd : FuncData, (∀ (s : Shared) (us : List Value), us.length = ps.length → BindsTo s fd ⟨us, []⟩ (ps.zip us)) ∧
        ∀ base : Heap, (K w.params).In base → base.Ns mainGlobals mg → FnOk r.prog w (K w.params) mg base CX k fa fd ps (sp (K w.params)))
    (hsp : ∀ (K : PySem.W.Frag) (H : Hp) (xs : List V) (a : Codec.denoteAll r.args), OnlyF H → Codec.withinAll r.args a = true → Codec.app r.args r.asked a = true → DwAll K H xs (Codec.encAll r.args a) →
      sp K xs H (fun v H' => Dw K H' v (r.ret.enc (Codec.app r.args r.f a))) fun _ _ _ => False)
    (hCX : ∀ (H : Hp) (s : Shared) (e : Value) (s' : Shared), CX [] H s (fun _ _ _ => False) e s' → False) :
    PySem.W.WalkOS q loose XP YP r d [] (fun f vs => PySem.call f vs) :=
  walk_spec (K := K) (CX := fun _ => CX) (sp := fun w => sp (K w.params)) hwell hdf hlen hr hY F (fun w H xs a h1 h2 h3 h4 => hsp (K w.params) H xs a h1 h2 h3 h4) fun _ H s e s' => hCX H s e s'
end L2
-- rests on (row put in by the clerk, for the bench that shows a file only what it spells): KE.SpHead KE.OsShapes
end
end
section
namespace HW
open Ks331
set_option maxRecDepth 100000
/-! ### Rays -/
def rayGo (w h c d : Nat) : Nat → Nat → List Nat
  | 0, _ => []
  | f+1, k => match cellAt w h c d k with
    | some x => x :: rayGo w h c d f (k+1)
    | none => []
def ray (w h c d : Nat) : List Nat := rayGo w h c d 8 0
def pathOf (w h c d n : Nat) : Option (List Nat) := if n ≤ (ray w h c d).length then some ((ray w h c d).take n) else none
def boards : List (Nat × Nat) := (List.range 7).flatMap fun a => (List.range 7).map fun b => (a+2,b+2)
def k3 (w h d : Nat) : Bool := ((List.range (w*h)).flatMap fun c => if (ray w h c (d+4)).length = 1 then ray w h c d else []).isPerm (List.range (w*h))
def k2 (w h d n : Nat) : Bool := ((List.range (w*h)).filterMap fun c => pathOf w h c d n).map List.reverse == (List.range (w*h)).filterMap fun c => pathOf w h c (d+4) n
theorem k3_all : (boards.all fun p => (List.range 4).all fun d => k3 p.1 p.2 d) = true := by decide +kernel
theorem k2_all : (boards.all fun p => (List.range 4).all fun d => (List.range 7).all fun n => k2 p.1 p.2 d (n+2)) = true := by decide +kernel
theorem mem_boards {w h : Nat} (h1 : 2 ≤ w) (h2 : w ≤ 8) (h3 : 2 ≤ h) (h4 : h ≤ 8) : (w, h) ∈ boards := by
  unfold boards
  rw [List.mem_flatMap]
  refine ⟨w - 2, List.mem_range.mpr (by omega), ?_⟩
  rw [List.mem_map]
  exact ⟨h - 2, List.mem_range.mpr (by omega), by rw [Nat.sub_add_cancel h1, Nat.sub_add_cancel h3]⟩
theorem k3_of {w h d : Nat} (h1 : 2 ≤ w) (h2 : w ≤ 8) (h3 : 2 ≤ h) (h4 : h ≤ 8) (hd : d < 4) : k3 w h d = true := by
  have a := List.all_eq_true.mp k3_all _ (mem_boards h1 h2 h3 h4)
  exact List.all_eq_true.mp a d (List.mem_range.mpr hd)
theorem k2_of {w h d n : Nat} (h1 : 2 ≤ w) (h2 : w ≤ 8) (h3 : 2 ≤ h) (h4 : h ≤ 8) (hd : d < 4) (hn : 2 ≤ n) (hm : n ≤ 8) : k2 w h d n = true := by
  have a := List.all_eq_true.mp k2_all _ (mem_boards h1 h2 h3 h4)
  have b := List.all_eq_true.mp a d (List.mem_range.mpr hd)
  have c := List.all_eq_true.mp b (n - 2) (List.mem_range.mpr (by omega))
  rw [Nat.sub_add_cancel hn] at c
  exact c
end HW
end
section
namespace HW
open Ks331
set_option maxRecDepth 100000
theorem cellAt_some {w h c d k x : Nat} (e : cellAt w h c d k = some x) : ∃ X Y : Nat, (X : Int) = ((c % w : Nat) : Int) + (stepOf d).1 * (k : Int) ∧ (Y : Int) = ((c / w : Nat) : Int) + (stepOf d).2 * (k : Int) ∧ X < w ∧ Y < h ∧ x = Y * w + X := by
  unfold cellAt at e
  simp only [] at e
  split at e
  · rename_i q
    obtain ⟨q1, q2, q3, q4⟩ := q
    refine ⟨_, _, Int.toNat_of_nonneg q1, Int.toNat_of_nonneg q3, ?_, ?_, (Option.some.inj e).symm⟩
    · have := Int.toNat_of_nonneg q1
      simp only [Int.ofNat_eq_natCast] at *
      omega
    · have := Int.toNat_of_nonneg q3
      simp only [Int.ofNat_eq_natCast] at *
      omega
  · cases e
theorem lin_lt {w h X Y : Nat} (hx : X < w) (hy : Y < h) : Y * w + X < w * h := by
  have a : (Y + 1) * w ≤ h * w := Nat.mul_le_mul_right w hy
  rw [Nat.add_mul, Nat.one_mul] at a
  rw [Nat.mul_comm w h]
  omega
theorem cellAt_lt {w h c d k x : Nat} (e : cellAt w h c d k = some x) : x < w * h := by
  obtain ⟨X, Y, _, _, hx, hy, rfl⟩ := cellAt_some e
  exact lin_lt hx hy
theorem lin_mod {w X Y : Nat} (hx : X < w) : (Y * w + X) % w = X := by
  rw [Nat.mul_comm, Nat.mul_add_mod, Nat.mod_eq_of_lt hx]
theorem lin_div {w X Y : Nat} (hx : X < w) : (Y * w + X) / w = Y := by
  rw [Nat.mul_comm, Nat.mul_add_div (by omega), Nat.div_eq_of_lt hx, Nat.add_zero]
theorem cellAt_shift {w h c d j k c' : Nat} (e : cellAt w h c d j = some c') : cellAt w h c' d k = cellAt w h c d (j + k) := by
  obtain ⟨X, Y, ex, ey, hx, hy, rfl⟩ := cellAt_some e
  have a1 : Int.ofNat ((Y * w + X) % w) + (stepOf d).1 * Int.ofNat k = Int.ofNat (c % w) + (stepOf d).1 * Int.ofNat (j + k) := by
    rw [lin_mod hx]
    have : (Int.ofNat (j + k)) = (j : Int) + (k : Int) := by simp
    rw [this, Int.mul_add]
    simp only [Int.ofNat_eq_natCast]
    omega
  have a2 : Int.ofNat ((Y * w + X) / w) + (stepOf d).2 * Int.ofNat k = Int.ofNat (c / w) + (stepOf d).2 * Int.ofNat (j + k) := by
    rw [lin_div hx]
    have : (Int.ofNat (j + k)) = (j : Int) + (k : Int) := by simp
    rw [this, Int.mul_add]
    simp only [Int.ofNat_eq_natCast]
    omega
  unfold cellAt
  rw [a1, a2]
theorem cellAt_far {w h c d k : Nat} (hw : w ≤ 8) (hh : h ≤ 8) (hc : c < w * h) (hk : 8 ≤ k) : cellAt w h c d k = none := by
  cases e : cellAt w h c d k with
  | none => rfl
  | some x =>
    exfalso
    obtain ⟨X, Y, ex, ey, hx, hy, _⟩ := cellAt_some e
    have m : c % w < w := Nat.mod_lt _ (by omega)
    have q : c / w < h := Nat.div_lt_of_lt_mul hc
    generalize c % w = r at ex m
    generalize c / w = s at ey q
    unfold stepOf at ex ey
    repeat' split at ex
    all_goals (repeat' split at ey)
    all_goals (simp only [] at ex ey; omega)
theorem cellAt_zero {w h c d : Nat} (hc : c < w * h) : cellAt w h c d 0 = some c := by
  have hw : 0 < w := by
    rcases Nat.eq_zero_or_pos w with z | z
    · subst z; simp at hc
    · exact z
  have m : c % w < w := Nat.mod_lt _ hw
  have q : c / w < h := Nat.div_lt_of_lt_mul hc
  have e1 : Int.ofNat (c % w) + (stepOf d).1 * Int.ofNat 0 = ((c % w : Nat) : Int) := by simp
  have e2 : Int.ofNat (c / w) + (stepOf d).2 * Int.ofNat 0 = ((c / w : Nat) : Int) := by simp
  have e3 : c / w * w + c % w = c := Nat.div_add_mod' c w
  have key : cellAt w h c d 0 = if 0 ≤ ((c % w : Nat) : Int) ∧ ((c % w : Nat) : Int) < Int.ofNat w ∧ 0 ≤ ((c / w : Nat) : Int) ∧ ((c / w : Nat) : Int) < Int.ofNat h then some (((c / w : Nat) : Int).toNat * w + ((c % w : Nat) : Int).toNat) else none := by
    unfold cellAt
    rw [e1, e2]
  rw [key, if_pos ⟨Int.natCast_nonneg _, Int.ofNat_lt.mpr m, Int.natCast_nonneg _, Int.ofNat_lt.mpr q⟩, Int.toNat_natCast, Int.toNat_natCast, e3]
/-! ### What a ray is -/
theorem rayGo_shift {w h c d j c' : Nat} (e : cellAt w h c d j = some c') : ∀ (f k : Nat), rayGo w h c' d f k = rayGo w h c d f (j + k)
  | 0, _ => rfl
  | f + 1, k => by
    show (match cellAt w h c' d k with | some x => x :: rayGo w h c' d f (k+1) | none => []) = (match cellAt w h c d (j + k) with | some x => x :: rayGo w h c d f (j + k + 1) | none => [])
    rw [cellAt_shift e, rayGo_shift e f (k + 1), Nat.add_assoc]
theorem rayGo_fuel {w h c d : Nat} : ∀ (f f' k : Nat), f ≤ f' → cellAt w h c d (k + f) = none → rayGo w h c d f' k = rayGo w h c d f k
  | 0, 0, _, _, _ => rfl
  | 0, f' + 1, k, _, e => by
    show (match cellAt w h c d k with | some x => x :: rayGo w h c d f' (k+1) | none => []) = []
    have e' : cellAt w h c d k = none := e
    rw [e']
  | f + 1, 0, _, hf, _ => absurd hf (by omega)
  | f + 1, f' + 1, k, hf, e => by
    show (match cellAt w h c d k with | some x => x :: rayGo w h c d f' (k+1) | none => []) = (match cellAt w h c d k with | some x => x :: rayGo w h c d f (k+1) | none => [])
    rw [rayGo_fuel f f' (k + 1) (by omega) (by rw [show k + 1 + f = k + (f + 1) by omega]; exact e)]
theorem rayGo_len {w h c d : Nat} : ∀ (f k n : Nat), n ≤ f → (n ≤ (rayGo w h c d f k).length ↔ ∀ j, j < n → (cellAt w h c d (k + j)).isSome = true)
  | f, k, 0, _ => ⟨fun _ j hj => absurd hj (by omega), fun _ => Nat.zero_le _⟩
  | 0, k, n + 1, hn => absurd hn (by omega)
  | f + 1, k, n + 1, hn => by
    have ih := rayGo_len (w := w) (h := h) (c := c) (d := d) f (k + 1) n (by omega)
    show n + 1 ≤ (match cellAt w h c d k with | some x => x :: rayGo w h c d f (k+1) | none => []).length ↔ _
    cases e : cellAt w h c d k with
    | none =>
      constructor
      · intro q; simp at q
      · intro q
        have := q 0 (by omega)
        rw [Nat.add_zero, e] at this
        cases this
    | some x =>
      constructor
      · intro q j hj
        rcases Nat.eq_zero_or_pos j with z | z
        · subst z; rw [Nat.add_zero, e]; rfl
        · have := ih.mp (by simpa using q) (j - 1) (by omega)
          rw [show k + 1 + (j - 1) = k + j by omega] at this
          exact this
      · intro q
        have := ih.mpr (fun j hj => by rw [show k + 1 + j = k + (j + 1) by omega]; exact q (j + 1) (by omega))
        simpa using this
theorem rayGo_take {w h c d : Nat} : ∀ (f k n : Nat), n ≤ (rayGo w h c d f k).length → (rayGo w h c d f k).take n = (List.range n).map fun j => (cellAt w h c d (k + j)).getD 0
  | f, k, 0, _ => by simp
  | 0, k, n + 1, hn => by simp [rayGo] at hn
  | f + 1, k, n + 1, hn => by
    have hn' : n + 1 ≤ (match cellAt w h c d k with | some x => x :: rayGo w h c d f (k+1) | none => []).length := hn
    show (match cellAt w h c d k with | some x => x :: rayGo w h c d f (k+1) | none => []).take (n + 1) = _
    cases e : cellAt w h c d k with
    | none => rw [e] at hn'; simp at hn'
    | some x =>
      rw [e] at hn'
      have ih := rayGo_take (w := w) (h := h) (c := c) (d := d) f (k + 1) n (by simpa using hn')
      rw [List.take_succ_cons, ih, List.range_succ_eq_map, List.map_cons, List.map_map]
      show _ = (cellAt w h c d k).getD 0 :: _
      rw [e]
      congr 1
      apply List.map_congr_left
      intro a _
      show (cellAt w h c d (k + 1 + a)).getD 0 = (cellAt w h c d (k + (a + 1))).getD 0
      rw [show k + 1 + a = k + (a + 1) by omega]
theorem cellsOf_all {w h : Nat} (p : Place) : ∀ (n : Nat), cellsOf w h p n = if ∀ j, j < n → (cellAt w h p.1 p.2 j).isSome = true then some ((List.range n).map fun j => (cellAt w h p.1 p.2 j).getD 0) else none
  | 0 => by rw [if_pos (fun j hj => absurd hj (by omega))]; rfl
  | n + 1 => by
    have ih := cellsOf_all (w := w) (h := h) p n
    unfold cellsOf at ih ⊢
    rw [List.range_succ, List.foldl_append, ih]
    by_cases q : ∀ j, j < n → (cellAt w h p.1 p.2 j).isSome = true
    · rw [if_pos q]
      simp only [List.foldl_cons, List.foldl_nil]
      cases e : cellAt w h p.1 p.2 n with
      | none =>
        rw [if_neg (fun z => by have := z n (by omega); rw [e] at this; cases this)]
      | some x =>
        rw [if_pos (fun j hj => by
          rcases Nat.lt_or_eq_of_le (Nat.le_of_lt_succ hj) with z | z
          · exact q j z
          · subst z; rw [e]; rfl)]
        simp [e]
    · rw [if_neg q, if_neg (fun z => q fun j hj => z j (by omega))]
      rfl
/-- a word's cells are the first of the ray's -/
theorem cellsOf_ray {w h : Nat} (c d n : Nat) (hn : n ≤ 8) : cellsOf w h (c, d) n = pathOf w h c d n := by
  rw [cellsOf_all]
  unfold pathOf ray
  have a := rayGo_len (w := w) (h := h) (c := c) (d := d) 8 0 n hn
  by_cases q : n ≤ (rayGo w h c d 8 0).length
  · rw [if_pos q, if_pos (fun j hj => by have := a.mp q j hj; rw [Nat.zero_add] at this; exact this), rayGo_take 8 0 n q]
    congr 1
    apply List.map_congr_left
    intro j _
    show _ = (cellAt w h c d (0 + j)).getD 0
    rw [Nat.zero_add]
  · rw [if_neg q, if_neg (fun z => q (a.mpr fun j hj => by rw [Nat.zero_add]; exact z j hj))]
theorem rayGo_mem {w h c d x : Nat} : ∀ (f k : Nat), x ∈ rayGo w h c d f k → x < w * h
  | 0, k, m => by simp [rayGo] at m
  | f + 1, k, m => by
    have m' : x ∈ (match cellAt w h c d k with | some x => x :: rayGo w h c d f (k+1) | none => []) := m
    cases e : cellAt w h c d k with
    | none => rw [e] at m'; simp at m'
    | some y =>
      rw [e] at m'
      rcases List.mem_cons.mp m' with z | z
      · rw [z]; exact cellAt_lt e
      · exact rayGo_mem f (k + 1) z
theorem ray_mem {w h c d x : Nat} (m : x ∈ ray w h c d) : x < w * h := rayGo_mem 8 0 m
theorem rayGo_le {w h c d : Nat} : ∀ (f k : Nat), (rayGo w h c d f k).length ≤ f
  | 0, _ => Nat.le_refl _
  | f + 1, k => by
    show (match cellAt w h c d k with | some x => x :: rayGo w h c d f (k+1) | none => []).length ≤ f + 1
    have := rayGo_le (w := w) (h := h) (c := c) (d := d) f (k + 1)
    cases cellAt w h c d k with
    | none => simp
    | some y => simp; exact this
theorem ray_le {w h c d : Nat} : (ray w h c d).length ≤ 8 := rayGo_le 8 0
end HW
end
section
namespace HW
open Ks331
set_option maxRecDepth 100000
/-! ### How often a word stands in a text -/
def occ (x : List Nat) : List Nat → Nat
  | [] => 0
  | a :: t => (if x.isPrefixOf (a :: t) = true then 1 else 0) + occ x t
theorem prefix_gap {g : Nat} : ∀ (s x t : List Nat), g ∉ x → x.isPrefixOf (s ++ g :: t) = x.isPrefixOf s
  | [], [], t, _ => by simp
  | [], a :: x, t, hg => by
    have : (a == g) = false := by
      rw [beq_eq_false_iff_ne]
      intro e
      exact hg (by simp [e])
    simp [List.isPrefixOf, this]
  | b :: s, [], t, _ => by simp [List.isPrefixOf]
  | b :: s, a :: x, t, hg => by
    show (a == b && x.isPrefixOf (s ++ g :: t)) = (a == b && x.isPrefixOf s)
    rw [prefix_gap s x t (fun q => hg (List.mem_cons_of_mem _ q))]
theorem occ_gap {g : Nat} {x : List Nat} (hx : x ≠ []) (hg : g ∉ x) : ∀ (s t : List Nat), occ x (s ++ g :: t) = occ x s + occ x t
  | [], t => by
    show (if x.isPrefixOf (g :: t) = true then 1 else 0) + occ x t = 0 + occ x t
    have : x.isPrefixOf (g :: t) = x.isPrefixOf [] := prefix_gap [] x t hg
    rw [this]
    cases x with
    | nil => exact absurd rfl hx
    | cons a x => simp [List.isPrefixOf]
  | b :: s, t => by
    show (if x.isPrefixOf (b :: s ++ g :: t) = true then 1 else 0) + occ x (s ++ g :: t) = ((if x.isPrefixOf (b :: s) = true then 1 else 0) + occ x s) + occ x t
    rw [prefix_gap (b :: s) x t hg, occ_gap hx hg s t]
    omega
/-- a piece of a text that is closed by a gap: what it holds is counted apart -/
def Seg (x t : List Nat) (n : Nat) : Prop := ∀ u, occ x (t ++ u) = n + occ x u
theorem Seg.nil {x : List Nat} : Seg x [] 0 := fun u => by simp
theorem Seg.gap {x s : List Nat} {g : Nat} (hx : x ≠ []) (hg : g ∉ x) : Seg x (s ++ [g]) (occ x s) := fun u => by
  rw [List.append_assoc]
  exact occ_gap hx hg s u
theorem Seg.app {x s t : List Nat} {n m : Nat} (a : Seg x s n) (b : Seg x t m) : Seg x (s ++ t) (n + m) := fun u => by
  rw [List.append_assoc, a, b]
  omega
theorem Seg.flat {α : Type} {x : List Nat} {f : α → List Nat} {n : α → Nat} : ∀ (l : List α), (∀ a ∈ l, Seg x (f a) (n a)) → Seg x (l.flatMap f) ((l.map n).sum)
  | [], _ => Seg.nil
  | a :: l, h => by
    rw [List.flatMap_cons, List.map_cons, List.sum_cons]
    exact (h a (by simp)).app (Seg.flat l fun b hb => h b (by simp [hb]))
/-! ### The track -/
def track (w h : Nat) : List Nat := (List.range (w * h)).flatMap fun c => (List.range 4).flatMap fun d => if (ray w h c (d + 4)).length = 1 then ray w h c d ++ [w * h] else []
/-- the word x is read from c on, way d -/
def pre (F : Nat → Nat) (w h : Nat) (x : List Nat) (c d : Nat) : Bool := x.isPrefixOf ((ray w h c d).map F)
theorem occ_rayGo {F : Nat → Nat} {w h c d : Nat} (hw : w ≤ 8) (hh : h ≤ 8) (hc : c < w * h) (x : List Nat) : ∀ (f k : Nat), f + k = 8 → occ x ((rayGo w h c d f k).map F) = (rayGo w h c d f k).countP fun c' => pre F w h x c' d
  | 0, k, _ => rfl
  | f + 1, k, hf => by
    have ih := occ_rayGo (F := F) (d := d) hw hh hc x f (k + 1) (by omega)
    have e0 : rayGo w h c d (f + 1) k = (match cellAt w h c d k with | some x => x :: rayGo w h c d f (k+1) | none => []) := rfl
    cases e : cellAt w h c d k with
    | none => rw [e0, e]; rfl
    | some c1 =>
      have e1 : ray w h c1 d = rayGo w h c d (f + 1) k := by
        unfold ray
        rw [rayGo_shift e, Nat.add_zero, rayGo_fuel (f + 1) 8 k (by omega) (cellAt_far hw hh hc (by omega))]
      have e2 : rayGo w h c d (f + 1) k = c1 :: rayGo w h c d f (k + 1) := by rw [e0, e]
      have e3 : pre F w h x c1 d = x.isPrefixOf (F c1 :: (rayGo w h c d f (k + 1)).map F) := by
        unfold pre
        rw [e1, e2, List.map_cons]
      rw [e2, List.map_cons, List.countP_cons, e3]
      show (if x.isPrefixOf (F c1 :: (rayGo w h c d f (k + 1)).map F) = true then 1 else 0) + occ x ((rayGo w h c d f (k + 1)).map F) = _
      rw [ih]
      omega
theorem occ_ray {F : Nat → Nat} {w h c d : Nat} (hw : w ≤ 8) (hh : h ≤ 8) (hc : c < w * h) (x : List Nat) : occ x ((ray w h c d).map F) = (ray w h c d).countP fun c' => pre F w h x c' d := occ_rayGo hw hh hc x 8 0 rfl
theorem sum4 {α : Type} (f : α → Nat → Nat) : ∀ (l : List α), (l.map fun c => ((List.range 4).map fun d => f c d).sum).sum = (l.map fun c => f c 0).sum + (l.map fun c => f c 1).sum + (l.map fun c => f c 2).sum + (l.map fun c => f c 3).sum
  | [] => rfl
  | a :: l => by
    have ih := sum4 f l
    have e : ((List.range 4).map fun d => f a d).sum = f a 0 + f a 1 + f a 2 + f a 3 := by
      show [f a 0, f a 1, f a 2, f a 3].sum = _
      simp only [List.sum_cons, List.sum_nil]
      omega
    simp only [List.map_cons, List.sum_cons, ih, e]
    omega
theorem countP8 {α : Type} (q : α → Nat → Bool) : ∀ (l : List α), (l.map fun c => ((List.range 8).countP fun d => q c d)).sum = l.countP (q · 0) + l.countP (q · 1) + l.countP (q · 2) + l.countP (q · 3) + l.countP (q · 4) + l.countP (q · 5) + l.countP (q · 6) + l.countP (q · 7)
  | [] => rfl
  | a :: l => by
    have ih := countP8 q l
    have e : ((List.range 8).countP fun d => q a d) = (if q a 0 then 1 else 0) + (if q a 1 then 1 else 0) + (if q a 2 then 1 else 0) + (if q a 3 then 1 else 0) + (if q a 4 then 1 else 0) + (if q a 5 then 1 else 0) + (if q a 6 then 1 else 0) + (if q a 7 then 1 else 0) := by
      show [0, 1, 2, 3, 4, 5, 6, 7].countP (fun d => q a d) = _
      simp only [List.countP_cons, List.countP_nil]
      omega
    rw [List.map_cons, List.sum_cons, ih, e]
    simp only [List.countP_cons]
    omega
theorem occ_line {F : Nat → Nat} {w h d : Nat} (h1 : 2 ≤ w) (h2 : w ≤ 8) (h3 : 2 ≤ h) (h4 : h ≤ 8) (hd : d < 4) (x : List Nat) :
    ((List.range (w * h)).map fun c => if (ray w h c (d + 4)).length = 1 then occ x ((ray w h c d).map F) else 0).sum = (List.range (w * h)).countP fun c => pre F w h x c d := by
  have p : ((List.range (w*h)).flatMap fun c => if (ray w h c (d+4)).length = 1 then ray w h c d else []).Perm (List.range (w*h)) := List.isPerm_iff.mp (k3_of h1 h2 h3 h4 hd)
  rw [← p.countP_eq, List.countP_flatMap]
  congr 1
  apply List.map_congr_left
  intro c hc
  have hc' := List.mem_range.mp hc
  show _ = List.countP _ (if (ray w h c (d+4)).length = 1 then ray w h c d else [])
  split
  · exact occ_ray h2 h4 hc' x
  · rfl
/-- how often a word stands in the track's text -/
theorem occ_track {F : Nat → Nat} {w h : Nat} (h1 : 2 ≤ w) (h2 : w ≤ 8) (h3 : 2 ≤ h) (h4 : h ≤ 8) {x : List Nat} (hx : x ≠ []) (hg : F (w * h) ∉ x) :
    occ x ((track w h).map F) = (List.range (w * h)).countP (fun c => pre F w h x c 0) + (List.range (w * h)).countP (fun c => pre F w h x c 1) + (List.range (w * h)).countP (fun c => pre F w h x c 2) + (List.range (w * h)).countP (fun c => pre F w h x c 3) := by
  have e : (track w h).map F = (List.range (w * h)).flatMap fun c => (List.range 4).flatMap fun d => if (ray w h c (d + 4)).length = 1 then (ray w h c d).map F ++ [F (w * h)] else [] := by
    unfold track
    rw [List.map_flatMap]
    congr 1
    funext c
    rw [List.map_flatMap]
    congr 1
    funext d
    split
    · simp
    · rfl
  have s : Seg x ((track w h).map F) ((List.range (w * h)).map fun c => ((List.range 4).map fun d => if (ray w h c (d + 4)).length = 1 then occ x ((ray w h c d).map F) else 0).sum).sum := by
    rw [e]
    exact Seg.flat (n := fun c => ((List.range 4).map fun d => if (ray w h c (d + 4)).length = 1 then occ x ((ray w h c d).map F) else 0).sum) _ fun c _ => Seg.flat (n := fun d => if (ray w h c (d + 4)).length = 1 then occ x ((ray w h c d).map F) else 0) _ fun d _ => by
      split
      · exact Seg.gap hx hg
      · exact Seg.nil
  have s' := s []
  rw [List.append_nil] at s'
  rw [s', sum4 (fun c d => if (ray w h c (d + 4)).length = 1 then occ x ((ray w h c d).map F) else 0), ← occ_line h1 h2 h3 h4 (show 0 < 4 by omega), ← occ_line h1 h2 h3 h4 (show 1 < 4 by omega), ← occ_line h1 h2 h3 h4 (show 2 < 4 by omega), ← occ_line h1 h2 h3 h4 (show 3 < 4 by omega)]
  rfl
theorem isPrefixOf_take : ∀ (x l : List Nat), x.isPrefixOf l = (decide (x.length ≤ l.length) && (l.take x.length == x))
  | [], l => by simp
  | a :: x, [] => by simp [List.isPrefixOf]
  | a :: x, b :: l => by
    show (a == b && x.isPrefixOf l) = _
    rw [isPrefixOf_take x l]
    have e : (List.take (a :: x).length (b :: l) == a :: x) = (b == a && (l.take x.length == x)) := rfl
    rw [e]
    have e2 : (a == b) = (b == a) := by
      rw [Bool.eq_iff_iff, beq_iff_eq, beq_iff_eq]; exact eq_comm
    have e3 : decide ((a :: x).length ≤ (b :: l).length) = decide (x.length ≤ l.length) := by simp
    rw [e2, e3, Bool.and_left_comm]
/-- the word is read there: by its path -/
theorem pre_path {F : Nat → Nat} {w h c d : Nat} (x : List Nat) : pre F w h x c d = match pathOf w h c d x.length with
    | some l => l.map F == x
    | none => false := by
  unfold pre pathOf
  rw [isPrefixOf_take, List.length_map]
  by_cases q : x.length ≤ (ray w h c d).length
  · rw [if_pos q, decide_eq_true q, Bool.true_and]
    simp only []
    rw [List.map_take]
  · rw [if_neg q, decide_eq_false q, Bool.false_and]
theorem countP_pre {F : Nat → Nat} {w h d : Nat} (x : List Nat) : ∀ (l : List Nat), l.countP (fun c => pre F w h x c d) = (l.filterMap fun c => pathOf w h c d x.length).countP fun p => p.map F == x
  | [] => rfl
  | c :: l => by
    rw [List.countP_cons, countP_pre x l, pre_path, List.filterMap_cons]
    cases pathOf w h c d x.length with
    | none => simp
    | some p => simp only [List.countP_cons]
/-- read against the way: the word turned round -/
theorem countP_turn {F : Nat → Nat} {w h d : Nat} (h1 : 2 ≤ w) (h2 : w ≤ 8) (h3 : 2 ≤ h) (h4 : h ≤ 8) (hd : d < 4) {x : List Nat} (hx : 2 ≤ x.length) (hm : x.length ≤ 8) :
    (List.range (w * h)).countP (fun c => pre F w h x.reverse c d) = (List.range (w * h)).countP fun c => pre F w h x c (d + 4) := by
  have k : ((List.range (w*h)).filterMap fun c => pathOf w h c d x.length).map List.reverse = (List.range (w*h)).filterMap fun c => pathOf w h c (d+4) x.length := eq_of_beq (k2_of h1 h2 h3 h4 hd hx hm)
  rw [countP_pre, countP_pre, List.length_reverse, ← k, List.countP_map]
  congr 1
  funext p
  show (p.map F == x.reverse) = (p.reverse.map F == x)
  rw [Bool.eq_iff_iff, beq_iff_eq, beq_iff_eq, List.map_reverse]
  constructor
  · intro e; rw [e, List.reverse_reverse]
  · intro e; rw [← e, List.reverse_reverse]
/-- all places: as often as it's read in the track, and turned round -/
theorem places_track {F : Nat → Nat} {g : Grid} {h : Nat} (h1 : 2 ≤ g.wide) (h2 : g.wide ≤ 8) (h3 : 2 ≤ h) (h4 : h ≤ 8) (hl : g.cells.length = g.wide * h) (hF : ∀ c, c < g.wide * h → F c = g.cells.getD c 0)
    {x : List Nat} (hx : 2 ≤ x.length) (hm : x.length ≤ 8) (hg : F (g.wide * h) ∉ x) : (places g x).length = occ x ((track g.wide h).map F) + occ x.reverse ((track g.wide h).map F) := by
  have hh : g.high = h := by
    unfold Grid.high
    rw [hl, Nat.mul_div_cancel_left h (by omega)]
  have r : ∀ c d, reads g x (c, d) = pre F g.wide h x c d := fun c d => by
    unfold reads
    rw [hh, cellsOf_ray c d _ hm, pre_path]
    cases e : pathOf g.wide h c d x.length with
    | none => rfl
    | some l =>
      have : l.map (fun c => g.cells.getD c 0) = l.map F := by
        apply List.map_congr_left
        intro c hc
        refine (hF c ?_).symm
        unfold pathOf at e
        split at e
        · cases e
          exact ray_mem (List.mem_of_mem_take hc)
        · cases e
      simp only []
      rw [this]
  have ne : x ≠ [] := by intro e; rw [e] at hx; simp at hx
  have ne' : x.reverse ≠ [] := by simp [ne]
  rw [occ_track h1 h2 h3 h4 ne hg, occ_track h1 h2 h3 h4 ne' (by simpa using hg), countP_turn h1 h2 h3 h4 (by omega) hx hm, countP_turn h1 h2 h3 h4 (by omega) hx hm, countP_turn h1 h2 h3 h4 (by omega) hx hm, countP_turn h1 h2 h3 h4 (by omega) hx hm]
  unfold places everywhere
  rw [hl, ← List.countP_eq_length_filter, List.countP_flatMap]
  have e : (List.map (List.countP (reads g x) ∘ fun c => (List.range 8).map fun d => (c, d)) (List.range (g.wide * h))) = (List.range (g.wide * h)).map fun c => (List.range 8).countP fun d => pre F g.wide h x c d := by
    apply List.map_congr_left
    intro c _
    show List.countP _ ((List.range 8).map fun d => (c, d)) = _
    rw [List.countP_map]
    congr 1
    funext d
    exact r c d
  rw [e, countP8 (fun c d => pre F g.wide h x c d)]
  simp only [Nat.zero_add, Nat.reduceAdd]
  omega
/-- the program's test of one word -/
def times2 (x t : List Nat) : Nat := min 2 (occ x t)
theorem right_one {g : Grid} {F : Nat → Nat} {h : Nat} (h1 : 2 ≤ g.wide) (h2 : g.wide ≤ 8) (h3 : 2 ≤ h) (h4 : h ≤ 8) (hl : g.cells.length = g.wide * h) (hF : ∀ c, c < g.wide * h → F c = g.cells.getD c 0)
    {x : List Nat} (hx : 2 ≤ x.length) (hm : x.length ≤ 8) (hg : F (g.wide * h) ∉ x) :
    ((places g x).length == Ks332.wanted x) = decide (times2 x ((track g.wide h).map F) + times2 x.reverse ((track g.wide h).map F) = if x.reverse = x then 2 else 1) := by
  rw [places_track h1 h2 h3 h4 hl hF hx hm hg]
  unfold times2 Ks332.wanted
  rw [Bool.eq_iff_iff, beq_iff_eq, decide_eq_true_iff]
  by_cases e : x.reverse = x
  · rw [if_pos e, e]
    omega
  · rw [if_neg e]
    omega
end HW
end
section
namespace HW
open Ks331
set_option maxRecDepth 100000
/-! ### The search as a recursion -/
inductive R where
  | cont (n : Nat)
  | out
  | found (n : Nat) (g : Grid)
def tryAll (f : Grid → Nat → R) (pt : Place → Grid) (most : Nat) : List Place → Nat → R
  | [], n => .cont n
  | p :: l, n => if most ≤ n then .out else match f (pt p) (n + 1) with
    | .cont m => tryAll f pt most l m
    | .out => .out
    | .found m g => .found m g
def judged (rest : Bytes) (all : List Bytes) (g : Grid) (n : Nat) : R :=
  if Ks332.right { g with cells := Ks332.filled rest 0 g.cells } all then .found n { g with cells := Ks332.filled rest 0 g.cells } else .cont n
def go (rest : Bytes) (all : List Bytes) (most : Nat) : List Bytes → Grid → Nat → R
  | [], g, n => judged rest all g n
  | w :: ws, g, n => tryAll (go rest all most ws) (Ks332.put g w) most (Ks332.rooms g w) n
def Good (rest : Bytes) (all : List Bytes) (most n : Nat) (lvl : Ks332.Level) (under : List Ks332.Level) : R → Prop
  | .cont m => n ≤ m ∧ m ≤ most ∧ ∃ s, s ≤ 2 * (m - n) + 1 ∧ ∀ F, Ks332.search rest all most (F + s) n (lvl :: under) = Ks332.search rest all most F m under
  | .out => ∃ s, s ≤ 2 * (most - n) + 1 ∧ ∀ F, Ks332.search rest all most (F + s) n (lvl :: under) = .out
  | .found m g => ∃ s, s ≤ 2 * (most - n) + 1 ∧ ∀ F, Ks332.search rest all most (F + s) n (lvl :: under) = .found m g
theorem good_left (rest : Bytes) (all : List Bytes) (most : Nat) : ∀ (ws : List Bytes) (w : Bytes) (g : Grid) (left : List Place) (n : Nat) (under : List Ks332.Level), n ≤ most →
    Good rest all most n ⟨g, left, w :: ws⟩ under (tryAll (go rest all most ws) (Ks332.put g w) most left n)
  | ws, w, g, [], n, under, hn => ⟨Nat.le_refl _, hn, 1, by omega, fun F => rfl⟩
  | ws, w, g, p :: l, n, under, hn => by
    show Good rest all most n _ under (if most ≤ n then R.out else match go rest all most ws (Ks332.put g w p) (n + 1) with
      | .cont m => tryAll (go rest all most ws) (Ks332.put g w) most l m
      | .out => .out
      | .found m g => .found m g)
    by_cases hm : most ≤ n
    · rw [if_pos hm]
      exact ⟨1, by omega, fun F => by
        show (if most ≤ n then Ks332.Made.out else _) = _
        rw [if_pos hm]⟩
    · rw [if_neg hm]
      cases ws with
      | nil =>
        show Good rest all most n _ under (match judged rest all (Ks332.put g w p) (n + 1) with
          | .cont m => tryAll (go rest all most []) (Ks332.put g w) most l m
          | .out => .out
          | .found m g => .found m g)
        have step : ∀ F, Ks332.search rest all most (F + 1) n (⟨g, p :: l, [w]⟩ :: under) = if Ks332.right { (Ks332.put g w p) with cells := Ks332.filled rest 0 (Ks332.put g w p).cells } all then .found (n + 1) { (Ks332.put g w p) with cells := Ks332.filled rest 0 (Ks332.put g w p).cells } else Ks332.search rest all most F (n + 1) (⟨g, l, [w]⟩ :: under) := fun F => by
          show (if most ≤ n then Ks332.Made.out else _) = _
          rw [if_neg hm]
        unfold judged
        by_cases hr : Ks332.right { (Ks332.put g w p) with cells := Ks332.filled rest 0 (Ks332.put g w p).cells } all = true
        · rw [if_pos hr]
          exact ⟨1, by omega, fun F => by rw [step F, if_pos hr]⟩
        · rw [if_neg hr]
          show Good rest all most n _ under (tryAll (go rest all most []) (Ks332.put g w) most l (n + 1))
          have ih := good_left rest all most [] w g l (n + 1) under (by omega)
          cases e : tryAll (go rest all most []) (Ks332.put g w) most l (n + 1) with
          | cont m =>
            rw [e] at ih
            obtain ⟨a, b, s, hs, k⟩ := ih
            exact ⟨by omega, b, s + 1, by omega, fun F => by rw [← Nat.add_assoc, step (F + s), if_neg hr, k F]⟩
          | out =>
            rw [e] at ih
            obtain ⟨s, hs, k⟩ := ih
            exact ⟨s + 1, by omega, fun F => by rw [← Nat.add_assoc, step (F + s), if_neg hr, k F]⟩
          | found m g' =>
            rw [e] at ih
            obtain ⟨s, hs, k⟩ := ih
            exact ⟨s + 1, by omega, fun F => by rw [← Nat.add_assoc, step (F + s), if_neg hr, k F]⟩
      | cons x ws' =>
        have step : ∀ F, Ks332.search rest all most (F + 1) n (⟨g, p :: l, w :: x :: ws'⟩ :: under) = Ks332.search rest all most F (n + 1) (⟨Ks332.put g w p, Ks332.rooms (Ks332.put g w p) x, x :: ws'⟩ :: ⟨g, l, w :: x :: ws'⟩ :: under) := fun F => by
          show (if most ≤ n then Ks332.Made.out else _) = _
          rw [if_neg hm]
        have sub := good_left rest all most ws' x (Ks332.put g w p) (Ks332.rooms (Ks332.put g w p) x) (n + 1) (⟨g, l, w :: x :: ws'⟩ :: under) (by omega)
        have eg : go rest all most (x :: ws') (Ks332.put g w p) (n + 1) = tryAll (go rest all most ws') (Ks332.put (Ks332.put g w p) x) most (Ks332.rooms (Ks332.put g w p) x) (n + 1) := rfl
        rw [eg]
        cases e : tryAll (go rest all most ws') (Ks332.put (Ks332.put g w p) x) most (Ks332.rooms (Ks332.put g w p) x) (n + 1) with
        | cont m1 =>
          rw [e] at sub
          obtain ⟨a, b, s1, hs1, k1⟩ := sub
          show Good rest all most n _ under (tryAll (go rest all most (x :: ws')) (Ks332.put g w) most l m1)
          have ih := good_left rest all most (x :: ws') w g l m1 under b
          cases e2 : tryAll (go rest all most (x :: ws')) (Ks332.put g w) most l m1 with
          | cont m =>
            rw [e2] at ih
            obtain ⟨a2, b2, s2, hs2, k2⟩ := ih
            exact ⟨by omega, b2, s2 + s1 + 1, by omega, fun F => by rw [← Nat.add_assoc, step, ← Nat.add_assoc, k1, k2]⟩
          | out =>
            rw [e2] at ih
            obtain ⟨s2, hs2, k2⟩ := ih
            exact ⟨s2 + s1 + 1, by omega, fun F => by rw [← Nat.add_assoc, step, ← Nat.add_assoc, k1, k2]⟩
          | found m g' =>
            rw [e2] at ih
            obtain ⟨s2, hs2, k2⟩ := ih
            exact ⟨s2 + s1 + 1, by omega, fun F => by rw [← Nat.add_assoc, step, ← Nat.add_assoc, k1, k2]⟩
        | out =>
          rw [e] at sub
          obtain ⟨s1, hs1, k1⟩ := sub
          exact ⟨s1 + 1, by omega, fun F => by rw [← Nat.add_assoc, step, k1]⟩
        | found m g' =>
          rw [e] at sub
          obtain ⟨s1, hs1, k1⟩ := sub
          exact ⟨s1 + 1, by omega, fun F => by rw [← Nat.add_assoc, step, k1]⟩
termination_by ws _ _ left => (ws.length, left.length)
/-- the specification's search is the recursion -/
theorem make_go (w h : Nat) (ws : List Bytes) (rest : Bytes) (most : Nat) (hw : ws ≠ []) : Ks332.make w h ws rest most = match go rest ws most ws (Ks332.empty w h) 0 with
    | .cont _ => .none_
    | .out => .out
    | .found n g => .found n g := by
  cases ws with
  | nil => exact absurd rfl hw
  | cons x ws =>
    show Ks332.search rest (x :: ws) most (3 * most + 100) 0 [⟨Ks332.empty w h, Ks332.rooms (Ks332.empty w h) x, x :: ws⟩] = match tryAll (go rest (x :: ws) most ws) (Ks332.put (Ks332.empty w h) x) most (Ks332.rooms (Ks332.empty w h) x) 0 with
      | .cont _ => .none_
      | .out => .out
      | .found n g => .found n g
    have G := good_left rest (x :: ws) most ws x (Ks332.empty w h) (Ks332.rooms (Ks332.empty w h) x) 0 [] (by omega)
    cases e : tryAll (go rest (x :: ws) most ws) (Ks332.put (Ks332.empty w h) x) most (Ks332.rooms (Ks332.empty w h) x) 0 with
    | cont m =>
      rw [e] at G
      obtain ⟨_, b, s, hs, k⟩ := G
      have k' := k (3 * most + 100 - s - 1 + 1)
      rw [show 3 * most + 100 - s - 1 + 1 + s = 3 * most + 100 by omega] at k'
      rw [k']
      rfl
    | out =>
      rw [e] at G
      obtain ⟨s, hs, k⟩ := G
      have k' := k (3 * most + 100 - s)
      rw [show 3 * most + 100 - s + s = 3 * most + 100 by omega] at k'
      rw [k']
    | found m g =>
      rw [e] at G
      obtain ⟨s, hs, k⟩ := G
      have k' := k (3 * most + 100 - s)
      rw [show 3 * most + 100 - s + s = 3 * most + 100 by omega] at k'
      rw [k']
end HW
end
section
namespace HW
open Ks331
set_option maxRecDepth 100000
/-! ### Lines of a list -/
def linesGo : List Nat → List Nat → List (List Nat)
  | line, [] => if line = [] then [] else [line]
  | line, b :: r => if b = 10 then line :: linesGo [] r else linesGo (line ++ [b]) r
theorem takeWhile_no {l : List Nat} (h : 10 ∉ l) : l.takeWhile (fun b => b != 10) = l := by
  induction l with
  | nil => rfl
  | cons a l ih =>
    have : (a != 10) = true := by rw [bne_iff_ne]; intro e; exact h (by simp [e])
    rw [List.takeWhile_cons, this, if_pos rfl, ih (fun q => h (List.mem_cons_of_mem _ q))]
theorem dropWhile_no {l : List Nat} (h : 10 ∉ l) : l.dropWhile (fun b => b != 10) = [] := by
  induction l with
  | nil => rfl
  | cons a l ih =>
    have : (a != 10) = true := by rw [bne_iff_ne]; intro e; exact h (by simp [e])
    rw [List.dropWhile_cons, this, if_pos rfl, ih (fun q => h (List.mem_cons_of_mem _ q))]
theorem takeWhile_at {l : List Nat} (r : List Nat) (h : 10 ∉ l) : (l ++ 10 :: r).takeWhile (fun b => b != 10) = l := by
  induction l with
  | nil => rfl
  | cons a l ih =>
    have : (a != 10) = true := by rw [bne_iff_ne]; intro e; exact h (by simp [e])
    rw [List.cons_append, List.takeWhile_cons, this, if_pos rfl, ih (fun q => h (List.mem_cons_of_mem _ q))]
theorem dropWhile_at {l : List Nat} (r : List Nat) (h : 10 ∉ l) : (l ++ 10 :: r).dropWhile (fun b => b != 10) = 10 :: r := by
  induction l with
  | nil => rfl
  | cons a l ih =>
    have : (a != 10) = true := by rw [bne_iff_ne]; intro e; exact h (by simp [e])
    rw [List.cons_append, List.dropWhile_cons, this, if_pos rfl, ih (fun q => h (List.mem_cons_of_mem _ q))]
theorem linesGo_eq : ∀ (r line : List Nat) (n : Nat), 10 ∉ line → line.length + r.length < n → lines n (line ++ r) = linesGo line r
  | [], line, n, hl, hn => by
    cases n with
    | zero => omega
    | succ n =>
      show (if line ++ [] = [] then [] else (line ++ []).takeWhile (fun b => b != 10) :: lines n (((line ++ []).dropWhile (fun b => b != 10)).drop 1)) = if line = [] then [] else [line]
      rw [List.append_nil, takeWhile_no hl, dropWhile_no hl]
      by_cases e : line = []
      · rw [if_pos e, if_pos e]
      · rw [if_neg e, if_neg e]
        cases n with
        | zero => rfl
        | succ n => rfl
  | b :: r, line, n, hl, hn => by
    simp only [List.length_cons] at hn
    cases n with
    | zero => omega
    | succ n =>
      show _ = if b = 10 then line :: linesGo [] r else linesGo (line ++ [b]) r
      by_cases e : b = 10
      · subst e
        rw [if_pos rfl]
        show (if line ++ 10 :: r = [] then [] else (line ++ 10 :: r).takeWhile (fun b => b != 10) :: lines n (((line ++ 10 :: r).dropWhile (fun b => b != 10)).drop 1)) = _
        rw [if_neg (by simp), takeWhile_at r hl, dropWhile_at r hl, List.drop_one, List.tail_cons]
        have ih := linesGo_eq r [] n (by simp) (by simp only [List.length_nil]; omega)
        rw [List.nil_append] at ih
        rw [ih]
      · rw [if_neg e]
        have ih := linesGo_eq r (line ++ [b]) (n + 1) (by simp [hl]; omega) (by simp only [List.length_append, List.length_cons, List.length_nil]; omega)
        rw [List.append_assoc] at ih
        exact ih
theorem linesOf_go (t : List Nat) : linesOf t = linesGo [] t := by
  have := linesGo_eq t [] (t.length + 1) (by simp) (by simp)
  rw [List.nil_append] at this
  exact this
/-- the loop's state: the lines that are whole, the line now -/
theorem linesGo_some (line : List Nat) (b : Nat) (r : List Nat) (h : ¬ b = 10) : linesGo line (b :: r) = linesGo (line ++ [b]) r := if_neg h
theorem linesGo_end (line r : List Nat) : linesGo line (10 :: r) = line :: linesGo [] r := if_pos rfl
/-! ### Twins -/
theorem apart_app : ∀ (l m : List Bytes), Ks332.apart (l ++ m) = (Ks332.apart l && Ks332.apart m && l.all fun w => m.all fun v => v != w && v != w.reverse)
  | [], m => by simp [Ks332.apart]
  | w :: l, m => by
    show (((l ++ m).all fun v => v != w && v != w.reverse) && Ks332.apart (l ++ m)) = (((l.all fun v => v != w && v != w.reverse) && Ks332.apart l) && Ks332.apart m && ((m.all fun v => v != w && v != w.reverse) && l.all fun w => m.all fun v => v != w && v != w.reverse))
    rw [List.all_append, apart_app l m]
    cases (l.all fun v => v != w && v != w.reverse) <;> cases (m.all fun v => v != w && v != w.reverse) <;> cases Ks332.apart l <;> cases Ks332.apart m <;> simp
/-- a twin ahead of it: the list isn't apart -/
theorem apart_twin {pre post : List Bytes} {v : Bytes} (h : v ∈ pre ∨ v.reverse ∈ pre) : Ks332.apart (pre ++ v :: post) = false := by
  rw [apart_app]
  have : (pre.all fun w => (v :: post).all fun v => v != w && v != w.reverse) = false := by
    rw [List.all_eq_false]
    rcases h with h | h
    · exact ⟨v, h, by simp⟩
    · exact ⟨v.reverse, h, by simp⟩
  rw [this, Bool.and_false]
theorem apart_snoc {pre : List Bytes} {v : Bytes} (h : Ks332.apart pre = true) (h1 : v ∉ pre) (h2 : v.reverse ∉ pre) : Ks332.apart (pre ++ [v]) = true := by
  rw [apart_app, h]
  have : (pre.all fun w => [v].all fun v => v != w && v != w.reverse) = true := by
    rw [List.all_eq_true]
    intro w hw
    have a : v ≠ w := fun e => h1 (e ▸ hw)
    have b : v ≠ w.reverse := fun e => h2 (by rw [e, List.reverse_reverse]; exact hw)
    simp [a, b]
  rw [this]
  rfl
/-! ### What a list of words is refused for -/
def refusal (ls : List Bytes) : Int :=
  if ls.findIdx (fun w => !okWord w) < ls.length then -1000 - ((ls.findIdx (fun w => !okWord w) + 1 : Nat) : Int)
  else if ls = [] ∨ WORDS < ls.length then -28
  else if Ks332.apart ls = false then -17
  else 0
theorem wordsOf_bad {t : Bytes} (h : (linesOf t).findIdx (fun w => !okWord w) < (linesOf t).length) : wordsOf t = .error ((linesOf t).findIdx (fun w => !okWord w) + 1) := by
  unfold wordsOf
  exact if_pos h
theorem wordsOf_ok {t : Bytes} (h : ¬ (linesOf t).findIdx (fun w => !okWord w) < (linesOf t).length) : wordsOf t = .ok (linesOf t) := by
  unfold wordsOf
  exact if_neg h
theorem refusal_ne {ls : List Bytes} (h : ls.findIdx (fun w => !okWord w) < ls.length) : refusal ls ≠ 0 := by
  unfold refusal
  rw [if_pos h]
  omega
theorem okWords {ls : List Bytes} (h : ¬ ls.findIdx (fun w => !okWord w) < ls.length) : ∀ x ∈ ls, okWord x = true := fun x hx => by
  have e : ls.findIdx (fun w => !okWord w) = ls.length := Nat.le_antisymm List.findIdx_le_length (by omega)
  have := (List.findIdx_eq_length (p := fun w => !okWord w)).mp e x hx
  simpa using this
/-- load, in the program's words -/
theorem act_load (a : Ks333.Abs) (w : Nat) (c t : Bytes) : Ks333.act a (.load w c (if TEXT < t.length then none else some t)) =
    if okGrid ⟨w, c⟩ = false ∨ TEXT < t.length then (a, Ks333.no (-22)) else if refusal (linesOf t) ≠ 0 then (a, Ks333.no (refusal (linesOf t))) else if Ks332.right ⟨w, c⟩ (linesOf t) = false then (a, Ks333.no (-33)) else (Ks333.begun ⟨w, c⟩ (linesOf t), Ks333.no (linesOf t).length) := by
  show (if okGrid ⟨w, c⟩ = false then (a, Ks333.no (-22)) else match (if TEXT < t.length then none else some t) with
    | none => (a, Ks333.no (-22))
    | some t => match wordsOf t with
      | .error k => (a, Ks333.no (-1000 - (k : Int)))
      | .ok ws => if ws = [] ∨ WORDS < ws.length then (a, Ks333.no (-28)) else if Ks332.apart ws = false then (a, Ks333.no (-17)) else if Ks332.right ⟨w, c⟩ ws = false then (a, Ks333.no (-33)) else (Ks333.begun ⟨w, c⟩ ws, Ks333.no ws.length)) = _
  by_cases h1 : okGrid ⟨w, c⟩ = false
  · rw [if_pos h1, if_pos (.inl h1)]
  · rw [if_neg h1]
    by_cases h2 : TEXT < t.length
    · rw [if_pos h2, if_pos (.inr h2)]
    · rw [if_neg h2, if_neg (by simp [h1, h2])]
      by_cases h3 : (linesOf t).findIdx (fun w => !okWord w) < (linesOf t).length
      · simp only []
        rw [wordsOf_bad h3, if_pos (refusal_ne h3)]
        unfold refusal
        rw [if_pos h3]
      · simp only []
        rw [wordsOf_ok h3]
        unfold refusal
        rw [if_neg h3]
        by_cases h4 : linesOf t = [] ∨ WORDS < (linesOf t).length
        · simp only [if_pos h4]
          rw [if_pos (by decide)]
        · simp only [if_neg h4]
          by_cases h5 : Ks332.apart (linesOf t) = false
          · simp only [if_pos h5]
            rw [if_pos (by decide)]
          · simp only [if_neg h5]
            rw [if_neg (show ¬ ((0 : Int) ≠ 0) by decide)]
theorem refusal_neg {ls : List Bytes} (h : refusal ls ≠ 0) : refusal ls < 0 := by
  unfold refusal at h ⊢
  split
  · omega
  · split
    · decide
    · split
      · decide
      · rename_i a b c
        rw [if_neg a, if_neg b, if_neg c] at h
        exact absurd rfl h
/-- make, in the program's words -/
def madeBy (a : Ks333.Abs) (w : Nat) (ws : List Bytes) : R → Ks333.Abs × Ks333.Ans
  | .cont _ => (a, Ks333.no (-33))
  | .out => (a, Ks333.no (-35))
  | .found n g => (Ks333.begun ⟨w, g.cells⟩ ws, Ks333.no n)
def actMake (a : Ks333.Abs) (w : Nat) (T : Option Bytes) (x : Ks332.Ans) : Ks333.Abs × Ks333.Ans := if x.ret < 0 then (a, Ks333.no x.ret) else match T with
  | none => (a, Ks333.no (-22))
  | some t => match wordsOf t with
    | .error k => (a, Ks333.no (-1000 - (k : Int)))
    | .ok ws => (Ks333.begun ⟨w, x.out⟩ ws, Ks333.no x.ret)
theorem act_raw (a : Ks333.Abs) (w h most : Nat) (T : Option Bytes) (rest : Bytes) : Ks333.act a (.make w h most T rest) = actMake a w T (Ks332.answer (.make w h most T rest)) := by
  cases T <;> rfl
theorem answer_raw (w h most : Nat) (T : Option Bytes) (rest : Bytes) : Ks332.answer (.make w h most T rest) = if okSize w h = false ∨ Ks332.TRIES < most then Ks332.no (-22) else match T with
    | none => Ks332.no (-22)
    | some t => match wordsOf t with
      | .error k => Ks332.no (-1000 - (k : Int))
      | .ok ws => if ws = [] ∨ WORDS < ws.length then Ks332.no (-28) else if Ks332.apart ws = false then Ks332.no (-17) else if rest = [] ∨ Ks332.REST < rest.length ∨ rest.all isLetter = false then Ks332.no (-71) else match Ks332.make w h ws rest most with
        | .found n g => { ret := n, out := g.cells }
        | .none_ => Ks332.no (-33)
        | .out => Ks332.no (-35) := rfl
theorem actMake_neg {a : Ks333.Abs} {w : Nat} {T : Option Bytes} {x : Ks332.Ans} (v : Int) (e : x = Ks332.no v) (hv : v < 0) : actMake a w T x = (a, Ks333.no v) := by
  subst e
  exact if_pos hv
theorem act_make (a : Ks333.Abs) (w h most : Nat) (t rest : Bytes) : Ks333.act a (.make w h most (if TEXT < t.length then none else some t) rest) =
    if okSize w h = false ∨ Ks332.TRIES < most ∨ TEXT < t.length then (a, Ks333.no (-22)) else if refusal (linesOf t) ≠ 0 then (a, Ks333.no (refusal (linesOf t))) else if rest = [] ∨ Ks332.REST < rest.length ∨ rest.all isLetter = false then (a, Ks333.no (-71))
    else madeBy a w (linesOf t) (go rest (linesOf t) most (linesOf t) (Ks332.empty w h) 0) := by
  rw [act_raw]
  have ea := answer_raw w h most (if TEXT < t.length then none else some t) rest
  by_cases h1 : okSize w h = false ∨ Ks332.TRIES < most
  · rw [if_pos h1] at ea
    rw [actMake_neg _ ea (by decide), if_pos (by rcases h1 with z | z; exact .inl z; exact .inr (.inl z))]
  · rw [if_neg h1] at ea
    by_cases h2 : TEXT < t.length
    · rw [if_pos h2] at ea ⊢
      rw [actMake_neg _ ea (by decide), if_pos (.inr (.inr h2))]
    · rw [if_neg h2] at ea ⊢
      rw [if_neg (show ¬ (okSize w h = false ∨ Ks332.TRIES < most ∨ TEXT < t.length) from fun z => by
        rcases z with z | z | z
        · exact h1 (.inl z)
        · exact h1 (.inr z)
        · exact h2 z)]
      simp only [] at ea
      by_cases h3 : (linesOf t).findIdx (fun w => !okWord w) < (linesOf t).length
      · rw [wordsOf_bad h3] at ea
        rw [actMake_neg _ ea (by omega), if_pos (refusal_ne h3)]
        unfold refusal
        rw [if_pos h3]
      · rw [wordsOf_ok h3] at ea
        simp only [] at ea
        by_cases h4 : linesOf t = [] ∨ WORDS < (linesOf t).length
        · rw [if_pos h4] at ea
          rw [actMake_neg _ ea (by decide)]
          unfold refusal
          rw [if_neg h3]
          simp only [if_pos h4]
          rw [if_pos (by decide)]
        · rw [if_neg h4] at ea
          by_cases h5 : Ks332.apart (linesOf t) = false
          · rw [if_pos h5] at ea
            rw [actMake_neg _ ea (by decide)]
            unfold refusal
            rw [if_neg h3]
            simp only [if_neg h4, if_pos h5]
            rw [if_pos (by decide)]
          · rw [if_neg h5] at ea
            have er : refusal (linesOf t) = 0 := by
              unfold refusal
              rw [if_neg h3, if_neg h4, if_neg h5]
            rw [er, if_neg (by decide)]
            by_cases h6 : rest = [] ∨ Ks332.REST < rest.length ∨ rest.all isLetter = false
            · rw [if_pos h6] at ea
              rw [actMake_neg _ ea (by decide), if_pos h6]
            · rw [if_neg h6] at ea
              rw [if_neg h6]
              rw [make_go w h (linesOf t) rest most (fun z => h4 (.inl z))] at ea
              cases eg : go rest (linesOf t) most (linesOf t) (Ks332.empty w h) 0 with
              | cont m =>
                rw [eg] at ea
                rw [actMake_neg _ ea (by decide)]
                rfl
              | out =>
                rw [eg] at ea
                rw [actMake_neg _ ea (by decide)]
                rfl
              | found n g =>
                rw [eg] at ea
                rw [ea]
                unfold actMake
                simp only []
                rw [if_neg (by omega), wordsOf_ok h3]
                rfl
end HW
end
section
namespace HW
open Ks331
set_option maxRecDepth 100000
/-! ### From a cell to another -/
def across (w b e : Nat) : Nat := (((e % w : Nat) : Int) - ((b % w : Nat) : Int)).natAbs
def down (w b e : Nat) : Nat := (((e / w : Nat) : Int) - ((b / w : Nat) : Int)).natAbs
def steps (w b e : Nat) : Nat := max (across w b e) (down w b e)
def inLine (w b e : Nat) : Bool := steps w b e != 0 && (across w b e == 0 || across w b e == steps w b e) && (down w b e == 0 || down w b e == steps w b e)
def stride (w b e : Nat) : Int := ((e : Int) - (b : Int)) / (steps w b e : Int)
def between (w b e : Nat) : List Nat := (List.range (steps w b e + 1)).map fun (i : Nat) => ((b : Int) + stride w b e * (i : Int)).toNat
theorem cellAt_of {w h c d k : Nat} {X Y : Nat} (ex : (X : Int) = ((c % w : Nat) : Int) + (stepOf d).1 * (k : Int)) (ey : (Y : Int) = ((c / w : Nat) : Int) + (stepOf d).2 * (k : Int)) (hx : X < w) (hy : Y < h) : cellAt w h c d k = some (Y * w + X) := by
  have key : cellAt w h c d k = if 0 ≤ (X : Int) ∧ (X : Int) < Int.ofNat w ∧ 0 ≤ (Y : Int) ∧ (Y : Int) < Int.ofNat h then some ((Y : Int).toNat * w + (X : Int).toNat) else none := by
    unfold cellAt
    have e1 : Int.ofNat (c % w) + (stepOf d).1 * Int.ofNat k = (X : Int) := ex.symm
    have e2 : Int.ofNat (c / w) + (stepOf d).2 * Int.ofNat k = (Y : Int) := ey.symm
    rw [e1, e2]
  rw [key, if_pos ⟨Int.natCast_nonneg _, Int.ofNat_lt.mpr hx, Int.natCast_nonneg _, Int.ofNat_lt.mpr hy⟩, Int.toNat_natCast, Int.toNat_natCast]
theorem step_cases (d : Nat) : ((stepOf d).1 = -1 ∨ (stepOf d).1 = 0 ∨ (stepOf d).1 = 1) ∧ ((stepOf d).2 = -1 ∨ (stepOf d).2 = 0 ∨ (stepOf d).2 = 1) ∧ ¬ ((stepOf d).1 = 0 ∧ (stepOf d).2 = 0) := by
  unfold stepOf
  repeat' split
  all_goals decide
theorem lin_eq {w b : Nat} (sx sy : Int) (k : Nat) : (((b / w : Nat) : Int) + sy * (k : Int)) * (w : Int) + (((b % w : Nat) : Int) + sx * (k : Int)) = (b : Int) + (sy * (w : Int) + sx) * (k : Int) := by
  have e : (b : Int) = ((b / w : Nat) : Int) * (w : Int) + ((b % w : Nat) : Int) := by
    have := Nat.div_add_mod' b w
    have t : ((b / w * w + b % w : Nat) : Int) = (b : Int) := by rw [this]
    rw [← t, Int.natCast_add, Int.natCast_mul]
  rw [Int.add_mul, Int.add_mul (sy * (w : Int)) sx (k : Int), Int.mul_assoc sy (k : Int) (w : Int), Int.mul_assoc sy (w : Int) (k : Int), Int.mul_comm (k : Int) (w : Int)]
  generalize ((b / w : Nat) : Int) * (w : Int) = p at e ⊢
  omega
theorem way_line {w h b e d k : Nat} (hk : 1 ≤ k) (hw : 0 < w) (hb : b < w * h) (he : cellAt w h b d k = some e) : inLine w b e = true ∧ steps w b e = k ∧ ∀ i, i ≤ k → cellAt w h b d i = some (((b : Int) + stride w b e * (i : Int)).toNat) ∧ 0 ≤ (b : Int) + stride w b e * (i : Int) := by
  obtain ⟨X, Y, ex, ey, hx, hy, rfl⟩ := cellAt_some he
  have hm : (Y * w + X) % w = X := lin_mod hx
  have hd : (Y * w + X) / w = Y := lin_div hx
  have bm : b % w < w := Nat.mod_lt _ hw
  have bd : b / w < h := Nat.div_lt_of_lt_mul hb
  obtain ⟨c1, c2, c3⟩ := step_cases d
  have ea : across w b (Y * w + X) = ((stepOf d).1 * (k : Int)).natAbs := by
    unfold across
    rw [hm, ex]
    congr 1
    omega
  have ed : down w b (Y * w + X) = ((stepOf d).2 * (k : Int)).natAbs := by
    unfold down
    rw [hd, ey]
    congr 1
    omega
  have va : across w b (Y * w + X) = 0 ∧ (stepOf d).1 = 0 ∨ across w b (Y * w + X) = k ∧ (stepOf d).1 ≠ 0 := by
    rw [ea]
    rcases c1 with z | z | z <;> rw [z] <;> omega
  have vd : down w b (Y * w + X) = 0 ∧ (stepOf d).2 = 0 ∨ down w b (Y * w + X) = k ∧ (stepOf d).2 ≠ 0 := by
    rw [ed]
    rcases c2 with z | z | z <;> rw [z] <;> omega
  have es : steps w b (Y * w + X) = k := by
    unfold steps
    rcases va with ⟨z, y⟩ | ⟨z, _⟩ <;> rcases vd with ⟨z', y'⟩ | ⟨z', _⟩
    · exact absurd ⟨y, y'⟩ c3
    · rw [z, z']; omega
    · rw [z, z']; omega
    · rw [z, z']; omega
  refine ⟨?_, es, fun i hi => ?_⟩
  · unfold inLine
    rw [es]
    have k0 : (k != 0) = true := by rw [bne_iff_ne]; omega
    rcases va with ⟨z, y⟩ | ⟨z, _⟩ <;> rcases vd with ⟨z', y'⟩ | ⟨z', _⟩ <;> rw [z, z', k0] <;> simp
  · have est : stride w b (Y * w + X) = (stepOf d).2 * (w : Int) + (stepOf d).1 := by
      unfold stride
      rw [es]
      have l := lin_eq (w := w) (b := b) (stepOf d).1 (stepOf d).2 k
      rw [← ex, ← ey] at l
      have t : ((Y * w + X : Nat) : Int) - (b : Int) = (k : Int) * ((stepOf d).2 * (w : Int) + (stepOf d).1) := by
        rw [Int.natCast_add, Int.natCast_mul, l, Int.mul_comm (k : Int)]
        omega
      rw [t]
      exact Int.mul_ediv_cancel_left _ (by omega)
    rw [est, ← lin_eq]
    have nx : 0 ≤ ((b % w : Nat) : Int) + (stepOf d).1 * (i : Int) ∧ ((b % w : Nat) : Int) + (stepOf d).1 * (i : Int) < w := by
      rcases c1 with z | z | z <;> rw [z] at ex ⊢ <;> omega
    have ny : 0 ≤ ((b / w : Nat) : Int) + (stepOf d).2 * (i : Int) ∧ ((b / w : Nat) : Int) + (stepOf d).2 * (i : Int) < h := by
      generalize b / w = q at ey bd ⊢
      rcases c2 with z | z | z <;> rw [z] at ey ⊢ <;> omega
    have tx : ((((b % w : Nat) : Int) + (stepOf d).1 * (i : Int)).toNat : Int) = ((b % w : Nat) : Int) + (stepOf d).1 * (i : Int) := Int.toNat_of_nonneg nx.1
    have ty : ((((b / w : Nat) : Int) + (stepOf d).2 * (i : Int)).toNat : Int) = ((b / w : Nat) : Int) + (stepOf d).2 * (i : Int) := Int.toNat_of_nonneg ny.1
    have : ((((((b / w : Nat) : Int) + (stepOf d).2 * (i : Int)).toNat * w + (((b % w : Nat) : Int) + (stepOf d).1 * (i : Int)).toNat : Nat)) : Int) = (((b / w : Nat) : Int) + (stepOf d).2 * (i : Int)) * (w : Int) + (((b % w : Nat) : Int) + (stepOf d).1 * (i : Int)) := by
      rw [Int.natCast_add, Int.natCast_mul, tx, ty]
    rw [cellAt_of tx ty (by omega) (by omega), ← this, Int.toNat_natCast]
    exact ⟨rfl, Int.natCast_nonneg _⟩
theorem line_way {w h b e : Nat} (hw : 0 < w) (h2 : w ≤ 8) (h4 : h ≤ 8) (hb : b < w * h) (he : e < w * h) (hl : inLine w b e = true) : ∃ d, d < 8 ∧ 1 ≤ steps w b e ∧ steps w b e < 8 ∧ cellAt w h b d (steps w b e) = some e := by
  have bm : b % w < w := Nat.mod_lt _ hw
  have bd : b / w < h := Nat.div_lt_of_lt_mul hb
  have em : e % w < w := Nat.mod_lt _ hw
  have ed : e / w < h := Nat.div_lt_of_lt_mul he
  have ee : e / w * w + e % w = e := Nat.div_add_mod' e w
  unfold inLine at hl
  simp only [Bool.and_eq_true, Bool.or_eq_true, bne_iff_ne, beq_iff_eq] at hl
  obtain ⟨⟨l1, l2⟩, l3⟩ := hl
  have ea : across w b e = (((e % w : Nat) : Int) - ((b % w : Nat) : Int)).natAbs := rfl
  have eD : down w b e = (((e / w : Nat) : Int) - ((b / w : Nat) : Int)).natAbs := rfl
  have eS : steps w b e = max (across w b e) (down w b e) := rfl
  have key : ∀ d, ((e % w : Nat) : Int) = ((b % w : Nat) : Int) + (stepOf d).1 * (steps w b e : Int) → ((e / w : Nat) : Int) = ((b / w : Nat) : Int) + (stepOf d).2 * (steps w b e : Int) → cellAt w h b d (steps w b e) = some e := fun d q1 q2 => by
    rw [cellAt_of q1 q2 em ed, ee]
  have s0 : 1 ≤ steps w b e := by omega
  generalize hs : steps w b e = k at *
  generalize across w b e = A at *
  generalize down w b e = D at *
  generalize e % w = X at *
  generalize e / w = Y at *
  generalize b % w = x at *
  generalize b / w = y at *
  have s8 : k < 8 := by omega
  by_cases c1 : X = x
  · by_cases c2 : y < Y
    · exact ⟨2, by omega, s0, s8, key 2 (by simp [stepOf]; omega) (by simp [stepOf]; omega)⟩
    · exact ⟨6, by omega, s0, s8, key 6 (by simp [stepOf]; omega) (by simp [stepOf]; omega)⟩
  · by_cases c3 : Y = y
    · by_cases c2 : x < X
      · exact ⟨0, by omega, s0, s8, key 0 (by simp [stepOf]; omega) (by simp [stepOf]; omega)⟩
      · exact ⟨4, by omega, s0, s8, key 4 (by simp [stepOf]; omega) (by simp [stepOf]; omega)⟩
    · by_cases c2 : x < X
      · by_cases c4 : y < Y
        · exact ⟨1, by omega, s0, s8, key 1 (by simp [stepOf]; omega) (by simp [stepOf]; omega)⟩
        · exact ⟨7, by omega, s0, s8, key 7 (by simp [stepOf]; omega) (by simp [stepOf]; omega)⟩
      · by_cases c4 : y < Y
        · exact ⟨3, by omega, s0, s8, key 3 (by simp [stepOf]; omega) (by simp [stepOf]; omega)⟩
        · exact ⟨5, by omega, s0, s8, key 5 (by simp [stepOf]; omega) (by simp [stepOf]; omega)⟩
theorem lettersOf_line {g : Grid} {h b e : Nat} (hw : 0 < g.wide) (h2 : g.wide ≤ 8) (h4 : h ≤ 8) (hh : g.high = h) (hb : b < g.wide * h) (he : e < g.wide * h) :
    Ks333.lettersOf g b e = if inLine g.wide b e = true then some ((between g.wide b e).map fun c => g.cells.getD c 0) else none := by
  unfold Ks333.lettersOf
  cases q : Ks333.wayOf g b e with
  | none =>
    unfold Ks333.wayOf at q
    rw [List.find?_eq_none] at q
    by_cases hl : inLine g.wide b e = true
    · exfalso
      obtain ⟨d, hd, s1, s2, hc⟩ := line_way hw h2 h4 hb he hl
      refine q (d, steps g.wide b e) ?_ ?_
      · rw [List.mem_flatMap]
        exact ⟨d, List.mem_range.mpr hd, List.mem_map.mpr ⟨_, List.mem_range.mpr s2, rfl⟩⟩
      · rw [hh]
        simp [s1, hc]
    · rw [if_neg hl]
  | some x =>
    obtain ⟨d, k⟩ := x
    unfold Ks333.wayOf at q
    have p := List.find?_some q
    simp only [Bool.and_eq_true, decide_eq_true_iff, beq_iff_eq, hh] at p
    obtain ⟨k1, hc⟩ := p
    obtain ⟨a1, a2, a3⟩ := way_line k1 hw hb hc
    rw [if_pos a1]
    simp only [hh]
    rw [cellsOf_all, if_pos (fun j hj => by rw [(a3 j (by omega)).1]; rfl)]
    unfold between
    rw [a2]
    simp only [Option.map_some]
    congr 2
    apply List.map_congr_left
    intro i hi
    rw [(a3 i (by have := List.mem_range.mp hi; omega)).1]
    rfl
end HW
end
section
namespace HW
open Ks331
set_option maxRecDepth 100000
/-! ### Places by their paths -/
def spots (w h n : Nat) : List Place := (everywhere (w * h)).filter fun p => decide (n ≤ (ray w h p.1 p.2).length)
def pathAt (w h n : Nat) (p : Place) : List Nat := (ray w h p.1 p.2).take n
/-- a square of w columns and h rows -/
structure Sq (g : Grid) (w h : Nat) : Prop where
  wide : g.wide = w
  len : g.cells.length = w * h
  w2 : 2 ≤ w
  w8 : w ≤ 8
  h2 : 2 ≤ h
  h8 : h ≤ 8
theorem Sq.high {g : Grid} {w h : Nat} (s : Sq g w h) : g.high = h := by
  unfold Grid.high
  have := s.w2
  rw [s.len, s.wide, Nat.mul_div_cancel_left h (by omega)]
theorem Sq.size {g : Grid} {w h : Nat} (s : Sq g w h) : w * h ≤ 64 := Nat.mul_le_mul s.w8 s.h8
theorem pathOf_spot {w h n : Nat} {p : Place} (hp : p ∈ spots w h n) : pathOf w h p.1 p.2 n = some (pathAt w h n p) := by
  have q := (List.mem_filter.mp hp).2
  exact if_pos (of_decide_eq_true q)
theorem pathOf_no {w h n : Nat} {p : Place} (hp : p ∈ everywhere (w * h)) (hn : p ∉ spots w h n) : pathOf w h p.1 p.2 n = none := by
  refine if_neg fun q => hn (List.mem_filter.mpr ⟨hp, decide_eq_true q⟩)
theorem filter_spots {w h n : Nat} {q : Place → Bool} (hq : ∀ p, p ∈ everywhere (w * h) → p ∉ spots w h n → q p = false) : (everywhere (w * h)).filter q = (spots w h n).filter q := by
  unfold spots
  rw [List.filter_filter]
  apply List.filter_congr
  intro p hp
  by_cases z : p ∈ spots w h n
  · rw [(List.mem_filter.mp z).2, Bool.and_true]
  · rw [hq p hp z, Bool.false_and]
theorem room_spot {g : Grid} {w h : Nat} (s : Sq g w h) {x : Bytes} (hx : x.length ≤ 8) {p : Place} (hp : p ∈ spots w h x.length) :
    Ks332.room g x p = ((pathAt w h x.length p).zip x).all fun y => g.cells.getD y.1 0 == 0 || g.cells.getD y.1 0 == y.2 := by
  unfold Ks332.room
  have e : cellsOf g.wide g.high p x.length = some (pathAt w h x.length p) := by
    rw [s.wide, s.high, ← pathOf_spot hp]
    exact cellsOf_ray p.1 p.2 _ hx
  rw [e]
theorem rooms_spots {g : Grid} {w h : Nat} (s : Sq g w h) {x : Bytes} (hx : x.length ≤ 8) : Ks332.rooms g x = (spots w h x.length).filter (Ks332.room g x) := by
  unfold Ks332.rooms
  rw [s.len]
  refine filter_spots fun p hp hn => ?_
  unfold Ks332.room
  have e : cellsOf g.wide g.high p x.length = none := by
    rw [s.wide, s.high, ← pathOf_no hp hn]
    exact cellsOf_ray p.1 p.2 _ hx
  rw [e]
theorem put_spot {g : Grid} {w h : Nat} (s : Sq g w h) {x : Bytes} (hx : x.length ≤ 8) {p : Place} (hp : p ∈ spots w h x.length) :
    Ks332.put g x p = { g with cells := ((pathAt w h x.length p).zip x).foldl (fun c y => c.set y.1 y.2) g.cells } := by
  unfold Ks332.put
  have e : cellsOf g.wide g.high p x.length = some (pathAt w h x.length p) := by
    rw [s.wide, s.high, ← pathOf_spot hp]
    exact cellsOf_ray p.1 p.2 _ hx
  rw [e]
theorem foldl_set_len : ∀ (l : List (Nat × Nat)) (c : List Nat), (l.foldl (fun c y => c.set y.1 y.2) c).length = c.length
  | [], _ => rfl
  | y :: l, c => by
    rw [List.foldl_cons, foldl_set_len l, List.length_set]
theorem put_sq {g : Grid} {w h : Nat} (s : Sq g w h) (x : Bytes) (p : Place) : Sq (Ks332.put g x p) w h := by
  unfold Ks332.put
  split
  · exact ⟨s.wide, (foldl_set_len _ _).trans s.len, s.w2, s.w8, s.h2, s.h8⟩
  · exact s
theorem filled_len (rest : Bytes) : ∀ (k : Nat) (l : Bytes), (Ks332.filled rest k l).length = l.length
  | _, [] => rfl
  | k, b :: l => by
    unfold Ks332.filled
    split
    · rw [List.length_cons, filled_len rest, List.length_cons]
    · rw [List.length_cons, filled_len rest, List.length_cons]
theorem reads_spot {g : Grid} {w h : Nat} (s : Sq g w h) {x : Bytes} (hx : x.length ≤ 8) {p : Place} (hp : p ∈ spots w h x.length) :
    reads g x p = ((pathAt w h x.length p).map (fun c => g.cells.getD c 0) == x) := by
  unfold reads
  have e : cellsOf g.wide g.high p x.length = some (pathAt w h x.length p) := by
    rw [s.wide, s.high, ← pathOf_spot hp]
    exact cellsOf_ray p.1 p.2 _ hx
  rw [e]
theorem places_spots {g : Grid} {w h : Nat} (s : Sq g w h) {x : Bytes} (hx : x.length ≤ 8) : places g x = (spots w h x.length).filter (reads g x) := by
  unfold places
  rw [s.len]
  refine filter_spots fun p hp hn => ?_
  unfold reads
  have e : cellsOf g.wide g.high p x.length = none := by
    rw [s.wide, s.high, ← pathOf_no hp hn]
    exact cellsOf_ray p.1 p.2 _ hx
  rw [e]
theorem spot_lt {w h n : Nat} {p : Place} (hp : p ∈ spots w h n) : p.1 < w * h ∧ p.2 < 8 := by
  have q := (List.mem_filter.mp hp).1
  unfold everywhere at q
  rw [List.mem_flatMap] at q
  obtain ⟨c, hc, q⟩ := q
  rw [List.mem_map] at q
  obtain ⟨d, hd, rfl⟩ := q
  exact ⟨List.mem_range.mp hc, List.mem_range.mp hd⟩
/-- a path begins at its place's cell -/
theorem path_head {w h n : Nat} {p : Place} (hp : p ∈ spots w h n) (hn : 0 < n) : (pathAt w h n p)[0]? = some p.1 := by
  have hl := spot_lt hp
  unfold pathAt ray
  have e : rayGo w h p.1 p.2 8 0 = p.1 :: rayGo w h p.1 p.2 7 1 := by
    show (match cellAt w h p.1 p.2 0 with | some x => x :: rayGo w h p.1 p.2 7 (0+1) | none => []) = _
    rw [cellAt_zero hl.1]
  rw [e]
  cases n with
  | zero => omega
  | succ n => rfl
theorem path_len {w h n : Nat} {p : Place} (hp : p ∈ spots w h n) : (pathAt w h n p).length = n := by
  have q := of_decide_eq_true (List.mem_filter.mp hp).2
  unfold pathAt
  rw [List.length_take]
  omega
theorem path_lt {w h n : Nat} {p : Place} {c : Nat} (hc : c ∈ pathAt w h n p) : c < w * h := ray_mem (List.mem_of_mem_take hc)
/-- the program's test of a whole square -/
theorem right_all {g : Grid} {w h : Nat} (s : Sq g w h) {F : Nat → Nat} (hF : ∀ c, c < w * h → F c = g.cells.getD c 0) (hg : F (w * h) = 32) {ws : List Bytes} (hw : ∀ x ∈ ws, okWord x = true) :
    Ks332.right g ws = ws.all fun x => decide (times2 x ((track w h).map F) + times2 x.reverse ((track w h).map F) = if x.reverse = x then 2 else 1) := by
  unfold Ks332.right
  rw [Bool.eq_iff_iff, List.all_eq_true, List.all_eq_true]
  have key : ∀ x ∈ ws, ((places g x).length == Ks332.wanted x) = decide (times2 x ((track w h).map F) + times2 x.reverse ((track w h).map F) = if x.reverse = x then 2 else 1) := fun x hx => by
    have o := hw x hx
    unfold okWord at o
    simp only [Bool.and_eq_true, decide_eq_true_iff] at o
    obtain ⟨⟨o1, o2⟩, o3⟩ := o
    have o4 : 32 ∉ x := fun q => by
      have := List.all_eq_true.mp o3 32 q
      simp [isLetter] at this
    have := s.wide
    subst this
    exact right_one s.w2 s.w8 s.h2 s.h8 s.len hF o1 o2 (by rw [hg]; exact o4)
  constructor
  · intro a x hx; rw [← key x hx]; exact a x hx
  · intro a x hx; rw [key x hx]; exact a x hx
end HW
end
section
namespace HW
open Ks331
set_option maxRecDepth 100000
theorem spot_of {w h n c d : Nat} {l : List Nat} (hc : c < w * h) (hd : d < 8) (e : pathOf w h c d n = some l) : ((c, d) : Place) ∈ spots w h n ∧ pathAt w h n (c, d) = l := by
  have hn : n ≤ (ray w h c d).length := by
    unfold pathOf at e
    split at e
    · assumption
    · cases e
  have hm : ((c, d) : Place) ∈ spots w h n := by
    refine List.mem_filter.mpr ⟨?_, decide_eq_true hn⟩
    unfold everywhere
    rw [List.mem_flatMap]
    exact ⟨c, List.mem_range.mpr hc, List.mem_map.mpr ⟨d, List.mem_range.mpr hd, rfl⟩⟩
  have := pathOf_spot hm
  rw [e] at this
  exact ⟨hm, (Option.some.inj this).symm⟩
/-- each place read from its other end -/
theorem turned_spot {w h n : Nat} (h1 : 2 ≤ w) (h2 : w ≤ 8) (h3 : 2 ≤ h) (h4 : h ≤ 8) (hn : 2 ≤ n) (hm : n ≤ 8) {p : Place} (hp : p ∈ spots w h n) : ∃ q ∈ spots w h n, q ≠ p ∧ pathAt w h n q = (pathAt w h n p).reverse := by
  obtain ⟨c, d⟩ := p
  have hl := spot_lt hp
  have hpa := pathOf_spot hp
  simp only at hl hpa
  by_cases hd : d < 4
  · have k : ((List.range (w*h)).filterMap fun c => pathOf w h c d n).map List.reverse = (List.range (w*h)).filterMap fun c => pathOf w h c (d+4) n := eq_of_beq (k2_of h1 h2 h3 h4 hd hn hm)
    have hmem : (pathAt w h n (c, d)).reverse ∈ (List.range (w*h)).filterMap fun c => pathOf w h c (d+4) n := by
      rw [← k]
      exact List.mem_map.mpr ⟨_, List.mem_filterMap.mpr ⟨c, List.mem_range.mpr hl.1, hpa⟩, rfl⟩
    obtain ⟨c', hc', e⟩ := List.mem_filterMap.mp hmem
    obtain ⟨s1, s2⟩ := spot_of (List.mem_range.mp hc') (by omega) e
    refine ⟨(c', d + 4), s1, fun z => ?_, s2⟩
    have := congrArg Prod.snd z
    simp only at this
    omega
  · obtain ⟨e, rfl⟩ : ∃ e, d = e + 4 := ⟨d - 4, by omega⟩
    have he : e < 4 := by omega
    have k : ((List.range (w*h)).filterMap fun c => pathOf w h c e n).map List.reverse = (List.range (w*h)).filterMap fun c => pathOf w h c (e+4) n := eq_of_beq (k2_of h1 h2 h3 h4 he hn hm)
    have hmem : pathAt w h n (c, e + 4) ∈ ((List.range (w*h)).filterMap fun c => pathOf w h c e n).map List.reverse := by
      rw [k]
      exact List.mem_filterMap.mpr ⟨c, List.mem_range.mpr hl.1, hpa⟩
    obtain ⟨l, hl2, hrev⟩ := List.mem_map.mp hmem
    obtain ⟨c', hc', e2⟩ := List.mem_filterMap.mp hl2
    obtain ⟨s1, s2⟩ := spot_of (List.mem_range.mp hc') (by omega) e2
    refine ⟨(c', e), s1, fun z => ?_, by rw [s2, ← hrev, List.reverse_reverse]⟩
    have := congrArg Prod.snd z
    simp only at this
    omega
/-- the first place tells all cells of a word that's there just once -/
theorem used_first {g : Grid} {w h : Nat} (s : Sq g w h) {x : Bytes} (hx : okWord x = true) (hr : ((places g x).length == Ks332.wanted x) = true) {p : Place} (hp : (places g x).head? = some p) (c : Nat) :
    (c ∈ (places g x).flatMap fun p => (cellsOf g.wide g.high p x.length).getD []) ↔ c ∈ pathAt w h x.length p := by
  unfold okWord at hx
  simp only [Bool.and_eq_true, decide_eq_true_iff] at hx
  obtain ⟨⟨x2, x8⟩, _⟩ := hx
  have x8' : x.length ≤ 8 := x8
  have e : ∀ q, q ∈ spots w h x.length → (cellsOf g.wide g.high q x.length).getD [] = pathAt w h x.length q := fun q hq => by
    have : cellsOf g.wide g.high q x.length = some (pathAt w h x.length q) := by
      rw [s.wide, s.high, ← pathOf_spot hq]
      exact cellsOf_ray q.1 q.2 _ x8'
    rw [this]
    rfl
  have inS : ∀ q, q ∈ places g x → q ∈ spots w h x.length ∧ (pathAt w h x.length q).map (fun c => g.cells.getD c 0) = x := fun q hq => by
    rw [places_spots s x8'] at hq
    have := List.mem_filter.mp hq
    refine ⟨this.1, ?_⟩
    have h2 := this.2
    rw [reads_spot s x8' this.1, beq_iff_eq] at h2
    exact h2
  have hpm : p ∈ places g x := List.mem_of_mem_head? hp
  rw [List.mem_flatMap]
  constructor
  · rintro ⟨q, hq, hc⟩
    rw [e q (inS q hq).1] at hc
    rw [beq_iff_eq] at hr
    cases hl : places g x with
    | nil => rw [hl] at hpm; cases hpm
    | cons a l =>
      rw [hl] at hp hq hr
      cases hp
      rcases List.mem_cons.mp hq with rfl | hq
      · exact hc
      · by_cases pal : x.reverse = x
        · have hw : Ks332.wanted x = 2 := if_pos pal
          rw [hw] at hr
          have hl1 : l.length = 1 := by simpa using hr
          obtain ⟨b, rfl⟩ := List.length_eq_one_iff.mp hl1
          rw [List.mem_singleton.mp hq] at hc
          obtain ⟨hps, hpr⟩ := inS p hpm
          obtain ⟨q', hq's, hne, hrev⟩ := turned_spot s.w2 s.w8 s.h2 s.h8 x2 x8' hps
          have hq'm : q' ∈ places g x := by
            rw [places_spots s x8']
            refine List.mem_filter.mpr ⟨hq's, ?_⟩
            rw [reads_spot s x8' hq's, beq_iff_eq, hrev, List.map_reverse, hpr, pal]
          rw [hl] at hq'm
          rcases List.mem_cons.mp hq'm with z | z
          · exact absurd z hne
          · rw [List.mem_singleton.mp z] at hrev
            rw [hrev] at hc
            exact List.mem_reverse.mp hc
        · have hw : Ks332.wanted x = 1 := if_neg pal
          rw [hw] at hr
          have hl0 : l = [] := by simpa using hr
          rw [hl0] at hq
          cases hq
  · intro hc
    exact ⟨p, hpm, by rw [e p (inS p hpm).1]; exact hc⟩
theorem head_right {g : Grid} {x : Bytes} (hr : ((places g x).length == Ks332.wanted x) = true) : ∃ p, (places g x).head? = some p := by
  rw [beq_iff_eq] at hr
  cases h : places g x with
  | nil =>
    rw [h] at hr
    unfold Ks332.wanted at hr
    split at hr <;> cases hr
  | cons p l => exact ⟨p, rfl⟩
theorem right_mem {g : Grid} {ws : List Bytes} (hr : Ks332.right g ws = true) {x : Bytes} (hx : x ∈ ws) : ((places g x).length == Ks332.wanted x) = true := List.all_eq_true.mp hr x hx
end HW
end
section
set_option Elab.async false
set_option linter.all false
set_option maxRecDepth 100000
set_option maxHeartbeats 4000000
namespace PySem.F
theorem owner_rvs : Manifest.owners.lookup (String.ofList ['d', 'e', 's', 'r', 'e', 'v', 'e', 'r'].reverse) = some Manifest.sig_reversed := by kernel_rfl
theorem slot_rvs_next : Slot "reversed" "__next__" "reversed.__next__" :=
  .of (owner := "reversed") (n := "__next__") (by rw [typeLookup_type, builtinLookup_eq_fast]; kernel_rfl) (by decide +kernel) (by decide +kernel) (by decide +kernel)
    (by first | exact .inl (by decide +kernel) | exact .inr (by decide +kernel)) (by rw [isSubtype_type]; kernel_rfl)
theorem entry_rvs_next : entryFor table "reversed.__next__" = some Builtin.«reversed.__next__» := entryFor_of_tree (by kernel_rfl)
theorem args_rvs_next (a : Value) : argsOk "reversed.__next__" ⟨[a], []⟩ := by
  unfold argsOk; rw [signature?_of (id := "reversed.__next__") (n := ['_', '_', 't', 'x', 'e', 'n', '_', '_']) (o := ['d', 'e', 's', 'r', 'e', 'v', 'e', 'r']) (by kernel_rfl) owner_rvs]; kernel_rfl
theorem slot_rvs_iter : Slot "reversed" "__iter__" "reversed.__iter__" :=
  .of (owner := "reversed") (n := "__iter__") (by rw [typeLookup_type, builtinLookup_eq_fast]; kernel_rfl) (by decide +kernel) (by decide +kernel) (by decide +kernel)
    (by first | exact .inl (by decide +kernel) | exact .inr (by decide +kernel)) (by rw [isSubtype_type]; kernel_rfl)
theorem args_rvs_iter (a : Value) : argsOk "reversed.__iter__" ⟨[a], []⟩ := by
  unfold argsOk; rw [signature?_of (id := "reversed.__iter__") (n := ['_', '_', 'r', 'e', 't', 'i', '_', '_']) (o := ['d', 'e', 's', 'r', 'e', 'v', 'e', 'r']) (by kernel_rfl) owner_rvs]; kernel_rfl
theorem entry_rvs_iter : entryFor table "reversed.__iter__" = some Builtin.«dict_keyiterator.__iter__» :=
  entryFor_alias (id' := "dict_keyiterator.__iter__") (by kernel_rfl) (by first | rfl | decide +kernel | (unfold String.splitOn; simp +decide [String.splitOnAux])) (by decide +kernel) (by kernel_rfl)
theorem slot_rvs_hint : Slot "reversed" "__length_hint__" "reversed.__length_hint__" :=
  .of (owner := "reversed") (n := "__length_hint__") (by rw [typeLookup_type, builtinLookup_eq_fast]; kernel_rfl) (by decide +kernel) (by decide +kernel) (by decide +kernel)
    (by first | exact .inl (by decide +kernel) | exact .inr (by decide +kernel)) (by rw [isSubtype_type]; kernel_rfl)
theorem entry_rvs_hint : entryFor table "reversed.__length_hint__" = some Builtin.«reversed.__length_hint__» := entryFor_of_tree (by kernel_rfl)
theorem args_rvs_hint (a : Value) : argsOk "reversed.__length_hint__" ⟨[a], []⟩ := by
  unfold argsOk; rw [signature?_of (id := "reversed.__length_hint__") (n := ['_', '_', 't', 'n', 'i', 'h', '_', 'h', 't', 'g', 'n', 'e', 'l', '_', '_']) (o := ['d', 'e', 's', 'r', 'e', 'v', 'e', 'r']) (by kernel_rfl) owner_rvs]; kernel_rfl
theorem nolen_rvs : typeLookup (.type "reversed") "__len__" = pure none := by rw [typeLookup_type, builtinLookup_eq_fast]; kernel_rfl
theorem norev_str : typeLookup (.type "str") "__reversed__" = pure none := by rw [typeLookup_type, builtinLookup_eq_fast]; kernel_rfl
theorem sub_rvs_reversed : isSubtype (.type "reversed") (.type "reversed") = pure true := by rw [isSubtype_type]; kernel_rfl
end PySem.F
end
section
set_option Elab.async false
set_option linter.all false
set_option maxRecDepth 100000
set_option maxHeartbeats 4000000
namespace PySem
open Sem (wp)
theorem F.slot_rvs_init : Slot "reversed" "__init__" "object.__init__" :=
  .of (owner := "object") (n := "__init__") (by rw [typeLookup_type, builtinLookup_eq_fast]; kernel_rfl) (by decide +kernel) (by decide +kernel) (by decide +kernel)
    (by first | exact .inl (by decide +kernel) | exact .inr (by decide +kernel)) (by rw [isSubtype_type]; kernel_rfl)
theorem F.called_rvs : TypeCalled "reversed" "reversed.__new__" "object.__init__" :=
  ⟨by decide +kernel, by decide +kernel, ⟨_, _, F.mro_reversed⟩, F.made_reversed, by decide +kernel, by rw [isSubtype_type]; kernel_rfl, F.slot_rvs_init⟩
/-- a reversed object over a text -/
def rvsObj (x : Str) (t : Tok) (i : Int) : Obj := { cls := .type "reversed", data := .fields #[.str x t, rawInt i] }
section
variable {prog : Program} {w : World} {A : Around} {E : Value → Shared → Prop} {s : Shared}
theorem meets_rvs_new (x : Str) (t : Tok) (hx : x.length ≤ sizeLine) : Meets (Builtin.«reversed.__new__» ⟨[.type "reversed", .str x t], []⟩) (fun _ R s => ∀ tk, R (.ok (.ret (.ref s.heap.objs.size))) { s with heap := s.heap.push (rvsObj x t ((x.length : Int) - 1)), toks := tk }) :=
  .of_wp fun prog w A R s h => by
    unfold Builtin.«reversed.__new__»
    refine wpAny_bind (wpAny_of_eq (newClass_reversed _) ?_)
    try dsimp only
    refine wpAny_bind (wpAny_of_eq (a := ()) (by first | rfl | kernel_rfl) ?_)
    refine wpAny_bind (wpAny_of_eq (a := ()) (by first | rfl | kernel_rfl) ?_)
    try dsimp only
    refine wpAny_bind (wpAny_specialOf (typeIs_str s x t) F.norev_str ?_)
    try dsimp only
    refine wpAny_bind ?_
    wp_delta
    refine wpAny_bind (wpAny_isInstance (b := false) (typeIs_str s x t) (by rw [isSubtype_type]; kernel_rfl) ?_)
    rw [if_neg Bool.false_ne_true]
    refine wpAny_bind (wpAny_specialOf (typeIs_str s x t) F.slot_str_getitem.lookup ?_)
    try dsimp only
    rw [if_pos (by decide +kernel)]
    refine wpAny_pure ?_
    try dsimp only
    rw [if_neg (by decide)]
    have hs : sizeLine = 16777216 := by decide
    refine wpAny_bind (PyProof.Rows.len_str (by omega) ?_)
    refine wpAny_bind (m := asInt? _) (wpAny_pure ?_)
    try dsimp only
    refine wpAny_bind (m := Builtin.SmallTypes.newRecord _ _) ?_
    wp_delta
    exact wpAny_newObj_type (wpAny_pure ⟨_, rfl, h _⟩)
theorem F.typeCall_rvs (a : Value) : checkTypeCall "reversed" ⟨[a], []⟩ = pure () := F.typeCall_reversed_1 a
theorem call_reversed_str {x : Str} {t : Tok} {Q : Value → Shared → Prop} (hx : x.length ≤ sizeLine) (h : ∀ tk, Q (.ref s.heap.objs.size) { s with heap := s.heap.push (rvsObj x t ((x.length : Int) - 1)), toks := tk }) :
    wpAny (model prog w) A (call (.type "reversed") [.str x t]) Q E s := by
  refine callType_new F.called_rvs (by decide) (F.typeCall_reversed_1 _) (F.newCall_reversed_1 _) (fun obj => F.args_object_init_2 obj _) F.entry_reversed_new (meets_rvs_new x t hx) fun tk => ?_
  exact ⟨⟨_, Heap.get?_push_size _ rfl, rfl⟩, h tk⟩
def Heap.IsRvs (h : Heap) (a : Addr) (x : Str) (t : Tok) (i : Int) : Prop := ∃ o, h.get? a = some o ∧ o.cls = .type "reversed" ∧ o.data = .fields #[.str x t, rawInt i]
theorem Heap.IsRvs.typeIs {a : Addr} {x : Str} {t : Tok} {i : Int} (q : s.heap.IsRvs a x t i) : s.TypeIs (.ref a) "reversed" := let ⟨o, ho, hc, _⟩ := q; ⟨o, ho, hc⟩
theorem Heap.IsRvs.at {h h' : Heap} {a : Addr} {x : Str} {t : Tok} {i : Int} (q : h.IsRvs a x t i) (e : ∀ o, h.get? a = some o → h'.get? a = some o) : h'.IsRvs a x t i := let ⟨o, ho, r⟩ := q; ⟨o, e _ ho, r⟩
theorem wpAny_pyNext_rvs_item {it : Addr} {x : Str} {t : Tok} {i c : Nat} {Q : Option Value → Shared → Prop} (hx : x.length ≤ sizeLine) (hit : s.heap.IsRvs it x t (i : Int)) (hc : x.cps[i]? = some c)
    (hQ : ∀ h' u tk, h'.IsRvs it x t ((i : Int) - 1) → Heap.SameBut it s.heap h' → Q (some (.str ⟨#[c]⟩ u)) { s with heap := h', toks := tk }) : wpAny (model prog w) A (pyNext (.ref it)) Q E s := by
  obtain ⟨o, ho, hcl, hd⟩ := id hit
  unfold pyNext
  refine wpAny_bind (wpAny_attempt (wpAny_callSpecial?_slot (name := Str.ofString "__next__") hit.typeIs F.slot_rvs_next
    (wpAny_call_entry F.slot_rvs_next hit.typeIs F.entry_rvs_next ?_ (F.args_rvs_next _))))
  unfold Builtin.«reversed.__next__»
  refine wpAny_bind (wpAny_of_eq (a := (Value.ref it, [])) rfl ?_)
  try dsimp only
  refine wpAny_bind (wpAny_field ho hd (x := .str x t) rfl ?_)
  refine wpAny_bind (wpAny_field ho hd (x := rawInt (i : Int)) rfl ?_)
  show wpAny _ _ (if (i : Int) < 0 then _ else _) _ _ s
  rw [if_neg (by omega)]
  refine wpAny_bind (wpAny_specialOf (typeIs_str s x t) F.slot_str_getitem.lookup ?_)
  try dsimp only
  rw [if_neg (by decide)]
  refine wpAny_bind (wpAny_mkInt ?_)
  have hi : i < x.length := (Array.getElem?_eq_some_iff.mp hc).1
  have hs : sizeLine = 16777216 := by decide
  refine wpAny_bind (wpAny_attempt (PyProof.Rows.getItem_str (c := c) (by
    rw [decide_eq_false (show ¬ (i : Int) < -(2 ^ 63 : Int) by omega), decide_eq_false (show ¬ (i : Int) ≥ 2 ^ 63 by omega), Bool.or_false]) (by rw [seqIndex_of (by omega) (by omega), Int.toNat_natCast]; exact hc) ?_))
  try dsimp only
  refine wpAny_bind (wpAny_field (s := { s with toks := _ }) ho hd (x := rawInt (i : Int)) rfl ?_)
  show wpAny _ _ (setField (.ref it) 1 (rawInt ((i : Int) - 1)) >>= _) _ _ _
  refine wpAny_bind (wpAny_setField (s := { s with toks := _ }) ho hd (by simp) ?_)
  refine wpAny_pure ⟨_, rfl, wpAny_pure (hQ _ _ _ ?_ (Heap.SameBut.update ..))⟩
  exact ⟨_, Heap.get?_update_self _ ho (Obj.isFreed_of_fields (Obj.data_mapFields hd _)), (Obj.cls_mapFields ..).trans hcl, by
    rw [Obj.data_mapFields hd]; simp⟩
theorem wpAny_pyNext_rvs_end {it : Addr} {x : Str} {t : Tok} {Q : Option Value → Shared → Prop} (hh : A.handled = none) (hit : s.heap.IsRvs it x t (-1))
    (hQ : ∀ h', Heap.ExtBut it s.heap h' → Q none { s with heap := h' }) : wpAny (model prog w) A (pyNext (.ref it)) Q E s := by
  obtain ⟨o, ho, hc, hd⟩ := id hit
  unfold pyNext
  refine wpAny_bind (wpAny_attempt (wpAny_callSpecial?_slot (name := Str.ofString "__next__") hit.typeIs F.slot_rvs_next
    (wpAny_call_entry F.slot_rvs_next hit.typeIs F.entry_rvs_next ?_ (F.args_rvs_next _))))
  unfold Builtin.«reversed.__next__»
  refine wpAny_bind (wpAny_of_eq (a := (Value.ref it, [])) rfl ?_)
  try dsimp only
  refine wpAny_bind (wpAny_field ho hd (x := .str x t) rfl ?_)
  refine wpAny_bind (wpAny_field ho hd (x := rawInt (-1)) rfl ?_)
  show wpAny _ _ (if (-1 : Int) < 0 then _ else _) _ _ s
  rw [if_pos (by decide)]
  refine wpAny_bind (wpAny_rule ?_)
  refine wpAny_bind ?_
  wp_delta
  refine wpAny_bind (wpAny_setField ho hd (by simp) ?_)
  have ho1 := Heap.get?_update_self (o := o) (fun o => o.mapFields fun f => f.setIfInBounds 1 (rawInt (-1))) ho (Obj.isFreed_of_fields (Obj.data_mapFields hd _))
  have hd1 := Obj.data_mapFields (o := o) hd (fun f => f.setIfInBounds 1 (rawInt (-1)))
  refine wpAny_setField ho1 hd1 (by simp) ?_
  have ex : Heap.ExtBut it s.heap ((s.heap.update it (Obj.mapFields (·.setIfInBounds 1 (rawInt (-1))))).update it (Obj.mapFields (·.setIfInBounds 0 Value.none))) := fun b u hb e =>
    (Heap.get?_update_other _ _ (fun z : it = b => hb z.symm)).trans ((Heap.get?_update_other _ _ (fun z : it = b => hb z.symm)).trans e)
  refine wpAny_bind ?_
  show wpAny _ _ (newExc (.type "StopIteration") [] >>= _) _ _ _
  refine wpAny_bind ?_
  simp only [newExc, newTuple]
  refine wpAny_bind (wpAny_newObj_type ?_ (by size_fits))
  refine wpAny_bind (m := firstArgMember _ _) (wpAny_of_eq (a := Value.none) (by first | rfl | (simp only [firstArgMember]; rfl)) ?_)
  refine wpAny_newObj_type ?_ (by size_fits)
  simp only [raiseNew]
  refine wpAny_bind (wpAny_handled ?_)
  first | rw [show A.in1.handled = none from hh] | rw [hh]
  refine wpAny_bind (wpAny_pure (wpAny_throw ?_))
  refine wpAny_bind (wpAny_isInstance (T := "StopIteration") (b := true) ⟨_, Heap.get?_push_size _ rfl, rfl⟩ isSubtype_stop ?_)
  exact wpAny_pure (hQ _ ((ex.push _).push _))
theorem wpAny_pyIter_rvs {it : Addr} {x : Str} {t : Tok} {i : Int} {Q : Value → Shared → Prop} (hit : s.heap.IsRvs it x t i) (h : Q (.ref it) s) : wpAny (model prog w) A (pyIter (.ref it)) Q E s := by
  refine wpAny_pyIter_slot hit.typeIs F.slot_rvs_iter (wpAny_call_entry F.slot_rvs_iter hit.typeIs F.entry_rvs_iter ?_ (F.args_rvs_iter _))
  show wpAny _ _ (ret (.ref it)) _ _ s
  exact wpAny_pure ⟨_, rfl, "reversed", _, hit.typeIs, F.slot_rvs_next.lookup, h⟩
/-- the signs of a text from its end -/
def BackAt (x : Str) (i : Nat) (v : Value) : Prop := ∃ c u, x.cps[x.cps.size - 1 - i]? = some c ∧ v = .str ⟨#[c]⟩ u
theorem Walks.rvs (hh : A.handled = none) (I : Addr) (x : Str) (t : Tok) (hx : x.length ≤ sizeLine) :
    Walks prog w A I [I] [I] x.cps.size (BackAt x) (fun i h => i ≤ x.cps.size ∧ h.IsRvs I x t ((x.cps.size : Int) - 1 - (i : Int))) where
  sub := fun _ hb => hb
  frame := fun _ _ _ q hk => ⟨q.1, q.2.at fun o e => hk I (by simp) o e⟩
  item := fun i s Q E hi q hQ => by
    have e : (x.cps.size : Int) - 1 - (i : Int) = ((x.cps.size - 1 - i : Nat) : Int) := by omega
    have hit := q.2
    rw [e] at hit
    have hc : x.cps[x.cps.size - 1 - i]? = some (x.cps[x.cps.size - 1 - i]'(by omega)) := Array.getElem?_eq_getElem (by omega)
    refine wpAny_pyNext_rvs_item hx hit hc fun h' u tk hit' hs' => ?_
    have e2 : ((x.cps.size - 1 - i : Nat) : Int) - 1 = (x.cps.size : Int) - 1 - ((i + 1 : Nat) : Int) := by omega
    rw [e2] at hit'
    exact hQ _ h' tk ⟨_, u, hc, rfl⟩ ⟨hi, hit'⟩ fun b o hb eo => hs'.extBut b o (fun h => hb (by simp [h])) eo
  done := fun s Q E q hQ => by
    have e : (x.cps.size : Int) - 1 - (x.cps.size : Int) = -1 := by omega
    have hit := q.2
    rw [e] at hit
    exact wpAny_pyNext_rvs_end hh hit fun h' he' => hQ h' s.toks fun b o hb eo => he' b o (fun h => hb (by simp [h])) eo
  self := fun _ _ _ _ q hQ => wpAny_pyIter_rvs q.2 hQ
end
end PySem
end
section
set_option Elab.async false
set_option linter.all false
set_option maxRecDepth 100000
set_option maxHeartbeats 4000000
namespace PySem
open Sem (wp)
open Builtin Builtin.Str Builtin.Int
section
variable {prog : Program} {w : World} {A : Around} {E : Value → Shared → Prop} {s : Shared} {I : Addr}
theorem asInt_eq (n : Int) (u : Tok) : asInt? (.int n u) = pure (some n) := rfl
theorem call_rvs_hint {x : Str} {t : Tok} {i : Nat} {Q : Value → Shared → Prop} (hx : x.length ≤ sizeLine) (hi : i + 1 ≤ x.length) (hit : s.heap.IsRvs I x t (i : Int)) (h : ∀ u tk, s.toks ≤ tk → Q (.int ((i : Int) + 1) u) { s with toks := tk }) :
    wpAny (model prog w) A (call (.builtin "reversed.__length_hint__") [.ref I]) Q E s := by
  obtain ⟨o, ho, hc, hd⟩ := id hit
  refine wpAny_call_entry F.slot_rvs_hint hit.typeIs F.entry_rvs_hint ?_ (F.args_rvs_hint _)
  unfold Builtin.«reversed.__length_hint__»
  refine wpAny_bind (wpAny_of_eq (a := Value.ref I) rfl ?_)
  refine wpAny_bind (wpAny_field ho hd (x := .str x t) rfl ?_)
  have hs : sizeLine = 16777216 := by decide
  rw [if_neg (show ¬ (Value.str x t == Value.none) = true from Bool.false_ne_true)]
  refine wpAny_bind (PyProof.Rows.len_str (by omega) ?_)
  refine wpAny_bind (m := asInt? _) (wpAny_pure ?_)
  try dsimp only
  refine wpAny_bind (wpAny_field (s := { s with toks := _ }) ho hd (x := rawInt (i : Int)) rfl ?_)
  show wpAny _ _ (if ((x.length : Nat) : Int) < (i : Int) + 1 then _ else _) _ _ _
  rw [if_neg (by omega)]
  exact wpAny_bind (wpAny_mkInt (wpAny_pure ⟨_, rfl, h _ _ (by show s.toks ≤ s.toks + 1 + 1 + 1; omega)⟩))
theorem call_rvs_hint0 {x : Str} {t : Tok} {Q : Value → Shared → Prop} (hx : x.length = 0) (hit : s.heap.IsRvs I x t (-1)) (h : ∀ u tk, s.toks ≤ tk → Q (.int 0 u) { s with toks := tk }) :
    wpAny (model prog w) A (call (.builtin "reversed.__length_hint__") [.ref I]) Q E s := by
  obtain ⟨o, ho, hc, hd⟩ := id hit
  refine wpAny_call_entry F.slot_rvs_hint hit.typeIs F.entry_rvs_hint ?_ (F.args_rvs_hint _)
  unfold Builtin.«reversed.__length_hint__»
  refine wpAny_bind (wpAny_of_eq (a := Value.ref I) rfl ?_)
  refine wpAny_bind (wpAny_field ho hd (x := .str x t) rfl ?_)
  rw [if_neg (show ¬ (Value.str x t == Value.none) = true from Bool.false_ne_true)]
  refine wpAny_bind (PyProof.Rows.len_str (by omega) ?_)
  refine wpAny_bind (m := asInt? _) (wpAny_pure ?_)
  try dsimp only
  refine wpAny_bind (wpAny_field (s := { s with toks := _ }) ho hd (x := rawInt (-1)) rfl ?_)
  show wpAny _ _ (if ((x.length : Nat) : Int) < (-1 : Int) + 1 then _ else retInt ((-1 : Int) + 1)) _ _ _
  rw [if_neg (by omega)]
  exact wpAny_bind (wpAny_mkInt (wpAny_pure ⟨_, rfl, h _ _ (by show s.toks ≤ s.toks + 1 + 1 + 1; omega)⟩))
/-- the hint of a reversed text at its start: its length -/
theorem call_rvs_len {x : Str} {t : Tok} {Q : Value → Shared → Prop} (hx : x.length ≤ sizeLine) (hit : s.heap.IsRvs I x t ((x.length : Int) - 1)) (h : ∀ u tk, s.toks ≤ tk → Q (.int (x.length : Int) u) { s with toks := tk }) :
    wpAny (model prog w) A (call (.builtin "reversed.__length_hint__") [.ref I]) Q E s := by
  by_cases e : x.length = 0
  · refine call_rvs_hint0 e (by rw [e] at hit; exact hit) fun u tk hk => ?_
    have := h u tk hk
    rw [e] at this
    exact this
  · refine call_rvs_hint (i := x.length - 1) hx (by omega) (by rw [show ((x.length - 1 : Nat) : Int) = (x.length : Int) - 1 by omega]; exact hit) fun u tk hk => ?_
    rw [show ((x.length - 1 : Nat) : Int) + 1 = (x.length : Int) by omega]
    exact h u tk hk
theorem wpAny_collect_rvs {Q : List Value → Shared → Prop} {x : Str} {t : Tok} (hh : A.handled = none) (hx : x.length ≤ sizeLine) (hit : s.heap.IsRvs I x t ((x.length : Int) - 1))
    (hQ : ∀ s' acc, (∀ b o, b ≠ I → s.heap.get? b = some o → s'.heap.get? b = some o) → s'.gens = s.gens → s'.drawn = s.drawn → s'.os = s.os → ItemsOf (BackAt x) acc x.cps.size → Q acc.toList s') :
    wpAny (model prog w) A (collect (.ref I)) Q E s := by
  have W := (Walks.rvs (prog := prog) (w := w) (A := A.in1) hh I x t hx).toS
  have hT : ∀ (i : Nat) (s : Shared), (i ≤ x.cps.size ∧ s.heap.IsRvs I x t ((x.cps.size : Int) - 1 - (i : Int))) → s.TypeIs (.ref I) "reversed" := fun i s q => q.2.typeIs
  have hI : I < s.heap.objs.size := by obtain ⟨o, ho, _⟩ := hit; exact Heap.lt_size ho
  have hSf : s.heap.objs.size ∉ [I] := fun hm => Nat.lt_irrefl _ ((List.mem_singleton.mp hm) ▸ hI)
  have hSI : s.heap.objs.size ≠ I := Nat.ne_of_gt hI
  have hst : 0 ≤ x.cps.size ∧ s.heap.IsRvs I x t ((x.cps.size : Int) - 1 - ((0 : Nat) : Int)) := ⟨Nat.zero_le _, by
    rw [show (x.cps.size : Int) - 1 - ((0 : Nat) : Int) = (x.length : Int) - 1 by show (x.cps.size : Int) - 1 - ((0 : Nat) : Int) = (x.cps.size : Int) - 1; omega]; exact hit⟩
  unfold collect
  refine wpAny_bind (wpAny_runValue (codeAny_builtin F.entry_proto_collect ?_))
  rw [Around.under_plainId F.plain_proto_collect _]
  show wpAny _ A.in1 (newList [] >>= fun l => again (.builtin "list.__iadd__" ⟨[l, .ref I], []⟩)) _ _ s
  refine wpAny_bind (wpAny_newObj_type ?_)
  refine wpAny_pure ⟨plainId_quiet F.plain_list_iadd _, codeAny_builtin F.entry_list_iadd ?_⟩
  rw [Around.under_plainId F.plain_list_iadd _]
  have hst₁ := W.frame 0 s (s.heap.push { cls := .type "list", data := .seq ([] : List Value).toArray }) s.toks hst (Nat.le_refl _) fun b _ o e => Heap.get?_push_of_some _ e
  have hS₁ : (s.heap.push { cls := .type "list", data := .seq ([] : List Value).toArray }).get? s.heap.objs.size = some { cls := .type "list", data := .seq ([] : List Value).toArray } := Heap.get?_push_size _ rfl
  have h1 : Builtin.List.listSameRef (.ref s.heap.objs.size) (.ref I) = false := by simp [Builtin.List.listSameRef, hSI]
  show wpAny _ A.in1 (Builtin.List.listExtendWith (.ref s.heap.objs.size) (.ref I) (.ref s.heap.objs.size)) _ _ _
  unfold Builtin.List.listExtendWith
  refine wpAny_bind (wpAny_typeOf (hT 0 _ hst₁) ?_)
  rw [if_neg (by rw [h1]; decide)]
  refine wpAny_bind (W.self 0 _ _ _ hst₁ ?_)
  refine wpAny_bind (wpAny_holding ?_)
  unfold Builtin.List.listLengthHint
  refine wpAny_bind (wpAny_specialOf (hT 0 _ hst₁) F.nolen_rvs ?_)
  show wpAny _ A.in1 (specialOf (Value.ref I) (Str.ofString "__length_hint__") >>= _) _ _ _
  refine wpAny_bind (wpAny_specialOf (hT 0 _ hst₁) F.slot_rvs_hint.lookup ?_)
  generalize hid : ("reversed.__length_hint__" : String) = id0
  wp_delta
  rw [show splitId id0 = some ("reversed", "__length_hint__") from by subst hid; decide +kernel]
  subst hid
  refine wpAny_bind (wpAny_isInstance (b := true) (hT 0 _ hst₁) (by rw [isSubtype_type]; kernel_rfl) ?_)
  rw [if_neg (by decide)]
  dsimp only
  rw [if_neg (by decide +kernel)]
  refine wpAny_bind (wpAny_rule ?_)
  refine wpAny_bind (wpAny_of_eq (F.slot_rvs_hint.bind _) ?_)
  dsimp only
  refine wpAny_bind (wpAny_attempt (call_rvs_len hx (by
    have := hst₁.2
    rw [show (x.cps.size : Int) - 1 - ((0 : Nat) : Int) = (x.length : Int) - 1 by show (x.cps.size : Int) - 1 - ((0 : Nat) : Int) = (x.cps.size : Int) - 1; omega] at this
    exact this) fun u tk htk => ?_))
  dsimp only
  rw [asInt_eq, pure_bind]
  dsimp only
  have hs : sizeLine = 16777216 := by decide +kernel
  have f1 : Builtin.List.listFitsIndex ((x.length : Nat) : Int) = true := fitsIndex_of (by omega) (by omega)
  have f2 : Builtin.List.listTooLong (Int.toNat ((x.length : Nat) : Int)) = false := by
    rw [Int.toNat_natCast]
    exact decide_eq_false (Nat.not_lt.mpr hx)
  have f3 : ¬ ((x.length : Nat) : Int) < 0 := by omega
  rw [if_neg (show ¬ (!Builtin.List.listFitsIndex ((x.length : Nat) : Int)) = true by rw [f1]; exact Bool.false_ne_true), if_neg f3, if_neg (show ¬ Builtin.List.listTooLong (Int.toNat ((x.length : Nat) : Int)) = true by rw [f2]; exact Bool.false_ne_true)]
  refine wpAny_pure ?_
  have hst₂ := W.frame 0 _ _ tk hst₁ htk fun b _ o e => e
  have fin : ∀ (s' : Shared) (acc' : Array Value), Moved [I] (fun a b => b = a) s s' → ItemsOf (BackAt x) acc' x.cps.size → Q acc'.toList s' := fun s' acc' hm ha => hQ s' acc' (fun b o hb e => hm.heap b o (fun h => hb (List.mem_singleton.mp h)) e) hm.gens hm.drawn hm.os ha
  by_cases h0 : x.length = 0
  · rw [if_neg (by rw [h0]; decide +kernel)]
    refine wpAny_pure ⟨plainId_quiet F.plain_extend_loop _, codeAny_extend_loopS W hx _ hSf _ x.cps.size 0 _ _ _ rfl (Nat.zero_le _) hst₂ hS₁ (ItemsOf.nil _) fun s' acc' c' hm hS' hacc => ?_⟩
    show wpAny _ A (load s.heap.objs.size >>= _) _ _ s'
    refine wpAny_bind (wpAny_load hS' ?_)
    exact wpAny_pure (fin s' acc' (Moved.drop_new (o := { cls := .type "list", data := .seq ([] : List Value).toArray }) (tk := tk) hm htk) hacc)
  · have hb : (((x.length : Nat) : Int) != 0) = true := by rw [bne_iff_ne]; omega
    clear hs f1 f2 f3
    rw [if_pos (by rw [hb, Bool.true_or])]
    refine wpAny_bind (wpAny_rule ?_)
    refine wpAny_bind ?_
    show wpAny _ A.in1 (updateSeq s.heap.objs.size (·.push .none) >>= fun _ => updateSeq s.heap.objs.size (·.pop)) _ _ _
    refine wpAny_bind (wpAny_updateSeq (s := { s with heap := _, toks := tk }) hS₁ rfl ?_)
    have hS₂ := Heap.get?_update_self (Obj.mapSeq (·.push Value.none)) hS₁ rfl
    refine wpAny_updateSeq hS₂ rfl ?_
    have hS₃ := Heap.get?_update_self (Obj.mapSeq (·.pop)) hS₂ rfl
    have oth : ∀ b o, b ≠ s.heap.objs.size → (s.heap.push { cls := .type "list", data := .seq ([] : List Value).toArray }).get? b = some o →
        (((s.heap.push { cls := .type "list", data := .seq ([] : List Value).toArray }).update s.heap.objs.size (Obj.mapSeq (·.push Value.none))).update s.heap.objs.size (Obj.mapSeq (·.pop))).get? b = some o :=
      fun b o hb e => (Heap.get?_update_other _ _ (Ne.symm hb)).trans ((Heap.get?_update_other _ _ (Ne.symm hb)).trans e)
    refine wpAny_pure ⟨plainId_quiet F.plain_extend_loop _, codeAny_extend_loopS W hx _ hSf _ x.cps.size 0 _ _ _ rfl (Nat.zero_le _)
      (W.frame 0 ({ s with heap := s.heap.push { cls := .type "list", data := .seq ([] : List Value).toArray }, toks := tk } : Shared) _ tk hst₂ (Nat.le_refl _) fun b hb o e => oth b o (fun h => hSf (h ▸ hb)) e) hS₃ (ItemsOf.nil _) fun s' acc' c' hm hS' hacc => ?_⟩
    show wpAny _ A (load s.heap.objs.size >>= _) _ _ s'
    refine wpAny_bind (wpAny_load hS' ?_)
    refine wpAny_pure (fin s' acc' (Moved.drop_new (o := { cls := .type "list", data := .seq ([] : List Value).toArray }) (tk := tk) (Moved.trans W.gtrans ((Moved.refl (G := fun a b => b = a) W.grefl).then_heap (by first | exact Nat.le_refl _ | exact Nat.le_succ _ | omega) fun b o hb e => ?_) hm) htk) hacc)
    exact oth b o (fun h => hb (h ▸ List.mem_cons_self)) e
/-- sep.join(reversed(text)) -/
theorem texts_of_back {y : Str} {l : List (Str × Tok)} (h : ItemsOf (BackAt y) (strValues l).toArray y.cps.size) : l.map (·.1) = (PyProof.Rows.signs y).reverse := by
  have hsz : l.length = y.cps.size := by simpa [strValues] using h.1
  apply List.ext_getElem?
  intro j
  by_cases hj : j < l.length
  · obtain ⟨c, u, hc, hv⟩ := h.2 j (.str l[j].1 l[j].2) (by simp [strValues, List.getElem?_eq_getElem hj])
    injection hv with h1 _
    have hj' : j < y.cps.size := hsz ▸ hj
    have hk : y.cps.size - 1 - j < y.cps.size := by omega
    have hc' : y.cps[y.cps.size - 1 - j] = c := by rw [Array.getElem?_eq_getElem hk] at hc; exact Option.some.inj hc
    rw [List.getElem?_map, List.getElem?_eq_getElem hj, List.getElem?_reverse (by simp [PyProof.Rows.signs]; omega)]
    simp [PyProof.Rows.signs, h1, hc', hk]
  · rw [List.getElem?_eq_none (by simpa using Nat.le_of_not_lt hj), List.getElem?_eq_none (by simp [PyProof.Rows.signs]; omega)]
namespace SC
theorem joinRvs {x y : Str} {t u : Tok} {Q : Value → Shared → Prop} (hh : A.handled = none) (hy : y.length ≤ sizeLine) (hit : s.heap.IsRvs I y u ((y.length : Int) - 1)) (hok : JoinOk x (PyProof.Rows.signs y).reverse = true)
    (hq : ∀ h' k t', (∀ b o, b ≠ I → s.heap.get? b = some o → h'.get? b = some o) → Q (.str (Txt.join x (PyProof.Rows.signs y).reverse) t') { s with heap := h', toks := k }) :
    wpAny (model prog w) A (call (.builtin "str.join") [.str x t, .ref I]) Q E s := by
  have same : ∀ (s' : Shared) (k : Nat), s'.gens = s.gens → s'.drawn = s.drawn → s'.os = s.os → ({ s' with toks := k } : Shared) = { s with heap := s'.heap, toks := k } := by
    intro s' k h1 h2 h3
    obtain ⟨hp, g, d, tk, os⟩ := s'
    obtain ⟨hp0, g0, d0, tk0, os0⟩ := s
    simp only at h1 h2 h3
    subst h1; subst h2; subst h3
    rfl
  refine wpAny_call (codeAny_call_builtin F.slot_str_join.plain F.entry_str_join (F.slot_str_join.check _ _ _ _ _ _ _ _ (typeIs_str _ _ _) (F.args_str_join_2 _ _) ?_))
  rw [join_tree_other]
  refine wpAny_bind (wpAny_typeOf hit.typeIs ?_)
  show wpAny _ A.in1 ((pyIter (.ref I)).tryCatch _ >>= fun it => collect it >>= fun items => joinTail x items) _ _ s
  refine wpAny_bind (wpAny_tryCatch (wpAny_pyIter_rvs hit ?_))
  refine wpAny_bind (wpAny_collect_rvs (A := A.in1) hh hy hit fun s' acc hk hg hd ho hacc => ?_)
  obtain ⟨l, hl⟩ := exists_strValues acc.toList fun v hv => by
    obtain ⟨j, hj, rfl⟩ := Array.mem_iff_getElem.mp (Array.mem_toList_iff.mp hv)
    obtain ⟨c, u', _, e⟩ := hacc.2 j _ (Array.getElem?_eq_getElem hj)
    exact ⟨_, u', e⟩
  have ht := texts_of_back (y := y) (l := l) (by rw [hl]; simpa using hacc)
  rw [← hl]
  have hok' : JoinOk x (l.map (·.1)) = true := by rw [ht]; exact hok
  unfold JoinOk at hok'
  rw [Bool.not_eq_true'] at hok'
  have g : Gives (joinTail x (strValues l)) (joinMade x l) := by
    have g0 := gives_joinTail x l hok'
    cases l with
    | nil => exact g0
    | cons p r => cases r with
      | nil => exact g0
      | cons q r' => exact g0
  refine g prog w A (wants Q E) s' (post_join l ⟨joinFit_length hok', fun t' k => ?_⟩)
  rw [same s' k hg hd ho, ht]
  exact hq s'.heap k t' hk
end SC
end
end PySem
end
section
set_option Elab.async false
set_option linter.all false
set_option maxRecDepth 100000
set_option maxHeartbeats 4000000
namespace HX
open PySem PySem.Spec PyProof.Rows L2
/-- a text by its signs -/
def S (l : List Nat) : Str := ⟨l.toArray⟩
theorem S_inj {l m : List Nat} (h : S l = S m) : l = m := by
  have := congrArg (fun x : Str => x.cps.toList) h
  simpa [S] using this
theorem S_len (l : List Nat) : (S l).length = l.length := by simp [S, Str.length]
theorem S_tl (l : List Nat) : (S l).cps.toList = l := by simp [S]
theorem tl_flat (y : List Nat) : ∀ (parts : List (List Nat)), TL.joinL ([] : List Nat) parts = parts.flatten
  | [] => rfl
  | [p] => by simp [TL.joinL]
  | p :: q :: r => by
    have ih := tl_flat y (q :: r)
    show p ++ ([] ++ TL.joinL [] (q :: r)) = _
    rw [ih]
    simp
/-- "".join of texts -/
theorem join_flat (ys : List (List Nat)) : Txt.join Str.empty (ys.map S) = S ys.flatten := by
  apply TL.ext_tl
  rw [TL.join_eq, TL.tl_join]
  have e : (ys.map S).map TL.tl = ys := by
    rw [List.map_map]
    conv => rhs; rw [← List.map_id ys]
    apply List.map_congr_left
    intro a _
    exact S_tl a
  rw [e]
  show TL.joinL [] ys = _
  rw [tl_flat []]
  exact (S_tl _).symm
theorem signs_S (l : List Nat) : PyProof.Rows.signs (S l) = (l.map fun n => [n]).map S := by
  unfold PyProof.Rows.signs
  rw [S_tl, List.map_map]
  rfl
theorem flatten_ones : ∀ l : List Nat, (l.map fun n => [n]).flatten = l
  | [] => rfl
  | a :: l => by simp [flatten_ones l]
section
variable {X : Cx} {e o : Expr} {te to : TE}
def tBack (te : TE) : TE := fun σ H Q => te σ H fun v H1 => ∃ l, [v] = [V.str (S l)] ∧ l.length ≤ 1000000 ∧ Q (.str (S l.reverse)) H1
/-- "".join(reversed(e)), e a text -/
theorem pe_back0 {j : Nat} {cp p pos1 apos pos : Pos} (hc : X.calm = true) (hg : Gl X "reversed") (hm : X.mg "reversed" = none) (he : PE X e te)
    (hs1 : starEach [e] X.env = [(false, eval e X.env)] := by rfl) (hs : starEach [.Call (.Name "reversed" p) [e] [] pos1] X.env = [(false, eval (.Call (.Name "reversed" p) [e] [] pos1) X.env)] := by rfl)
    (hbase : attributeBase (.Constant (.str Str.empty) j cp) "join" X.env (eval (.Constant (.str Str.empty) j cp) X.env) = eval (.Constant (.str Str.empty) j cp) X.env := by rfl) (hline : (apos.endLine == pos.line) = true := by rfl) :
    PE X (.Call (.Attribute (.Constant (.str Str.empty) j cp) "join" apos) [.Call (.Name "reversed" p) [e] [] pos1] [] pos) (tBack te) := by
  intro pins s σ H Q I h
  refine PySem.Call_method1 hbase hs hline (thn ((pe_str (x := Str.empty)) pins s σ H (fun v H1 => v = .str Str.empty ∧ H1 = H) I ⟨rfl, rfl⟩) fun v s1 ⟨x, H1, I1, r1, ex, eH⟩ => ?_)
  subst ex
  subst eH
  obtain ⟨t, rfl⟩ := r1
  refine ⟨"str", _, F.plainAttrs_str, F.slot_str_join, F.type_str_join, typeIs_str _ _ _, (fun _ e => nomatch e), Calls.callWith_builtin rfl (Calls.evalArgs_plain (Calls.spliced_cons ?_))⟩
  refine Call_ (ld_blt I1 hg hm boot_reversed5 (PyProof.Rows.callWith_type1 (thn ((pa_cons he pa_nil (hs := by rw [hs1]; rfl)) pos1 pins s1 σ H1 (fun vs H2 => ∃ l, vs = [.str (S l)] ∧ l.length ≤ 1000000 ∧ Q (.str (S l.reverse)) H2) I1 ?_) fun us s2 ⟨vs, H2, I2, r2, l, ev, hl, q⟩ => ?_) hs1 rfl))
  · exact h
  · subst ev
    cases r2 with
    | cons r rr =>
      cases rr
      obtain ⟨u, rfl⟩ := r
      have hz : (S l).length ≤ sizeLine := by rw [S_len]; exact Nat.le_trans hl (by decide)
      refine call_reversed_str hz fun tk => ?_
      refine Calls.spliced_nil ?_
      have I3 : L2.Inv X pins σ H2 { s2 with heap := s2.heap.push (rvsObj (S l) u (((S l).length : Int) - 1)), toks := tk } := I2.kept fun b o q => Heap.get?_push_of_some _ q
      have fr : H2 s2.heap.objs.size = none := I2.hok.fresh (Nat.le_refl _)
      obtain ⟨f0, f1, f2, f3, f4, f5⟩ := I2.fpOk (H' := H2) (Nat.le_refl _) fr
      refine SC.joinRvs (y := S l) (u := u) (I := s2.heap.objs.size) (I2.ok.hd hc) hz ⟨_, Heap.get?_push_size _ rfl, rfl, rfl⟩ (joinOk_of ?_) fun h' k t' hk => ?_
      · have e1 : ∀ m : List Nat, ((PyProof.Rows.signs (S m)).map (·.length)).sum = m.length := fun m => by
          have e0 := signLens_sum m
          simpa [PyProof.Rows.signs, S] using e0
        have e2 : (((PyProof.Rows.signs (S l)).reverse).map (·.length)).sum = l.length := by
          rw [List.map_reverse, List.sum_reverse, e1]
        rw [e2]
        show l.length + _ * 0 ≤ 16777216
        omega
      · refine ⟨.str (S l.reverse), H2, I3.turned (fun b o hb q => hk b o hb q) f0 f1 f3 f4 f5, ⟨t', ?_⟩, q⟩
        rw [signs_S, ← List.map_reverse, join_flat, ← List.map_reverse, flatten_ones]
theorem pe_back {x0 : Str} {j : Nat} {cp p pos1 apos pos : Pos} (h0 : x0 = Str.empty) (hc : X.calm = true) (hg : Gl X "reversed") (hm : X.mg "reversed" = none) (he : PE X e te)
    (hs1 : starEach [e] X.env = [(false, eval e X.env)] := by rfl) (hs : starEach [.Call (.Name "reversed" p) [e] [] pos1] X.env = [(false, eval (.Call (.Name "reversed" p) [e] [] pos1) X.env)] := by rfl)
    (hbase : attributeBase (.Constant (.str x0) j cp) "join" X.env (eval (.Constant (.str x0) j cp) X.env) = eval (.Constant (.str x0) j cp) X.env := by rfl) (hline : (apos.endLine == pos.line) = true := by rfl) :
    PE X (.Call (.Attribute (.Constant (.str x0) j cp) "join" apos) [.Call (.Name "reversed" p) [e] [] pos1] [] pos) (tBack te) := by
  subst h0
  exact pe_back0 hc hg hm he hs1 hs hbase hline
end
end HX
end
section
set_option Elab.async false
set_option linter.all false
set_option maxRecDepth 100000
set_option maxHeartbeats 4000000
namespace HX
open PySem PySem.Spec PyProof.Rows L2 StrLaws
open HW (occ times2)
theorem occ_full (s sub : Str) (hi : Nat) : ∀ (l : List Nat) (st : Array Nat × Nat), 1 ≤ st.fst.size → (forIn l st (occBody s sub hi 1)).run.fst = st.fst
  | [], st, h => rfl
  | a :: l, st, h => by
    rw [List.forIn_cons]
    unfold occBody
    rw [if_neg (fun q => by have := q.1.1.1; omega)]
    exact occ_full s sub hi l _ h
theorem hit_iff (x y : List Nat) (i : Nat) (hy : y ≠ []) : (i + (S y).length ≤ (S x).length ∧ Builtin.Str.subAt (S x) (S y) i = true) ↔ y.isPrefixOf (x.drop i) = true := by
  have hl : 1 ≤ y.length := by
    cases y with
    | nil => exact absurd rfl hy
    | cons a y => simp
  rw [subAt_eq, S_tl, S_tl, S_len, S_len, HW.isPrefixOf_take, List.length_drop, Bool.and_eq_true, decide_eq_true_iff]
  constructor
  · rintro ⟨h1, h2⟩
    exact ⟨by omega, h2⟩
  · rintro ⟨h1, h2⟩
    exact ⟨by omega, h2⟩
theorem occ_drop {x y : List Nat} {a : Nat} (h : a < x.length) : occ y (x.drop a) = (if y.isPrefixOf (x.drop a) = true then 1 else 0) + occ y (x.drop (a + 1)) := by
  rw [List.drop_eq_getElem_cons h]
  rfl
theorem occ_first (x y : List Nat) (hy : y ≠ []) : ∀ (m a free : Nat), a + m = x.length + 1 → free ≤ a →
    ((forIn (List.range' a m) ((#[] : Array Nat), free) (occBody (S x) (S y) (S x).length 1)).run.fst = #[] ∧ occ y (x.drop a) = 0) ∨
    ∃ i, (forIn (List.range' a m) ((#[] : Array Nat), free) (occBody (S x) (S y) (S x).length 1)).run.fst = #[i] ∧ a ≤ i ∧ i < x.length ∧ occ y (x.drop a) = 1 + occ y (x.drop (i + 1))
  | 0, a, free, hm, hf => .inl ⟨rfl, by rw [List.drop_eq_nil_of_le (by omega)]; rfl⟩
  | m + 1, a, free, hm, hf => by
    rw [List.range'_succ, List.forIn_cons]
    by_cases hh : y.isPrefixOf (x.drop a) = true
    · have hc := (hit_iff x y a hy).mpr hh
      have ha : a < x.length := by
        rcases Nat.lt_or_ge a x.length with z | z
        · exact z
        · rw [List.drop_eq_nil_of_le z] at hh
          cases y with
          | nil => exact absurd rfl hy
          | cons b y => simp at hh
      refine .inr ⟨a, ?_, Nat.le_refl _, ha, by rw [occ_drop ha, if_pos hh]⟩
      have e : occBody (S x) (S y) (S x).length 1 a ((#[] : Array Nat), free) = pure (ForInStep.yield (#[a], a + (S y).length)) := by
        unfold occBody
        rw [if_pos ⟨⟨⟨by simp, hf⟩, hc.1⟩, hc.2⟩]
        rfl
      rw [e]
      exact occ_full (S x) (S y) _ _ (#[a], a + (S y).length) (by simp)
    · have e : occBody (S x) (S y) (S x).length 1 a ((#[] : Array Nat), free) = pure (ForInStep.yield (#[], free)) := by
        unfold occBody
        rw [if_neg (fun q => hh ((hit_iff x y a hy).mp ⟨q.1.2, q.2⟩))]
      rw [e]
      have ih := occ_first x y hy m (a + 1) free (by omega) (by omega)
      have e2 : occ y (x.drop a) = occ y (x.drop (a + 1)) := by
        rcases Nat.lt_or_ge a x.length with z | z
        · rw [occ_drop z, if_neg hh, Nat.zero_add]
        · rw [List.drop_eq_nil_of_le z, List.drop_eq_nil_of_le (by omega)]
      rw [e2]
      rcases ih with ⟨h1, h2⟩ | ⟨i, h1, h2, h3, h4⟩
      · exact .inl ⟨h1, h2⟩
      · exact .inr ⟨i, h1, by omega, h3, h4⟩
/-- text.find(word, k) -/
theorem find3_occ (x y : List Nat) (hy : y ≠ []) (k : Nat) (hk : k ≤ x.length) : (Txt.find3 (S x) (S y) (k : Int) = -1 ∧ occ y (x.drop k) = 0) ∨
    ∃ i : Nat, Txt.find3 (S x) (S y) (k : Int) = (i : Int) ∧ i < x.length ∧ occ y (x.drop k) = 1 + occ y (x.drop (i + 1)) := by
  have ek : fromIndex (S x).length (k : Int) = k := by
    unfold fromIndex
    rw [if_neg (by omega), Int.max_eq_right (by omega), Int.toNat_natCast]
  unfold Txt.find3
  rw [ek, occ_eq, S_len]
  have := occ_first x y hy (x.length + 1 - k) k k (by omega) (Nat.le_refl _)
  rw [S_len] at this
  rcases this with ⟨h1, h2⟩ | ⟨i, h1, h2, h3, h4⟩
  · refine .inl ⟨?_, h2⟩
    rw [h1]
  · refine .inr ⟨i, ?_, h3, h4⟩
    rw [h1]
theorem find_occ (x y : List Nat) (hy : y ≠ []) : (Txt.find (S x) (S y) = -1 ∧ occ y x = 0) ∨
    ∃ i : Nat, Txt.find (S x) (S y) = (i : Int) ∧ i < x.length ∧ occ y x = 1 + occ y (x.drop (i + 1)) := by
  rw [find_is_find3]
  exact find3_occ x y hy 0 (Nat.zero_le _)
section
variable {X : Cx}
theorem mt_find3 : MtR X "str.find" (fun x xs H Q => ∃ a b i, x = .str a ∧ xs = [.str b, .int i] ∧ Q (.int (Txt.find3 a b i)) H) := by
  intro pins s σ H x xs v us Q I rx rs h
  obtain ⟨a, b, i, rfl, rfl, h⟩ := h
  obtain ⟨t, rfl⟩ := rx
  cases rs with
  | cons r1 rs =>
    cases rs with
    | cons r2 rs =>
      cases rs
      obtain ⟨u, rfl⟩ := r1
      obtain ⟨u2, rfl⟩ := r2
      exact PySem.SC.find3 ⟨.int (Txt.find3 a b i), H, I.tok _, ⟨_, rfl⟩, h⟩
end
end HX
end
section
set_option Elab.async false
set_option linter.all false
set_option maxRecDepth 100000
set_option maxHeartbeats 4000000
namespace PySem
open Sem (wp)
section
variable {prog : Program} {w : World} {A : Around} {E : Value → Shared → Prop} {s : Shared}
structure ZipFar (z TI TO i1 i2 : Addr) (fp1 fp2 : List Addr) : Prop where
  TIz : TI ≠ z
  TOz : TO ≠ z
  i1z : i1 ≠ z
  i2z : i2 ≠ z
  TITO : TI ≠ TO
  TIi1 : TI ≠ i1
  TIi2 : TI ≠ i2
  TOi1 : TO ≠ i1
  TOi2 : TO ≠ i2
  z1 : z ∉ fp1
  TO1 : TO ∉ fp1
  i21 : i2 ∉ fp1
  z2 : z ∉ fp2
  TO2 : TO ∉ fp2
  i12 : i1 ∉ fp2
theorem zipD_item {z TI TO i1 i2 : Addr} {fp1 fp2 : List Addr} {n1 n2 k : Nat} {P1 P2 : Nat → Value → Prop} {St1 St2 : Nat → Heap → Prop} {a b : Value} {Q : Value → Shared → Prop} (D : ZipFar z TI TO i1 i2 fp1 fp2)
    (D1 : Draws prog w A i1 fp1 n1 P1 St1) (D2 : Draws prog w A i2 fp2 n2 P2 St2)
    (hz : IsZip s.heap z TI TO .none) (hTI : IsPair s.heap TI (.ref i1) (.ref i2)) (hTO : IsPair s.heap TO a b) (h1 : St1 k s.heap) (h2 : St2 k s.heap) (hk1 : k < n1) (hk2 : k < n2)
    (hQ : ∀ x y h' tk, P1 k x → P2 k y → IsZip h' z TI TO (rawInt s.heap.objs.size) → IsPair h' TO x y → St1 (k + 1) h' → St2 (k + 1) h' → IsPair h' s.heap.objs.size x y → h'.objs.size = s.heap.objs.size + 1 →
      (∀ c o, c ≠ z → c ≠ TO → c ≠ i1 → c ≠ i2 → s.heap.get? c = some o → h'.get? c = some o) → Q (.ref s.heap.objs.size) { s with heap := h', toks := tk }) :
    wpAny (model prog w) A (Builtin.«zip.__next__» ⟨[.ref z], []⟩) (fun fin s' => ∃ v, fin = .done (.ret v) ∧ Q v s') E s := by
  obtain ⟨hp, g, d, tk₀, os⟩ := s
  show wpAny _ _ (field (.ref z) 2 >>= _) _ _ _
  refine wpAny_bind (wpAny_field hz rfl (x := .bool false) rfl ?_)
  show wpAny _ _ (field (.ref z) 3 >>= _) _ _ _
  refine wpAny_bind (wpAny_field hz rfl (x := .ref TI) rfl ?_)
  refine wpAny_bind (wpAny_seqItems hTI rfl ?_)
  show wpAny _ _ (Builtin.SmallTypes.ownedTupleIsFree (.ref z) >>= _) _ _ _
  refine wpAny_bind ?_
  unfold Builtin.SmallTypes.ownedTupleIsFree
  refine wpAny_bind (wpAny_field hz rfl (x := .none) rfl (wpAny_pure ?_))
  simp only [if_true]
  refine wpAny_bind (wpAny_rule ?_)
  refine wpAny_bind (wpAny_field hz rfl (x := .ref TO) rfl ?_)
  refine wpAny_bind (wpAny_setField_rec hz (by simp) fun h₁ hz₁ hs₁ => ?_)
  replace hz₁ : IsZip h₁ z TI TO .ellipsis := hz₁
  replace hs₁ : Heap.SameBut z hp h₁ := hs₁
  refine wpAny_bind ?_
  simp only [List.zipIdx_cons, List.zipIdx_nil, List.forIn_cons, List.forIn_nil]
  refine wpAny_bind (wpAny_bind (wpAny_onRaise ?_))
  show wpAny _ _ (Builtin.SmallTypes.nextOf (.ref i1) >>= _) _ _ ⟨h₁, g, d, tk₀, os⟩
  refine wpAny_bind (D1.item k ⟨h₁, g, d, tk₀, os⟩ _ _ hk1 (D1.frame _ _ _ h1 fun c hc o e => (hs₁.2 c (fun q => D.z1 (q ▸ hc))).trans e) fun x h₂ tk₂ hP1 h1₂ hs₂ => wpAny_pure ?_)
  replace hs₂ : Heap.SameBut i1 h₁ h₂ := hs₂
  have hTO₂ : IsPair h₂ TO a b := hs₂.extBut _ _ D.TOi1 (hs₁.extBut _ _ D.TOz hTO)
  refine wpAny_bind (wpAny_seqItems (s := ⟨h₂, g, d, tk₂, os⟩) hTO₂ rfl ?_)
  refine wpAny_bind (wpAny_updateSeq_pair (s := ⟨h₂, g, d, tk₂, os⟩) hTO₂ fun h₃ hTO₃ hs₃ => ?_)
  replace hTO₃ : IsPair h₃ TO x b := hTO₃
  replace hs₃ : Heap.SameBut TO h₂ h₃ := hs₃
  refine wpAny_bind (wpAny_letGo (wpAny_pure ?_))
  refine wpAny_bind (wpAny_bind (wpAny_onRaise ?_))
  show wpAny _ _ (Builtin.SmallTypes.nextOf (.ref i2) >>= _) _ _ ⟨h₃, g, d, tk₂, os⟩
  refine wpAny_bind (D2.item k ⟨h₃, g, d, tk₂, os⟩ _ _ hk2 (D2.frame _ _ _ h2 fun c hc o e => (hs₃.2 c (fun q => D.TO2 (q ▸ hc))).trans ((hs₂.2 c (fun q => D.i12 (q ▸ hc))).trans ((hs₁.2 c (fun q => D.z2 (q ▸ hc))).trans e))) fun y h₄ tk₄ hP2 h2₄ hs₄ => wpAny_pure ?_)
  replace hs₄ : Heap.SameBut i2 h₃ h₄ := hs₄
  have hTO₄ : IsPair h₄ TO x b := hs₄.extBut _ _ D.TOi2 hTO₃
  refine wpAny_bind (wpAny_seqItems (s := ⟨h₄, g, d, tk₄, os⟩) hTO₄ rfl ?_)
  refine wpAny_bind (wpAny_updateSeq_pair (s := ⟨h₄, g, d, tk₄, os⟩) hTO₄ fun h₅ hTO₅ hs₅ => ?_)
  replace hTO₅ : IsPair h₅ TO x y := hTO₅
  replace hs₅ : Heap.SameBut TO h₄ h₅ := hs₅
  refine wpAny_bind (wpAny_letGo (wpAny_pure (wpAny_pure ?_)))
  refine wpAny_bind (wpAny_seqItems (s := ⟨h₅, g, d, tk₄, os⟩) hTO₅ rfl ?_)
  refine wpAny_bind (wpAny_newTuple ?_)
  have hsz : h₅.objs.size = hp.objs.size := by rw [hs₅.1, hs₄.1, hs₃.1, hs₂.1, hs₁.1]
  have hz₅ : IsZip h₅ z TI TO .ellipsis := hs₅.extBut _ _ D.TOz.symm (hs₄.extBut _ _ D.i2z.symm (hs₃.extBut _ _ D.TOz.symm (hs₂.extBut _ _ D.i1z.symm hz₁)))
  have hk₅ : ∀ c o, c ≠ z → c ≠ TO → c ≠ i1 → c ≠ i2 → hp.get? c = some o → h₅.get? c = some o := fun c o c1 c2 c3 c4 e =>
    hs₅.extBut _ _ c2 (hs₄.extBut _ _ c4 (hs₃.extBut _ _ c2 (hs₂.extBut _ _ c3 (hs₁.extBut _ _ c1 e))))
  have h1₅ : St1 (k + 1) h₅ := D1.frame _ _ _ h1₂ fun c hc o e => (hs₅.2 c (fun q => D.TO1 (q ▸ hc))).trans ((hs₄.2 c (fun q => D.i21 (q ▸ hc))).trans ((hs₃.2 c (fun q => D.TO1 (q ▸ hc))).trans e))
  have h2₅ : St2 (k + 1) h₅ := D2.frame _ _ _ h2₄ fun c hc o e => (hs₅.2 c (fun q => D.TO2 (q ▸ hc))).trans e
  have hzlt : z < h₅.objs.size := Heap.lt_size hz₅
  show wpAny _ _ (Builtin.SmallTypes.ownedTupleHandOut (.ref z) (.ref h₅.objs.size) >>= _) _ _ _
  refine wpAny_bind ?_
  unfold Builtin.SmallTypes.ownedTupleHandOut
  have hz₆ : IsZip (h₅.push { cls := .type "tuple", data := .seq #[x, y] }) z TI TO .ellipsis := Heap.get?_push_of_some _ hz₅
  refine wpAny_bind (wpAny_setField_rec hz₆ (by simp) fun h₇ hz₇ hs₇ => ?_)
  replace hz₇ : IsZip h₇ z TI TO (rawInt h₅.objs.size) := hz₇
  refine wpAny_setField_rec hz₇ (by simp) fun h₈ hz₈ hs₈ => ?_
  replace hz₈ : IsZip h₈ z TI TO (rawInt h₅.objs.size) := hz₈
  have up : ∀ c o, c ≠ z → h₅.get? c = some o → h₈.get? c = some o := fun c o c1 e => hs₈.extBut _ _ c1 (hs₇.extBut _ _ c1 (Heap.get?_push_of_some _ e))
  have hT₈ : IsPair h₈ h₅.objs.size x y := hs₈.extBut _ _ (Nat.ne_of_gt hzlt) (hs₇.extBut _ _ (Nat.ne_of_gt hzlt) (Heap.get?_push_size _ rfl))
  have hz8 : h₈.objs.size = h₅.objs.size + 1 := by rw [hs₈.1, hs₇.1, Heap.size_push]
  rw [hsz] at hz₈ hT₈ hz8
  refine wpAny_pure ⟨_, rfl, ?_⟩
  show Q (.ref h₅.objs.size) _
  rw [hsz]
  exact hQ x y h₈ tk₄ hP1 hP2 hz₈ (up _ _ D.TOz hTO₅) (D1.frame _ _ _ h1₅ fun c hc o e => up c o (fun q => D.z1 (q ▸ hc)) e) (D2.frame _ _ _ h2₅ fun c hc o e => up c o (fun q => D.z2 (q ▸ hc)) e) hT₈ hz8 fun c o c1 c2 c3 c4 e => up c o c1 (hk₅ c o c1 c2 c3 c4 e)
/-- the first one ends -/
theorem zipD_end {z TI TO i1 i2 : Addr} {fp1 fp2 : List Addr} {n1 : Nat} {P1 : Nat → Value → Prop} {St1 : Nat → Heap → Prop} {a b : Value} {Q : Fin → Shared → Prop} (D : ZipFar z TI TO i1 i2 fp1 fp2) (D1 : Draws prog w A i1 fp1 n1 P1 St1)
    (hz : IsZip s.heap z TI TO .none) (hTI : IsPair s.heap TI (.ref i1) (.ref i2)) (hTO : IsPair s.heap TO a b) (h1 : St1 n1 s.heap)
    (hE : ∀ h' e, (∀ c o, c ≠ z → c ≠ TO → c ≠ i1 → c ≠ i2 → s.heap.get? c = some o → h'.get? c = some o) → (∃ o, h'.get? e = some o ∧ o.cls = .type "StopIteration") → E (.ref e) { s with heap := h' }) :
    wpAny (model prog w) A (Builtin.«zip.__next__» ⟨[.ref z], []⟩) Q E s := by
  show wpAny _ _ (field (.ref z) 2 >>= _) _ _ _
  refine wpAny_bind (wpAny_field hz rfl (x := .bool false) rfl ?_)
  show wpAny _ _ (field (.ref z) 3 >>= _) _ _ _
  refine wpAny_bind (wpAny_field hz rfl (x := .ref TI) rfl ?_)
  refine wpAny_bind (wpAny_seqItems hTI rfl ?_)
  show wpAny _ _ (Builtin.SmallTypes.ownedTupleIsFree (.ref z) >>= _) _ _ _
  refine wpAny_bind ?_
  unfold Builtin.SmallTypes.ownedTupleIsFree
  refine wpAny_bind (wpAny_field hz rfl (x := .none) rfl (wpAny_pure ?_))
  simp only [if_true]
  refine wpAny_bind (wpAny_rule ?_)
  refine wpAny_bind (wpAny_field hz rfl (x := .ref TO) rfl ?_)
  refine wpAny_bind (wpAny_setField_rec hz (by simp) fun h₁ hz₁ hs₁ => ?_)
  replace hz₁ : IsZip h₁ z TI TO .ellipsis := hz₁
  refine wpAny_bind ?_
  simp only [List.zipIdx_cons, List.zipIdx_nil, List.forIn_cons, List.forIn_nil]
  refine wpAny_bind (wpAny_bind (wpAny_onRaise ?_))
  show wpAny _ _ (Builtin.SmallTypes.nextOf (.ref i1) >>= _) _ _ _
  refine wpAny_bind (D1.done { s with heap := h₁ } _ _ (D1.frame _ _ _ h1 fun c hc o e => (hs₁.2 c (fun q => D.z1 (q ▸ hc))).trans e) fun h₂ e hs₂ he => ?_)
  obtain ⟨oe, hoe, hce⟩ := he
  have hz₂ : IsZip h₂ z TI TO .ellipsis := hs₂ _ _ D.i1z.symm hz₁
  have hez : e ≠ z := fun x => by subst x; rw [hz₂] at hoe; cases hoe; simp at hce
  exact wpAny_setField_rec hz₂ (by simp) fun h₃ _ hs₃ => hE h₃ e (fun c o c1 _ c3 _ x => hs₃.extBut _ _ c1 (hs₂ _ _ c3 (hs₁.extBut _ _ c1 x))) ⟨oe, hs₃.extBut _ _ hez hoe, hce⟩
end
end PySem
end
section
set_option Elab.async false
set_option linter.all false
set_option maxRecDepth 100000
set_option maxHeartbeats 4000000
namespace PySem
open Sem (wp)
abbrev zsH1 (h : Heap) (x : Str) (t : Tok) : Heap := h.push { cls := .type (strIterType x), data := .fields #[.str x t, .int 0 0] }
abbrev zsH2 (h : Heap) (x : Str) (t : Tok) (l2 : Addr) : Heap := (zsH1 h x t).push { cls := .type "list_iterator", data := .fields #[.ref l2, .int 0 0] }
abbrev zsH3 (h : Heap) (x : Str) (t : Tok) (l2 : Addr) : Heap := (zsH2 h x t l2).push { cls := .type "tuple", data := .seq #[.ref h.objs.size, .ref (zsH1 h x t).objs.size] }
abbrev zsH4 (h : Heap) (x : Str) (t : Tok) (l2 : Addr) : Heap := (zsH3 h x t l2).push { cls := .type "tuple", data := .seq #[.none, .none] }
abbrev zsH5 (h : Heap) (x : Str) (t : Tok) (l2 : Addr) : Heap := (zsH4 h x t l2).push { cls := .type "zip", data := .fields #[.none, .bool false, .bool false, .ref (zsH2 h x t l2).objs.size, .ref (zsH3 h x t l2).objs.size] }
theorem meets_zs_new (x : Str) (t : Tok) (l2 : Addr) (ys : Array Value) :
    Meets (Builtin.«zip.__new__» ⟨[.type "zip", .str x t, .ref l2], []⟩) (fun _ R s => s.heap.IsList l2 ys ∧
      R (.ok (.ret (.ref (zsH4 s.heap x t l2).objs.size))) { s with heap := zsH5 s.heap x t l2 }) :=
  .of_wp fun prog w A R s h => by
    obtain ⟨hp, g, d, tk, os⟩ := s; obtain ⟨hl2, h⟩ := h
    have hsub := sub_zip
    have hL2 : Heap.IsList (Shared.heap ⟨hp.push { cls := .type (strIterType x), data := .fields #[.str x t, .int 0 0] }, g, d, tk, os⟩) l2 ys := Heap.IsList.push hl2 _
    wp_walk using wpAny_pyIter_strU, wpAny_pyIter_list hL2
    exact ⟨_, rfl, h⟩
section
variable {prog : Program} {w : World} {A : Around} {E : Value → Shared → Prop} {s : Shared}
theorem call_zip_sl {x : Str} {t : Tok} {l2 : Addr} {ys : Array Value} {Q : Value → Shared → Prop} (hl2 : s.heap.IsList l2 ys)
    (h : ∀ h', IsZip h' (s.heap.objs.size + 4) (s.heap.objs.size + 2) (s.heap.objs.size + 3) .none → IsPair h' (s.heap.objs.size + 2) (.ref s.heap.objs.size) (.ref (s.heap.objs.size + 1)) →
      IsPair h' (s.heap.objs.size + 3) .none .none → h'.IsStrIter s.heap.objs.size (strIterType x) x t 0 → h'.IsListIter (s.heap.objs.size + 1) l2 0 → h'.objs.size = s.heap.objs.size + 5 →
      (∀ c o, s.heap.get? c = some o → h'.get? c = some o) → Q (.ref (s.heap.objs.size + 4)) { s with heap := h' }) :
    wpAny (model prog w) A (call (.type "zip") [.str x t, .ref l2]) Q E s := by
  refine callType_new F.called_zip (by decide) (F.typeCall_zip_2 _ _) (F.newCall_zip_2 _ _) (fun obj => F.args_object_init_3 obj _ _) F.entry_zip_new
    (meets_zs_new x t l2 ys) ⟨hl2, ?_⟩
  have z1 : (zsH1 s.heap x t).objs.size = s.heap.objs.size + 1 := Heap.size_push ..
  have z2 : (zsH2 s.heap x t l2).objs.size = s.heap.objs.size + 2 := by rw [Heap.size_push, z1]
  have z3 : (zsH3 s.heap x t l2).objs.size = s.heap.objs.size + 3 := by rw [Heap.size_push, z2]
  have z4 : (zsH4 s.heap x t l2).objs.size = s.heap.objs.size + 4 := by rw [Heap.size_push, z3]
  have z5 : (zsH5 s.heap x t l2).objs.size = s.heap.objs.size + 5 := by rw [Heap.size_push, z4]
  have g5 : (zsH5 s.heap x t l2).get? (zsH4 s.heap x t l2).objs.size = some _ := Heap.get?_push_size _ rfl
  have g4 : (zsH5 s.heap x t l2).get? (zsH3 s.heap x t l2).objs.size = some _ := Heap.get?_push_of_some _ (Heap.get?_push_size _ rfl)
  have g3 : (zsH5 s.heap x t l2).get? (zsH2 s.heap x t l2).objs.size = some _ := Heap.get?_push_of_some _ (Heap.get?_push_of_some _ (Heap.get?_push_size _ rfl))
  have g2 : (zsH5 s.heap x t l2).get? (zsH1 s.heap x t).objs.size = some _ := Heap.get?_push_of_some _ (Heap.get?_push_of_some _ (Heap.get?_push_of_some _ (Heap.get?_push_size _ rfl)))
  have g1 : (zsH5 s.heap x t l2).get? s.heap.objs.size = some _ := Heap.get?_push_of_some _ (Heap.get?_push_of_some _ (Heap.get?_push_of_some _ (Heap.get?_push_of_some _ (Heap.get?_push_size _ rfl))))
  show _ ∧ _
  rw [z2, z3, z4] at g5
  rw [z1, z2] at g3
  rw [z3] at g4
  rw [z1] at g2
  rw [z4]
  exact ⟨⟨_, g5, rfl⟩, h _ g5 g3 g4 ⟨_, g1, rfl, rfl⟩ ⟨_, g2, rfl, rfl⟩ z5 fun c o q =>
    Heap.get?_push_of_some _ (Heap.get?_push_of_some _ (Heap.get?_push_of_some _ (Heap.get?_push_of_some _ (Heap.get?_push_of_some _ q))))⟩
theorem Draws.strU (hh : A.handled = none) (it : Addr) (x : Str) (t : Tok) :
    Draws prog w A it [it] x.cps.size (fun i v => ∃ c u, x.cps[i]? = some c ∧ v = .str ⟨#[c]⟩ u) (fun i h => h.IsStrIter it (strIterType x) x t i) := by
  unfold strIterType
  cases ha : x.cps.all (· < 128)
  · exact Draws.strWide hh it x t
  · exact Draws.strAscii hh it x t
end
end PySem
namespace HX
open PySem PySem.Spec PyProof.Rows L2
/-- a text and the list at b, in pairs; both are as long -/
def Itzs (K : PySem.W.Frag) (x : Str) (b : Addr) : It :=
  ⟨fun i H => i < x.cps.size ∧ ∃ (ys : List V) (y : V), SqL K H b ys ∧ ys[i]? = some y,
    fun i H v H' => ∃ T c y, v = .ref T ∧ H T = none ∧ H' = upd H T (.tup [.str ⟨#[c]⟩, y]) ∧ x.cps[i]? = some c ∧ ∀ ys, SqL K H b ys → ys[i]? = some y,
    fun i _ => i = x.cps.size⟩
theorem turn_zs {P : Program} {w : World} {K : PySem.W.Frag} {elts : List Expr} {kk : Nat} {tpos : Pos} {b z TI TO i1 i2 : Addr} {x : Str} {t : Tok} (D : ZipFar z TI TO i1 i2 [i1] [i2, b]) :
    Turn P w K (.Tuple elts kk tpos) (Itzs K x b) [z, TI, TO, i1, i2] z (fun i h => IsZip h z TI TO .none ∧ IsPair h TI (.ref i1) (.ref i2) ∧ (∃ x y, IsPair h TO x y) ∧ h.IsStrIter i1 (strIterType x) x t i ∧ h.IsListIter i2 b i) where
  mem := by simp
  obj := fun i h st c hc => by
    obtain ⟨hz, hTI, ⟨u, v, hTO⟩, ⟨o1, e1, _, d1⟩, ⟨o2, e2, _, d2⟩⟩ := st
    have e' : c = z ∨ c = TI ∨ c = TO ∨ c = i1 ∨ c = i2 := by simpa using hc
    rcases e' with q | q | q | q | q
    · rw [q]; exact ⟨_, hz, fun v q => nomatch q⟩
    · rw [q]; exact ⟨_, hTI, fun v q => nomatch q⟩
    · rw [q]; exact ⟨_, hTO, fun v q => nomatch q⟩
    · rw [q]; exact ⟨o1, e1, fun v q => by rw [d1] at q; cases q⟩
    · rw [q]; exact ⟨o2, e2, fun v q => by rw [d2] at q; cases q⟩
  keep := fun i h h' st k => by
    obtain ⟨hz, hTI, ⟨u, v, hTO⟩, ⟨o1, e1, r1⟩, h2⟩ := st
    exact ⟨k z (by simp) _ hz, k TI (by simp) _ hTI, ⟨u, v, k TO (by simp) _ hTO⟩, ⟨o1, k i1 (by simp) _ e1, r1⟩, h2.at fun o q => k i2 (by simp) o q⟩
  item := by
    intro X hP hw hK hc i pins s σ H E I hf st hg
    subst hP hw hK
    obtain ⟨hz, hTI, ⟨x0, y0, hTO⟩, h1, h2⟩ := st
    obtain ⟨hi, ys, y, hqy, hy⟩ := hg
    obtain ⟨its2, rv2, p2, _⟩ := I.list hqy
    obtain ⟨u2, hu2, ru2⟩ := rv2.get hy
    have hzl : z < s.heap.objs.size := Heap.lt_size hz
    have hT : s.TypeIs (.ref z) "zip" := ⟨_, hz, rfl⟩
    have hsz : i < its2.toArray.size := by
      have := (List.getElem?_eq_some_iff.mp hu2).1
      simpa using this
    have hb : b ≠ i2 := fun q => by
      obtain ⟨o, n, e, c, _⟩ := p2
      obtain ⟨o2, e2, c2, _⟩ := h2
      rw [q] at e
      rw [e] at e2
      cases e2
      rw [c] at c2
      exact absurd c2 (by decide)
    unfold pyNext
    refine wpAny_bind (wpAny_attempt (wpAny_callSpecial?_slot (name := Str.ofString "__next__") hT F.slot_zip_next
      (wpAny_call_entry F.slot_zip_next hT F.entry_zip_next
        (zipD_item (A := X.A.in1) D (Draws.strU (prog := X.prog) (w := X.w) (A := X.A.in1) (I.ok.hd hc) i1 x t) (Draws.list (prog := X.prog) (w := X.w) (A := X.A.in1) (I.ok.hd hc) i2 b hb its2.toArray) hz hTI hTO h1 ⟨h2, p2.isList⟩ hi hsz
          fun u v h' tk hP1 hP2 z' TO' h1' h2' hTT hsz' hk => wpAny_pure ?_) (F.args_zip_next_1 _))))
    obtain ⟨c, uu, hcx, rfl⟩ := hP1
    have e2 : v = u2 := by
      have q : its2.toArray[i]? = some u2 := by simpa using hu2
      rw [q] at hP2
      exact (Option.some.inj hP2).symm
    subst e2
    refine ⟨_, rfl, wpAny_letOwnedTupleGo_zip (s := { s with heap := h', toks := tk }) z' fun h'' z'' sb => ?_⟩
    have hT2 : h''.get? s.heap.objs.size = some { cls := .type "tuple", data := .seq #[.str ⟨#[c]⟩ uu, v] } := (sb.2 _ (Nat.ne_of_gt hzl)).trans hTT
    have new : ObjOk X.prog X.w (upd H s.heap.objs.size (.tup [.str ⟨#[c]⟩, y])) h'' s.heap.objs.size (.tup [.str ⟨#[c]⟩, y]) :=
      ⟨by show 2 ≤ sizeLine; decide, [.str ⟨#[c]⟩ uu, v], .cons ⟨uu, rfl⟩ (.cons ru2 .nil), ⟨_, hT2, rfl, _, rfl⟩⟩
    have I1 : L2.Inv X pins σ (upd H s.heap.objs.size (.tup [.str ⟨#[c]⟩, y])) { s with heap := h'', toks := tk } :=
      I.turnedNew (t' := tk) (ch := [z, TI, TO, i1, i2]) (fun c o hb q => (sb.2 c (fun q' => hb (by simp [q']))).trans (hk c o (fun q' => hb (by simp [q'])) (fun q' => hb (by simp [q'])) (fun q' => hb (by simp [q'])) (fun q' => hb (by simp [q'])) q)) hf (Nat.le_refl _) new
    refine ⟨.ref s.heap.objs.size, _, I1, rfl, ⟨_, c, y, rfl, I.hok.fresh (Nat.le_refl _), rfl, hcx, fun l hl => by rw [I.list_inj hl hqy]; exact hy⟩, ⟨z'', ?_, ⟨.str ⟨#[c]⟩ uu, v, ?_⟩, ?_, ?_⟩, fun c' hcm => ?_⟩
    · exact (sb.2 _ D.TIz).trans (hk _ _ D.TIz D.TITO D.TIi1 D.TIi2 hTI)
    · exact (sb.2 _ D.TOz).trans TO'
    · obtain ⟨o, e, r⟩ := h1'
      exact ⟨o, (sb.2 _ D.i1z).trans e, r⟩
    · exact h2'.1.at fun o q => (sb.2 _ D.i2z).trans q
    · have hlt : c' < s.heap.objs.size := by
        have e' : c' = z ∨ c' = TI ∨ c' = TO ∨ c' = i1 ∨ c' = i2 := by simpa using hcm
        rcases e' with q | q | q | q | q
        · rw [q]; exact hzl
        · rw [q]; exact Heap.lt_size hTI
        · rw [q]; exact Heap.lt_size hTO
        · rw [q]; obtain ⟨_, e1, _⟩ := h1; exact Heap.lt_size e1
        · rw [q]; obtain ⟨_, e2, _⟩ := h2; exact Heap.lt_size e2
      rw [upd_ne (Nat.ne_of_lt hlt)]
      exact (hf c' hcm).1
  done := by
    intro X hP hw hK hc i pins s σ H E I hf st hg
    subst hP hw hK
    obtain ⟨hz, hTI, ⟨x0, y0, hTO⟩, h1, h2⟩ := st
    have hi : i = x.cps.size := hg
    subst hi
    have hT : s.TypeIs (.ref z) "zip" := ⟨_, hz, rfl⟩
    unfold pyNext
    refine wpAny_bind (wpAny_attempt (wpAny_callSpecial?_slot (name := Str.ofString "__next__") hT F.slot_zip_next
      (wpAny_call_entry F.slot_zip_next hT F.entry_zip_next (zipD_end (A := X.A.in1) D (Draws.strU (prog := X.prog) (w := X.w) (A := X.A.in1) (I.ok.hd hc) i1 x t) hz hTI hTO h1 fun h' e hk he => ?_) (F.args_zip_next_1 _))))
    obtain ⟨o, ho, hce⟩ := he
    refine wpAny_bind (wpAny_isInstance (T := "StopIteration") (b := true) ⟨o, ho, hce⟩ isSubtype_stop ?_)
    exact wpAny_pure ⟨rfl, I.turnedL (t' := s.toks) (ch := [z, TI, TO, i1, i2]) (fun c o hb q =>
      hk c o (fun q' => hb (by simp [q'])) (fun q' => hb (by simp [q'])) (fun q' => hb (by simp [q'])) (fun q' => hb (by simp [q'])) q) hf⟩
  self := fun A i s Q E st h => wpAny_pyIter_zip st.1 h
def iZs (K : PySem.W.Frag) (ta : TA) : TI := fun σ H R => ta σ H fun vs H1 => ∃ x b ys, vs = [.str x, .ref b] ∧ SqL K H1 b ys ∧ R (Itzs K x b) H1
theorem pi_zs {X : Cx} {e e2 : Expr} {ta : TA} {p pos tpos : Pos} {elts : List Expr} {kk : Nat} (hg : Gl X "zip") (hm : X.mg "zip" = none) (ha : PA X [e, e2] ta)
    (hs : starEach [e, e2] X.env = (false, eval e X.env) :: starEach [e2] X.env := by rfl) (hpl : (backTo pos (starEach [e2] X.env)).any (·.1) = false := by rfl) :
    PI X (.Tuple elts kk tpos) (.Call (.Name "zip" p) [e, e2] [] pos) (iZs X.K ta) := by
  intro pins s σ H R I h
  refine Call_ (ld_blt I hg hm boot_zip5 (PyProof.Rows.callWith_type1 (thn (ha pos pins s σ H _ I h) fun us s1 ⟨vs, H1, I1, r1, q1⟩ => ?_) hs hpl))
  obtain ⟨x, b, ys, ex, hqy, q⟩ := q1
  subst ex
  cases r1 with
  | cons r rr =>
    cases rr with
    | cons r' rr =>
      cases rr
      obtain ⟨t, rfl⟩ := r
      cases r'
      obtain ⟨its2, rv2, p2, _⟩ := I1.list hqy
      have lb : b < s1.heap.objs.size := p2.lt
      refine call_zip_sl p2.isList fun h' hz hTI hTO h1 h2 hsz hk => wpAny_pyIter_zip hz ?_
      have I2 : L2.Inv X pins σ H1 { s1 with heap := h' } := I1.kept (t' := s1.toks) hk
      have far : ZipFar (s1.heap.objs.size + 4) (s1.heap.objs.size + 2) (s1.heap.objs.size + 3) s1.heap.objs.size (s1.heap.objs.size + 1) [s1.heap.objs.size] [s1.heap.objs.size + 1, b] := by
        have nb : ∀ k : Nat, s1.heap.objs.size + k ≠ b := fun k => Nat.ne_of_gt (Nat.lt_of_lt_of_le lb (Nat.le_add_right _ _))
        have nb0 : s1.heap.objs.size ≠ b := Nat.ne_of_gt lb
        refine ⟨by simp, by simp, by simp, by simp, by simp, by simp, by simp, by simp, by simp, by simp, by simp, by simp, by simp [nb], by simp [nb], by simp [nb0]⟩
      refine ⟨s1.heap.objs.size + 4, [s1.heap.objs.size + 4, s1.heap.objs.size + 2, s1.heap.objs.size + 3, s1.heap.objs.size, s1.heap.objs.size + 1], _, _, H1, rfl, I2, turn_zs far, ⟨hz, hTI, ⟨_, _, hTO⟩, h1, h2⟩, fun c hcm => ?_, q⟩
      have e' : c = s1.heap.objs.size + 4 ∨ c = s1.heap.objs.size + 2 ∨ c = s1.heap.objs.size + 3 ∨ c = s1.heap.objs.size ∨ c = s1.heap.objs.size + 1 := by simpa using hcm
      have hle : s1.heap.objs.size ≤ c := by
        rcases e' with z | z | z | z | z <;> rw [z] <;> first | exact Nat.le_refl _ | exact Nat.le_add_right _ _
      exact I1.fpOk hle (I1.hok.fresh hle)
end HX
end
section
set_option Elab.async false
set_option linter.all false
set_option maxRecDepth 100000
set_option maxHeartbeats 4000000
namespace PySem
open Sem (wp)
open AutoSeq1 (wpAny_loadPart')
section
variable {prog : Program} {w : World} {A : Around} {E : Value → Shared → Prop} {s : Shared}
theorem callType_meetsK {T newId initId : String} {Bn Bi : Builtin} {args : List Value} {kw : List (Str × Value)} {S : Spec} {Q Q₁ : Value → Shared → Prop} (ft : TypeCalled T newId initId)
    (hct : checkTypeCall T ⟨args, kw⟩ = pure ()) (hcn : checkBuiltinCall newId ⟨.type T :: args, kw⟩ = pure ())
    (entryN : entryFor table newId = some Bn) (entryI : entryFor table initId = some Bi) (g : Meets (Bn ⟨.type T :: args, kw⟩) S)
    (h : S A.in1 (wants Q₁ E) s)
    (hnext : ∀ obj s₁, Q₁ obj s₁ → s₁.TypeIs obj T ∧ argsOk initId ⟨obj :: args, kw⟩ ∧ ∃ Si, Meets (Bi ⟨obj :: args, kw⟩) Si ∧ Si A.in1 (wants (fun r s₂ => r = .none ∧ Q obj s₂) E) s₁) :
    wpAny (model prog w) A (call (.type T) args kw) Q E s := by
  obtain ⟨c, tl, hmro⟩ := ft.mro
  have hmade := ft.made
  have hsub := ft.sub
  refine wpAny_call (codeAny_of_tree ?_)
  show wpAny _ _ (callAny (.type T) _) _ _ _
  refine wpAny_pure ⟨Code.quiet_builtin _ (by decide +kernel), codeAny_builtin F.entry_type_call ?_⟩
  rw [Around.under_plain (weight_type_call_type T args kw) (units_type_call_type T args kw)]
  have h1 := ft.notType
  have h2 := ft.canCreate
  repeat (any_goals (first | assumption | wp_step))
  refine codeAny_mono (codeAny_call_builtin ft.plain entryN (wpAny_of_eq hcn (g prog w A.in1 _ s h))) fun r s₁ hr => ?_
  cases r with
  | error e => exact hr
  | ok fl =>
    cases fl with
    | ret obj =>
      obtain ⟨hT, hok, Si, gi, hsi⟩ := hnext _ _ hr
      have hli := ft.init.lookup
      have hbi := ft.init.bind obj
      repeat (any_goals (first | assumption | wp_step))
      refine codeAny_mono (codeAny_call_builtin ft.init.plain entryI (ft.init.check _ _ _ _ _ _ _ _ hT hok (gi prog w A.in1 _ s₁ hsi))) fun r₂ s₂ hr₂ => ?_
      cases r₂ with
      | error e => exact hr₂
      | ok fl₂ =>
        cases fl₂ with
        | ret r =>
          obtain ⟨rfl, hq⟩ := hr₂
          repeat (any_goals (first | assumption | wp_step))
        | _ => exact hr₂.elim
    | _ => exact hr.elim
theorem object_init_meetsK {T newId : String} {self a : Value} {rest : List Value} {kw : List (Str × Value)} (hl : typeLookup (.type T) "__init__" = pure (some (.builtin "object.__init__")))
    (hm : Bind.madeBy (.type T) = pure (some newId)) (hne : (some newId != some "object.__new__") = true) :
    Meets (Builtin.«object.__init__» ⟨self :: a :: rest, kw⟩) (fun _ R s => s.TypeIs self T ∧ R (.ok (.ret .none)) s) := by
  refine Meets.of_wp fun prog w A R s hs => ?_
  obtain ⟨hT, hq⟩ := hs
  repeat (any_goals (first | assumption | wp_step))
  exact ⟨_, rfl, hq⟩
theorem F.typeCall_enum_k (a b : Value) : checkTypeCall "enumerate" ⟨[a], [("start", b)]⟩ = pure () := by kernel_rfl
theorem F.newCall_enum_k (a b : Value) : checkBuiltinCall "enumerate.__new__" ⟨[.type "enumerate", a], [("start", b)]⟩ = pure () := by kernel_rfl
theorem F.args_init_k (obj a b : Value) : argsOk "object.__init__" ⟨[obj, a], [("start", b)]⟩ := by
  unfold argsOk; rw [signature?_of (id := "object.__init__") (n := ['_', '_', 't', 'i', 'n', 'i', '_', '_']) (o := ['t', 'c', 'e', 'j', 'b', 'o']) (by kernel_rfl) F.owner_object]; kernel_rfl
end
theorem meets_enum_newK (l : Addr) (items : Array Value) (n : Nat) (dct : Option Addr) (sl : Array (Option Value)) (k : Tok) :
    Meets (Builtin.«enumerate.__new__» ⟨[.type "enumerate", .ref l], [("start", .int 1 k)]⟩) (fun _ R s => s.heap.get? l = some { cls := .type "list", dict := dct, data := .seq items n, slots := sl } ∧
      R (.ok (.ret (.ref (s.heap.push { cls := .type "list_iterator", data := .fields #[.ref l, .int 0 0] }).objs.size)))
        { s with heap := (s.heap.push { cls := .type "list_iterator", data := .fields #[.ref l, .int 0 0] }).push { cls := .type "enumerate", data := .fields #[.none, .bool false, .ref s.heap.objs.size, rawInt 1, .none, .none] } }) :=
  .of_wp fun prog w A R s h => by
    obtain ⟨hp, g, d, tk, os⟩ := s; obtain ⟨hl, h⟩ := h
    have hsub := sub_enumerate
    have hL : Heap.IsList (Shared.heap ⟨hp, g, d, tk, os⟩) l items := ⟨_, hl, rfl, n, rfl⟩
    wp_walk using wpAny_loadPart' hl
    refine wpAny_stack_any fun st => wpAny_pure ?_
    split
    · rename_i c _ _ _ _ _
      cases (c == Value.type "enumerate")
      · wp_walk using wpAny_loadPart' hl, wpAny_pyIter_list hL
        exact ⟨_, rfl, h⟩
      · wp_walk using wpAny_loadPart' hl, wpAny_pyIter_list hL
        exact ⟨_, rfl, h⟩
    · wp_walk using wpAny_loadPart' hl, wpAny_pyIter_list hL
      exact ⟨_, rfl, h⟩
section
variable {prog : Program} {w : World} {A : Around} {E : Value → Shared → Prop} {s : Shared}
theorem call_enum_start1 {l : Addr} {items : Array Value} {k : Tok} {Q : Value → Shared → Prop} (hL : s.heap.IsList l items)
    (h : ∀ h', IsEnum h' (s.heap.objs.size + 1) s.heap.objs.size 1 .none → h'.IsListIter s.heap.objs.size l 0 → h'.objs.size = s.heap.objs.size + 2 →
      (∀ b o, s.heap.get? b = some o → h'.get? b = some o) → Q (.ref (s.heap.objs.size + 1)) { s with heap := h' }) :
    wpAny (model prog w) A (call (.type "enumerate") [.ref l] [("start", .int 1 k)]) Q E s := by
  obtain ⟨⟨c, dct, dt, sl⟩, hl, hc, n, hd⟩ := hL
  replace hc : c = .type "list" := hc
  replace hd : dt = .seq items n := hd
  subst hc hd
  refine callType_meetsK (Q₁ := fun obj s₁ => s₁.TypeIs obj "enumerate" ∧ Q obj s₁) F.called_enumerate (F.typeCall_enum_k _ _) (F.newCall_enum_k _ _) F.entry_enumerate_new F.entry_object_init (meets_enum_newK l items n dct sl k) ⟨hl, ?_⟩
    fun obj s₁ hq => ⟨hq.1, F.args_init_k obj _ _, _, object_init_meetsK F.called_enumerate.init.lookup F.called_enumerate.made (by decide), hq.1, rfl, hq.2⟩
  have hz : (s.heap.push { cls := .type "list_iterator", data := .fields #[.ref l, .int 0 0] }).objs.size = s.heap.objs.size + 1 := Heap.size_push ..
  show _ ∧ _
  rw [hz]
  have he : IsEnum ((s.heap.push { cls := .type "list_iterator", data := .fields #[.ref l, .int 0 0] }).push
      { cls := .type "enumerate", data := .fields #[.none, .bool false, .ref s.heap.objs.size, rawInt 1, .none, .none] }) (s.heap.objs.size + 1) s.heap.objs.size 1 .none := by
    have := Heap.get?_push_size (s.heap.push { cls := .type "list_iterator", data := .fields #[.ref l, .int 0 0] })
      (o := { cls := .type "enumerate", data := .fields #[.none, .bool false, .ref s.heap.objs.size, rawInt 1, .none, .none] }) rfl
    rw [hz] at this; exact this
  refine ⟨⟨_, he, rfl⟩, h _ he ⟨_, Heap.get?_push_of_some _ (Heap.get?_push_size _ rfl), rfl, rfl⟩ (by rw [Heap.size_push, hz]) fun b o x => Heap.get?_push_of_some _ (Heap.get?_push_of_some _ x)⟩
/-- the list's items, counted from 1 on -/
theorem Draws.list1 (hh : A.handled = none) (it l : Addr) (hne : l ≠ it) (items : Array Value) :
    Draws prog w A it [it, l] (items.size + 1) (fun i v => items[i - 1]? = some v) (fun i h => 1 ≤ i ∧ h.IsListIter it l (i - 1) ∧ h.IsList l items) where
  live := fun _ _ st => let ⟨o, ho, _⟩ := st.2.1; ⟨o, ho⟩
  frame := fun _ _ _ st hk => ⟨st.1, st.2.1.at fun o e => hk it (by simp) o e, st.2.2.at fun o e => hk l (by simp) o e⟩
  item := fun i s Q E hi st hQ => by
    have h1 := st.1
    have hi' : i - 1 < items.size := by omega
    refine wpAny_nextOf_list_item st.2.1 st.2.2 (x := items[i - 1]) (by simp [hi']) fun h' hit' hs' => ?_
    exact hQ _ h' s.toks (by simp [hi']) ⟨by omega, by rw [show i + 1 - 1 = i - 1 + 1 by omega]; exact hit', st.2.2.extBut hs'.extBut hne⟩ hs'
  done := fun s Q E st hE => wpAny_nextOf_list_end hh st.2.1 st.2.2 (by simp) hE
end
end PySem
namespace HX
open PySem PySem.Spec PyProof.Rows L2
/-- the list at a, each item in a new pair with its number from 1 on -/
def Ite1 (K : PySem.W.Frag) (a : Addr) : It :=
  ⟨fun i H => ∃ (xs : List V) (x : V), SqL K H a xs ∧ xs[i]? = some x, fun i H v H' => ∃ T x, v = .ref T ∧ H T = none ∧ H' = upd H T (.tup [.int ((i + 1 : Nat) : Int), x]) ∧ ∀ xs, SqL K H a xs → xs[i]? = some x, fun i H => ∃ xs : List V, SqL K H a xs ∧ xs.length = i⟩
theorem turn_enum1 {P : Program} {w : World} {K : PySem.W.Frag} {elts : List Expr} {kk : Nat} {tpos : Pos} (a e it : Addr) (hai : a ≠ it) (hea : e ≠ a) :
    Turn P w K (.Tuple elts kk tpos) (Ite1 K a) [e, it] e (fun i h => (∃ old, IsEnum h e it ((i + 1 : Nat) : Int) old) ∧ h.IsListIter it a i ∧ e ≠ it) where
  mem := by simp
  obj := fun i h st b hb => by
    obtain ⟨⟨old, he⟩, ⟨o, ho, hc, hd⟩, _⟩ := st
    have e' : b = e ∨ b = it := by simpa using hb
    rcases e' with z | z
    · rw [z]; exact ⟨_, he, fun v q => nomatch q⟩
    · rw [z]; exact ⟨o, ho, fun v q => by rw [hd] at q; cases q⟩
  keep := fun i h h' st k => let ⟨⟨old, he⟩, hi, hne⟩ := st; ⟨⟨old, k e (by simp) _ he⟩, hi.at fun o q => k it (by simp) o q, hne⟩
  item := by
    intro X hP hw hK hc i pins s σ H E I hf st hg
    subst hP hw hK
    obtain ⟨⟨old, he⟩, hit, hne⟩ := st
    obtain ⟨xs, x, hq, hx⟩ := hg
    obtain ⟨its, rv, p, hz⟩ := I.list hq
    obtain ⟨u, hu, ru⟩ := rv.get hx
    have hel : e < s.heap.objs.size := Heap.lt_size he
    have hil : it < s.heap.objs.size := by obtain ⟨_, q, _⟩ := hit; exact Heap.lt_size q
    have hlt : i + 1 < its.toArray.size + 1 := by
      have := (List.getElem?_eq_some_iff.mp hu).1
      simp
      omega
    have D := Draws.list1 (prog := X.prog) (w := X.w) (A := X.A.in1) (I.ok.hd hc) it a hai its.toArray
    refine wpAny_pyNext_enum_itemD D he ⟨by omega, by rw [Nat.add_sub_cancel]; exact hit, p.isList⟩ hlt hne (by simp [hne, hea]) fun y h' tk hPy ho hst' hT hsz hk => ?_
    rw [Nat.add_sub_cancel] at hPy
    have ey : y = u := by
      have q : its.toArray[i]? = some u := by simpa using hu
      rw [q] at hPy
      exact (Option.some.inj hPy).symm
    subst ey
    refine ⟨_, rfl, wpAny_letOwnedTupleGo_enum (s := { s with heap := h', toks := tk + 1 }) ho fun h'' he' sb => ?_⟩
    have hT2 : h''.get? s.heap.objs.size = some { cls := .type "tuple", data := .seq #[.int ((i + 1 : Nat) : Int) tk, y] } := (sb.2 _ (Nat.ne_of_gt hel)).trans hT
    have new : ObjOk X.prog X.w (upd H s.heap.objs.size (.tup [.int ((i + 1 : Nat) : Int), x])) h'' s.heap.objs.size (.tup [.int ((i + 1 : Nat) : Int), x]) :=
      ⟨by show 2 ≤ sizeLine; decide, [.int ((i + 1 : Nat) : Int) tk, y], .cons ⟨_, rfl⟩ (.cons ru .nil), ⟨_, hT2, rfl, _, rfl⟩⟩
    have I1 : L2.Inv X pins σ (upd H s.heap.objs.size (.tup [.int ((i + 1 : Nat) : Int), x])) { s with heap := h'', toks := tk + 1 } :=
      I.turnedNew (ch := [e, it]) (fun b ob hb q => (sb.2 b (fun z => hb (by simp [z]))).trans (hk b ob (fun z => hb (by simp [z])) (fun z => hb (by simp [z])) q)) hf (Nat.le_refl _) new
    refine ⟨.ref s.heap.objs.size, _, I1, rfl, ⟨_, x, rfl, I.hok.fresh (Nat.le_refl _), rfl, fun ys hy => by rw [I.list_inj hy hq]; exact hx⟩, ⟨⟨y, ?_⟩, ?_, hne⟩, fun b hb => ?_⟩
    · have e1 : ((i + 1 + 1 : Nat) : Int) = ((i + 1 : Nat) : Int) + 1 := by omega
      rw [e1]; exact he'
    · have := hst'.2.1
      rw [Nat.add_sub_cancel] at this
      exact this.at fun o q => (sb.2 it (Ne.symm hne)).trans q
    · have hb' : b < s.heap.objs.size := by
        have e' : b = e ∨ b = it := by simpa using hb
        rcases e' with z | z
        · rw [z]; exact hel
        · rw [z]; exact hil
      rw [upd_ne (Nat.ne_of_lt hb')]
      exact (hf b hb).1
  done := by
    intro X hP hw hK hc i pins s σ H E I hf st hg
    subst hP hw hK
    obtain ⟨⟨old, he⟩, hit, hne⟩ := st
    obtain ⟨xs, hq, hx⟩ := hg
    obtain ⟨its, rv, p, hz⟩ := I.list hq
    obtain ⟨f0, f1, f2, f3, f4, f5⟩ := hf it (by simp)
    have hl := rv.length
    have D := Draws.list1 (prog := X.prog) (w := X.w) (A := X.A.in1) (I.ok.hd hc) it a hai its.toArray
    refine wpAny_pyNext_enum_endD D he ⟨by omega, ?_, p.isList⟩ fun h' eb => ⟨rfl, I.turned (t' := s.toks) (fun b o hb q => eb b o hb q) f0 f1 f3 f4 f5⟩
    rw [Nat.add_sub_cancel, List.size_toArray, ← hl, hx]
    exact hit
  self := fun A i s Q E st h => let ⟨⟨_, he⟩, _⟩ := st; wpAny_pyIter_enum he h
def iEnum1 (K : PySem.W.Frag) (ta : TA) : TI := fun σ H R => ta σ H fun vs H1 => ∃ a xs, vs = [.ref a] ∧ SqL K H1 a xs ∧ R (Ite1 K a) H1
theorem callWith_typeK {M : Model} {A : Around} {E : Value → Shared → Prop} {s : Shared} {pos : Pos} {T : String} {first : List Value} {args : List (Bool × Sem Value)} {keywords : List (Option Str × Sem Value)} {Q : Value → Shared → Prop}
    (hplain : args.any (·.1) = false) (hkw : keywords.any (·.1.isNone) = false)
    (h : wpAny M A (evalArgs (.type T) true args keywords) (fun a s₁ => wpAny M A (call (.type T) (first ++ a.pos) a.kw) Q E s₁) E s) :
    wpAny M A (callWith pos (.type T) first args keywords) Q E s := by
  unfold callWith
  refine wpAny_bind (wpAny_holding (wpAny_mono h (fun a s₁ h₁ => wpAny_bind (wpAny_standAt ?_)) fun _ _ x => x))
  simp only [hplain, hkw, Bool.or_false]
  refine wpAny_bind (wpAny_pure ?_)
  exact wpAny_bind (wpAny_mono h₁ (fun r s₂ hr => wpAny_bind (wpAny_holding (wpAny_point (wpAny_pure hr)))) fun _ _ x => x)
theorem pi_enum1 {X : Cx} {e : Expr} {ta : TA} {j : Nat} {p pos tpos kp cp : Pos} {elts : List Expr} {kk : Nat} (hg : Gl X "enumerate") (hm : X.mg "enumerate" = none) (ha : PA X [e] ta) (hs : starEach [e] X.env = [(false, eval e X.env)] := by rfl) :
    PI X (.Tuple elts kk tpos) (.Call (.Name "enumerate" p) [e] [⟨some "start", .Constant (.int 1) j cp, kp⟩] pos) (iEnum1 X.K ta) := by
  intro pins s σ H R I h
  refine wpAny_Call_Name_kw (ld_blt I hg hm boot_enumerate ?_)
  have hs' : backTo pos (starEach [e] X.env) = [(false, eval e X.env)] := by rw [hs]; rfl
  refine callWith_typeK (by rw [hs']; rfl) rfl ?_
  have h1 := ha pos pins s σ H _ I h
  rw [hs'] at h1 ⊢
  refine PyProof.Rows.evalArgs_kwB rfl (thn h1 fun us s1 ⟨vs, H1, I1, r1, q1⟩ => ?_)
  refine PyProof.Rows.kws_cons (wpAny_Constant_int (PyProof.Rows.kws_nil ?_))
  have I1' : L2.Inv X pins σ H1 { s1 with toks := s1.toks + 1 } := I1.tok _
  obtain ⟨a, xs, ex, hq, q⟩ := q1
  subst ex
  cases r1 with
  | cons r rr =>
    cases rr
    cases r
    obtain ⟨its, rv, p', hz⟩ := I1'.list hq
    have la : a < s1.heap.objs.size := p'.lt
    refine call_enum_start1 (s := { s1 with toks := s1.toks + 1 }) p'.isList fun h' he hit hsz hk => wpAny_pyIter_enum he ?_
    have I2 : L2.Inv X pins σ H1 { s1 with heap := h', toks := s1.toks + 1 } := I1.kept (t' := s1.toks + 1) hk
    refine ⟨s1.heap.objs.size + 1, [s1.heap.objs.size + 1, s1.heap.objs.size], _, _, H1, rfl, I2, turn_enum1 a (s1.heap.objs.size + 1) s1.heap.objs.size (Nat.ne_of_lt la) (Nat.ne_of_gt (Nat.lt_succ_of_lt la)), ⟨⟨.none, he⟩, hit, Nat.succ_ne_self _⟩, fun b hb => ?_, q⟩
    have e' : b = s1.heap.objs.size + 1 ∨ b = s1.heap.objs.size := by simpa using hb
    have hle : s1.heap.objs.size ≤ b := by
      rcases e' with z | z
      · rw [z]; exact Nat.le_add_right _ _
      · rw [z]; exact Nat.le_refl _
    exact I1.fpOk hle (I1.hok.fresh hle)
end HX
end
section
set_option Elab.async false
set_option linter.all false
set_option maxRecDepth 100000
set_option maxHeartbeats 4000000
namespace HX
open PySem PySem.Spec PyProof.Rows L2
section
variable {X : Cx}
/-- list(text) -/
theorem call_listS (hc : X.calm = true) : CallR X (.type "list") (fun xs H Q => ∃ l, xs = [.str (S l)] ∧ l.length ≤ 1000000 ∧ ∀ p, H p = none → Q (.ref p) (upd H p (.lst (l.map fun c => V.str (S [c]))))) := by
  intro pins s σ H xs us Q I r h
  obtain ⟨l, rfl, hl, q⟩ := h
  obtain ⟨u, rfl, rx⟩ := vals1 r
  obtain ⟨t, rfl⟩ := rx
  have hz : l.length ≤ sizeLine := Nat.le_trans hl (by decide)
  refine call_list_str (I.ok.hd hc) (S l) t (fun h' tk acc' c' hk hS' hacc => ?_) (by show (S l).length ≤ sizeLine; rw [S_len]; exact hz)
  refine ⟨.ref s.heap.objs.size, _, I.laid (t' := tk) hk (Nat.le_refl _) (show ObjOk X.prog X.w _ h' _ (.lst (l.map fun c => V.str (S [c]))) from ⟨by rw [List.length_map]; exact hz, acc'.toList, c', ?_, by simpa using hS'⟩), rfl, q _ (I.hok.fresh (Nat.le_refl _))⟩
  have hsz : acc'.toList.length = l.length := by
    have := hacc.1
    simp [S] at this
    simpa using this
  have key : ∀ (m : List Nat) (vs : List Value), m.length = vs.length → (∀ (j : Nat) (v : Value), vs[j]? = some v → ∃ (c : Nat) (u : Tok), m[j]? = some c ∧ v = Value.str ⟨#[c]⟩ u) → Vals (m.map fun c => V.str (S [c])) vs := by
    intro m
    induction m with
    | nil =>
      intro vs hv _
      cases vs with
      | nil => exact .nil
      | cons v vs => simp at hv
    | cons a m ih =>
      intro vs hv hP
      cases vs with
      | nil => simp at hv
      | cons v vs =>
        obtain ⟨c, u, h1, h2⟩ := hP 0 v rfl
        have e : a = c := Option.some.inj h1
        subst e
        refine .cons ⟨u, h2⟩ (ih vs (by simpa using hv) fun j w hj => ?_)
        exact hP (j + 1) w hj
  refine key l acc'.toList hsz.symm fun j v hj => ?_
  obtain ⟨c, u, h1, h2⟩ := hacc.2 j v (by simpa using hj)
  exact ⟨c, u, by simpa [S] using h1, h2⟩
end
end HX
end
section
set_option Elab.async false
set_option linter.all false
set_option maxRecDepth 100000
set_option maxHeartbeats 4000000
namespace HW
open PySem PySem.Spec PyProof.Rows L2 HX
/-! ### The text by places -/
def top (i : Nat) : Stmt := PySem.Challenge.pw_hiddenwords_s01_answers.main.body.getD i (.Pass ⟨0, 0, 0, 0⟩)
abbrev sAreLetters : Stmt := top 12
abbrev sTextOf : Stmt := top 13
abbrev sBytesOf : Stmt := top 14
abbrev sBackwards : Stmt := top 15
abbrev sLinesOf : Stmt := top 16
abbrev sIsWord : Stmt := top 17
abbrev sHasTwins : Stmt := top 18
abbrev sListRefusal : Stmt := top 19
/-- a constant of the module -/
def Gv (mg : Str → Option Value) (x : Str) (v : V) : Prop := ∃ u, mg x = some u ∧ RelV v u
theorem pe_gv {X : Cx} {x : Str} {v : V} {pos : Pos} (hg : Gl X x) (h : Gv X.mg x v) (hd : (x == ("__debug__" : Str)) = false := by decide) : PE X (.Name x pos) (tC v) := by
  obtain ⟨u, hm, r⟩ := h
  exact pe_glob hg hm r hd
structure Cst (mg : Str → Option Value) : Prop where
  letters : Gv mg "LETTERS" (.str "abcdefghijklmnopqrstuvwxyz")
  first : Gv mg "FIRST_LETTER" (.int 97)
  last : Gv mg "LAST_LETTER" (.int 122)
  lend : Gv mg "LINE_END" (.int 10)
  shortest : Gv mg "SHORTEST_WORD" (.int 2)
  longest : Gv mg "LONGEST_WORD" (.int 8)
  mostw : Gv mg "MOST_WORDS" (.int 12)
  noref : Gv mg "NO_REFUSAL" (.int 0)
  badline : Gv mg "BAD_LINE" (.int (-1000))
  badcount : Gv mg "BAD_COUNT" (.int (-28))
  twice : Gv mg "LISTED_TWICE" (.int (-17))
  all : mg "all" = none
  len : mg "len" = none
  enumerate : mg "enumerate" = none
  reversed : mg "reversed" = none
/-- a row of bytes as values -/
def iv (l : List Nat) : List V := l.map fun (n : Nat) => V.int (n : Int)
theorem iv_get {l : List Nat} {i : Nat} {x : V} (h : (iv l)[i]? = some x) : ∃ n, l[i]? = some n ∧ x = V.int (n : Int) := by
  unfold iv at h
  rw [List.getElem?_map] at h
  cases e : l[i]? with
  | none => rw [e] at h; cases h
  | some n => rw [e] at h; exact ⟨n, rfl, (Option.some.inj h).symm⟩
theorem iv_len {l : List Nat} : (iv l).length = l.length := by simp [iv]
theorem take_snoc {α : Type} : ∀ {l : List α} {i : Nat} {x : α}, l[i]? = some x → l.take (i + 1) = l.take i ++ [x]
  | [], i, x, h => by simp at h
  | a :: l, 0, x, h => by
    have e : a = x := Option.some.inj h
    subst e
    rfl
  | a :: l, i + 1, x, h => by
    have ih := take_snoc (l := l) (i := i) (x := x) h
    show a :: l.take (i + 1) = a :: l.take i ++ [x]
    rw [ih]
    rfl
theorem same_new {H H' : Hp} {a : Addr} {o : HO} (s : Same H H') (n : H a = none) : Same H (upd H' a o) := fun b u e => by
  rw [upd_ne (ne_of_none e n)]
  exact s b u e
/-! ### A comprehension that gives one value for each item -/
def LcP (H1 : Hp) (D : Addr) (ys : List V) (i : Nat) (H' : Hp) : Prop := Same H1 H' ∧ H' D = some (.lst (ys.take i))
theorem LcP.fin {H1 H' H4 : Hp} {D : Addr} {ys : List V} {i : Nat} {y : V} (hD : H1 D = none) (hz : ys.length ≤ sizeLine) (p : LcP H1 D ys i H') (s : Same H' H4) (hy : ys[i]? = some y) :
    ∃ acc, H4 D = some (.lst acc) ∧ acc.length < sizeLine ∧ LcP H1 D ys (i + 1) (upd H4 D (.lst (acc ++ [y]))) := by
  obtain ⟨hi, _⟩ := List.getElem?_eq_some_iff.mp hy
  refine ⟨_, s _ _ p.2, ?_, same_new (p.1.trans s) hD, ?_⟩
  · rw [List.length_take]
    omega
  · rw [upd_same, take_snoc hy]
theorem lc_map {K : PySem.W.Frag} {a : Addr} {xs ys : List V} {g : TG} {te : TE} {vs : List Nat} {σ : L2.St} {H1 : Hp} {D : Addr} {Qd : Hp → Prop} (hD : H1 D = none) (hx : SqL K H1 a xs) (hle : ys.length = xs.length)
    (hs : ∀ i x H, xs[i]? = some x → LcP H1 D ys i H → g x (wipe σ vs) H fun σ2 H2 => wipe σ2 vs = wipe σ vs ∧ te σ2 H2 fun y H4 => ∃ acc, H4 D = some (.lst acc) ∧ acc.length < sizeLine ∧ LcP H1 D ys (i + 1) (upd H4 D (.lst (acc ++ [y]))))
    (hd : ∀ H, Same H1 H → H D = some (.lst ys) → Qd H) :
    ∃ W : Nat → Nat → Hp → Prop, (∃ m, W 0 m (upd H1 D (.lst []))) ∧ ∀ i m H, W i m H →
      ((Itl K a).stop i H ∧ Qd H) ∨ ((Itl K a).go i H ∧ ∃ Nx : Hp → Prop, (∀ H', Nx H' → ∃ m', m' < m ∧ W (i + 1) m' H') ∧ ∀ x H', (Itl K a).yld i H x H' → g x (wipe σ vs) H' fun σ2 H2 => wipe σ2 vs = wipe σ vs ∧ tYes σ2 H2 fun b H3 =>
        if b = true then te σ2 H3 fun y H4 => ∃ acc, H4 D = some (.lst acc) ∧ acc.length < sizeLine ∧ Nx (upd H4 D (.lst (acc ++ [y]))) else Nx H3) :=
  lc_list (LcP H1 D ys) ⟨same_new (Same.refl H1) hD, upd_same⟩ (fun i H' _ p => p.1.seq hx) (fun i x H' h p => hs i x H' h p) (fun H' p => hd H' p.1 (by have := p.2; rw [← hle, List.take_length] at this; exact this))
section
variable {P : Program} {w : World} {K : PySem.W.Frag} {mg : Str → Option Value} {base : Heap}
def spAreLetters (K : PySem.W.Frag) : Sp := fun vs H Q _ => ∃ (a : Addr) (l : List Nat), vs = [.ref a] ∧ SqL K H a (iv l) ∧ l.length ≤ 30000 ∧ ∀ H', Same H H' → Q (.bl (l.all Ks331.isLetter)) H'
theorem scAreLetters : FnScope ["row", "byte"] ["row"] (defScope sAreLetters) := ⟨rfl, rfl, rfl, by decide +kernel, rfl, by decide +kernel, by decide +kernel⟩
theorem ok_areLetters {f : Addr} {fd : FuncData} (F : Fun K "are_letters" "are_letters" sAreLetters f fd) (T : Cst mg) : FnOk P w K mg base CX0 1 f fd ["row"] (spAreLetters K) := by
  refine F.ok scAreLetters (fun vs H Q E h => ?_) (fun cdv A outer s H vs Q E hr h => ?_)
  · obtain ⟨a, l, rfl, _⟩ := h
    rfl
  · obtain ⟨a, l, rfl, hS, hl, k⟩ := h
    refine ⟨_, pss_one (ps_ret (pe_callB (cr_all rfl) rfl T.all (by decide +kernel) (pa_cons (pe_lc (own := [("byte", 1)]) rfl scAreLetters.nd (pi_list (pv 0)) (blkOk_by rfl)
      (fun s H C cl fp => pg_name (i := 1) scAreLetters.nd rfl (Or.inl rfl)) (fun s H C cl fp => pts_nil) (fun s H C cl fp => pe_chain op_le op_le (pe_gv rfl T.first) (pv 1) (pe_gv rfl T.last))) pa_nil))), ?_⟩
    have hz : (l.map Ks331.isLetter |>.map V.bl).length ≤ sizeLine := by
      rw [List.length_map, List.length_map]
      exact Nat.le_trans hl (by decide)
    refine ⟨_, rfl, a, rfl, ⟨_, hS⟩, fun D hD => lc_map (ys := (l.map Ks331.isLetter).map V.bl) hD hS (by simp [iv_len]) (fun i x H' hx p => ?_) (fun H' s p => ?_)⟩
    · obtain ⟨n, hn, rfl⟩ := iv_get hx
      have fin : ∀ b : Bool, b = Ks331.isLetter n → _ := fun b hb => p.fin (y := .bl b) hD hz (Same.refl _) (by rw [List.getElem?_map, List.getElem?_map, hn, hb]; rfl)
      refine ⟨rfl, _, rfl, _, _, rfl, rfl, _, rfl, ite2 (fun c => ⟨_, _, rfl, rfl, ?_⟩) (fun c => ?_)⟩
      · refine fin _ ?_
        have c' := of_decide_eq_true c
        unfold Ks331.isLetter
        rw [decide_eq_true (show 97 ≤ n by omega), Bool.true_and]
        exact decide_eq_decide.mpr (by omega)
      · refine fin _ ?_
        have c' : ¬ (97 : Int) ≤ (n : Int) := fun z => c (decide_eq_true z)
        unfold Ks331.isLetter
        rw [decide_eq_false (show ¬ 97 ≤ n by omega), Bool.false_and]
    · refine ⟨D, _, rfl, SqL.of p, ?_⟩
      have e : (l.map Ks331.isLetter).all id = l.all Ks331.isLetter := by rw [List.all_map]; rfl
      rw [e]
      exact k H' s
end
end HW
end
section
set_option Elab.async false
set_option linter.all false
set_option maxRecDepth 100000
set_option maxHeartbeats 4000000
namespace HW
open PySem PySem.Spec PyProof.Rows L2 HX
section
variable {P : Program} {w : World} {K : PySem.W.Frag} {mg : Str → Option Value} {base : Heap}
theorem letters_at : ∀ k : Fin 26, ((Str.ofString "abcdefghijklmnopqrstuvwxyz").cps.toList)[k.1]? = some (k.1 + 97) := by decide +kernel
theorem letter_of {n : Nat} (h : Ks331.isLetter n = true) : 97 ≤ n ∧ n ≤ 122 := by
  unfold Ks331.isLetter at h
  simpa using h
theorem ones_size {l : List Nat} (hl : l.length ≤ 30000) : ((((l.map fun n => [n]).map S).map (·.length)).sum + ((l.map fun n => [n]).map S).length * (Str.ofString "" : Str).length ≤ 16777216) := by
  have e0 : (Str.ofString "" : Str).length = 0 := by decide
  have e1 : ∀ m : List Nat, (((m.map fun n => [n]).map S).map (·.length)).sum = m.length := by
    intro m
    induction m with
    | nil => rfl
    | cons a m ih =>
      simp only [List.map_cons, List.sum_cons, List.length_cons] at ih ⊢
      rw [ih, S_len]
      simp
      omega
  rw [e0, e1, Nat.mul_zero]
  omega
def spTextOf (K : PySem.W.Frag) : Sp := fun vs H Q _ => ∃ (a : Addr) (l : List Nat), vs = [.ref a] ∧ SqL K H a (iv l) ∧ l.length ≤ 30000 ∧ l.all Ks331.isLetter = true ∧ ∀ H', Same H H' → Q (.str (S l)) H'
theorem scTextOf : FnScope ["row", "byte"] ["row"] (defScope sTextOf) := ⟨rfl, rfl, rfl, by decide +kernel, rfl, by decide +kernel, by decide +kernel⟩
theorem ok_textOf {f : Addr} {fd : FuncData} (F : Fun K "text_of" "text_of" sTextOf f fd) (T : Cst mg) : FnOk P w K mg base CX0 1 f fd ["row"] (spTextOf K) := by
  refine F.ok scTextOf (fun vs H Q E h => ?_) (fun cdv A outer s H vs Q E hr h => ?_)
  · obtain ⟨a, l, rfl, _⟩ := h
    rfl
  · obtain ⟨a, l, rfl, hS, hl, hA, k⟩ := h
    refine ⟨_, pss_one (ps_ret (pe_join pe_str (pe_lc (own := [("byte", 1)]) rfl scTextOf.nd (pi_list (pv 0)) (blkOk_by rfl)
      (fun s H C cl fp => pg_name (i := 1) scTextOf.nd rfl (Or.inl rfl)) (fun s H C cl fp => pts_nil) (fun s H C cl fp => pe_ix ix_str (pe_gv rfl T.letters) (pe_op op_sub (pv 1) (pe_gv rfl T.first)) (fun _ _ => rfl))))), ?_⟩
    have hz : ((l.map fun n => [n]).map fun x => V.str (S x)).length ≤ sizeLine := by
      rw [List.length_map, List.length_map]
      exact Nat.le_trans hl (by decide)
    refine ⟨⟨_, rfl⟩, _, rfl, a, rfl, ⟨_, hS⟩, fun D hD => lc_map (ys := (l.map fun n => [n]).map fun x => V.str (S x)) hD hS (by simp [iv_len]) (fun i x H' hx p => ?_) (fun H' s p => ?_)⟩
    · obtain ⟨n, hn, rfl⟩ := iv_get hx
      have hL := letter_of (List.all_eq_true.mp hA n (List.mem_of_getElem? hn))
      have e := letters_at ⟨n - 97, by omega⟩
      refine ⟨rfl, _, rfl, _, _, rfl, rfl, _, _, n, rfl, rfl, by decide +kernel, ?_, ?_⟩
      · have e1 : (n : Int) - 97 = ((n - 97 : Nat) : Int) := by omega
        rw [e1]
        refine atI_nat ?_
        rw [e]
        congr 1
        show n - 97 + 97 = n
        omega
      · exact p.fin hD hz (Same.refl _) (by rw [List.getElem?_map, List.getElem?_map, hn]; rfl)
    · refine ⟨_, D, (l.map fun n => [n]).map S, rfl, rfl, .inl (SqL.of ?_), ?_, ?_⟩
      · rw [p, List.map_map, List.map_map, List.map_map]; rfl
      · exact ones_size hl
      · have e : (Str.ofString "" : Str) = Str.empty := by decide
        rw [e, join_flat, flatten_ones]
        exact k H' s
def spBackwards : Sp := fun vs H Q _ => ∃ (l : List Nat), vs = [.str (S l)] ∧ l.length ≤ 1000 ∧ ∀ H', Same H H' → Q (.str (S l.reverse)) H'
theorem scBackwards : FnScope ["word"] ["word"] (defScope sBackwards) := ⟨rfl, rfl, rfl, by decide +kernel, rfl, by decide +kernel, by decide +kernel⟩
theorem ok_backwards {f : Addr} {fd : FuncData} (F : Fun K "backwards" "backwards" sBackwards f fd) (T : Cst mg) : FnOk P w K mg base CX0 1 f fd ["word"] spBackwards := by
  refine F.ok scBackwards (fun vs H Q E h => ?_) (fun cdv A outer s H vs Q E hr h => ?_)
  · obtain ⟨l, rfl, _⟩ := h
    rfl
  · obtain ⟨l, rfl, hl, k⟩ := h
    refine ⟨_, pss_one (ps_ret (pe_back (by decide) rfl rfl T.reversed (pv 0))), ?_⟩
    exact ⟨_, rfl, l, rfl, by omega, k H (Same.refl H)⟩
end
end HW
end
section
set_option Elab.async false
set_option linter.all false
set_option maxRecDepth 100000
set_option maxHeartbeats 4000000
namespace HW
open PySem PySem.Spec PyProof.Rows L2 HX
/-- a list at l of the lists at as, which hold xss -/
structure LL (H : Hp) (l : Addr) (as : List Addr) (xss : List (List V)) : Prop where
  lst : H l = some (.lst (as.map V.ref))
  len : as.length = xss.length
  at_ : ∀ (i : Nat) (a : Addr), as[i]? = some a → ∃ xs, xss[i]? = some xs ∧ H a = some (.lst xs)
theorem LL.same {H H' : Hp} {l : Addr} {as : List Addr} {xss : List (List V)} (s : Same H H') (h : LL H l as xss) : LL H' l as xss :=
  ⟨s _ _ h.lst, h.len, fun i a e => let ⟨xs, h1, h2⟩ := h.at_ i a e; ⟨xs, h1, s _ _ h2⟩⟩
theorem LL.mem {H : Hp} {l : Addr} {as : List Addr} {xss : List (List V)} (h : LL H l as xss) {a : Addr} (m : a ∈ as) : ∃ xs, H a = some (.lst xs) := by
  obtain ⟨i, hi, e⟩ := List.getElem_of_mem m
  obtain ⟨xs, _, q⟩ := h.at_ i a (by rw [List.getElem?_eq_getElem hi, e])
  exact ⟨xs, q⟩
theorem LL.get {H : Hp} {l : Addr} {as : List Addr} {xss : List (List V)} (h : LL H l as xss) {i : Nat} {xs : List V} (e : xss[i]? = some xs) : ∃ a, as[i]? = some a ∧ H a = some (.lst xs) := by
  obtain ⟨hi, _⟩ := List.getElem?_eq_some_iff.mp e
  have hi' : i < as.length := by rw [h.len]; exact hi
  obtain ⟨ys, h1, h2⟩ := h.at_ i as[i] (List.getElem?_eq_getElem hi')
  rw [e] at h1
  cases h1
  exact ⟨_, List.getElem?_eq_getElem hi', h2⟩
/-- a new list of lists grows by one more list -/
theorem LL.snoc {H : Hp} {l a : Addr} {as : List Addr} {xss : List (List V)} {xs : List V} (h : LL H l as xss) (ha : H a = some (.lst xs)) (hl : l ∉ as) (hla : l ≠ a) : LL (upd H l (.lst (as.map V.ref ++ [.ref a]))) l (as ++ [a]) (xss ++ [xs]) := by
  refine ⟨by rw [upd_same, List.map_append]; rfl, by simp [h.len], fun i b e => ?_⟩
  by_cases hi : i < as.length
  · rw [List.getElem?_append_left hi] at e
    obtain ⟨ys, h1, h2⟩ := h.at_ i b e
    refine ⟨ys, by rw [List.getElem?_append_left (by rw [← h.len]; exact hi)]; exact h1, ?_⟩
    rw [upd_ne (fun q => hl (by rw [← q]; exact List.mem_of_getElem? e))]
    exact h2
  · rw [List.getElem?_append_right (by omega)] at e
    have hi' : i - as.length = 0 := by
      obtain ⟨z, _⟩ := List.getElem?_eq_some_iff.mp e
      simp at z
      exact z
    rw [hi'] at e
    have e2 : a = b := Option.some.inj e
    subst e2
    refine ⟨xs, ?_, by rw [upd_ne (Ne.symm hla)]; exact ha⟩
    rw [List.getElem?_append_right (by rw [← h.len]; omega), ← h.len, hi']
    rfl
theorem LL.write {H : Hp} {l b : Addr} {o : HO} {as : List Addr} {xss : List (List V)} (h : LL H l as xss) (hl : l ≠ b) (hb : b ∉ as) : LL (upd H b o) l as xss :=
  ⟨by rw [upd_ne hl]; exact h.lst, h.len, fun i a e => let ⟨xs, h1, h2⟩ := h.at_ i a e; ⟨xs, h1, by rw [upd_ne (fun q => hb (by rw [← q]; exact List.mem_of_getElem? e))]; exact h2⟩⟩
section
variable {P : Program} {w : World} {K : PySem.W.Frag} {mg : Str → Option Value} {base : Heap}
def spLinesOf (K : PySem.W.Frag) : Sp := fun vs H Q _ => ∃ (a : Addr) (l : List Nat), vs = [.ref a] ∧ SqL K H a (iv l) ∧ l.length ≤ 30000 ∧
  ∀ H' L as, Same H H' → LL H' L as ((Ks331.linesOf l).map iv) → Q (.ref L) H'
theorem scLinesOf : FnScope ["row", "lines", "line", "byte"] ["row"] (defScope sLinesOf) := ⟨rfl, rfl, rfl, by decide +kernel, rfl, by decide +kernel, by decide +kernel⟩
/-- the loop's state -/
structure LinesAt (H H' : Hp) (L la : Addr) (as : List Addr) (xss : List (List Nat)) (cur : List Nat) : Prop where
  same : Same H H'
  ll : LL H' L as (xss.map iv)
  cur : H' la = some (.lst (iv cur))
  newL : H L = none
  newA : H la = none
  ne : L ≠ la
  nL : L ∉ as
  nA : la ∉ as
theorem ok_linesOf {f : Addr} {fd : FuncData} (F : Fun K "lines_of" "lines_of" sLinesOf f fd) (T : Cst mg) : FnOk P w K mg base CX0 1 f fd ["row"] (spLinesOf K) := by
  refine F.ok scLinesOf (fun vs H Q E h => ?_) (fun cdv A outer s H vs Q E hr h => ?_)
  · obtain ⟨a, l, rfl, _⟩ := h
    rfl
  · obtain ⟨a, l, rfl, hS, hl, k⟩ := h
    refine ⟨_, pss_cons (ps_set (i := 1) scLinesOf.nd rfl (Or.inl rfl) (pe_lst pa_nil)) (pss_cons (ps_set (i := 2) scLinesOf.nd rfl (Or.inl rfl) (pe_lst pa_nil))
      (pss_cons (ps_for PassesOwn.never rfl (pi_list (pv 0)) (pg_name (i := 3) scLinesOf.nd rfl (Or.inl rfl))
        (pss_one (ps_if (pt_cmpR op_eq (pv 3) (pe_gv rfl T.lend) (nomark _))
          (pss_cons (ps_expr (pe_bm PySem.F.plainAttrs_list PySem.F.slot_list_append PySem.F.type_list_append mt_append (pv 1) (pa_cons (pv 2) pa_nil)))
            (pss_one (ps_set (i := 2) scLinesOf.nd rfl (Or.inl rfl) (pe_lst pa_nil))))
          (pss_one (ps_expr (pe_bm PySem.F.plainAttrs_list PySem.F.slot_list_append PySem.F.type_list_append mt_append (pv 2) (pa_cons (pv 3) pa_nil)))))))
      (pss_cons (ps_if (pt_cmpR op_gt (pe_callB call_len_seq (by rfl) T.len PySem.boot_len (pa_cons (pv 2) pa_nil)) pe_int (nomark _))
          (pss_one (ps_expr (pe_bm PySem.F.plainAttrs_list PySem.F.slot_list_append PySem.F.type_list_append mt_append (pv 1) (pa_cons (pv 2) pa_nil)))) pss_nil)
      (pss_one (ps_ret (pv 1)))))), ?_⟩
    refine ⟨Nat.zero_le _, fun L hL => ⟨Nat.zero_le _, fun la hla => ?_⟩⟩
    have hL' : H L = none := hL
    have sz : 30000 < sizeLine := by decide
    have neL : L ≠ la := fun q => by
      have : upd H L (.lst []) la = none := hla
      rw [← q, upd_same] at this
      cases this
    have hla' : H la = none := by
      have : upd H L (.lst []) la = none := hla
      rw [upd_ne (Ne.symm neL)] at this
      exact this
    refine ⟨_, rfl, a, rfl, ⟨_, (same_new (same_new (Same.refl H) hL') hla').seq hS⟩, for_list (K := K) (a := a) (xs := iv l)
      (fun i σ H' => ∃ (v : Option V) (la : Addr) (as : List Addr) (xss : List (List Nat)) (cur : List Nat), σ = [some (.ref a), some (.ref L), some (.ref la), v] ∧ LinesAt H H' L la as xss cur ∧
        xss.length + cur.length ≤ i ∧ linesGo [] l = xss ++ linesGo cur (l.drop i)) ?_ (fun i σ H' _ ⟨_, _, _, _, _, _, q, _⟩ => q.same.seq hS) ?_ ?_⟩
    · refine ⟨none, la, [], [], [], rfl, ⟨same_new (same_new (Same.refl H) hL') hla', ⟨?_, rfl, fun i b e => by simp at e⟩, upd_same, hL', hla', neL, by simp, by simp⟩, Nat.le_refl _, by simp⟩
      rw [upd_ne neL, upd_same]
      rfl
    · rintro i x σ H' hi ⟨v, la, as, xss, cur, rfl, q, hb, he⟩
      obtain ⟨n, hn, rfl⟩ := iv_get hi
      obtain ⟨hlt, hn2⟩ := List.getElem?_eq_some_iff.mp hn
      have ed : l.drop i = n :: l.drop (i + 1) := by rw [List.drop_eq_getElem_cons hlt, hn2]
      refine ⟨_, rfl, rfl, _, rfl, ite2 (fun c => ?_) (fun c => ?_)⟩
      · have en : n = 10 := by
          have := of_decide_eq_true c
          injection this with this
          omega
        subst en
        refine ⟨_, rfl, .inl ⟨rfl, _, SqL.of q.ll.lst⟩, _, rfl, L, _, _, rfl, rfl, q.ll.lst, ?_, ?_⟩
        · rw [List.length_map, q.ll.len, List.length_map]
          omega
        · refine ⟨Nat.zero_le _, fun nl hnl => ?_⟩
          have nnl : nl ≠ L := fun z => by
            rw [z, upd_same] at hnl
            cases hnl
          rw [upd_ne nnl] at hnl
          have LL1 : LL (upd H' L (.lst (as.map V.ref ++ [.ref la]))) L (as ++ [la]) ((xss ++ [cur]).map iv) := by
            have := q.ll.snoc q.cur q.nL q.ne
            rw [List.map_append]
            exact this
          have nas : nl ∉ as ++ [la] := fun m => by
            rcases List.mem_append.mp m with m | m
            · obtain ⟨xs, z⟩ := q.ll.mem m
              rw [hnl] at z
              cases z
            · rw [List.mem_singleton.mp m, q.cur] at hnl
              cases hnl
          have hn0 : H nl = none := q.same.free hnl
          refine ⟨_, nl, as ++ [la], xss ++ [cur], [], rfl, ⟨same_new (same_new q.same q.newL) hn0, LL1.write (Ne.symm nnl) nas, upd_same, q.newL, hn0, Ne.symm nnl, ?_, nas⟩, ?_, ?_⟩
          · intro m
            rcases List.mem_append.mp m with m | m
            · exact q.nL m
            · exact q.ne (List.mem_singleton.mp m)
          · simp only [List.length_append, List.length_cons, List.length_nil]
            omega
          · rw [he, ed, linesGo_end, List.append_assoc]
            rfl
      · have en : ¬ n = 10 := fun z => c (by rw [z]; rfl)
        refine ⟨_, rfl, .inl ⟨rfl, _, SqL.of q.cur⟩, _, rfl, la, _, _, rfl, rfl, q.cur, ?_, ?_⟩
        · rw [iv_len]
          omega
        · have ec : iv cur ++ [V.int (n : Int)] = iv (cur ++ [n]) := by simp [iv]
          rw [ec]
          refine ⟨_, la, as, xss, cur ++ [n], rfl, ⟨same_new q.same q.newA, q.ll.write q.ne q.nA, upd_same, q.newL, q.newA, q.ne, q.nL, q.nA⟩, ?_, ?_⟩
          · simp only [List.length_append, List.length_cons, List.length_nil]
            omega
          · rw [he, ed, linesGo_some _ _ _ en]
    · rintro σ H' ⟨v, la, as, xss, cur, rfl, q, hb, he⟩
      rw [iv_len] at hb he
      rw [List.drop_length] at he
      refine ⟨_, rfl, _, _, rfl, .inl (SqL.of q.cur), _, _, rfl, rfl, _, rfl, ite2 (fun c => ?_) (fun c => ?_)⟩
      · have c' := of_decide_eq_true c
        rw [iv_len] at c'
        refine ⟨_, rfl, .inl ⟨rfl, _, SqL.of q.ll.lst⟩, _, rfl, L, _, _, rfl, rfl, q.ll.lst, ?_, ?_⟩
        · rw [List.length_map, q.ll.len, List.length_map]
          omega
        · refine ⟨_, rfl, k _ L (as ++ [la]) (same_new q.same q.newL) ?_⟩
          have := q.ll.snoc q.cur q.nL q.ne
          rw [linesOf_go, he]
          have e2 : linesGo cur [] = [cur] := if_neg (fun z => by rw [z] at c'; simp at c')
          rw [e2, List.map_append]
          exact this
      · have c' : ¬ (0 : Int) < ((iv cur).length : Int) := fun z => c (decide_eq_true z)
        rw [iv_len] at c'
        refine ⟨_, rfl, k _ L as q.same ?_⟩
        have e1 : cur = [] := List.length_eq_zero_iff.mp (by omega)
        subst e1
        rw [linesOf_go, he]
        have e2 : linesGo [] [] = [] := rfl
        rw [e2, List.append_nil]
        exact q.ll
end
end HW
end
section
set_option Elab.async false
set_option linter.all false
set_option maxRecDepth 100000
set_option maxHeartbeats 4000000
namespace HW
open PySem PySem.Spec PyProof.Rows L2 HX
/-! ### A def of the module, known by its promise -/
structure Cal (P : Program) (w : World) (K : PySem.W.Frag) (mg : Str → Option Value) (base : Heap) (k : Nat) (x : Str) (ps : List Str) (sp : Sp) : Prop where
  ex : ∃ (f : Addr) (fd : FuncData), FnOk P w K mg base CX0 k f fd ps sp ∧ mg x = some (.ref f) ∧ PySem.W.keepIn K (.ref f) = true ∧ Binds K fd ps []
theorem pe_cal {X : Cx} {k : Nat} {x : Str} {ps : List Str} {sp : Sp} {e : Expr} {es : List Expr} {t : TA} {p pos : Pos} (C : Cal X.prog X.w X.K X.mg X.base k x ps sp) (hr : Room k X.A) (hg : Gl X x) (ha : PA X (e :: es) t)
    (hdb : (x == ("__debug__" : Str)) = false := by decide) (he : starEach (e :: es) X.env = (false, eval e X.env) :: starEach es X.env := by rfl) (hpl : (backTo pos (starEach es X.env)).any (·.1) = false := by rfl) :
    PE X (.Call (.Name x p) (e :: es) [] pos) (tCall sp [] E0 t) := by
  obtain ⟨f, fd, G, hm, hk, hb⟩ := C.ex
  exact pe_call G hr hg hm hk hb .nil pass0 ha hdb he hpl
def sv (ws : List (List Nat)) : List V := ws.map fun w => V.str (S w)
theorem sv_get {l : List (List Nat)} {i : Nat} {x : V} (h : (sv l)[i]? = some x) : ∃ n, l[i]? = some n ∧ x = V.str (S n) := by
  unfold sv at h
  rw [List.getElem?_map] at h
  cases e : l[i]? with
  | none => rw [e] at h; cases h
  | some n => rw [e] at h; exact ⟨n, rfl, (Option.some.inj h).symm⟩
theorem sv_len {l : List (List Nat)} : (sv l).length = l.length := by simp [sv]
section
variable {P : Program} {w : World} {K : PySem.W.Frag} {mg : Str → Option Value} {base : Heap}
def spIsWord (K : PySem.W.Frag) : Sp := fun vs H Q _ => ∃ (a : Addr) (l : List Nat), vs = [.ref a] ∧ SqL K H a (iv l) ∧ l.length ≤ 30000 ∧ ∀ H', Same H H' → Q (.bl (Ks331.okWord l)) H'
theorem scIsWord : FnScope ["line"] ["line"] (defScope sIsWord) := ⟨rfl, rfl, rfl, by decide +kernel, rfl, by decide +kernel, by decide +kernel⟩
theorem ok_isWord {f : Addr} {fd : FuncData} (F : Fun K "is_word" "is_word" sIsWord f fd) (T : Cst mg) (C : Cal P w K mg base 1 "are_letters" ["row"] (spAreLetters K)) : FnOk P w K mg base CX0 2 f fd ["line"] (spIsWord K) := by
  refine F.ok scIsWord (fun vs H Q E h => ?_) (fun cdv A outer s H vs Q E hr h => ?_)
  · obtain ⟨a, l, rfl, _⟩ := h
    rfl
  · obtain ⟨a, l, rfl, hS, hl, k⟩ := h
    refine ⟨_, pss_one (ps_ret (pe_and (pe_chain op_le op_le (pe_gv rfl T.shortest) (pe_callB call_len_seq (by rfl) T.len PySem.boot_len (pa_cons (pv 0) pa_nil)) (pe_gv rfl T.longest))
      (pe_one (pe_cal C hr rfl (pa_cons (pv 0) pa_nil))))), ?_⟩
    refine ⟨_, rfl, a, _, rfl, .inl hS, _, _, rfl, rfl, _, rfl, ite2 (fun c => ⟨_, _, rfl, rfl, _, rfl, ite2 (fun d => ⟨_, rfl, a, l, rfl, hS, hl, fun H' s => ?_⟩) (fun d => ?_)⟩) (fun c => ⟨_, rfl, ?_⟩)⟩
    · have c' := of_decide_eq_true c
      have d' := of_decide_eq_true d
      rw [iv_len] at c' d'
      have e : Ks331.okWord l = l.all Ks331.isLetter := by
        unfold Ks331.okWord
        rw [decide_eq_true (show 2 ≤ l.length by omega), decide_eq_true (show l.length ≤ Ks331.LETTERS by show l.length ≤ 8; omega)]
        rfl
      have := k H' s
      rw [e] at this
      exact this
    · have d' : ¬ ((iv l).length : Int) ≤ 8 := fun z => d (decide_eq_true z)
      rw [iv_len] at d'
      have e : Ks331.okWord l = false := by
        unfold Ks331.okWord
        rw [decide_eq_false (show ¬ l.length ≤ Ks331.LETTERS by show ¬ l.length ≤ 8; omega), Bool.and_false, Bool.false_and]
      have := k H (Same.refl H)
      rw [e] at this
      exact this
    · have c' : ¬ (2 : Int) ≤ ((iv l).length : Int) := fun z => c (decide_eq_true z)
      rw [iv_len] at c'
      have e : Ks331.okWord l = false := by
        unfold Ks331.okWord
        rw [decide_eq_false (show ¬ 2 ≤ l.length by omega), Bool.false_and, Bool.false_and]
      have := k H (Same.refl H)
      rw [e] at this
      exact iteF this
end
end HW
end
section
set_option Elab.async false
set_option linter.all false
set_option maxRecDepth 100000
set_option maxHeartbeats 4000000
namespace HW
open PySem PySem.Spec PyProof.Rows L2 HX
/-- the words that are known -/
def kw (ws : List (List Nat)) : List (Key × V) := ws.map fun x => (Sum.inr (S x), V.bl true)
theorem kw_has (ws : List (List Nat)) (x : List Nat) : (valV (kw ws) (Sum.inr (S x) : Key)).isSome = decide (x ∈ ws) := by
  rw [← valV_any, Bool.eq_iff_iff, List.any_eq_true, decide_eq_true_iff]
  constructor
  · rintro ⟨p, hp, e⟩
    obtain ⟨y, hy, rfl⟩ := List.mem_map.mp hp
    have e' := of_decide_eq_true e
    injection e' with e'
    rw [← S_inj e']
    exact hy
  · intro h
    exact ⟨_, List.mem_map.mpr ⟨x, h, rfl⟩, decide_eq_true rfl⟩
section
variable {P : Program} {w : World} {K : PySem.W.Frag} {mg : Str → Option Value} {base : Heap}
def spHasTwins (K : PySem.W.Frag) : Sp := fun vs H Q _ => ∃ (a : Addr) (ws : List (List Nat)), vs = [.ref a] ∧ SqL K H a (sv ws) ∧ ws.length ≤ 1000 ∧ (∀ x ∈ ws, x.length ≤ 8) ∧ ∀ H', Same H H' → Q (.bl (!Ks332.apart ws)) H'
theorem scHasTwins : FnScope ["words", "known", "word"] ["words"] (defScope sHasTwins) := ⟨rfl, rfl, rfl, by decide +kernel, rfl, by decide +kernel, by decide +kernel⟩
theorem ok_hasTwins {f : Addr} {fd : FuncData} (F : Fun K "has_twins" "has_twins" sHasTwins f fd) (T : Cst mg) (C : Cal P w K mg base 1 "backwards" ["word"] spBackwards) : FnOk P w K mg base CX0 2 f fd ["words"] (spHasTwins K) := by
  refine F.ok scHasTwins (fun vs H Q E h => ?_) (fun cdv A outer s H vs Q E hr h => ?_)
  · obtain ⟨a, l, rfl, _⟩ := h
    rfl
  · obtain ⟨a, ws, rfl, hS, hl, h8, k⟩ := h
    have hu := hu_of hr
    refine ⟨_, pss_cons (ps_set (i := 1) scHasTwins.nd rfl (Or.inl rfl) pe_dnewK)
      (pss_cons (ps_for PassesOwn.never rfl (pi_list (pv 0)) (pg_name (i := 2) scHasTwins.nd rfl (Or.inl rfl))
        (pss_cons (ps_if (PW.pt (pw_or (pt_cmp (pc_din hu (pv 2) (pv 1))) (pw_or1 (pt_cmp (pc_din hu (pe_cal C hr rfl (pa_cons (pv 2) pa_nil)) (pv 1)))))) (pss_one (ps_ret pe_bl)) pss_nil)
          (pss_one (ps_dput hu (pv 1) (pv 2) pe_bl rfl))))
      (pss_one (ps_ret pe_bl))), ?_⟩
    intro d hd
    have sz : 1000 < sizeLine := by decide
    have hd0 : H d = none := hd
    refine ⟨_, rfl, a, rfl, ⟨_, (same_new (Same.refl H) hd0).seq hS⟩, for_list (K := K) (a := a) (xs := sv ws)
      (fun i σ H' => ∃ (v : Option V), σ = [some (.ref a), some (.ref d), v] ∧ Same H H' ∧ H' d = some (.dK (kw (ws.take i))) ∧ Ks332.apart (ws.take i) = true) ?_ (fun i σ H' _ ⟨_, _, q, _⟩ => q.seq hS) ?_ ?_⟩
    · exact ⟨none, rfl, same_new (Same.refl H) hd0, by rw [upd_same]; rfl, rfl⟩
    · rintro i x σ H' hi ⟨v, rfl, q, hk, ha⟩
      obtain ⟨y, hy, rfl⟩ := sv_get hi
      have hsp : ws = ws.take i ++ y :: ws.drop (i + 1) := by
        obtain ⟨h1, h2⟩ := List.getElem?_eq_some_iff.mp hy
        rw [← h2, ← List.drop_eq_getElem_cons h1, List.take_append_drop]
      have hy8 := h8 y (List.mem_of_getElem? hy)
      have twin : (y ∈ ws.take i ∨ y.reverse ∈ ws.take i) → ∀ H', Same H H' → Q (.bl true) H' := fun h H' s => by
        have := k H' s
        rw [hsp, apart_twin h] at this
        exact this
      refine ⟨_, rfl, _, rfl, d, _, rfl, DGet.k (k := Sum.inr (S y)) hk, _, rfl, ite2 (fun c => ?_) (fun c => ?_)⟩
      · rw [kw_has] at c
        exact iteT (twin (.inl (of_decide_eq_true c)) H' q)
      · refine ⟨_, rfl, y, rfl, by omega, fun H2 s2 => ?_⟩
        have hk2 := s2 _ _ hk
        refine ⟨_, rfl, d, _, rfl, DGet.k (k := Sum.inr (S y.reverse)) hk2, _, rfl, ite2 (fun c2 => ?_) (fun c2 => ?_)⟩
        · rw [kw_has] at c2
          exact twin (.inr (of_decide_eq_true c2)) H2 (q.trans s2)
        · rw [kw_has] at c c2
          have n1 : y ∉ ws.take i := fun z => c (decide_eq_true z)
          have n2 : y.reverse ∉ ws.take i := fun z => c2 (decide_eq_true z)
          refine ⟨_, rfl, _, rfl, d, _, rfl, DPut.k (k := Sum.inr (S y)) hk2 ?_, _, rfl, same_new (q.trans s2) hd0, ?_, ?_⟩
          · unfold kw
            rw [List.length_map, List.length_take]
            omega
          · have hn : valV (kw (ws.take i)) (Sum.inr (S y) : Key) = none := by
              have := kw_has (ws.take i) y
              rw [decide_eq_false n1] at this
              simpa using this
            rw [upd_same, putK_new _ hn, take_snoc hy]
            unfold kw
            rw [List.map_append]
            rfl
          · rw [take_snoc hy]
            exact apart_snoc ha n1 n2
    · rintro σ H' ⟨v, rfl, q, hk, ha⟩
      rw [sv_len, List.take_length] at ha
      have := k H' q
      rw [ha] at this
      exact this
end
end HW
end
section
set_option Elab.async false
set_option linter.all false
set_option maxRecDepth 100000
set_option maxHeartbeats 4000000
namespace HW
open PySem PySem.Spec PyProof.Rows L2 HX
/-- a loop of n turns -/
theorem for_it {J : It} {n : Nat} {g : TG} {tb : TS} {D : Ends} {σ : L2.St} {H : Hp} (Pv : Nat → L2.St → Hp → Prop) (h0 : Pv 0 σ H) (hgo : ∀ i σ H, i < n → Pv i σ H → J.go i H) (hst : ∀ σ H, Pv n σ H → J.stop n H)
    (hs : ∀ i x σ H H', i < n → Pv i σ H → J.yld i H x H' → g x σ H' fun σ2 H2 => tb { D with nx := Pv (i + 1), ct := Pv (i + 1), bk := D.nx } σ2 H2) (hd : ∀ σ H, Pv n σ H → D.nx σ H) :
    ∃ W : Nat → Nat → L2.St → Hp → Prop, (∃ m, W 0 m σ H) ∧ ∀ i m σ H, W i m σ H →
      (J.stop i H ∧ D.nx σ H) ∨ (J.go i H ∧ ∃ N : L2.St → Hp → Prop, (∀ σ' H', N σ' H' → ∃ m', m' < m ∧ W (i + 1) m' σ' H') ∧ ∀ x H', J.yld i H x H' → g x σ H' fun σ2 H2 => tb { D with nx := N, ct := N, bk := D.nx } σ2 H2) := by
  refine ⟨fun i m σ H => m = n - i ∧ i ≤ n ∧ Pv i σ H, ⟨n, by simp, Nat.zero_le _, h0⟩, ?_⟩
  rintro i m σ H ⟨rfl, hi, p⟩
  by_cases hlt : i < n
  · exact .inr ⟨hgo i σ H hlt p, Pv (i + 1), fun σ' H' p' => ⟨n - (i + 1), by omega, rfl, hlt, p'⟩, fun x H' y => hs i x σ H H' hlt p y⟩
  · have e : i = n := by omega
    subst e
    exact .inl ⟨hst σ H p, hd σ H p⟩
theorem LL.ref_get {H : Hp} {l : Addr} {as : List Addr} {xss : List (List V)} (h : LL H l as xss) {i : Nat} {x : V} (e : (as.map V.ref)[i]? = some x) : ∃ a xs, as[i]? = some a ∧ x = .ref a ∧ xss[i]? = some xs ∧ H a = some (.lst xs) := by
  rw [List.getElem?_map] at e
  cases q : as[i]? with
  | none => rw [q] at e; cases e
  | some a =>
    rw [q] at e
    obtain ⟨xs, h1, h2⟩ := h.at_ i a q
    exact ⟨a, xs, rfl, (Option.some.inj e).symm, h1, h2⟩
section
variable {P : Program} {w : World} {K : PySem.W.Frag} {mg : Str → Option Value} {base : Heap}
def spListRefusal (K : PySem.W.Frag) : Sp := fun vs H Q _ => ∃ (L : Addr) (as : List Addr) (ls : List (List Nat)), vs = [.ref L] ∧ LL H L as (ls.map iv) ∧ ls.length ≤ 30000 ∧ (∀ x ∈ ls, x.length ≤ 30000) ∧ ∀ H', Same H H' → Q (.int (refusal ls)) H'
theorem scListRefusal : FnScope ["lines", "number", "line"] ["lines"] (defScope sListRefusal) := ⟨rfl, rfl, rfl, by decide +kernel, rfl, by decide +kernel, by decide +kernel⟩
theorem map_iv_get {ls : List (List Nat)} {i : Nat} {xs : List V} (h : (ls.map iv)[i]? = some xs) : ∃ x, ls[i]? = some x ∧ xs = iv x := by
  rw [List.getElem?_map] at h
  cases e : ls[i]? with
  | none => rw [e] at h; cases h
  | some n => rw [e] at h; exact ⟨n, rfl, (Option.some.inj h).symm⟩
theorem findIdx_at {ls : List (List Nat)} {i : Nat} {x : List Nat} (h : ls[i]? = some x) (hx : Ks331.okWord x = false) (hp : ∀ j, j < i → ∀ y, ls[j]? = some y → Ks331.okWord y = true) : ls.findIdx (fun w => !Ks331.okWord w) = i := by
  obtain ⟨hi, e⟩ := List.getElem?_eq_some_iff.mp h
  rw [List.findIdx_eq hi]
  refine ⟨by rw [e, hx]; rfl, fun j hj => ?_⟩
  rw [hp j hj _ (List.getElem?_eq_getElem (by omega))]
  rfl
theorem findIdx_no {ls : List (List Nat)} (hp : ∀ j, j < ls.length → ∀ y, ls[j]? = some y → Ks331.okWord y = true) : ¬ ls.findIdx (fun w => !Ks331.okWord w) < ls.length := by
  intro h
  have q := List.findIdx_getElem (p := fun w => !Ks331.okWord w) (w := h)
  rw [hp _ h _ (List.getElem?_eq_getElem h)] at q
  cases q
theorem ok_listRefusal {f : Addr} {fd : FuncData} (F : Fun K "list_refusal" "list_refusal" sListRefusal f fd) (T : Cst mg) (C1 : Cal P w K mg base 2 "is_word" ["line"] (spIsWord K)) (C2 : Cal P w K mg base 1 "text_of" ["row"] (spTextOf K))
    (C3 : Cal P w K mg base 2 "has_twins" ["words"] (spHasTwins K)) : FnOk P w K mg base CX0 3 f fd ["lines"] (spListRefusal K) := by
  refine F.ok scListRefusal (fun vs H Q E h => ?_) (fun cdv A outer s H vs Q E hr h => ?_)
  · obtain ⟨a, l, ls, rfl, _⟩ := h
    rfl
  · obtain ⟨L, as, ls, rfl, hL, hl, hx, k⟩ := h
    have hr1 : Room 1 _ := hr.mono (by decide)
    have sz : 30000 < sizeLine := by decide
    refine ⟨_, pss_cons (ps_for PassesOwn.never rfl (pi_enum1 rfl T.enumerate (pa_cons (pv 0) pa_nil)) (pg_tup rfl (pgs_cons (pg_name (i := 1) scListRefusal.nd rfl (Or.inl rfl)) (pgs_cons (pg_name (i := 2) scListRefusal.nd rfl (Or.inl rfl)) pgs_nil)))
        (pss_one (ps_if (pt_not (pt_val (pe_cal C1 hr rfl (pa_cons (pv 2) pa_nil)))) (pss_one (ps_ret (pe_op op_sub (pe_gv rfl T.badline) (pv 1)))) pss_nil)))
      (pss_cons (ps_if (PW.pt (pw_or (pt_cmpR op_eq (pe_callB call_len_seq (by rfl) T.len PySem.boot_len (pa_cons (pv 0) pa_nil)) pe_int (nomark _)) (pw_or1 (pt_cmpR op_gt (pe_callB call_len_seq (by rfl) T.len PySem.boot_len (pa_cons (pv 0) pa_nil)) (pe_gv rfl T.mostw) (nomark _)))))
          (pss_one (ps_ret (pe_gv rfl T.badcount))) pss_nil)
      (pss_cons (ps_if (pt_val (pe_cal C3 hr rfl (pa_cons (pe_lc (own := [("line", 2)]) rfl scListRefusal.nd (pi_list (pv 0)) (blkOk_by rfl)
          (fun s H C cl fp => pg_name (i := 2) scListRefusal.nd rfl (Or.inl rfl)) (fun s H C cl fp => pts_nil) (fun s H C cl fp => pe_cal C2 hr1 rfl (pa_cons (pv 2) pa_nil))) pa_nil)))
          (pss_one (ps_ret (pe_gv rfl T.twice))) pss_nil)
      (pss_one (ps_ret (pe_gv rfl T.noref))))), ?_⟩
    have len : (as.map V.ref).length = ls.length := by rw [List.length_map, hL.len, List.length_map]
    refine ⟨_, rfl, L, _, rfl, SqL.of hL.lst, for_it (n := ls.length) (fun i σ H' => ∃ v1 v2 : Option V, σ = [some (.ref L), v1, v2] ∧ Same H H' ∧ ∀ j, j < i → ∀ y, ls[j]? = some y → Ks331.okWord y = true)
      ⟨none, none, rfl, Same.refl H, fun j hj => absurd hj (by omega)⟩ ?_ ?_ ?_ ?_⟩
    · rintro i σ H' hi ⟨v1, v2, rfl, q, _⟩
      exact ⟨_, _, SqL.of (q _ _ hL.lst), List.getElem?_eq_getElem (by rw [len]; exact hi)⟩
    · rintro σ H' ⟨v1, v2, rfl, q, _⟩
      exact ⟨_, SqL.of (q _ _ hL.lst), len⟩
    · rintro i x σ H' H2 hi ⟨v1, v2, rfl, q, hp⟩ ⟨t, y, rfl, ht, rfl, hy⟩
      obtain ⟨a, xs, ha, rfl, hxs, haH⟩ := (hL.same q).ref_get (hy _ (SqL.of (q _ _ hL.lst)))
      obtain ⟨x, hxx, rfl⟩ := map_iv_get hxs
      have q2 : Same H (upd H' t (.tup [.int ((i + 1 : Nat) : Int), .ref a])) := same_new q (q.free ht)
      have haT : a ≠ t := ne_of_none haH ht
      refine ⟨t, _, rfl, SqT.of upd_same, rfl, _, _, rfl, _, _, rfl, rfl, ?_⟩
      refine ⟨_, rfl, a, x, rfl, SqL.of (by rw [upd_ne haT]; exact haH), hx x (List.mem_of_getElem? hxx), fun H3 s3 => ⟨_, rfl, ?_⟩⟩
      cases ho : Ks331.okWord x with
      | false =>
        refine iteT ⟨_, rfl, _, _, rfl, rfl, ?_⟩
        have e : refusal ls = -1000 - ((i + 1 : Nat) : Int) := by
          unfold refusal
          rw [findIdx_at hxx ho hp, if_pos hi]
        have := k H3 (q2.trans s3)
        rw [e] at this
        exact this
      | true =>
        refine iteF ⟨_, _, rfl, q2.trans s3, fun j hj y hjy => ?_⟩
        by_cases z : j = i
        · subst z
          rw [hxx] at hjy
          cases hjy
          exact ho
        · exact hp j (by omega) y hjy
    · rintro σ H' ⟨v1, v2, rfl, q, hp⟩
      have hn := findIdx_no hp
      have hall := okWords hn
      have hL' := hL.same q
      have er : refusal ls = if ls = [] ∨ Ks331.WORDS < ls.length then -28 else if Ks332.apart ls = false then -17 else 0 := by
        unfold refusal
        rw [if_neg hn]
      refine ⟨_, rfl, L, _, rfl, .inl (SqL.of hL'.lst), rfl, _, rfl, ite2 (fun c => ?_) (fun c => ?_)⟩
      · have c' := of_decide_eq_true c
        injection c' with c'
        rw [len] at c'
        have e0 : ls = [] := List.length_eq_zero_iff.mp (by omega)
        have := k H' q
        rw [er, if_pos (.inl e0)] at this
        exact iteT this
      · have c' : ls ≠ [] := fun z => c (by rw [len, z]; rfl)
        refine ⟨_, rfl, L, _, rfl, .inl (SqL.of hL'.lst), _, _, rfl, rfl, _, rfl, ite2 (fun d => ?_) (fun d => ?_)⟩
        · have d' := of_decide_eq_true d
          rw [len] at d'
          have := k H' q
          rw [er, if_pos (.inr (show 12 < ls.length by omega))] at this
          exact this
        · have d' : ¬ (12 : Int) < ((as.map V.ref).length : Int) := fun z => d (decide_eq_true z)
          rw [len] at d'
          rw [if_neg (show ¬ (ls = [] ∨ Ks331.WORDS < ls.length) from fun z => z.elim c' (fun z => by have : 12 < ls.length := z; omega))] at er
          have hz : (sv ls).length ≤ sizeLine := by rw [sv_len]; omega
          refine ⟨_, rfl, L, rfl, ⟨_, SqL.of hL'.lst⟩, fun D hD => lc_map (ys := sv ls) hD (SqL.of hL'.lst) (by rw [sv_len, len]) (fun i x H2 hxi p => ?_) (fun H2 s2 p2 => ?_)⟩
          · obtain ⟨a, xs, ha, rfl, hxs, haH⟩ := hL'.ref_get hxi
            obtain ⟨x, hxx, rfl⟩ := map_iv_get hxs
            have hok := hall x (List.mem_of_getElem? hxx)
            unfold Ks331.okWord at hok
            simp only [Bool.and_eq_true] at hok
            refine ⟨rfl, _, rfl, a, x, rfl, SqL.of (p.1 _ _ haH), hx x (List.mem_of_getElem? hxx), hok.2, fun H4 s4 => ?_⟩
            exact p.fin hD hz s4 (by unfold sv; rw [List.getElem?_map, hxx]; rfl)
          · refine ⟨D, ls, rfl, SqL.of p2, by omega, fun x hx => ?_, fun H3 s3 => ⟨_, rfl, ?_⟩⟩
            · have hok := hall x hx
              unfold Ks331.okWord at hok
              simp only [Bool.and_eq_true, decide_eq_true_iff] at hok
              exact hok.1.2
            · have := k H3 ((q.trans s2).trans s3)
              rw [er] at this
              cases ha : Ks332.apart ls with
              | false =>
                rw [ha, if_pos rfl] at this
                exact iteT this
              | true =>
                rw [ha, if_neg (by decide)] at this
                exact iteF this
end
end HW
end
section
set_option Elab.async false
set_option linter.all false
set_option maxRecDepth 100000
set_option maxHeartbeats 4000000
namespace HW
open PySem PySem.Spec PyProof.Rows L2 HX
abbrev sIsSide : Stmt := top 26
abbrev sBoard : Stmt := top 27
abbrev sBoardInit : Stmt := inClass sBoard 0
abbrev sCellsFrom : Stmt := inClass sBoard 1
abbrev sPaths : Stmt := inClass sBoard 2
abbrev sWholeTrack : Stmt := inClass sBoard 3
abbrev sAllPlaces : Stmt := top 28
/-- a tuple of the module -/
def KT (K : PySem.W.Frag) (a : Addr) (xs : List V) : Prop := ∀ H : Hp, SqT K H a xs
structure Cst2 (K : PySem.W.Frag) (mg : Str → Option Value) : Prop where
  least : Gv mg "LEAST_SIDE" (.int 2)
  most : Gv mg "MOST_SIDE" (.int 8)
  half : Gv mg "HALF_TURN" (.int 4)
  gap : Gv mg "GAP" (.str (S [32]))
  ways : ∃ (a : Addr) (ts : List Addr), Gv mg "WAYS" (.ref a) ∧ KT K a (ts.map V.ref) ∧ ts.length = 8 ∧ ∀ (d : Nat) (t : Addr), ts[d]? = some t → KT K t [.int (Ks331.stepOf d).1, .int (Ks331.stepOf d).2]
  range : mg "range" = none
  len : mg "len" = none
  abs : mg "abs" = none
  max : mg "max" = none
/-- a list at L of the pairs at as, which hold ps -/
structure PL (H : Hp) (L : Addr) (as : List Addr) (ps : List (Nat × Nat)) : Prop where
  lst : H L = some (.lst (as.map V.ref))
  len : as.length = ps.length
  at_ : ∀ (i : Nat) (a : Addr), as[i]? = some a → ∃ p, ps[i]? = some p ∧ H a = some (.tup [.int ((p.1 : Nat) : Int), .int ((p.2 : Nat) : Int)])
theorem PL.same {H H' : Hp} {l : Addr} {as : List Addr} {xss : List (Nat × Nat)} (s : Same H H') (h : PL H l as xss) : PL H' l as xss :=
  ⟨s _ _ h.lst, h.len, fun i a e => let ⟨xs, h1, h2⟩ := h.at_ i a e; ⟨xs, h1, s _ _ h2⟩⟩
theorem PL.mem {H : Hp} {l : Addr} {as : List Addr} {xss : List (Nat × Nat)} (h : PL H l as xss) : l ∉ as := fun m => by
  obtain ⟨i, hi, e⟩ := List.getElem_of_mem m
  obtain ⟨xs, _, q⟩ := h.at_ i l (by rw [List.getElem?_eq_getElem hi, e])
  rw [h.lst] at q
  cases q
theorem PL.snoc {H : Hp} {l a : Addr} {as : List Addr} {ps : List (Nat × Nat)} {p : Nat × Nat} (h : PL H l as ps) (ha : H a = none) : PL (upd (upd H a (.tup [.int ((p.1 : Nat) : Int), .int ((p.2 : Nat) : Int)])) l (.lst (as.map V.ref ++ [.ref a]))) l (as ++ [a]) (ps ++ [p]) := by
  have hla : a ≠ l := fun q => by rw [q, h.lst] at ha; cases ha
  refine ⟨by rw [upd_same, List.map_append]; rfl, by simp [h.len], fun i b e => ?_⟩
  by_cases hi : i < as.length
  · rw [List.getElem?_append_left hi] at e
    obtain ⟨ys, h1, h2⟩ := h.at_ i b e
    refine ⟨ys, by rw [List.getElem?_append_left (by rw [← h.len]; exact hi)]; exact h1, ?_⟩
    rw [upd_ne (fun q => h.mem (by rw [← q]; exact List.mem_of_getElem? e)), upd_ne (ne_of_none h2 ha)]
    exact h2
  · rw [List.getElem?_append_right (by omega)] at e
    have hi' : i - as.length = 0 := by
      obtain ⟨z, _⟩ := List.getElem?_eq_some_iff.mp e
      simp at z
      exact z
    rw [hi'] at e
    have e2 : a = b := Option.some.inj e
    subst e2
    refine ⟨p, ?_, by rw [upd_ne hla, upd_same]⟩
    rw [List.getElem?_append_right (by rw [← h.len]; omega), ← h.len, hi']
    rfl
section
variable {P : Program} {w : World} {K : PySem.W.Frag} {mg : Str → Option Value} {base : Heap}
def spIsSide : Sp := fun vs H Q _ => ∃ n : Nat, vs = [.int (n : Int)] ∧ ∀ H', Same H H' → Q (.bl (decide (2 ≤ n) && decide (n ≤ 8))) H'
theorem scIsSide : FnScope ["length"] ["length"] (defScope sIsSide) := ⟨rfl, rfl, rfl, by decide +kernel, rfl, by decide +kernel, by decide +kernel⟩
theorem ok_isSide {f : Addr} {fd : FuncData} (F : Fun K "is_side" "is_side" sIsSide f fd) (T : Cst2 K mg) : FnOk P w K mg base CX0 1 f fd ["length"] spIsSide := by
  refine F.ok scIsSide (fun vs H Q E h => ?_) (fun cdv A outer s H vs Q E hr h => ?_)
  · obtain ⟨n, rfl, _⟩ := h
    rfl
  · obtain ⟨n, rfl, k⟩ := h
    refine ⟨_, pss_one (ps_ret (pe_chain op_le op_le (pe_gv rfl T.least) (pv 0) (pe_gv rfl T.most))), ?_⟩
    have := k H (Same.refl H)
    refine ⟨_, rfl, _, _, rfl, rfl, _, rfl, ite2 (fun c => ⟨_, _, rfl, rfl, ?_⟩) (fun c => ?_)⟩
    · have c' := of_decide_eq_true c
      rw [decide_eq_true (show 2 ≤ n by omega), Bool.true_and] at this
      have e : decide ((n : Int) ≤ 8) = decide (n ≤ 8) := decide_eq_decide.mpr (by omega)
      rw [← e] at this
      exact this
    · have c' : ¬ (2 : Int) ≤ (n : Int) := fun z => c (decide_eq_true z)
      rw [decide_eq_false (show ¬ 2 ≤ n by omega), Bool.false_and] at this
      exact this
def spAllPlaces : Sp := fun vs H Q _ => ∃ n : Nat, vs = [.int (n : Int)] ∧ n ≤ 64 ∧ ∀ H' L as, Same H H' → PL H' L as (Ks331.everywhere n) → Q (.ref L) H'
theorem scAllPlaces : FnScope ["size", "places", "cell", "way"] ["size"] (defScope sAllPlaces) := ⟨rfl, rfl, rfl, by decide +kernel, rfl, by decide +kernel, by decide +kernel⟩
theorem everywhere_succ (n : Nat) : Ks331.everywhere (n + 1) = Ks331.everywhere n ++ (List.range 8).map fun d => (n, d) := by
  unfold Ks331.everywhere
  generalize List.range 8 = r
  rw [List.range_succ, List.flatMap_append]
  simp
theorem everywhere_len : ∀ n : Nat, (Ks331.everywhere n).length = 8 * n
  | 0 => rfl
  | n + 1 => by rw [everywhere_succ, List.length_append, everywhere_len n]; simp; omega
theorem ok_allPlaces {f : Addr} {fd : FuncData} (F : Fun K "all_places" "all_places" sAllPlaces f fd) (T : Cst2 K mg) : FnOk P w K mg base CX0 1 f fd ["size"] spAllPlaces := by
  refine F.ok scAllPlaces (fun vs H Q E h => ?_) (fun cdv A outer s H vs Q E hr h => ?_)
  · obtain ⟨n, rfl, _⟩ := h
    rfl
  · obtain ⟨n, rfl, hn, k⟩ := h
    obtain ⟨aw, ts, hw, hwt, hw8, _⟩ := T.ways
    refine ⟨_, pss_cons (ps_set (i := 1) scAllPlaces.nd rfl (Or.inl rfl) (pe_lst pa_nil))
      (pss_cons (ps_for PassesOwn.never rfl (pi_range1 rfl T.range (pa_cons (pv 0) pa_nil)) (pg_name (i := 2) scAllPlaces.nd rfl (Or.inl rfl))
        (pss_one (ps_for PassesOwn.never rfl (pi_range1 rfl T.range (pa_cons (pe_callB call_len_seq (by rfl) T.len PySem.boot_len (pa_cons (pe_gv rfl hw) pa_nil)) pa_nil)) (pg_name (i := 3) scAllPlaces.nd rfl (Or.inl rfl))
          (pss_one (ps_expr (pe_bm PySem.F.plainAttrs_list PySem.F.slot_list_append PySem.F.type_list_append mt_append (pv 1) (pa_cons (pe_tup (pa_cons (pv 2) (pa_cons (pv 3) pa_nil))) pa_nil)))))))
      (pss_one (ps_ret (pv 1)))), ?_⟩
    refine ⟨Nat.zero_le _, fun L hL => ?_⟩
    have hL0 : H L = none := hL
    have sz : 1000 < sizeLine := by decide
    refine ⟨_, rfl, _, rfl, by omega, by omega, for_range (lo := 0) (n := n) (fun i σ H' => ∃ (as : List Addr) (v1 v2 : Option V), σ = [some (.int (n : Int)), some (.ref L), v1, v2] ∧ Same H H' ∧ PL H' L as (Ks331.everywhere i)) ?_ ?_ ?_⟩
    · exact ⟨[], none, none, rfl, same_new (Same.refl H) hL0, ⟨by rw [upd_same]; rfl, rfl, fun i a e => by simp at e⟩⟩
    · rintro i σ H' hi ⟨as, v1, v2, rfl, q, pl⟩
      refine ⟨aw, _, rfl, .inr (hwt _), (8 : Int), ?_, by omega, by omega, for_range (lo := 0) (n := 8) (fun j σ H' => ∃ (as : List Addr) (v2 : Option V), σ = [some (.int (n : Int)), some (.ref L), some (.int (0 + (i : Int))), v2] ∧ Same H H' ∧ PL H' L as (Ks331.everywhere i ++ (List.range j).map fun d => (i, d))) ?_ ?_ ?_⟩
      · rw [List.length_map, hw8]
        rfl
      · exact ⟨as, v2, rfl, q, by simpa using pl⟩
      · rintro j σ H2 hj ⟨as, v2, rfl, q2, pl2⟩
        refine ⟨_, rfl, .inl ⟨rfl, _, SqL.of pl2.lst⟩, _, rfl, _, rfl, (by show 2 ≤ sizeLine; decide), fun t ht => ?_⟩
        have htL : L ≠ t := ne_of_none pl2.lst ht
        refine ⟨L, _, _, rfl, rfl, by rw [upd_ne htL]; exact pl2.lst, ?_, ?_⟩
        · rw [List.length_map, pl2.len, List.length_append, everywhere_len, List.length_map, List.length_range]
          omega
        · have e1 : (0 : Int) + (i : Int) = ((i : Nat) : Int) := by omega
          have e2 : (0 : Int) + (j : Int) = ((j : Nat) : Int) := by omega
          have := pl2.snoc (p := (i, j)) ht
          refine ⟨as ++ [t], _, rfl, same_new (same_new q2 (q2.free ht)) hL0, ?_⟩
          rw [e1, e2, List.range_succ, List.map_append, ← List.append_assoc]
          exact this
      · rintro σ H2 ⟨as, v2, rfl, q2, pl2⟩
        exact ⟨as, _, _, rfl, q2, by rw [everywhere_succ]; exact pl2⟩
    · rintro σ H' ⟨as, v1, v2, rfl, q, pl⟩
      exact ⟨_, rfl, k H' L as q pl⟩
/-- the cells from a cell on -/
def spCellsFrom (C : Addr) : Sp := fun vs H Q _ => ∃ (b dx : Addr) (fs : List (Str × V)) (wd hg c d : Nat), vs = [.ref b, .int (c : Int), .int (d : Int)] ∧ H b = some (.ins C dx fs) ∧ fs.lookup ("wide" : Str) = some (.int (wd : Int)) ∧ fs.lookup ("high" : Str) = some (.int (hg : Int)) ∧
  2 ≤ wd ∧ wd ≤ 8 ∧ 2 ≤ hg ∧ hg ≤ 8 ∧ c < wd * hg ∧ d < 8 ∧ ∀ H' L, Same H H' → H L = none → H' L = some (.lst (iv (ray wd hg c d))) → Q (.ref L) H'
theorem scCellsFrom : FnScope ["self", "cell", "way", "cells", "column", "row"] ["self", "cell", "way"] (defScope sCellsFrom) := ⟨rfl, rfl, rfl, by decide +kernel, rfl, by decide +kernel, by decide +kernel⟩
structure BTxt (K : PySem.W.Frag) (C : Addr) : Prop where
  cl : Cls K C
  nW : NoAttr K C "wide"
  nH : NoAttr K C "high"
  nS : NoAttr K C "size"
  nR : NoAttr K C "rays"
  nT : NoAttr K C "track"
theorem rayGo_step {w h c d k x : Nat} (f : Nat) (e : Ks331.cellAt w h c d k = some x) : rayGo w h c d (f + 1) k = x :: rayGo w h c d f (k + 1) := by
  show (match Ks331.cellAt w h c d k with | some x => x :: rayGo w h c d f (k+1) | none => []) = _
  have e' : Ks331.cellAt w h c d k = some x := e
  rw [e']
theorem rayGo_stop {w h c d k : Nat} (f : Nat) (e : Ks331.cellAt w h c d k = none) : rayGo w h c d f k = [] := by
  cases f with
  | zero => rfl
  | succ f =>
    show (match Ks331.cellAt w h c d k with | some x => x :: rayGo w h c d f (k+1) | none => []) = _
    rw [e]
theorem cellAt_none {w h c d k : Nat} (hn : ¬ (0 ≤ ((c % w : Nat) : Int) + (Ks331.stepOf d).1 * (k : Int) ∧ ((c % w : Nat) : Int) + (Ks331.stepOf d).1 * (k : Int) < (w : Int) ∧ 0 ≤ ((c / w : Nat) : Int) + (Ks331.stepOf d).2 * (k : Int) ∧ ((c / w : Nat) : Int) + (Ks331.stepOf d).2 * (k : Int) < (h : Int))) :
    Ks331.cellAt w h c d k = none := by
  unfold Ks331.cellAt
  exact if_neg hn
def CFI (H : Hp) (b L : Addr) (wd hg c d j : Nat) (σ : L2.St) (H' : Hp) : Prop := j ≤ 8 ∧ ∃ pre : List Nat, pre.length = j ∧ σ = [some (.ref b), some (.int (c : Int)), some (.int (d : Int)), some (.ref L), some (.int (((c % wd : Nat) : Int) + (Ks331.stepOf d).1 * (j : Int))), some (.int (((c / wd : Nat) : Int) + (Ks331.stepOf d).2 * (j : Int)))] ∧
  Same H H' ∧ H' L = some (.lst (iv pre)) ∧ ray wd hg c d = pre ++ rayGo wd hg c d (8 - j) j
theorem ok_cellsFrom {f C : Addr} {fd : FuncData} (F : Fun K "cells_from" "Board.cells_from" sCellsFrom f fd) (T : Cst2 K mg) (B : BTxt K C) : FnOk P w K mg base CX0 1 f fd ["self", "cell", "way"] (spCellsFrom C) := by
  refine F.ok scCellsFrom (fun vs H Q E h => ?_) (fun cdv A outer s H vs Q E hr h => ?_)
  · obtain ⟨b, dx, fs, wd, hg, c, d, rfl, _⟩ := h
    rfl
  · obtain ⟨b, dx, fs, wd, hg, c, d, rfl, hb, lw, lh, w2, w8, h2, h8, hc, hd, k⟩ := h
    obtain ⟨aw, ts, hw, hwt, hw8, hst⟩ := T.ways
    obtain ⟨td, htd⟩ : ∃ t, ts[d]? = some t := ⟨_, List.getElem?_eq_getElem (by omega)⟩
    have hstep := hst d td htd
    refine ⟨_, pss_cons (ps_set (i := 3) scCellsFrom.nd rfl (Or.inl rfl) (pe_lst pa_nil))
      (pss_cons (ps_set (i := 4) scCellsFrom.nd rfl (Or.inl rfl) (pe_op op_mod (pv 1) (pe_fld (pv 0) rfl)))
      (pss_cons (ps_set (i := 5) scCellsFrom.nd rfl (Or.inl rfl) (pe_op op_fdiv (pv 1) (pe_fld (pv 0) rfl)))
      (pss_cons (ps_while PassesOwn.never (PW.pt (pw_and (pt_chain op_le op_lt pe_int (pv 4) (pe_fld (pv 0) rfl)) (pw_and1 (pt_chain op_le op_lt pe_int (pv 5) (pe_fld (pv 0) rfl)))))
        (pss_cons (ps_expr (pe_bm PySem.F.plainAttrs_list PySem.F.slot_list_append PySem.F.type_list_append mt_append (pv 3) (pa_cons (pe_op op_add (pe_op op_mul (pv 5) (pe_fld (pv 0) rfl)) (pv 4)) pa_nil)))
        (pss_cons (ps_aug (i := 4) scCellsFrom.nd rfl (Or.inl rfl) (pe_ix ix_tup (pe_ix ix_tup (pe_gv rfl hw) (pv 2) (fun _ _ => rfl)) pe_int (fun _ _ => rfl)) ip_add)
        (pss_one (ps_aug (i := 5) scCellsFrom.nd rfl (Or.inl rfl) (pe_ix ix_tup (pe_ix ix_tup (pe_gv rfl hw) (pv 2) (fun _ _ => rfl)) pe_int (fun _ _ => rfl)) ip_add)))))
      (pss_one (ps_ret (pv 3)))))), ?_⟩
    refine ⟨Nat.zero_le _, fun L hL => ?_⟩
    have hL0 : H L = none := hL
    have sz : 1000 < sizeLine := by decide
    have hbL : ∀ {o : HO}, upd H L o b = some (.ins C dx fs) := fun {o} => by rw [upd_ne (ne_of_none hb hL0)]; exact hb
    refine ⟨_, rfl, _, rfl, b, C, dx, fs, _, rfl, hbL, B.cl, B.nW, lw, _, _, rfl, rfl, (show (0 : Int) < (wd : Int) by omega), ?_⟩
    refine ⟨_, rfl, _, rfl, b, C, dx, fs, _, rfl, hbL, B.cl, B.nW, lw, _, _, rfl, rfl, (show (0 : Int) < (wd : Int) ∧ (wd : Int) < 1073741824 by omega), ?_⟩
    have e1 : (c : Int) % (wd : Int) = ((c % wd : Nat) : Int) := (Int.natCast_emod c wd).symm
    have e2 : (c : Int) / (wd : Int) = ((c / wd : Nat) : Int) := (Int.natCast_ediv c wd).symm
    refine ⟨fun m σ H' => ∃ j, m = 8 - j ∧ CFI H b L wd hg c d j σ H', ⟨8, 0, rfl, by omega, [], rfl, ?_, same_new (Same.refl H) hL0, upd_same, rfl⟩, ?_⟩
    · have z1 : ((c % wd : Nat) : Int) + (Ks331.stepOf d).1 * ((0 : Nat) : Int) = (c : Int) % (wd : Int) := by rw [e1]; simp
      have z2 : ((c / wd : Nat) : Int) + (Ks331.stepOf d).2 * ((0 : Nat) : Int) = (c : Int) / (wd : Int) := by rw [e2]; simp
      rw [z1, z2]
      rfl
    · rintro m σ H' ⟨j, rfl, hj, pre, hp, rfl, q, hLp, hray⟩
      have hb' := q _ _ hb
      have stop : ¬ (0 ≤ ((c % wd : Nat) : Int) + (Ks331.stepOf d).1 * (j : Int) ∧ ((c % wd : Nat) : Int) + (Ks331.stepOf d).1 * (j : Int) < (wd : Int) ∧ 0 ≤ ((c / wd : Nat) : Int) + (Ks331.stepOf d).2 * (j : Int) ∧ ((c / wd : Nat) : Int) + (Ks331.stepOf d).2 * (j : Int) < (hg : Int)) → Q (.ref L) H' := fun hn => by
        refine k H' L q hL0 ?_
        rw [hray, rayGo_stop _ (cellAt_none hn), List.append_nil]
        exact hLp
      have stp : (¬ (0 ≤ ((c % wd : Nat) : Int) + (Ks331.stepOf d).1 * (j : Int) ∧ ((c % wd : Nat) : Int) + (Ks331.stepOf d).1 * (j : Int) < (wd : Int) ∧ 0 ≤ ((c / wd : Nat) : Int) + (Ks331.stepOf d).2 * (j : Int) ∧ ((c / wd : Nat) : Int) + (Ks331.stepOf d).2 * (j : Int) < (hg : Int))) → _ := fun hn => (⟨V.ref L, rfl, stop hn⟩ : tRet (tVar 3) { nx := fun _ H' => Q .non H', rt := Q } [some (.ref b), some (.int (c : Int)), some (.int (d : Int)), some (.ref L), some (.int (((c % wd : Nat) : Int) + (Ks331.stepOf d).1 * (j : Int))), some (.int (((c / wd : Nat) : Int) + (Ks331.stepOf d).2 * (j : Int)))] H')
      refine ⟨_, rfl, _, _, rfl, rfl, _, rfl, ite2 (fun c1 => ⟨_, rfl, b, C, dx, fs, _, rfl, hb', B.cl, B.nW, lw, _, _, rfl, rfl, _, rfl, ite2 (fun c2 => ?_) (fun c2 => iteF (stp ?_))⟩) (fun c1 => ⟨_, rfl, iteF (iteF (stp ?_))⟩)⟩
      · refine ⟨_, rfl, _, _, rfl, rfl, _, rfl, ite2 (fun c3 => ⟨_, rfl, b, C, dx, fs, _, rfl, hb', B.cl, B.nH, lh, _, _, rfl, rfl, _, rfl, ite2 (fun c4 => ?_) (fun c4 => stp ?_)⟩) (fun c3 => ⟨_, rfl, iteF (stp ?_)⟩)⟩
        · have d1 := of_decide_eq_true c1
          have d2 := of_decide_eq_true c2
          have d3 := of_decide_eq_true c3
          have d4 := of_decide_eq_true c4
          obtain ⟨X, hX⟩ := Int.eq_ofNat_of_zero_le d1
          obtain ⟨Y, hY⟩ := Int.eq_ofNat_of_zero_le d3
          have hcell : Ks331.cellAt wd hg c d j = some (Y * wd + X) := cellAt_of hX.symm hY.symm (by omega) (by omega)
          have hj8 : j < 8 := by
            rcases Nat.lt_or_ge j 8 with z | z
            · exact z
            · rw [cellAt_far w8 h8 hc z] at hcell
              cases hcell
          have hat : atI (ts.map V.ref) (d : Int) = some (V.ref td) := atI_nat (by rw [List.getElem?_map, htd]; rfl)
          refine ⟨CFI H b L wd hg c d (j + 1), fun σ' H2 z => ⟨8 - (j + 1), by omega, j + 1, rfl, z⟩, ?_⟩
          refine ⟨_, rfl, .inl ⟨rfl, _, SqL.of hLp⟩, _, rfl, _, rfl, b, C, dx, fs, _, rfl, hb', B.cl, B.nW, lw, _, _, rfl, rfl, .inl (by constructor <;> omega), _, rfl, _, _, rfl, rfl, L, _, _, rfl, rfl, hLp, by rw [iv_len]; omega, ?_⟩
          refine ⟨_, rfl, _, rfl, aw, _, _, _, rfl, rfl, hwt _, hat, td, _, _, _, rfl, rfl, hstep _, atI_nat (j := 0) rfl, _, _, rfl, rfl, ?_⟩
          refine ⟨_, rfl, _, rfl, aw, _, _, _, rfl, rfl, hwt _, hat, td, _, _, _, rfl, rfl, hstep _, atI_nat (j := 1) rfl, _, _, rfl, rfl, ?_⟩
          refine ⟨by omega, pre ++ [Y * wd + X], by simp [hp], ?_, same_new q hL0, ?_, ?_⟩
          · have z1 : ((c % wd : Nat) : Int) + (Ks331.stepOf d).1 * ((j + 1 : Nat) : Int) = ((c % wd : Nat) : Int) + (Ks331.stepOf d).1 * (j : Int) + (Ks331.stepOf d).1 := by
              rw [Int.natCast_add, Int.mul_add]; omega
            have z2 : ((c / wd : Nat) : Int) + (Ks331.stepOf d).2 * ((j + 1 : Nat) : Int) = ((c / wd : Nat) : Int) + (Ks331.stepOf d).2 * (j : Int) + (Ks331.stepOf d).2 := by
              rw [Int.natCast_add, Int.mul_add]; omega
            rw [z1, z2]
            rfl
          · rw [upd_same, hX, hY]
            unfold iv
            rw [List.map_append]
            simp
          · rw [hray, show 8 - j = (8 - (j + 1)) + 1 by omega, rayGo_step _ hcell, List.append_assoc]
            rfl
        · intro z
          exact c4 (decide_eq_true z.2.2.2)
        · intro z
          exact c3 (decide_eq_true z.2.2.1)
      · intro z
        exact c2 (decide_eq_true z.2.1)
      · intro z
        exact c1 (decide_eq_true z.1)
end
end HW
end
section
set_option Elab.async false
set_option linter.all false
set_option maxRecDepth 100000
set_option maxHeartbeats 4000000
namespace HW
open PySem PySem.Spec PyProof.Rows L2 HX
/-- a method, known by its promise -/
structure Mth (P : Program) (w : World) (K : PySem.W.Frag) (mg : Str → Option Value) (base : Heap) (k : Nat) (C : Addr) (m : Str) (ps : List Str) (sp : Sp) : Prop where
  ex : ∃ (f : Addr) (fd : FuncData), FnOk P w K mg base CX0 k f fd ps sp ∧ Meth K C m f ∧ Binds K fd ps []
theorem pe_mth {X : Cx} {k : Nat} {C : Addr} {m : Str} {ps : List Str} {sp : Sp} {o e : Expr} {es : List Expr} {ta : TE} {t : TA} {apos pos : Pos} {pl : Sem Bool} (M : Mth X.prog X.w X.K X.mg X.base k C m ps sp) (hr : Room k X.A) (cl : Cls X.K C) (he : PE X o ta) (ha : PA X (e :: es) t)
    (hst : starEach (e :: es) X.env = (false, eval e X.env) :: starEach es X.env := by rfl) (hpl : (backTo pos (starEach es X.env)).any (·.1) = false := by rfl)
    (ht : eval (.Call (.Attribute o m apos) (e :: es) [] pos) X.env = (do
      let ov ← eval o X.env
      standAt apos.atName
      let (f, first) ← holding [ov] (getMethod ov m pl)
      callWith pos f first (backTo pos (starEach (e :: es) X.env)) (backToKw pos (keywordEach [] X.env))) := by rfl) :
    PE X (.Call (.Attribute o m apos) (e :: es) [] pos) (tMeth C m sp [] E0 ta t) := by
  obtain ⟨f, fd, G, hm, hb⟩ := M.ex
  exact pe_meth he cl hm G hr hb .nil pass0 ha hst hpl ht
theorem pe_mth0 {X : Cx} {k : Nat} {C : Addr} {m : Str} {ps : List Str} {sp : Sp} {o : Expr} {ta : TE} {apos pos : Pos} {pl : Sem Bool} (M : Mth X.prog X.w X.K X.mg X.base k C m ps sp) (hr : Room k X.A) (cl : Cls X.K C) (he : PE X o ta)
    (ht : eval (.Call (.Attribute o m apos) [] [] pos) X.env = (do
      let ov ← eval o X.env
      standAt apos.atName
      let (f, first) ← holding [ov] (getMethod ov m pl)
      callWith pos f first (backTo pos (starEach [] X.env)) (backToKw pos (keywordEach [] X.env))) := by rfl) :
    PE X (.Call (.Attribute o m apos) [] [] pos) (tMeth C m sp [] E0 ta tNil) := by
  obtain ⟨f, fd, G, hm, hb⟩ := M.ex
  exact pe_meth0 he cl hm G hr hb .nil pass0 ht
/-- a class, known by its __init__'s promise -/
structure Mak (P : Program) (w : World) (K : PySem.W.Frag) (mg : Str → Option Value) (base : Heap) (k : Nat) (x : Str) (C : Addr) (ps : List Str) (sp : Sp) : Prop where
  ex : ∃ (f : Addr) (fd : FuncData), Mk K C f ∧ FnOk P w K mg base CX0 k f fd ps sp ∧ mg x = some (.ref C) ∧ Binds K fd ps []
theorem pe_mak {X : Cx} {k : Nat} {x : Str} {C : Addr} {ps : List Str} {sp : Sp} {e : Expr} {es : List Expr} {t : TA} {p pos : Pos} (M : Mak X.prog X.w X.K X.mg X.base k x C ps sp) (hr : Room (k + 1) X.A) (hg : Gl X x) (ha : PA X (e :: es) t)
    (hdb : (x == ("__debug__" : Str)) = false := by decide) (he : starEach (e :: es) X.env = (false, eval e X.env) :: starEach es X.env := by rfl) (hpl : (backTo pos (starEach es X.env)).any (·.1) = false := by rfl) :
    PE X (.Call (.Name x p) (e :: es) [] pos) (tMake C sp [] E0 t) := by
  obtain ⟨f, fd, mk, G, hm, hb⟩ := M.ex
  exact pe_make mk G hr hg hm hb .nil pass0 ha hdb he hpl
theorem pe_mak0 {X : Cx} {k : Nat} {x : Str} {C : Addr} {ps : List Str} {sp : Sp} {p pos : Pos} (M : Mak X.prog X.w X.K X.mg X.base k x C ps sp) (hr : Room (k + 1) X.A) (hg : Gl X x) (hdb : (x == ("__debug__" : Str)) = false := by decide) :
    PE X (.Call (.Name x p) [] [] pos) (tMake C sp [] E0 tNil) := by
  obtain ⟨f, fd, mk, G, hm, hb⟩ := M.ex
  exact pe_make0 mk G hr hg hm hb .nil pass0 hdb
/-! ### The board's data -/
def raysOf (wd hg : Nat) : List (List Nat) := (Ks331.everywhere (wd * hg)).map fun p => ray wd hg p.1 p.2
theorem everywhere_get : ∀ {n c d : Nat}, c < n → d < 8 → (Ks331.everywhere n)[c * 8 + d]? = some (c, d)
  | 0, c, d, h, _ => absurd h (by omega)
  | n + 1, c, d, h, hd => by
    rw [everywhere_succ]
    by_cases hc : c < n
    · rw [List.getElem?_append_left (by rw [everywhere_len]; omega)]
      exact everywhere_get hc hd
    · have e : c = n := by omega
      subst e
      rw [List.getElem?_append_right (by rw [everywhere_len]; omega), everywhere_len, show c * 8 + d - 8 * c = d by omega, List.getElem?_map, List.getElem?_range hd]
      rfl
theorem rays_get {wd hg c d : Nat} (hc : c < wd * hg) (hd : d < 8) : (raysOf wd hg)[c * 8 + d]? = some (ray wd hg c d) := by
  unfold raysOf
  rw [List.getElem?_map, everywhere_get hc hd]
  rfl
/-- what the track has of a cell's ways so far -/
def segs (wd hg c j : Nat) : List Nat := (List.range j).flatMap fun d => if (ray wd hg c (d + 4)).length = 1 then ray wd hg c d ++ [wd * hg] else []
def tracks (wd hg i : Nat) : List Nat := (List.range i).flatMap fun c => segs wd hg c 4
theorem track_eq (wd hg : Nat) : track wd hg = tracks wd hg (wd * hg) := rfl
theorem segs_succ (wd hg c j : Nat) : segs wd hg c (j + 1) = segs wd hg c j ++ if (ray wd hg c (j + 4)).length = 1 then ray wd hg c j ++ [wd * hg] else [] := by
  unfold segs
  rw [List.range_succ, List.flatMap_append]
  simp
theorem tracks_succ (wd hg i : Nat) : tracks wd hg (i + 1) = tracks wd hg i ++ segs wd hg i 4 := by
  unfold tracks
  rw [List.range_succ, List.flatMap_append]
  simp
section
variable {P : Program} {w : World} {K : PySem.W.Frag} {mg : Str → Option Value} {base : Heap}
def spWholeTrack (C : Addr) : Sp := fun vs H Q _ => ∃ (b dx R : Addr) (fs : List (Str × V)) (ras : List Addr) (wd hg : Nat), vs = [.ref b] ∧ H b = some (.ins C dx fs) ∧ fs.lookup ("size" : Str) = some (.int ((wd * hg : Nat) : Int)) ∧ fs.lookup ("rays" : Str) = some (.ref R) ∧ LL H R ras ((raysOf wd hg).map iv) ∧
  wd ≤ 8 ∧ hg ≤ 8 ∧ ∀ H' L, Same H H' → H L = none → H' L = some (.lst (iv (track wd hg))) → Q (.ref L) H'
theorem scWholeTrack : FnScope ["self", "track", "cell", "way", "place"] ["self"] (defScope sWholeTrack) := ⟨rfl, rfl, rfl, by decide +kernel, rfl, by decide +kernel, by decide +kernel⟩
theorem ok_wholeTrack {f C : Addr} {fd : FuncData} (F : Fun K "whole_track" "Board.whole_track" sWholeTrack f fd) (T : Cst2 K mg) (B : BTxt K C) : FnOk P w K mg base CX0 1 f fd ["self"] (spWholeTrack C) := by
  refine F.ok scWholeTrack (fun vs H Q E h => ?_) (fun cdv A outer s H vs Q E hr h => ?_)
  · obtain ⟨b, dx, R, fs, ras, wd, hg, rfl, _⟩ := h
    rfl
  · obtain ⟨b, dx, R, fs, ras, wd, hg, rfl, hb, ls, lr, hR, w8, h8, k⟩ := h
    obtain ⟨aw, ts, hw, hwt, hw8, _⟩ := T.ways
    have hsz : wd * hg ≤ 64 := Nat.mul_le_mul w8 h8
    refine ⟨_, pss_cons (ps_set (i := 1) scWholeTrack.nd rfl (Or.inl rfl) (pe_lst pa_nil))
      (pss_cons (ps_for PassesOwn.never rfl (pi_range1 rfl T.range (pa_cons (pe_fld (pv 0) rfl) pa_nil)) (pg_name (i := 2) scWholeTrack.nd rfl (Or.inl rfl))
        (pss_one (ps_for PassesOwn.never rfl (pi_range1 rfl T.range (pa_cons (pe_gv rfl T.half) pa_nil)) (pg_name (i := 3) scWholeTrack.nd rfl (Or.inl rfl))
          (pss_cons (ps_set (i := 4) scWholeTrack.nd rfl (Or.inl rfl) (pe_op op_add (pe_op op_mul (pv 2) (pe_callB call_len_seq (by rfl) T.len PySem.boot_len (pa_cons (pe_gv rfl hw) pa_nil))) (pv 3)))
          (pss_one (ps_if (pt_cmpR op_eq (pe_callB call_len_seq (by rfl) T.len PySem.boot_len (pa_cons (pe_ix ix_list (pe_fld (pv 0) rfl) (pe_op op_add (pv 4) (pe_gv rfl T.half)) (fun _ _ => rfl)) pa_nil)) pe_int (nomark _))
            (pss_cons (ps_expr (pe_bm PySem.F.plainAttrs_list PySem.F.slot_list_extend PySem.F.type_list_extend mt_extend (pv 1) (pa_cons (pe_ix ix_list (pe_fld (pv 0) rfl) (pv 4) (fun _ _ => rfl)) pa_nil)))
            (pss_one (ps_expr (pe_bm PySem.F.plainAttrs_list PySem.F.slot_list_append PySem.F.type_list_append mt_append (pv 1) (pa_cons (pe_fld (pv 0) rfl) pa_nil)))))
            pss_nil))))))
      (pss_one (ps_ret (pv 1)))), ?_⟩
    refine ⟨Nat.zero_le _, fun L hL => ?_⟩
    have hL0 : H L = none := hL
    have sz : 100000 < sizeLine := by decide
    have hbL : ∀ {o : HO}, upd H L o b = some (.ins C dx fs) := fun {o} => by rw [upd_ne (ne_of_none hb hL0)]; exact hb
    refine ⟨_, rfl, b, C, dx, fs, _, rfl, hbL, B.cl, B.nS, ls, _, rfl, by omega, by omega, for_range (lo := 0) (n := wd * hg)
      (fun i σ H' => ∃ (v2 v3 v4 : Option V), σ = [some (.ref b), some (.ref L), v2, v3, v4] ∧ Same H H' ∧ H' L = some (.lst (iv (tracks wd hg i))) ∧ (tracks wd hg i).length ≤ 36 * i) ?_ ?_ ?_⟩
    · exact ⟨none, none, none, rfl, same_new (Same.refl H) hL0, upd_same, by simp [tracks]⟩
    · rintro i σ H' hi ⟨v2, v3, v4, rfl, q, hLt, hlen⟩
      refine ⟨_, rfl, by decide, by decide, for_range (lo := 0) (n := 4)
        (fun j σ H' => ∃ (v3 v4 : Option V), σ = [some (.ref b), some (.ref L), some (.int (0 + (i : Int))), v3, v4] ∧ Same H H' ∧ H' L = some (.lst (iv (tracks wd hg i ++ segs wd hg i j))) ∧ (tracks wd hg i ++ segs wd hg i j).length ≤ 36 * i + 9 * j) ?_ ?_ ?_⟩
      · exact ⟨v3, v4, rfl, q, by simpa [segs] using hLt, by simpa [segs] using hlen⟩
      · rintro j σ H2 hj ⟨v3, v4, rfl, q2, hL2, hlen2⟩
        have hb2 := q2 _ _ hb
        have hR2 := hR.same q2
        have e1 : (0 : Int) + (i : Int) = (i : Int) := by omega
        have e2 : (0 : Int) + (j : Int) = (j : Int) := by omega
        have r1 : ((raysOf wd hg).map iv)[i * 8 + (j + 4)]? = some (iv (ray wd hg i (j + 4))) := by rw [List.getElem?_map, rays_get hi (by omega)]; rfl
        have r0 : ((raysOf wd hg).map iv)[i * 8 + j]? = some (iv (ray wd hg i j)) := by rw [List.getElem?_map, rays_get hi (by omega)]; rfl
        obtain ⟨a1, ha1, hA1⟩ := hR2.get r1
        obtain ⟨a0, ha0, hA0⟩ := hR2.get r0
        have hat1 : atI (ras.map V.ref) ((0 + (i : Int)) * 8 + (0 + (j : Int)) + 4) = some (.ref a1) := by
          rw [show (0 + (i : Int)) * 8 + (0 + (j : Int)) + 4 = ((i * 8 + (j + 4) : Nat) : Int) by omega]
          exact atI_nat (by rw [List.getElem?_map, ha1]; rfl)
        have hat0 : atI (ras.map V.ref) ((0 + (i : Int)) * 8 + (0 + (j : Int))) = some (.ref a0) := by
          rw [show (0 + (i : Int)) * 8 + (0 + (j : Int)) = ((i * 8 + j : Nat) : Int) by omega]
          exact atI_nat (by rw [List.getElem?_map, ha0]; rfl)
        have l8 : (ts.map V.ref).length = 8 := by rw [List.length_map, hw8]
        refine ⟨_, rfl, aw, _, rfl, .inr (hwt _), _, _, rfl, rfl, .inl (by constructor <;> omega), _, rfl, _, _, rfl, rfl, ?_⟩
        rw [l8]
        refine ⟨_, rfl, b, C, dx, fs, _, rfl, hb2, B.cl, B.nR, lr, _, rfl, _, _, rfl, rfl, R, _, _, _, rfl, rfl, SqL.of hR2.lst, hat1, a1, _, rfl, .inl (SqL.of hA1), rfl, _, rfl, ite2 (fun c => ?_) (fun c => ?_)⟩
        · have c' : (ray wd hg i (j + 4)).length = 1 := by
            have := of_decide_eq_true c
            injection this with this
            rw [iv_len] at this
            omega
          have rl := ray_le (w := wd) (h := hg) (c := i) (d := j)
          refine ⟨_, rfl, .inl ⟨rfl, _, SqL.of hL2⟩, _, rfl, b, C, dx, fs, _, rfl, hb2, B.cl, B.nR, lr, _, rfl, R, _, _, _, rfl, rfl, SqL.of hR2.lst, hat0, L, a0, _, _, rfl, rfl, hL2, hA0, ?_, ?_⟩
          · rw [iv_len, iv_len]
            omega
          · have nbL : b ≠ L := ne_of hb2 hL2 (by intro z; cases z)
            refine ⟨_, rfl, .inl ⟨rfl, _, SqL.of upd_same⟩, _, rfl, b, C, dx, fs, _, rfl, by rw [upd_ne nbL]; exact hb2, B.cl, B.nS, ls, L, _, _, rfl, rfl, upd_same, ?_, ?_⟩
            · rw [List.length_append, iv_len, iv_len]
              omega
            · refine ⟨_, _, rfl, same_new (same_new q2 hL0) hL0, ?_, ?_⟩
              · rw [upd_same, segs_succ, if_pos c']
                unfold iv
                simp
              · rw [segs_succ, if_pos c']
                simp only [List.length_append, List.length_cons, List.length_nil] at hlen2 ⊢
                omega
        · have c' : ¬ (ray wd hg i (j + 4)).length = 1 := fun z => c (by
            rw [iv_len, z]
            rfl)
          refine ⟨_, _, rfl, q2, ?_, ?_⟩
          · rw [segs_succ, if_neg c', List.append_nil]
            exact hL2
          · rw [segs_succ, if_neg c', List.append_nil]
            omega
      · rintro σ H2 ⟨v3, v4, rfl, q2, hL2, hlen2⟩
        exact ⟨_, _, _, rfl, q2, by rw [tracks_succ]; exact hL2, by rw [tracks_succ]; omega⟩
    · rintro σ H' ⟨v2, v3, v4, rfl, q, hLt, hlen⟩
      exact ⟨_, rfl, k H' L q hL0 (by rw [track_eq]; exact hLt)⟩
end
end HW
end
section
set_option Elab.async false
set_option linter.all false
set_option maxRecDepth 100000
set_option maxHeartbeats 4000000
namespace HW
open PySem PySem.Spec PyProof.Rows L2 HX
def boardF (wd hg : Nat) (R T : Addr) : List (Str × V) := [("wide", .int (wd : Int)), ("high", .int (hg : Int)), ("size", .int ((wd * hg : Nat) : Int)), ("rays", .ref R), ("track", .ref T)]
/-- a board stands at b -/
def BoardAt (C : Addr) (H : Hp) (b : Addr) (wd hg : Nat) : Prop := ∃ (dx R T : Addr) (ras : List Addr), H b = some (.ins C dx (boardF wd hg R T)) ∧ LL H R ras ((raysOf wd hg).map iv) ∧ H T = some (.lst (iv (track wd hg)))
theorem BoardAt.same {C : Addr} {H H' : Hp} {b : Addr} {wd hg : Nat} (s : Same H H') (h : BoardAt C H b wd hg) : BoardAt C H' b wd hg :=
  let ⟨dx, R, T, ras, h1, h2, h3⟩ := h; ⟨dx, R, T, ras, s _ _ h1, h2.same s, s _ _ h3⟩
theorem LL.ins {H : Hp} {l p : Addr} {o : HO} {as : List Addr} {xss : List (List V)} {C dx : Addr} {fs : List (Str × V)} (h : LL H l as xss) (hp : H p = some (.ins C dx fs)) : LL (upd H p o) l as xss :=
  h.write (ne_of h.lst hp (by intro z; cases z)) (fun m => by obtain ⟨xs, e⟩ := h.mem m; rw [hp] at e; cases e)
theorem PL.ref_get {H : Hp} {l : Addr} {as : List Addr} {ps : List (Nat × Nat)} (h : PL H l as ps) {i : Nat} {x : V} (e : (as.map V.ref)[i]? = some x) : ∃ a p, as[i]? = some a ∧ x = .ref a ∧ ps[i]? = some p ∧ H a = some (.tup [.int ((p.1 : Nat) : Int), .int ((p.2 : Nat) : Int)]) := by
  rw [List.getElem?_map] at e
  cases q : as[i]? with
  | none => rw [q] at e; cases e
  | some a =>
    rw [q] at e
    obtain ⟨xs, h1, h2⟩ := h.at_ i a q
    exact ⟨a, xs, rfl, (Option.some.inj e).symm, h1, h2⟩
/-- a comprehension without a test -/
theorem lc_listY {K : PySem.W.Frag} {a : Addr} {xs : List V} {g : TG} {te : TE} {vs : List Nat} {σ : L2.St} {H1 : Hp} {D : Addr} {Qd : Hp → Prop} (Pv : Nat → Hp → Prop) (h0 : Pv 0 (upd H1 D (.lst []))) (hl : ∀ i H, i ≤ xs.length → Pv i H → SqL K H a xs)
    (hs : ∀ i x H, xs[i]? = some x → Pv i H → g x (wipe σ vs) H fun σ2 H2 => wipe σ2 vs = wipe σ vs ∧ te σ2 H2 fun y H4 => ∃ acc, H4 D = some (.lst acc) ∧ acc.length < sizeLine ∧ Pv (i + 1) (upd H4 D (.lst (acc ++ [y])))) (hd : ∀ H, Pv xs.length H → Qd H) :
    ∃ W : Nat → Nat → Hp → Prop, (∃ m, W 0 m (upd H1 D (.lst []))) ∧ ∀ i m H, W i m H →
      ((Itl K a).stop i H ∧ Qd H) ∨ ((Itl K a).go i H ∧ ∃ Nx : Hp → Prop, (∀ H', Nx H' → ∃ m', m' < m ∧ W (i + 1) m' H') ∧ ∀ x H', (Itl K a).yld i H x H' → g x (wipe σ vs) H' fun σ2 H2 => wipe σ2 vs = wipe σ vs ∧ tYes σ2 H2 fun b H3 =>
        if b = true then te σ2 H3 fun y H4 => ∃ acc, H4 D = some (.lst acc) ∧ acc.length < sizeLine ∧ Nx (upd H4 D (.lst (acc ++ [y]))) else Nx H3) :=
  lc_list Pv h0 hl (fun i x H a b => hs i x H a b) hd
section
variable {P : Program} {w : World} {K : PySem.W.Frag} {mg : Str → Option Value} {base : Heap}
def spBoardInit (C : Addr) : Sp := fun vs H Q _ => ∃ (p dx : Addr) (wd hg : Nat), vs = [.ref p, .int (wd : Int), .int (hg : Int)] ∧ H p = some (.ins C dx []) ∧ 2 ≤ wd ∧ wd ≤ 8 ∧ 2 ≤ hg ∧ hg ≤ 8 ∧
  ∀ H', BoardAt C H' p wd hg → (∀ b o, H b = some o → b ≠ p → H' b = some o) → Q .non H'
theorem scBoardInit : FnScope ["self", "wide", "high", "cell", "way"] ["self", "wide", "high"] (defScope sBoardInit) := ⟨rfl, rfl, rfl, by decide +kernel, rfl, by decide +kernel, by decide +kernel⟩
theorem ok_boardInit {f C : Addr} {fd : FuncData} (F : Fun K "__init__" "Board.__init__" sBoardInit f fd) (T : Cst2 K mg) (B : BTxt K C) (C1 : Cal P w K mg base 1 "all_places" ["size"] spAllPlaces)
    (M1 : Mth P w K mg base 1 C "cells_from" ["self", "cell", "way"] (spCellsFrom C)) (M2 : Mth P w K mg base 1 C "whole_track" ["self"] (spWholeTrack C)) : FnOk P w K mg base CX0 2 f fd ["self", "wide", "high"] (spBoardInit C) := by
  refine F.ok scBoardInit (fun vs H Q E h => ?_) (fun cdv A outer s H vs Q E hr h => ?_)
  · obtain ⟨p, dx, wd, hg, rfl, _⟩ := h
    rfl
  · obtain ⟨p, dx, wd, hg, rfl, hp, w2, w8, h2, h8, k⟩ := h
    have hsz : wd * hg ≤ 64 := Nat.mul_le_mul w8 h8
    have sz : 100000 < sizeLine := by decide
    refine ⟨_, pss_cons (ps_fld (pv 0) (pv 1) rfl) (pss_cons (ps_fld (pv 0) (pv 2) rfl) (pss_cons (ps_fld (pv 0) (pe_op op_mul (pv 1) (pv 2)) rfl)
      (pss_cons (ps_fld (pv 0) (pe_lc (g := gTup K 2 (gCons (gName 3) (gCons (gName 4) gNil))) (own := [("cell", 3), ("way", 4)]) rfl scBoardInit.nd (pi_list (pe_cal C1 hr rfl (pa_cons (pe_fld (pv 0) rfl) pa_nil))) (blkOk_by rfl)
        (fun s H C cl fp => pg_tup rfl (pgs_cons (pg_name (i := 3) scBoardInit.nd rfl (Or.inl rfl)) (pgs_cons (pg_name (i := 4) scBoardInit.nd rfl (Or.inl rfl)) pgs_nil)))
        (fun s H C cl fp => pts_nil) (fun s H C cl fp => pe_mth M1 hr B.cl (pv 0) (pa_cons (pv 3) (pa_cons (pv 4) pa_nil)))) rfl)
      (pss_one (ps_fld (pv 0) (pe_mth0 M2 hr B.cl (pv 0)) rfl))))), ?_⟩
    refine ⟨_, rfl, _, rfl, p, C, dx, [], rfl, hp, B.cl, B.nW, by decide, ?_⟩
    refine ⟨_, rfl, _, rfl, p, C, dx, _, rfl, upd_same, B.cl, B.nH, (by show 1 < 1000; decide), ?_⟩
    refine ⟨_, rfl, _, rfl, _, _, rfl, rfl, .inl (by constructor <;> omega), _, rfl, p, C, dx, _, rfl, upd_same, B.cl, B.nS, (by show 2 < 1000; decide), ?_⟩
    have e1 : (wd : Int) * (hg : Int) = ((wd * hg : Nat) : Int) := (Int.natCast_mul wd hg).symm
    simp only [e1]
    generalize hfs : putF ("size" : Str) (V.int ((wd * hg : Nat) : Int)) (putF ("high" : Str) (.int (hg : Int)) (putF ("wide" : Str) (.int (wd : Int)) [])) = fs
    have hfs' : fs = ([("wide", .int (wd : Int)), ("high", .int (hg : Int)), ("size", .int ((wd * hg : Nat) : Int))] : List (Str × V)) := by rw [← hfs]; rfl
    generalize hH1 : upd (upd (upd H p (.ins C dx (putF ("wide" : Str) (.int (wd : Int)) []))) p (.ins C dx (putF ("high" : Str) (.int (hg : Int)) (putF ("wide" : Str) (.int (wd : Int)) [])))) p (.ins C dx fs) = H1
    have hp1 : H1 p = some (.ins C dx fs) := by rw [← hH1, upd_same]
    have oth1 : ∀ b o, H b = some o → b ≠ p → H1 b = some o := fun b o e ne => by rw [← hH1, upd_ne ne, upd_ne ne, upd_ne ne]; exact e
    refine ⟨_, rfl, p, C, dx, fs, _, rfl, hp1, B.cl, B.nS, (by rw [hfs']; rfl : fs.lookup ("size" : Str) = some (.int ((wd * hg : Nat) : Int))), wd * hg, rfl, hsz, fun H2 LA as s2 pl => ?_⟩
    refine ⟨LA, rfl, ⟨_, SqL.of pl.lst⟩, fun D hD => lc_listY (K := K) (a := LA) (xs := as.map V.ref)
      (fun i H' => ∃ ras, Same H2 H' ∧ LL H' D ras (((raysOf wd hg).take i).map iv) ∧ D ∉ ras) ?_ (fun i H' _ ⟨_, q, _⟩ => SqL.of (q _ _ pl.lst)) (fun i x H' hx ⟨ras, q, ll, nD⟩ => ?_) (fun H' ⟨ras, q, ll, nD⟩ => ?_)⟩
    · exact ⟨[], same_new (Same.refl H2) hD, ⟨upd_same, by simp, fun i a e => by simp at e⟩, by simp⟩
    · obtain ⟨t, pr, ht, rfl, hpr, hT⟩ := pl.ref_get hx
      have hpe : pr.1 < wd * hg ∧ pr.2 < 8 := by
        have m := List.mem_of_getElem? hpr
        unfold Ks331.everywhere at m
        rw [List.mem_flatMap] at m
        obtain ⟨c, hc, m⟩ := m
        rw [List.mem_map] at m
        obtain ⟨d, hd, rfl⟩ := m
        exact ⟨List.mem_range.mp hc, List.mem_range.mp hd⟩
      have hray : (raysOf wd hg)[i]? = some (ray wd hg pr.1 pr.2) := by
        unfold raysOf
        rw [List.getElem?_map, hpr]
        rfl
      have hp' : H' p = some (.ins C dx fs) := q _ _ (s2 _ _ hp1)
      refine ⟨t, _, rfl, SqT.of (q _ _ hT), rfl, _, _, rfl, _, _, rfl, rfl, rfl, ?_⟩
      refine ⟨_, rfl, p, dx, fs, rfl, hp', (by rw [hfs']; rfl), _, rfl, _, rfl, p, dx, fs, wd, hg, pr.1, pr.2, rfl, hp', (by rw [hfs']; rfl), (by rw [hfs']; rfl), w2, w8, h2, h8, hpe.1, hpe.2, fun H4 L s4 hL0 hL => ?_⟩
      have ll4 := ll.same s4
      have nDL : D ≠ L := ne_of_none ll.lst hL0
      refine ⟨_, ll4.lst, ?_, ras ++ [L], same_new (q.trans s4) hD, ?_, ?_⟩
      · rw [List.length_map, ll.len, List.length_map, List.length_take]
        have : (raysOf wd hg).length = 8 * (wd * hg) := by unfold raysOf; rw [List.length_map, everywhere_len]
        omega
      · rw [take_snoc hray, List.map_append]
        exact ll4.snoc hL nD nDL
      · intro m
        rcases List.mem_append.mp m with m | m
        · exact nD m
        · exact nDL (List.mem_singleton.mp m)
    · have hlen : ((as.map V.ref).length) = (raysOf wd hg).length := by
        unfold raysOf
        rw [List.length_map, pl.len, List.length_map]
      rw [hlen, List.take_length] at ll
      have hp' : H' p = some (.ins C dx fs) := q _ _ (s2 _ _ hp1)
      refine ⟨_, rfl, p, C, dx, fs, rfl, hp', B.cl, B.nR, (by rw [hfs']; show 3 < 1000; decide), ?_⟩
      have ll2 := ll.ins (o := .ins C dx (putF ("rays" : Str) (.ref D) fs)) hp'
      generalize hH5 : upd H' p (.ins C dx (putF ("rays" : Str) (.ref D) fs)) = H5 at ll2
      have hp5 : H5 p = some (.ins C dx (putF ("rays" : Str) (.ref D) fs)) := by rw [← hH5, upd_same]
      refine ⟨_, rfl, p, dx, _, rfl, hp5, (by rw [hfs']; rfl), p, dx, D, _, ras, wd, hg, rfl, hp5, (by rw [hfs']; rfl), (by rw [hfs']; rfl), ll2, w8, h8, fun H6 LT s6 hLT0 hLT => ?_⟩
      have hp6 := s6 _ _ hp5
      refine ⟨_, rfl, p, C, dx, _, rfl, hp6, B.cl, B.nT, (by rw [hfs']; show 4 < 1000; decide), ?_⟩
      refine k _ ⟨dx, D, LT, ras, ?_, (ll2.same s6).ins hp6, ?_⟩ fun b o e ne => ?_
      · rw [upd_same, hfs']
        rfl
      · rw [upd_ne (ne_of hLT hp6 (by intro z; cases z))]
        exact hLT
      · rw [upd_ne ne]
        refine s6 _ _ ?_
        rw [← hH5, upd_ne ne]
        exact q _ _ (s2 _ _ (oth1 b o e ne))
def pathsOf (wd hg n : Nat) : List (List Nat) := (spots wd hg n).map (pathAt wd hg n)
theorem filter_map_spots (wd hg n : Nat) : ((raysOf wd hg).filter fun r => decide (n ≤ r.length)).map (List.take n) = pathsOf wd hg n := by
  unfold raysOf pathsOf spots
  rw [List.filter_map, List.map_map]
  rfl
def spPaths (C : Addr) : Sp := fun vs H Q _ => ∃ (b : Addr) (wd hg n : Nat), vs = [.ref b, .int (n : Int)] ∧ BoardAt C H b wd hg ∧ wd ≤ 8 ∧ hg ≤ 8 ∧ ∀ H' L as, Same H H' → LL H' L as ((pathsOf wd hg n).map iv) → H L = none → (∀ a ∈ as, H a = none) → Q (.ref L) H'
theorem scPaths : FnScope ["self", "length", "ray"] ["self", "length"] (defScope sPaths) := ⟨rfl, rfl, rfl, by decide +kernel, rfl, by decide +kernel, by decide +kernel⟩
theorem cut_iv (l : List Nat) (n : Nat) : cutV (iv l) none (some (n : Int)) = iv (l.take n) := by
  unfold cutV
  rw [HT.sIx_none, HT.sIx_nat, List.drop_zero, iv_len, Nat.sub_zero]
  unfold iv
  rw [← List.map_take]
  congr 1
  rcases Nat.le_total n l.length with z | z
  · rw [Nat.min_eq_left z]
  · rw [Nat.min_eq_right z, List.take_of_length_le z, List.take_of_length_le (Nat.le_refl _)]
theorem take_filter_snoc {α : Type} {l : List α} {i : Nat} {x : α} {q : α → Bool} (h : l[i]? = some x) : (l.take (i + 1)).filter q = (l.take i).filter q ++ if q x = true then [x] else [] := by
  rw [take_snoc h, List.filter_append, List.filter_cons, List.filter_nil]
theorem ok_paths {f C : Addr} {fd : FuncData} (F : Fun K "paths" "Board.paths" sPaths f fd) (T : Cst2 K mg) (B : BTxt K C) : FnOk P w K mg base CX0 1 f fd ["self", "length"] (spPaths C) := by
  refine F.ok scPaths (fun vs H Q E h => ?_) (fun cdv A outer s H vs Q E hr h => ?_)
  · obtain ⟨b, wd, hg, n, rfl, _⟩ := h
    rfl
  · obtain ⟨b, wd, hg, n, rfl, ⟨dx, R, Tk, ras, hb, hR, hT⟩, w8, h8, k⟩ := h
    have hsz : wd * hg ≤ 64 := Nat.mul_le_mul w8 h8
    have sz : 100000 < sizeLine := by decide
    refine ⟨_, pss_one (ps_ret (pe_lc (tt := tTest (tOp (rI0 fun i j => .bl (decide (j ≤ i))) (tCB (fun xs H Q => ∃ p ys, xs = [.ref p] ∧ (SqL K H p ys ∨ SqT K H p ys) ∧ Q (.int ys.length) H) (tCons (tVar 2) tNil)) (tVar 1))) (te := tSl (rSlL K) (tVar 2) tNoPart (tPart (tVar 1))) (own := [("ray", 2)]) rfl scPaths.nd (pi_list (pe_fld (pv 0) rfl)) (blkOk_by rfl)
      (fun s H C cl fp => pg_name (i := 2) scPaths.nd rfl (Or.inl rfl)) (fun s H C cl fp => pts_one (pt_cmpR op_ge (pe_callB call_len_seq (by rfl) T.len PySem.boot_len (pa_cons (pv 2) pa_nil)) (pv 1) (nomark _)))
      (fun s H C cl fp => pe_slice sl_list (pv 2) po_none (po_some (pv 1))))), ?_⟩
    refine ⟨_, rfl, b, C, dx, _, _, rfl, hb, B.cl, B.nR, rfl, R, rfl, ⟨_, SqL.of hR.lst⟩, fun D hD => lc_list (K := K) (a := R) (xs := ras.map V.ref)
      (fun i H' => ∃ as, Same H H' ∧ LL H' D as (((((raysOf wd hg).take i).filter fun r => decide (n ≤ r.length)).map (List.take n)).map iv) ∧ D ∉ as ∧ ∀ a ∈ as, H a = none) ?_ (fun i H' _ ⟨_, q, _⟩ => SqL.of (q _ _ hR.lst)) (fun i x H' hx ⟨as, q, ll, nD, nA⟩ => ?_) (fun H' ⟨as, q, ll, nD, nA⟩ => ?_)⟩
    · exact ⟨[], same_new (Same.refl H) hD, ⟨upd_same, by simp, fun i a e => by simp at e⟩, by simp, by simp⟩
    · obtain ⟨a, xs, ha, rfl, hxs, haH⟩ := hR.ref_get hx
      obtain ⟨r, hr', rfl⟩ := map_iv_get hxs
      have haH' := q _ _ haH
      refine ⟨rfl, _, rfl, a, _, rfl, .inl (SqL.of haH'), _, rfl, _, _, rfl, rfl, _, rfl, ite2 (fun c => ?_) (fun c => ?_)⟩
      · have c' : n ≤ r.length := by
          have := of_decide_eq_true c
          rw [iv_len] at this
          omega
        refine ⟨_, rfl, _, rfl, n, rfl, a, _, rfl, SqL.of haH', fun p hp => ?_⟩
        have nDp : D ≠ p := ne_of_none ll.lst hp
        have nras : p ∉ as := fun m => by
          obtain ⟨xs, e⟩ := ll.mem m
          rw [hp] at e
          cases e
        have ll4 : LL (upd H' p (.lst (cutV (iv r) none (some (n : Int))))) D as _ := ll.write nDp nras
        refine ⟨_, ll4.lst, ?_, as ++ [p], same_new (same_new q (q.free hp)) hD, ?_, ?_, ?_⟩
        · rw [List.length_map, ll.len, List.length_map, List.length_map]
          have h1 := List.length_filter_le (fun r : List Nat => decide (n ≤ r.length)) ((raysOf wd hg).take i)
          rw [List.length_take] at h1
          have : (raysOf wd hg).length = 8 * (wd * hg) := by unfold raysOf; rw [List.length_map, everywhere_len]
          omega
        · rw [take_filter_snoc hr', if_pos (decide_eq_true c'), List.map_append, List.map_append]
          have := ll4.snoc (a := p) (xs := iv (r.take n)) (by rw [upd_same, cut_iv]) nD nDp
          exact this
        · intro m
          rcases List.mem_append.mp m with m | m
          · exact nD m
          · exact nDp (List.mem_singleton.mp m)
        · intro b m
          rcases List.mem_append.mp m with m | m
          · exact nA b m
          · rw [List.mem_singleton.mp m]
            exact q.free hp
      · have c' : ¬ n ≤ r.length := fun z => c (decide_eq_true (by rw [iv_len]; omega))
        refine ⟨as, q, ?_, nD, nA⟩
        rw [take_filter_snoc hr', if_neg (by rw [decide_eq_false c']; decide), List.append_nil]
        exact ll
    · have hlen : ((ras.map V.ref).length) = (raysOf wd hg).length := by
        rw [List.length_map, hR.len, List.length_map]
      rw [hlen, List.take_length, filter_map_spots] at ll
      exact k H' D as q ll hD nA
end
end HW
end
section
set_option Elab.async false
set_option linter.all false
set_option maxRecDepth 100000
set_option maxHeartbeats 4000000
namespace HW
open PySem PySem.Spec PyProof.Rows L2 HX
abbrev sReadPath : Stmt := top 29
abbrev sReadTrack : Stmt := top 30
abbrev sTimesIn : Stmt := top 31
abbrev sIsRight : Stmt := top 32
abbrev sFirstPath : Stmt := top 33
abbrev sUsedCells : Stmt := top 34
abbrev sPathBetween : Stmt := top 35
/-- letters, one text each -/
def ov (cells : List Nat) : List V := cells.map fun b => V.str (S [b])
theorem ov_len {l : List Nat} : (ov l).length = l.length := by simp [ov]
section
variable {P : Program} {w : World} {K : PySem.W.Frag} {mg : Str → Option Value} {base : Heap}
def spReadPath (K : PySem.W.Frag) : Sp := fun vs H Q _ => ∃ (a p : Addr) (cells cs : List Nat), vs = [.ref a, .ref p] ∧ SqL K H a (ov cells) ∧ SqL K H p (iv cs) ∧ cs.length ≤ 30000 ∧ (∀ c ∈ cs, c < cells.length) ∧ ∀ H', Same H H' → Q (.str (S (cs.map fun c => cells.getD c 0))) H'
theorem scReadPath : FnScope ["letters", "path", "cell"] ["letters", "path"] (defScope sReadPath) := ⟨rfl, rfl, rfl, by decide +kernel, rfl, by decide +kernel, by decide +kernel⟩
theorem ok_readPath {f : Addr} {fd : FuncData} (F : Fun K "read_path" "read_path" sReadPath f fd) : FnOk P w K mg base CX0 1 f fd ["letters", "path"] (spReadPath K) := by
  refine F.ok scReadPath (fun vs H Q E h => ?_) (fun cdv A outer s H vs Q E hr h => ?_)
  · obtain ⟨a, p, cells, cs, rfl, _⟩ := h
    rfl
  · obtain ⟨a, p, cells, cs, rfl, hA, hP, hl, hlt, k⟩ := h
    refine ⟨_, pss_one (ps_ret (pe_join pe_str (pe_lc (te := tOp (rIxL K) (tVar 0) (tVar 2)) (own := [("cell", 2)]) rfl scReadPath.nd (pi_list (pv 1)) (blkOk_by rfl)
      (fun s H C cl fp => pg_name (i := 2) scReadPath.nd rfl (Or.inl rfl)) (fun s H C cl fp => pts_nil) (fun s H C cl fp => pe_ix ix_list (pv 0) (pv 2) (fun _ _ => rfl))))), ?_⟩
    have hz : (((cs.map fun c => cells.getD c 0).map fun n => [n]).map fun x => V.str (S x)).length ≤ sizeLine := by
      rw [List.length_map, List.length_map, List.length_map]
      exact Nat.le_trans hl (by decide)
    refine ⟨⟨_, rfl⟩, _, rfl, p, rfl, ⟨_, hP⟩, fun D hD => lc_map (ys := ((cs.map fun c => cells.getD c 0).map fun n => [n]).map fun x => V.str (S x)) hD hP (by simp [iv_len]) (fun i x H' hx q => ?_) (fun H' s q => ?_)⟩
    · obtain ⟨c, hc, rfl⟩ := iv_get hx
      have hcl := hlt c (List.mem_of_getElem? hc)
      have e : (ov cells)[c]? = some (V.str (S [cells.getD c 0])) := by
        unfold ov
        rw [List.getElem?_map, List.getElem?_eq_getElem hcl]
        simp [List.getD_eq_getElem?_getD, List.getElem?_eq_getElem hcl]
      refine ⟨rfl, _, rfl, _, rfl, a, _, _, _, rfl, rfl, q.1.seq hA, atI_nat e, ?_⟩
      exact q.fin hD hz (Same.refl _) (by rw [List.getElem?_map, List.getElem?_map, List.getElem?_map, hc]; rfl)
    · refine ⟨_, D, ((cs.map fun c => cells.getD c 0).map fun n => [n]).map S, rfl, rfl, .inl (SqL.of ?_), ?_, ?_⟩
      · rw [q]
        simp [List.map_map, Function.comp_def]
      · exact ones_size (by rw [List.length_map]; exact hl)
      · have e : (Str.ofString "" : Str) = Str.empty := by decide
        rw [e, join_flat, flatten_ones]
        exact k H' s
/-- the letters, and a gap behind them -/
def gapped (cells : List Nat) (c : Nat) : Nat := (cells ++ [32]).getD c 0
def spReadTrack (C : Addr) : Sp := fun vs H Q _ => ∃ (b la : Addr) (wd hg : Nat) (cells : List Nat), vs = [.ref b, .ref la] ∧ BoardAt C H b wd hg ∧ wd ≤ 8 ∧ hg ≤ 8 ∧ H la = some (.lst (ov cells)) ∧ cells.length = wd * hg ∧ ∀ H', Same H H' → Q (.str (S ((track wd hg).map (gapped cells)))) H'
theorem scReadTrack : FnScope ["board", "letters"] ["board", "letters"] (defScope sReadTrack) := ⟨rfl, rfl, rfl, by decide +kernel, rfl, by decide +kernel, by decide +kernel⟩
theorem track_mem {wd hg c : Nat} (h : c ∈ track wd hg) : c ≤ wd * hg := by
  unfold track at h
  rw [List.mem_flatMap] at h
  obtain ⟨a, _, h⟩ := h
  rw [List.mem_flatMap] at h
  obtain ⟨d, _, h⟩ := h
  split at h
  · rcases List.mem_append.mp h with z | z
    · exact Nat.le_of_lt (ray_mem z)
    · rw [List.mem_singleton.mp z]
      exact Nat.le_refl _
  · cases h
theorem segs_len (wd hg c : Nat) : ∀ j, (segs wd hg c j).length ≤ 9 * j
  | 0 => by simp [segs]
  | j + 1 => by
    have ih := segs_len wd hg c j
    have rl := ray_le (w := wd) (h := hg) (c := c) (d := j)
    rw [segs_succ, List.length_append]
    split
    · rw [List.length_append, List.length_singleton]
      omega
    · rw [List.length_nil]
      omega
theorem tracks_len (wd hg : Nat) : ∀ i, (tracks wd hg i).length ≤ 36 * i
  | 0 => by simp [tracks]
  | i + 1 => by
    have ih := tracks_len wd hg i
    have := segs_len wd hg i 4
    rw [tracks_succ, List.length_append]
    omega
theorem track_len {wd hg : Nat} (w8 : wd ≤ 8) (h8 : hg ≤ 8) : (track wd hg).length ≤ 2304 := by
  have hsz : wd * hg ≤ 64 := Nat.mul_le_mul w8 h8
  rw [track_eq]
  have := tracks_len wd hg (wd * hg)
  omega
theorem ok_readTrack {f C : Addr} {fd : FuncData} (F : Fun K "read_track" "read_track" sReadTrack f fd) (T : Cst2 K mg) (B : BTxt K C) (C1 : Cal P w K mg base 1 "read_path" ["letters", "path"] (spReadPath K)) : FnOk P w K mg base CX0 2 f fd ["board", "letters"] (spReadTrack C) := by
  refine F.ok scReadTrack (fun vs H Q E h => ?_) (fun cdv A outer s H vs Q E hr h => ?_)
  · obtain ⟨b, la, wd, hg, cells, rfl, _⟩ := h
    rfl
  · obtain ⟨b, la, wd, hg, cells, rfl, ⟨dx, R, Tk, ras, hb, hR, hT⟩, w8, h8, hla, hlen, k⟩ := h
    have hsz : wd * hg ≤ 64 := Nat.mul_le_mul w8 h8
    have sz : 100000 < sizeLine := by decide
    refine ⟨_, pss_one (ps_ret (pe_cal C1 hr rfl (pa_cons (pe_op op_cat (pv 1) (pe_lst (pa_cons (pe_gv rfl T.gap) pa_nil))) (pa_cons (pe_fld (pv 0) rfl) pa_nil)))), ?_⟩
    refine ⟨_, rfl, (by show 1 ≤ sizeLine; decide), fun g hg0 => ?_⟩
    have hg1 : H g = none := hg0
    have nla : la ≠ g := ne_of_none hla hg1
    refine ⟨la, g, _, _, rfl, rfl, by rw [upd_ne nla]; exact hla, upd_same, ?_, fun p hp => ?_⟩
    · rw [ov_len]
      show cells.length + 1 ≤ sizeLine
      omega
    · have s1 : Same H (upd H g (.lst [.str (S [32])])) := same_new (Same.refl H) hg1
      have hp0 : H p = none := s1.free hp
      have s2 : Same H (upd (upd H g (.lst [.str (S [32])])) p (.lst (ov cells ++ [.str (S [32])]))) := same_new s1 hp0
      have e1 : ov cells ++ [V.str (S [32])] = ov (cells ++ [32]) := by simp [ov]
      refine ⟨_, rfl, b, C, dx, _, _, rfl, s2 _ _ hb, B.cl, B.nT, rfl, p, Tk, cells ++ [32], track wd hg, rfl, SqL.of (by rw [upd_same, e1]), SqL.of (s2 _ _ hT), ?_, fun c hc => ?_, fun H' s3 => ?_⟩
      · have := track_len w8 h8
        omega
      · have := track_mem hc
        rw [List.length_append, hlen]
        show c < wd * hg + 1
        omega
      · exact k H' (s2.trans s3)
def spTimesIn : Sp := fun vs H Q _ => ∃ (t x : List Nat), vs = [.str (S t), .str (S x)] ∧ x ≠ [] ∧ ∀ H', Same H H' → Q (.int ((times2 x t : Nat) : Int)) H'
theorem scTimesIn : FnScope ["text", "word", "first"] ["text", "word"] (defScope sTimesIn) := ⟨rfl, rfl, rfl, by decide +kernel, rfl, by decide +kernel, by decide +kernel⟩
theorem ok_timesIn {f : Addr} {fd : FuncData} (F : Fun K "times_in" "times_in" sTimesIn f fd) : FnOk P w K mg base CX0 1 f fd ["text", "word"] spTimesIn := by
  refine F.ok scTimesIn (fun vs H Q E h => ?_) (fun cdv A outer s H vs Q E hr h => ?_)
  · obtain ⟨t, x, rfl, _⟩ := h
    rfl
  · obtain ⟨t, x, rfl, hx, k⟩ := h
    have k' := k H (Same.refl H)
    refine ⟨_, pss_cons (ps_set (i := 2) scTimesIn.nd rfl (Or.inl rfl) (pe_bm PySem.F.plainAttrs_str PySem.F.slot_str_find PySem.F.type_str_find mt_find (pv 0) (pa_cons (pv 1) pa_nil)))
      (pss_cons (ps_if (pt_cmpR op_lt (pv 2) pe_int (nomark _)) (pss_one (ps_ret pe_int)) pss_nil)
      (pss_cons (ps_if (pt_cmpR op_lt (pe_bm PySem.F.plainAttrs_str PySem.F.slot_str_find PySem.F.type_str_find mt_find3 (pv 0) (pa_cons (pv 1) (pa_cons (pe_op op_add (pv 2) pe_int) pa_nil))) pe_int (nomark _)) (pss_one (ps_ret pe_int)) pss_nil)
      (pss_one (ps_ret pe_int)))), ?_⟩
    refine ⟨_, rfl, rfl, _, rfl, _, _, rfl, rfl, _, rfl, _, _, rfl, rfl, _, rfl, ite2 (fun c => ?_) (fun c => ?_)⟩
    · have c' := of_decide_eq_true c
      rcases find_occ t x hx with ⟨e, e2⟩ | ⟨i, e, _⟩
      · unfold times2 at k'
        rw [e2] at k'
        exact k'
      · rw [e] at c'
        omega
    · have c' : ¬ Txt.find (S t) (S x) < 0 := fun z => c (decide_eq_true z)
      rcases find_occ t x hx with ⟨e, e2⟩ | ⟨i, e, hi, e2⟩
      · rw [e] at c'
        omega
      · refine ⟨_, rfl, rfl, _, rfl, _, rfl, _, _, rfl, rfl, _, _, _, rfl, rfl, _, _, rfl, rfl, _, rfl, ?_⟩
        have e3 : Txt.find (S t) (S x) + 1 = ((i + 1 : Nat) : Int) := by rw [e]; omega
        rcases find3_occ t x hx (i + 1) (by omega) with ⟨f1, f2⟩ | ⟨j, f1, _, f2⟩
        · rw [← e3] at f1
          refine ite2 (fun d => ?_) (fun d => absurd (decide_eq_true (show Txt.find3 (S t) (S x) (Txt.find (S t) (S x) + 1) < 0 by rw [f1]; decide)) d)
          unfold times2 at k'
          rw [e2, f2] at k'
          exact k'
        · rw [← e3] at f1
          refine ite2 (fun d => ?_) (fun d => ?_)
          · have d' := of_decide_eq_true d
            rw [f1] at d'
            omega
          · unfold times2 at k'
            rw [e2, f2, show min 2 (1 + (1 + occ x (t.drop (j + 1)))) = 2 by omega] at k'
            exact k'
end
end HW
end
section
set_option Elab.async false
set_option linter.all false
set_option maxRecDepth 100000
set_option maxHeartbeats 4000000
namespace HW
open PySem PySem.Spec PyProof.Rows L2 HX
theorem okWord_len {x : List Nat} (h : Ks331.okWord x = true) : 2 ≤ x.length ∧ x.length ≤ 8 ∧ x.all Ks331.isLetter = true := by
  unfold Ks331.okWord at h
  simp only [Bool.and_eq_true, decide_eq_true_iff] at h
  exact ⟨h.1.1, h.1.2, h.2⟩
theorem gapped_lt {cells : List Nat} {c : Nat} (h : c < cells.length) : gapped cells c = cells.getD c 0 := by
  unfold gapped
  rw [List.getD_eq_getElem?_getD, List.getD_eq_getElem?_getD, List.getElem?_append_left h]
theorem gapped_end {cells : List Nat} : gapped cells cells.length = 32 := by
  unfold gapped
  simp [List.getD_eq_getElem?_getD]
section
variable {P : Program} {w : World} {K : PySem.W.Frag} {mg : Str → Option Value} {base : Heap}
def spIsRight (K : PySem.W.Frag) (C : Addr) : Sp := fun vs H Q _ => ∃ (b la lw : Addr) (wd hg : Nat) (cells : List Nat) (ws : List (List Nat)), vs = [.ref b, .ref la, .ref lw] ∧ BoardAt C H b wd hg ∧ 2 ≤ wd ∧ wd ≤ 8 ∧ 2 ≤ hg ∧ hg ≤ 8 ∧
  H la = some (.lst (ov cells)) ∧ cells.length = wd * hg ∧ SqL K H lw (sv ws) ∧ (∀ x ∈ ws, Ks331.okWord x = true) ∧ ∀ H', Same H H' → Q (.bl (Ks332.right ⟨wd, cells⟩ ws)) H'
theorem scIsRight : FnScope ["board", "letters", "words", "text", "word", "turned", "due"] ["board", "letters", "words"] (defScope sIsRight) := ⟨rfl, rfl, rfl, by decide +kernel, rfl, by decide +kernel, by decide +kernel⟩
theorem ok_isRight {f C : Addr} {fd : FuncData} (F : Fun K "is_right" "is_right" sIsRight f fd) (C1 : Cal P w K mg base 2 "read_track" ["board", "letters"] (spReadTrack C)) (C2 : Cal P w K mg base 1 "backwards" ["word"] spBackwards)
    (C3 : Cal P w K mg base 1 "times_in" ["text", "word"] spTimesIn) : FnOk P w K mg base CX0 3 f fd ["board", "letters", "words"] (spIsRight K C) := by
  refine F.ok scIsRight (fun vs H Q E h => ?_) (fun cdv A outer s H vs Q E hr h => ?_)
  · obtain ⟨b, la, lw, wd, hg, cells, ws, rfl, _⟩ := h
    rfl
  · obtain ⟨b, la, lw, wd, hg, cells, ws, rfl, hB, w2, w8, h2, h8, hla, hlen, hW, hok, k⟩ := h
    have hr1 : Room 1 _ := hr.mono (by decide)
    refine ⟨_, pss_cons (ps_set (i := 3) scIsRight.nd rfl (Or.inl rfl) (pe_cal C1 hr rfl (pa_cons (pv 0) (pa_cons (pv 1) pa_nil))))
      (pss_cons (ps_for PassesOwn.never rfl (pi_list (pv 2)) (pg_name (i := 4) scIsRight.nd rfl (Or.inl rfl))
        (pss_cons (ps_set (i := 5) scIsRight.nd rfl (Or.inl rfl) (pe_cal C2 hr1 rfl (pa_cons (pv 4) pa_nil)))
        (pss_cons (ps_set (i := 6) scIsRight.nd rfl (Or.inl rfl) (pe_ifExp (pt_cmpR op_eq (pv 5) (pv 4) (nomark _)) pe_int pe_int))
        (pss_one (ps_if (pt_cmpR op_ne (pe_op op_add (pe_cal C3 hr1 rfl (pa_cons (pv 3) (pa_cons (pv 4) pa_nil))) (pe_cal C3 hr1 rfl (pa_cons (pv 3) (pa_cons (pv 5) pa_nil)))) (pv 6) (nomark _)) (pss_one (ps_ret pe_bl)) pss_nil)))))
      (pss_one (ps_ret pe_bl))), ?_⟩
    have sq : Sq ⟨wd, cells⟩ wd hg := ⟨rfl, hlen, w2, w8, h2, h8⟩
    have hR : Ks332.right ⟨wd, cells⟩ ws = _ := right_all sq (F := gapped cells) (fun c hc => gapped_lt (by rw [hlen]; exact hc)) (by rw [← hlen]; exact gapped_end) hok
    generalize htx : (track wd hg).map (gapped cells) = tx at hR
    refine ⟨_, rfl, _, rfl, b, la, wd, hg, cells, rfl, hB, w8, h8, hla, hlen, fun H1 s1 => ?_⟩
    rw [htx]
    refine ⟨_, rfl, lw, rfl, ⟨_, s1.seq hW⟩, for_list (K := K) (a := lw) (xs := sv ws)
      (fun i σ H' => ∃ v4 v5 v6 : Option V, σ = [some (.ref b), some (.ref la), some (.ref lw), some (.str (S tx)), v4, v5, v6] ∧ Same H H' ∧ ∀ j, j < i → ∀ x, ws[j]? = some x → decide (times2 x tx + times2 x.reverse tx = if x.reverse = x then 2 else 1) = true)
      ⟨none, none, none, rfl, s1, fun j hj => absurd hj (by omega)⟩ (fun i σ H' _ ⟨_, _, _, _, q, _⟩ => q.seq hW) ?_ ?_⟩
    · rintro i x σ H' hi ⟨v4, v5, v6, rfl, q, hp⟩
      obtain ⟨x, hx, rfl⟩ := sv_get hi
      obtain ⟨l2, l8, _⟩ := okWord_len (hok x (List.mem_of_getElem? hx))
      have ne : x ≠ [] := fun z => by rw [z] at l2; simp at l2
      have ne' : x.reverse ≠ [] := by simp [ne]
      refine ⟨_, rfl, x, rfl, by omega, fun H2 s2 => ?_⟩
      have last : ∀ (due : Int), due = ((if x.reverse = x then 2 else 1 : Nat) : Int) → ∀ (A B : Prop), (Ks332.right ⟨wd, cells⟩ ws = false → A) → (decide (times2 x tx + times2 x.reverse tx = if x.reverse = x then 2 else 1) = true → B) →
          if (!decide (V.int (((times2 x tx : Nat) : Int) + ((times2 x.reverse tx : Nat) : Int)) = V.int due)) = true then A else B := fun due hdue A B hA hB => by
        by_cases hd : times2 x tx + times2 x.reverse tx = if x.reverse = x then 2 else 1
        · have e : (V.int (((times2 x tx : Nat) : Int) + ((times2 x.reverse tx : Nat) : Int))) = V.int due := by rw [hdue]; congr 1; omega
          exact iteNS e (hB (decide_eq_true hd))
        · have e : ¬ (V.int (((times2 x tx : Nat) : Int) + ((times2 x.reverse tx : Nat) : Int))) = V.int due := fun z => by
            injection z with z
            rw [hdue] at z
            exact hd (by omega)
          rw [decide_eq_false e]
          refine iteT (hA ?_)
          rw [hR, List.all_eq_false]
          exact ⟨x, List.mem_of_getElem? hx, by rw [decide_eq_false hd]; decide⟩
      have more : decide (times2 x tx + times2 x.reverse tx = if x.reverse = x then 2 else 1) = true → ∀ j, j < i + 1 → ∀ y, ws[j]? = some y → decide (times2 y tx + times2 y.reverse tx = if y.reverse = y then 2 else 1) = true := fun hd j hj y hy => by
        by_cases z : j = i
        · subst z
          rw [hx] at hy
          cases hy
          exact hd
        · exact hp j (by omega) y hy
      refine ⟨_, rfl, _, rfl, rfl, _, rfl, ite2 (fun c => ?_) (fun c => ?_)⟩
      · have e : x.reverse = x := by
          have := of_decide_eq_true c
          injection this with this
          exact S_inj this
        refine ⟨_, rfl, _, rfl, tx, x, rfl, ne, fun H3 s3 => ⟨_, rfl, _, rfl, tx, x.reverse, rfl, ne', fun H4 s4 => ⟨_, _, rfl, rfl, _, rfl, rfl, _, rfl, ?_⟩⟩⟩
        have sH : Same H H4 := ((q.trans s2).trans s3).trans s4
        exact last 2 (by rw [if_pos e]; rfl) _ _ (fun z => by have k' := k H4 sH; rw [z] at k'; exact k') (fun z => ⟨_, _, _, rfl, sH, more z⟩)
      · have e : ¬ x.reverse = x := fun z => c (by rw [z]; exact decide_eq_true rfl)
        refine ⟨_, rfl, _, rfl, tx, x, rfl, ne, fun H3 s3 => ⟨_, rfl, _, rfl, tx, x.reverse, rfl, ne', fun H4 s4 => ⟨_, _, rfl, rfl, _, rfl, rfl, _, rfl, ?_⟩⟩⟩
        have sH : Same H H4 := ((q.trans s2).trans s3).trans s4
        exact last 1 (by rw [if_neg e]; rfl) _ _ (fun z => by have k' := k H4 sH; rw [z] at k'; exact k') (fun z => ⟨_, _, _, rfl, sH, more z⟩)
    · rintro σ H' ⟨v4, v5, v6, rfl, q, hp⟩
      have : Ks332.right ⟨wd, cells⟩ ws = true := by
        rw [hR, List.all_eq_true]
        intro x hx
        obtain ⟨j, hj, e⟩ := List.getElem_of_mem hx
        exact hp j (by rw [sv_len]; exact hj) x (by rw [List.getElem?_eq_getElem hj, e])
      have k' := k H' q
      rw [this] at k'
      exact k'
end
end HW
end
section
set_option Elab.async false
set_option linter.all false
set_option maxRecDepth 100000
set_option maxHeartbeats 4000000
namespace HW
open PySem PySem.Spec PyProof.Rows L2 HX
theorem lc_rangeY {lo : Int} {n : Nat} {g : TG} {te : TE} {vs : List Nat} {σ : L2.St} {H1 : Hp} {D : Addr} {Qd : Hp → Prop} (Pv : Nat → Hp → Prop) (h0 : Pv 0 (upd H1 D (.lst [])))
    (hs : ∀ i H, i < n → Pv i H → g (.int (lo + i)) (wipe σ vs) H fun σ2 H2 => wipe σ2 vs = wipe σ vs ∧ te σ2 H2 fun y H4 => ∃ acc, H4 D = some (.lst acc) ∧ acc.length < sizeLine ∧ Pv (i + 1) (upd H4 D (.lst (acc ++ [y])))) (hd : ∀ H, Pv n H → Qd H) :
    ∃ W : Nat → Nat → Hp → Prop, (∃ m, W 0 m (upd H1 D (.lst []))) ∧ ∀ i m H, W i m H →
      ((Itr lo n).stop i H ∧ Qd H) ∨ ((Itr lo n).go i H ∧ ∃ Nx : Hp → Prop, (∀ H', Nx H' → ∃ m', m' < m ∧ W (i + 1) m' H') ∧ ∀ x H', (Itr lo n).yld i H x H' → g x (wipe σ vs) H' fun σ2 H2 => wipe σ2 vs = wipe σ vs ∧ tYes σ2 H2 fun b H3 =>
        if b = true then te σ2 H3 fun y H4 => ∃ acc, H4 D = some (.lst acc) ∧ acc.length < sizeLine ∧ Nx (upd H4 D (.lst (acc ++ [y]))) else Nx H3) :=
  lc_range Pv h0 (fun i H a b => hs i H a b) hd
section
variable {P : Program} {w : World} {K : PySem.W.Frag} {mg : Str → Option Value} {base : Heap}
def spFirstPath (C : Addr) : Sp := fun vs H Q _ => ∃ (b la : Addr) (wd hg : Nat) (cells x : List Nat) (p : Ks331.Place), vs = [.ref b, .ref la, .str (S x)] ∧ BoardAt C H b wd hg ∧ 2 ≤ wd ∧ wd ≤ 8 ∧ 2 ≤ hg ∧ hg ≤ 8 ∧
  H la = some (.lst (ov cells)) ∧ cells.length = wd * hg ∧ 2 ≤ x.length ∧ x.length ≤ 8 ∧ (Ks331.places ⟨wd, cells⟩ x).head? = some p ∧ ∀ H' L, Same H H' → H' L = some (.lst (iv (pathAt wd hg x.length p))) → Q (.ref L) H'
theorem scFirstPath : FnScope ["board", "letters", "word", "paths", "held", "path"] ["board", "letters", "word"] (defScope sFirstPath) := ⟨rfl, rfl, rfl, by decide +kernel, rfl, by decide +kernel, by decide +kernel⟩
theorem zip_filter_snd {α β : Type} (q : β → Bool) : ∀ {as : List α} {bs : List β}, as.length = bs.length → ((as.zip bs).filter fun z => q z.2).map (·.2) = bs.filter q
  | [], [], _ => rfl
  | a :: as, b :: bs, h => by
    have ih := zip_filter_snd q (as := as) (bs := bs) (by simpa using h)
    rw [List.zip_cons_cons, List.filter_cons, List.filter_cons]
    split
    · rw [List.map_cons, ih]
    · exact ih
  | [], _ :: _, h => by simp at h
  | _ :: _, [], h => by simp at h
theorem ok_firstPath {f C : Addr} {fd : FuncData} (F : Fun K "first_path" "first_path" sFirstPath f fd) (T : Cst2 K mg) (B : BTxt K C) (M1 : Mth P w K mg base 1 C "paths" ["self", "length"] (spPaths C))
    (C1 : Cal P w K mg base 1 "read_path" ["letters", "path"] (spReadPath K)) : FnOk P w K mg base CX0 2 f fd ["board", "letters", "word"] (spFirstPath C) := by
  refine F.ok scFirstPath (fun vs H Q E h => ?_) (fun cdv A outer s H vs Q E hr h => ?_)
  · obtain ⟨b, la, wd, hg, cells, x, p, rfl, _⟩ := h
    rfl
  · obtain ⟨b, la, wd, hg, cells, x, p, rfl, hB, w2, w8, h2, h8, hla, hlen, x2, x8, hp, k⟩ := h
    have sz : 100000 < sizeLine := by decide
    have hsz : wd * hg ≤ 64 := Nat.mul_le_mul w8 h8
    refine ⟨_, pss_cons (ps_set (i := 3) scFirstPath.nd rfl (Or.inl rfl) (pe_mth M1 hr B.cl (pv 0) (pa_cons (pe_callB call_len_str (by rfl) T.len PySem.boot_len (pa_cons (pv 2) pa_nil)) pa_nil)))
      (pss_cons (ps_setLc (i := 4) (tt := tTest (tOp rEq (tCall (spReadPath K) [] E0 (tCons (tVar 1) (tCons (tVar 5) tNil))) (tVar 2))) (te := tVar 5) (own := [("path", 5)]) rfl scFirstPath.nd rfl rfl (sw_true rfl rfl rfl rfl) (pi_list (pv 3)) (blkOk_by rfl)
        (fun s H C cl fp => pg_name (i := 5) scFirstPath.nd rfl (Or.inl rfl)) (fun s H C cl fp => pts_one (pt_cmpR op_eq (pe_cal C1 hr rfl (pa_cons (pv 1) (pa_cons (pv 5) pa_nil))) (pv 2) (nomark _)))
        (fun s H C cl fp => pv 5))
      (pss_one (ps_ret (pe_ix ix_list (pv 4) pe_int (fun _ _ => rfl))))), ?_⟩
    have sq : Sq ⟨wd, cells⟩ wd hg := ⟨rfl, hlen, w2, w8, h2, h8⟩
    obtain ⟨dx, R, Tk, ras, hb, _⟩ := id hB
    refine ⟨_, rfl, b, dx, _, rfl, hb, rfl, _, rfl, _, rfl, by rw [S_len]; omega, ?_⟩
    refine ⟨b, wd, hg, x.length, by rw [S_len]; rfl, hB, w8, h8, fun H1 L as s1 ll _ _ => ?_⟩
    have halen : as.length = (spots wd hg x.length).length := by
      rw [ll.len, List.length_map]
      unfold pathsOf
      rw [List.length_map]
    have hzlen : (as.zip (spots wd hg x.length)).length = as.length := by
      rw [List.length_zip]; omega
    have hplen : (as.map V.ref).length = (as.zip (spots wd hg x.length)).length := by
      rw [List.length_map, hzlen]
    have hsl : (spots wd hg x.length).length ≤ 8 * (wd * hg) := by
      unfold spots
      have := List.length_filter_le (fun p : Ks331.Place => decide (x.length ≤ (ray wd hg p.1 p.2).length)) (Ks331.everywhere (wd * hg))
      rw [everywhere_len] at this
      exact this
    have hat : ∀ (i : Nat) (a : Addr) (pl : Ks331.Place), (as.zip (spots wd hg x.length))[i]? = some (a, pl) → H1 a = some (.lst (iv (pathAt wd hg x.length pl))) := fun i a pl e => by
      rw [List.getElem?_zip_eq_some] at e
      obtain ⟨xs, e1, e2⟩ := ll.at_ i a e.1
      obtain ⟨pa, hpa, rfl⟩ := map_iv_get e1
      unfold pathsOf at hpa
      rw [List.getElem?_map, e.2] at hpa
      cases hpa
      exact e2
    refine ⟨_, rfl, L, rfl, ⟨_, SqL.of ll.lst⟩, fun D hD => lc_list (K := K) (a := L) (xs := as.map V.ref)
      (fun i H' => Same H1 H' ∧ H' D = some (.lst ((((as.zip (spots wd hg x.length)).take i).filter fun z => Ks331.reads ⟨wd, cells⟩ x z.2).map fun z => V.ref z.1))) ?_ (fun i H' _ q => SqL.of (q.1 _ _ ll.lst)) (fun i y H' hy q => ?_) (fun H' q => ?_)⟩
    · exact ⟨same_new (Same.refl H1) hD, upd_same⟩
    · obtain ⟨a, xs, ha, rfl, hxs, haH⟩ := ll.ref_get hy
      obtain ⟨pa, hpa, rfl⟩ := map_iv_get hxs
      unfold pathsOf at hpa
      rw [List.getElem?_map] at hpa
      obtain ⟨pl, hpl, rfl⟩ := Option.map_eq_some_iff.mp hpa
      have hm := List.mem_of_getElem? hpl
      have hz : (as.zip (spots wd hg x.length))[i]? = some (a, pl) := by rw [List.getElem?_zip_eq_some]; exact ⟨ha, hpl⟩
      have hread : (Ks331.reads ⟨wd, cells⟩ x pl = true) ↔ (pathAt wd hg x.length pl).map (fun c => cells.getD c 0) = x := by
        rw [reads_spot sq x8 hm, beq_iff_eq]
      have plen := path_len hm
      refine ⟨rfl, _, rfl, _, rfl, la, a, cells, pathAt wd hg x.length pl, rfl, SqL.of (q.1 _ _ (s1 _ _ hla)), SqL.of (q.1 _ _ haH), by omega, fun c hc => by rw [hlen]; exact path_lt hc, fun H4 s4 => ?_⟩
      refine ⟨_, rfl, rfl, _, rfl, ite2 (fun c => ?_) (fun c => ?_)⟩
      · have e : (pathAt wd hg x.length pl).map (fun c => cells.getD c 0) = x := by
          have := of_decide_eq_true c
          injection this with this
          exact S_inj this
        refine ⟨_, rfl, _, s4 _ _ q.2, ?_, same_new (q.1.trans s4) hD, ?_⟩
        · rw [List.length_map]
          have l1 := List.length_filter_le (fun z : Addr × Ks331.Place => Ks331.reads ⟨wd, cells⟩ x z.2) ((as.zip (spots wd hg x.length)).take i)
          rw [List.length_take, hzlen] at l1
          omega
        · rw [upd_same, take_filter_snoc hz, if_pos (hread.mpr e)]
          simp
      · have e : ¬ Ks331.reads ⟨wd, cells⟩ x pl = true := fun z => c (by rw [hread.mp z]; exact decide_eq_true rfl)
        refine ⟨q.1.trans s4, ?_⟩
        rw [take_filter_snoc hz, if_neg e, List.append_nil]
        exact s4 _ _ q.2
    · obtain ⟨q1, q2⟩ := q
      rw [hplen, List.take_length] at q2
      rw [places_spots sq x8, ← zip_filter_snd (Ks331.reads ⟨wd, cells⟩ x) halen, List.head?_map] at hp
      obtain ⟨⟨a, pl⟩, hz, rfl⟩ := Option.map_eq_some_iff.mp hp
      obtain ⟨i, hi⟩ := List.mem_iff_getElem?.mp (List.mem_filter.mp (List.mem_of_mem_head? hz)).1
      have h0 : ((((as.zip (spots wd hg x.length))).filter fun z => Ks331.reads ⟨wd, cells⟩ x z.2).map fun z => V.ref z.1)[0]? = some (V.ref a) := by
        rw [List.getElem?_map, ← List.head?_eq_getElem?, hz]
        rfl
      exact ⟨_, rfl, D, _, _, _, rfl, rfl, SqL.of q2, atI_nat (j := 0) h0, k H' a (s1.trans q1) (q1 _ _ (hat i a pl hi))⟩
def spPathBetween (C : Addr) : Sp := fun vs H Q _ => ∃ (b : Addr) (wd hg f l : Nat), vs = [.ref b, .int (f : Int), .int (l : Int)] ∧ BoardAt C H b wd hg ∧ 2 ≤ wd ∧ wd ≤ 8 ∧ 2 ≤ hg ∧ hg ≤ 8 ∧ f < wd * hg ∧ l < wd * hg ∧
  ∀ H' L, Same H H' → H' L = some (.lst (iv (if inLine wd f l = true then between wd f l else []))) → Q (.ref L) H'
theorem scPathBetween : FnScope ["board", "first", "last", "across", "down", "steps", "stride", "step"] ["board", "first", "last"] (defScope sPathBetween) := ⟨rfl, rfl, rfl, by decide +kernel, rfl, by decide +kernel, by decide +kernel⟩
theorem abs_nat (i : Int) : (if i < 0 then -i else i) = ((i.natAbs : Nat) : Int) := by
  split <;> omega
theorem max_nat (a b : Nat) : (if (b : Int) > (a : Int) then (b : Int) else (a : Int)) = ((max a b : Nat) : Int) := by
  split <;> omega
theorem inV_two (a s : Nat) : inV (.int (a : Int)) [.int 0, .int (s : Int)] = (a == 0 || a == s) := by
  show ((0 : Int) == (a : Int) || (((s : Int) == (a : Int)) || false)) = _
  rw [Bool.or_false, Bool.eq_iff_iff]
  simp only [Bool.or_eq_true, beq_iff_eq]
  constructor
  · rintro (z | z)
    · exact .inl (by omega)
    · exact .inr (by omega)
  · rintro (z | z)
    · exact .inl (by omega)
    · exact .inr (by omega)
theorem ok_pathBetween {f C : Addr} {fd : FuncData} (F : Fun K "path_between" "path_between" sPathBetween f fd) (T : Cst2 K mg) (B : BTxt K C) : FnOk P w K mg base CX0 1 f fd ["board", "first", "last"] (spPathBetween C) := by
  refine F.ok scPathBetween (fun vs H Q E h => ?_) (fun cdv A outer s H vs Q E hr h => ?_)
  · obtain ⟨b, wd, hg, fi, la, rfl, _⟩ := h
    rfl
  · obtain ⟨b, wd, hg, fi, la, rfl, hB, w2, w8, h2, h8, hf, hl, k⟩ := h
    have sz : 100000 < sizeLine := by decide
    obtain ⟨dx, R, Tk, ras, hb, _⟩ := id hB
    refine ⟨_, pss_cons (ps_set (i := 3) scPathBetween.nd rfl (Or.inl rfl) (pe_callB call_abs (by rfl) T.abs (by decide +kernel) (pa_cons (pe_op op_sub (pe_op op_mod (pv 2) (pe_fld (pv 0) rfl)) (pe_op op_mod (pv 1) (pe_fld (pv 0) rfl))) pa_nil)))
      (pss_cons (ps_set (i := 4) scPathBetween.nd rfl (Or.inl rfl) (pe_callB call_abs (by rfl) T.abs (by decide +kernel) (pa_cons (pe_op op_sub (pe_op op_fdiv (pv 2) (pe_fld (pv 0) rfl)) (pe_op op_fdiv (pv 1) (pe_fld (pv 0) rfl))) pa_nil)))
      (pss_cons (ps_set (i := 5) scPathBetween.nd rfl (Or.inl rfl) (pe_callB (call_max2 rfl) (by rfl) T.max (by decide +kernel) (pa_cons (pv 3) (pa_cons (pv 4) pa_nil))))
      (pss_cons (ps_if (PW.pt (pw_or (pt_cmpR op_eq (pv 5) pe_int (nomark _)) (pw_or (pt_cmpR op_notIn_seq (pv 3) (pe_tup (pa_cons pe_int (pa_cons (pv 5) pa_nil))) rfl) (pw_or1 (pt_cmpR op_notIn_seq (pv 4) (pe_tup (pa_cons pe_int (pa_cons (pv 5) pa_nil))) rfl))))) (pss_one (ps_ret (pe_lst pa_nil))) pss_nil)
      (pss_cons (ps_set (i := 6) scPathBetween.nd rfl (Or.inr rfl) (pe_op op_fdiv (pe_op op_sub (pv 2) (pv 1)) (pv 5)))
      (pss_one (ps_ret (pe_lc (own := [("step", 7)]) rfl scPathBetween.nd (pi_range1 rfl T.range (pa_cons (pe_op op_add (pv 5) pe_int) pa_nil)) (blkOk_by rfl)
        (fun s H C cl fp => pg_name (i := 7) scPathBetween.nd rfl (Or.inl rfl)) (fun s H C cl fp => pts_nil) (fun s H C cl fp => pe_op op_add (pv 1) (pe_op op_mul (pv 6) (pv 7)))))))))), ?_⟩
    have em : ∀ n : Nat, (n : Int) % (wd : Int) = ((n % wd : Nat) : Int) := fun n => (Int.natCast_emod n wd).symm
    have ed : ∀ n : Nat, (n : Int) / (wd : Int) = ((n / wd : Nat) : Int) := fun n => (Int.natCast_ediv n wd).symm
    have w0 : (0 : Int) < (wd : Int) := by omega
    have w1 : (wd : Int) < 1073741824 := by omega
    refine ⟨_, rfl, _, rfl, b, C, dx, _, _, rfl, hb, B.cl, B.nW, rfl, _, _, rfl, rfl, w0, _, rfl, _, rfl, b, C, dx, _, _, rfl, hb, B.cl, B.nW, rfl, _, _, rfl, rfl, w0, _, _, rfl, rfl, _, rfl, ?_⟩
    have ea : (if (la : Int) % (wd : Int) - (fi : Int) % (wd : Int) < 0 then -((la : Int) % (wd : Int) - (fi : Int) % (wd : Int)) else (la : Int) % (wd : Int) - (fi : Int) % (wd : Int)) = ((across wd fi la : Nat) : Int) := by
      rw [abs_nat, em, em]
      rfl
    rw [ea]
    refine ⟨_, rfl, _, rfl, b, C, dx, _, _, rfl, hb, B.cl, B.nW, rfl, _, _, rfl, rfl, ⟨w0, w1⟩, _, rfl, _, rfl, b, C, dx, _, _, rfl, hb, B.cl, B.nW, rfl, _, _, rfl, rfl, ⟨w0, w1⟩, _, _, rfl, rfl, _, rfl, ?_⟩
    have ed2 : (if (la : Int) / (wd : Int) - (fi : Int) / (wd : Int) < 0 then -((la : Int) / (wd : Int) - (fi : Int) / (wd : Int)) else (la : Int) / (wd : Int) - (fi : Int) / (wd : Int)) = ((down wd fi la : Nat) : Int) := by
      rw [abs_nat, ed, ed]
      rfl
    rw [ed2]
    refine ⟨_, rfl, _, rfl, _, _, rfl, ?_⟩
    rw [max_nat]
    have es : max (across wd fi la) (down wd fi la) = steps wd fi la := rfl
    rw [es]
    have eI : inLine wd fi la = (steps wd fi la != 0 && (across wd fi la == 0 || across wd fi la == steps wd fi la) && (down wd fi la == 0 || down wd fi la == steps wd fi la)) := rfl
    have non : inLine wd fi la = false → ∀ H1, Same H H1 → tRet (tLst tNil) { nx := fun _ H' => Q .non H', rt := Q } [] H1 := fun e H1 s1 => by
      refine ⟨Nat.zero_le _, fun L hL => k _ L (same_new s1 (s1.free hL)) ?_⟩
      rw [upd_same, e]
      rfl
    refine ⟨_, rfl, rfl, _, rfl, ite2 (fun c => iteT (non ?_ H (Same.refl H))) (fun c => ?_)⟩
    · have c' := of_decide_eq_true c
      injection c' with c'
      rw [eI, show steps wd fi la = 0 by omega]
      rfl
    · have s0 : steps wd fi la ≠ 0 := fun z => c (by rw [z]; rfl)
      have b0 : (steps wd fi la != 0) = true := bne_iff_ne.mpr s0
      refine ⟨_, rfl, _, rfl, (by show 2 ≤ sizeLine; decide), fun t ht => ⟨t, _, rfl, .inr (SqT.of upd_same), rfl, rfl, _, rfl, ?_⟩⟩
      have s1 : Same H (upd H t (.tup [.int 0, .int ((steps wd fi la : Nat) : Int)])) := same_new (Same.refl H) ht
      rw [if_pos rfl, inV_two]
      refine ite2 (fun c1 => iteT (non ?_ _ s1)) (fun c1 => ?_)
      · have c1' : (across wd fi la == 0 || across wd fi la == steps wd fi la) = false := by simpa using c1
        rw [eI, c1', Bool.and_false, Bool.false_and]
      · have c1' : (across wd fi la == 0 || across wd fi la == steps wd fi la) = true := by
          cases z : (across wd fi la == 0 || across wd fi la == steps wd fi la) with
          | true => rfl
          | false => rw [z] at c1; exact absurd rfl c1
        refine ⟨_, rfl, _, rfl, (by show 2 ≤ sizeLine; decide), fun t2 ht2 => ⟨t2, _, rfl, .inr (SqT.of upd_same), rfl, rfl, _, rfl, ?_⟩⟩
        have s2 := same_new (o := .tup [.int 0, .int ((steps wd fi la : Nat) : Int)]) s1 (s1.free ht2)
        rw [if_pos rfl, inV_two]
        refine ite2 (fun c2 => non ?_ _ s2) (fun c2 => ?_)
        · have c2' : (down wd fi la == 0 || down wd fi la == steps wd fi la) = false := by simpa using c2
          rw [eI, c2', Bool.and_false]
        · have c2' : (down wd fi la == 0 || down wd fi la == steps wd fi la) = true := by
            cases z : (down wd fi la == 0 || down wd fi la == steps wd fi la) with
            | true => rfl
            | false => rw [z] at c2; exact absurd rfl c2
          have hin : inLine wd fi la = true := by rw [eI, b0, c1', c2']; rfl
          obtain ⟨d, hd, st1, st8, hcell⟩ := line_way (by omega) w8 h8 hf hl hin
          obtain ⟨_, _, hpath⟩ := way_line st1 (by omega) hf hcell
          refine ⟨_, rfl, _, rfl, _, _, rfl, rfl, _, rfl, _, _, rfl, rfl, (show (0 : Int) < ((steps wd fi la : Nat) : Int) ∧ ((steps wd fi la : Nat) : Int) < 1073741824 by omega), ?_⟩
          refine ⟨_, rfl, _, _, rfl, rfl, _, rfl, by omega, by omega, fun D hD => ?_⟩
          have en : (((steps wd fi la : Nat) : Int) + 1).toNat = steps wd fi la + 1 := by omega
          rw [en]
          refine lc_rangeY (fun i H' => Same H H' ∧ H' D = some (.lst (iv ((between wd fi la).take i)))) ⟨same_new s2 (s2.free hD), upd_same⟩ (fun i H' hi q => ?_) (fun H' q => ?_)
          · have hnn := (hpath i (by omega)).2
            have hget : (between wd fi la)[i]? = some (((fi : Int) + stride wd fi la * (i : Int)).toNat) := by
              unfold between
              rw [List.getElem?_map, List.getElem?_range hi]
              rfl
            have hbl : (between wd fi la).length = steps wd fi la + 1 := by unfold between; simp
            have estr : ((la : Int) - (fi : Int)) / ((steps wd fi la : Nat) : Int) = stride wd fi la := rfl
            refine ⟨rfl, _, rfl, _, rfl, _, rfl, _, _, rfl, rfl, .inr (by constructor <;> omega), _, _, rfl, rfl, _, q.2, ?_, same_new q.1 (s2.free hD), ?_⟩
            · rw [iv_len, List.length_take]
              omega
            · rw [upd_same, take_snoc hget]
              unfold iv
              rw [List.map_append]
              congr 3
              show [V.int _] = [V.int _]
              congr 2
              rw [estr, Int.toNat_of_nonneg hnn]
              simp
          · have hbl : (between wd fi la).length = steps wd fi la + 1 := by unfold between; simp
            refine k H' D q.1 ?_
            rw [q.2, ← hbl, List.take_length, if_pos hin]
end
end HW
end
section
set_option Elab.async false
set_option linter.all false
set_option maxRecDepth 100000
set_option maxHeartbeats 4000000
namespace HW
open PySem PySem.Spec PyProof.Rows L2 HX
abbrev sFits : Stmt := top 38
abbrev sWithWord : Stmt := top 39
abbrev sFilled : Stmt := top 40
/-- a cell's text: empty, or one letter -/
def SE (b : Nat) : Str := if b = 0 then S [] else S [b]
def lv (cells : List Nat) : List V := cells.map fun b => V.str (SE b)
theorem lv_len {l : List Nat} : (lv l).length = l.length := by simp [lv]
theorem SE_letter {b : Nat} (h : b ≠ 0) : SE b = S [b] := if_neg h
theorem SE_inj {a b : Nat} (h : SE a = SE b) : a = b := by
  unfold SE at h
  by_cases ha : a = 0
  · by_cases hb : b = 0
    · rw [ha, hb]
    · rw [if_pos ha, if_neg hb] at h
      have := S_inj h
      cases this
  · by_cases hb : b = 0
    · rw [if_neg ha, if_pos hb] at h
      have := S_inj h
      cases this
    · rw [if_neg ha, if_neg hb] at h
      have := S_inj h
      injection this
theorem lv_ov {cells : List Nat} (h : ∀ b ∈ cells, b ≠ 0) : lv cells = ov cells := by
  unfold lv ov
  apply List.map_congr_left
  intro b hb
  rw [SE_letter (h b hb)]
theorem lv_get {cells : List Nat} {c : Nat} (h : c < cells.length) : (lv cells)[c]? = some (V.str (SE (cells.getD c 0))) := by
  unfold lv
  rw [List.getElem?_map, List.getElem?_eq_getElem h]
  simp [List.getD_eq_getElem?_getD, List.getElem?_eq_getElem h]
structure Cst3 (mg : Str → Option Value) : Prop where
  empty : Gv mg "EMPTY" (.str (S []))
  zip : mg "zip" = none
  list : mg "list" = none
  len : mg "len" = none
theorem ixN_nat' {n k : Nat} (h : k < n) : ixN n (k : Int) = some k := by
  unfold ixN
  rw [if_pos (by omega), if_pos (by omega), Int.toNat_natCast]
theorem bne_str {a b : Str} : ((!decide (V.str a = V.str b)) = true) ↔ ¬ a = b := by
  constructor
  · intro h z
    rw [z] at h
    simp at h
  · intro h
    rw [decide_eq_false (fun z => h (by injection z))]
    rfl
section
variable {P : Program} {w : World} {K : PySem.W.Frag} {mg : Str → Option Value} {base : Heap}
def fitsOf (cells x p : List Nat) : Bool := (p.zip x).all fun y => cells.getD y.1 0 == 0 || cells.getD y.1 0 == y.2
def spFits (K : PySem.W.Frag) : Sp := fun vs H Q _ => ∃ (a pa : Addr) (cells x p : List Nat), vs = [.ref a, .str (S x), .ref pa] ∧ SqL K H a (lv cells) ∧ SqL K H pa (iv p) ∧ p.length = x.length ∧ (∀ c ∈ p, c < cells.length) ∧ (∀ b ∈ x, b ≠ 0) ∧
  ∀ H', Same H H' → Q (.bl (fitsOf cells x p)) H'
theorem scFits : FnScope ["letters", "word", "path", "letter", "cell", "held"] ["letters", "word", "path"] (defScope sFits) := ⟨rfl, rfl, rfl, by decide +kernel, rfl, by decide +kernel, by decide +kernel⟩
theorem ok_fits {f : Addr} {fd : FuncData} (F : Fun K "fits" "fits" sFits f fd) (T : Cst3 mg) : FnOk P w K mg base CX0 1 f fd ["letters", "word", "path"] (spFits K) := by
  refine F.ok scFits (fun vs H Q E h => ?_) (fun cdv A outer s H vs Q E hr h => ?_)
  · obtain ⟨a, pa, cells, x, p, rfl, _⟩ := h
    rfl
  · obtain ⟨a, pa, cells, x, p, rfl, hA, hP, hl, hlt, hx, k⟩ := h
    refine ⟨_, pss_cons (ps_for PassesOwn.never rfl (pi_zs rfl T.zip (pa_cons (pv 1) (pa_cons (pv 2) pa_nil))) (pg_tup rfl (pgs_cons (pg_name (i := 3) scFits.nd rfl (Or.inl rfl)) (pgs_cons (pg_name (i := 4) scFits.nd rfl (Or.inl rfl)) pgs_nil)))
        (pss_cons (ps_set (i := 5) scFits.nd rfl (Or.inl rfl) (pe_ix ix_list (pv 0) (pv 4) (fun _ _ => rfl)))
        (pss_one (ps_if (PW.pt (pw_and (pt_cmpR op_ne (pv 5) (pv 3) (nomark _)) (pw_and1 (pt_cmpR op_ne (pv 5) (pe_gv rfl T.empty) (nomark _))))) (pss_one (ps_ret pe_bl)) pss_nil))))
      (pss_one (ps_ret pe_bl)), ?_⟩
    have zl : (p.zip x).length = x.length := by rw [List.length_zip, hl, Nat.min_self]
    refine ⟨_, rfl, _, rfl, S x, pa, _, rfl, hP, for_it (n := x.length) (fun i σ H' => ∃ v3 v4 v5 : Option V, σ = [some (.ref a), some (.str (S x)), some (.ref pa), v3, v4, v5] ∧ Same H H' ∧ ∀ j, j < i → ∀ y, (p.zip x)[j]? = some y → (cells.getD y.1 0 == 0 || cells.getD y.1 0 == y.2) = true)
      ⟨none, none, none, rfl, Same.refl H, fun j hj => absurd hj (by omega)⟩ ?_ ?_ ?_ ?_⟩
    · rintro i σ H' hi ⟨v3, v4, v5, rfl, q, _⟩
      exact ⟨by simpa [S] using hi, _, _, q.seq hP, List.getElem?_eq_getElem (by rw [iv_len, hl]; exact hi)⟩
    · rintro σ H' ⟨v3, v4, v5, rfl, q, _⟩
      show x.length = (S x).cps.size
      simp [S]
    · rintro i v σ H' H2 hi ⟨v3, v4, v5, rfl, q, hp⟩ ⟨t, c, y, rfl, ht, rfl, hc, hy⟩
      obtain ⟨pc, hpc, rfl⟩ := iv_get (hy _ (q.seq hP))
      have hxc : x[i]? = some c := by simpa [S] using hc
      have hz : (p.zip x)[i]? = some (pc, c) := by
        rw [List.getElem?_zip_eq_some]
        exact ⟨hpc, hxc⟩
      have hcl := hlt pc (List.mem_of_getElem? hpc)
      have c0 : c ≠ 0 := hx c (List.mem_of_getElem? hxc)
      have s2 : Same H (upd H' t (.tup [.str ⟨#[c]⟩, .int (pc : Int)])) := same_new q (q.free ht)
      have next : (cells.getD pc 0 == 0 || cells.getD pc 0 == c) = true → ∀ j, j < i + 1 → ∀ y, (p.zip x)[j]? = some y → (cells.getD y.1 0 == 0 || cells.getD y.1 0 == y.2) = true := fun h j hj yy hyj => by
        by_cases z : j = i
        · subst z
          rw [hz] at hyj
          cases hyj
          exact h
        · exact hp j (by omega) yy hyj
      refine ⟨t, _, rfl, SqT.of upd_same, rfl, _, _, rfl, _, _, rfl, rfl, ?_⟩
      refine ⟨_, rfl, _, rfl, a, _, _, _, rfl, rfl, s2.seq hA, atI_nat (lv_get hcl), ?_⟩
      refine ⟨_, rfl, _, rfl, rfl, _, rfl, ite2 (fun d => ?_) (fun d => ?_)⟩
      · refine ⟨_, rfl, rfl, _, rfl, ite2 (fun d2 => ?_) (fun d2 => ?_)⟩
        · have n1 : ¬ cells.getD pc 0 = c := fun z => bne_str.mp d (by rw [z, SE_letter c0]; rfl)
          have n2 : ¬ cells.getD pc 0 = 0 := fun z => bne_str.mp d2 (by rw [z]; rfl)
          have e : fitsOf cells x p = false := by
            unfold fitsOf
            rw [List.all_eq_false]
            exact ⟨(pc, c), List.mem_of_getElem? hz, by simp only [Bool.or_eq_true, beq_iff_eq]; exact fun z => z.elim n2 n1⟩
          have k' := k _ s2
          rw [e] at k'
          exact k'
        · refine ⟨_, _, _, rfl, s2, next ?_⟩
          have d2' : SE (cells.getD pc 0) = S [] := Classical.byContradiction fun z => d2 (bne_str.mpr z)
          have : cells.getD pc 0 = 0 := SE_inj d2'
          rw [this]
          rfl
      · have d' : SE (cells.getD pc 0) = S [c] := Classical.byContradiction fun z => d (bne_str.mpr z)
        refine iteF ⟨_, _, _, rfl, s2, next ?_⟩
        rw [← SE_letter c0] at d'
        rw [SE_inj d']
        simp
    · rintro σ H' ⟨v3, v4, v5, rfl, q, hp⟩
      have e : fitsOf cells x p = true := by
        unfold fitsOf
        rw [List.all_eq_true]
        intro y hy
        obtain ⟨j, hj, e⟩ := List.getElem_of_mem hy
        exact hp j (by rw [← zl]; exact hj) y (by rw [List.getElem?_eq_getElem hj, e])
      have k' := k H' q
      rw [e] at k'
      exact k'
def spWithWord (K : PySem.W.Frag) : Sp := fun vs H Q _ => ∃ (a pa : Addr) (cells x p : List Nat), vs = [.ref a, .str (S x), .ref pa] ∧ SqL K H a (lv cells) ∧ SqL K H pa (iv p) ∧ p.length = x.length ∧ (∀ c ∈ p, c < cells.length) ∧ (∀ b ∈ x, b ≠ 0) ∧ cells.length ≤ 64 ∧
  ∀ H' L, Same H H' → H L = none → H' L = some (.lst (lv ((p.zip x).foldl (fun c y => c.set y.1 y.2) cells))) → Q (.ref L) H'
theorem scWithWord : FnScope ["letters", "word", "path", "changed", "letter", "cell"] ["letters", "word", "path"] (defScope sWithWord) := ⟨rfl, rfl, rfl, by decide +kernel, rfl, by decide +kernel, by decide +kernel⟩
theorem lv_set {cells : List Nat} {c b : Nat} (hb : b ≠ 0) : (lv cells).set c (V.str (S [b])) = lv (cells.set c b) := by
  unfold lv
  rw [List.map_set, SE_letter hb]
theorem ok_withWord {f : Addr} {fd : FuncData} (F : Fun K "with_word" "with_word" sWithWord f fd) (T : Cst3 mg) : FnOk P w K mg base CX0 1 f fd ["letters", "word", "path"] (spWithWord K) := by
  refine F.ok scWithWord (fun vs H Q E h => ?_) (fun cdv A outer s H vs Q E hr h => ?_)
  · obtain ⟨a, pa, cells, x, p, rfl, _⟩ := h
    rfl
  · obtain ⟨a, pa, cells, x, p, rfl, hA, hP, hl, hlt, hx, h64, k⟩ := h
    refine ⟨_, pss_cons (ps_set (i := 3) scWithWord.nd rfl (Or.inl rfl) (pe_callTy call_list_of (by rfl) T.list (by decide +kernel) (pa_cons (pv 0) pa_nil)))
      (pss_cons (ps_for PassesOwn.never rfl (pi_zs rfl T.zip (pa_cons (pv 1) (pa_cons (pv 2) pa_nil))) (pg_tup rfl (pgs_cons (pg_name (i := 4) scWithWord.nd rfl (Or.inl rfl)) (pgs_cons (pg_name (i := 5) scWithWord.nd rfl (Or.inl rfl)) pgs_nil)))
        (pss_one (ps_asg (pv 4) (pg_sub (pv 3) (pv 5) set_list))))
      (pss_one (ps_ret (pv 3)))), ?_⟩
    have zl : (p.zip x).length = x.length := by rw [List.length_zip, hl, Nat.min_self]
    refine ⟨_, rfl, a, _, rfl, .inl hA, fun L hL => ?_⟩
    have hL0 : H L = none := hL
    have s1 : Same H (upd H L (.lst (lv cells))) := same_new (Same.refl H) hL0
    refine ⟨_, rfl, _, rfl, S x, pa, _, rfl, s1.seq hP, for_it (n := x.length) (fun i σ H' => ∃ v4 v5 : Option V, σ = [some (.ref a), some (.str (S x)), some (.ref pa), some (.ref L), v4, v5] ∧ Same H H' ∧ H' L = some (.lst (lv (((p.zip x).take i).foldl (fun c y => c.set y.1 y.2) cells))))
      ⟨none, none, rfl, s1, upd_same⟩ ?_ ?_ ?_ ?_⟩
    · rintro i σ H' hi ⟨v4, v5, rfl, q, _⟩
      exact ⟨by simpa [S] using hi, _, _, q.seq hP, List.getElem?_eq_getElem (by rw [iv_len, hl]; exact hi)⟩
    · rintro σ H' ⟨v4, v5, rfl, q, _⟩
      show x.length = (S x).cps.size
      simp [S]
    · rintro i v σ H' H2 hi ⟨v4, v5, rfl, q, hLi⟩ ⟨t, c, y, rfl, ht, rfl, hc, hy⟩
      obtain ⟨pc, hpc, rfl⟩ := iv_get (hy _ (q.seq hP))
      have hxc : x[i]? = some c := by simpa [S] using hc
      have hz : (p.zip x)[i]? = some (pc, c) := by
        rw [List.getElem?_zip_eq_some]
        exact ⟨hpc, hxc⟩
      have hcl := hlt pc (List.mem_of_getElem? hpc)
      have c0 : c ≠ 0 := hx c (List.mem_of_getElem? hxc)
      have s2 : Same H (upd H' t (.tup [.str ⟨#[c]⟩, .int (pc : Int)])) := same_new q (q.free ht)
      have nLt : L ≠ t := ne_of_none hLi ht
      refine ⟨t, _, rfl, SqT.of upd_same, rfl, _, _, rfl, _, _, rfl, rfl, ?_⟩
      refine ⟨_, rfl, _, rfl, _, rfl, L, _, _, pc, rfl, rfl, by rw [upd_ne nLt]; exact hLi, ixN_nat' (by rw [lv_len, foldl_set_len]; exact hcl), ?_⟩
      refine ⟨_, _, rfl, same_new s2 hL0, ?_⟩
      rw [upd_same, take_snoc hz, List.foldl_append]
      show some (HO.lst ((lv _).set pc (V.str (S [c])))) = _
      rw [lv_set c0]
      rfl
    · rintro σ H' ⟨v4, v5, rfl, q, hLi⟩
      refine ⟨_, rfl, k H' L q hL0 ?_⟩
      rw [hLi, ← zl, List.take_length]
def spFilled (K : PySem.W.Frag) : Sp := fun vs H Q _ => ∃ (a : Addr) (cells r : List Nat), vs = [.ref a, .str (S r)] ∧ SqL K H a (lv cells) ∧ cells.length ≤ 64 ∧ r ≠ [] ∧ r.length ≤ 1000 ∧
  ∀ H' L, Same H H' → H L = none → H' L = some (.lst (ov (Ks332.filled r 0 cells))) → Q (.ref L) H'
theorem scFilled : FnScope ["letters", "filling", "whole", "used", "letter"] ["letters", "filling"] (defScope sFilled) := ⟨rfl, rfl, rfl, by decide +kernel, rfl, by decide +kernel, by decide +kernel⟩
theorem ok_filled {f : Addr} {fd : FuncData} (F : Fun K "filled" "filled" sFilled f fd) (T : Cst3 mg) : FnOk P w K mg base CX0 1 f fd ["letters", "filling"] (spFilled K) := by
  refine F.ok scFilled (fun vs H Q E h => ?_) (fun cdv A outer s H vs Q E hr h => ?_)
  · obtain ⟨a, cells, r, rfl, _⟩ := h
    rfl
  · obtain ⟨a, cells, r, rfl, hA, h64, hr0, hr1, k⟩ := h
    have sz : 100000 < sizeLine := by decide
    have rl : 0 < r.length := List.length_pos_iff.mpr hr0
    refine ⟨_, pss_cons (ps_set (i := 2) scFilled.nd rfl (Or.inl rfl) (pe_lst pa_nil)) (pss_cons (ps_set (i := 3) scFilled.nd rfl (Or.inl rfl) pe_int)
      (pss_cons (ps_for PassesOwn.never rfl (pi_list (pv 0)) (pg_name (i := 4) scFilled.nd rfl (Or.inl rfl))
        (pss_one (ps_if (pt_cmpR op_eq (pv 4) (pe_gv rfl T.empty) (nomark _))
          (pss_cons (ps_expr (pe_bm PySem.F.plainAttrs_list PySem.F.slot_list_append PySem.F.type_list_append mt_append (pv 2) (pa_cons (pe_ix ix_str (pv 1) (pe_op op_mod (pv 3) (pe_callB call_len_str (by rfl) T.len PySem.boot_len (pa_cons (pv 1) pa_nil))) (fun _ _ => rfl)) pa_nil)))
            (pss_one (ps_aug (i := 3) scFilled.nd rfl (Or.inl rfl) pe_int ip_add)))
          (pss_one (ps_expr (pe_bm PySem.F.plainAttrs_list PySem.F.slot_list_append PySem.F.type_list_append mt_append (pv 2) (pa_cons (pv 4) pa_nil)))))))
      (pss_one (ps_ret (pv 2))))), ?_⟩
    refine ⟨Nat.zero_le _, fun L hL => ?_⟩
    have hL0 : H L = none := hL
    refine ⟨_, rfl, a, rfl, ⟨_, (same_new (Same.refl H) hL0).seq hA⟩, for_list (K := K) (a := a) (xs := lv cells)
      (fun i σ H' => ∃ (v4 : Option V) (n : Nat) (done : List Nat), σ = [some (.ref a), some (.str (S r)), some (.ref L), some (.int (n : Int)), v4] ∧ Same H H' ∧ H' L = some (.lst (ov done)) ∧ done.length = i ∧ Ks332.filled r 0 cells = done ++ Ks332.filled r n (cells.drop i))
      ⟨none, 0, [], rfl, same_new (Same.refl H) hL0, upd_same, rfl, rfl⟩ (fun i σ H' _ ⟨_, _, _, _, q, _⟩ => q.seq hA) ?_ ?_⟩
    · rintro i x σ H' hi ⟨v4, n, done, rfl, q, hLi, hd, he⟩
      have hic : i < cells.length := by
        have := (List.getElem?_eq_some_iff.mp hi).1
        rw [lv_len] at this
        exact this
      have ex := lv_get hic
      rw [ex] at hi
      cases hi
      have ed : cells.drop i = cells.getD i 0 :: cells.drop (i + 1) := by
        rw [List.drop_eq_getElem_cons hic]
        simp [List.getD_eq_getElem?_getD, List.getElem?_eq_getElem hic]
      refine ⟨_, rfl, rfl, _, rfl, ite2 (fun c => ?_) (fun c => ?_)⟩
      · have e0 : cells.getD i 0 = 0 := by
          have := of_decide_eq_true c
          injection this with this
          exact SE_inj (b := 0) this
        have hm : n % r.length < r.length := Nat.mod_lt _ rl
        have eg : (S r).cps.toList[n % r.length]? = some (r.getD (n % r.length) 97) := by
          rw [S_tl, List.getElem?_eq_getElem hm]
          simp [List.getD_eq_getElem?_getD, List.getElem?_eq_getElem hm]
        have ei : (n : Int) % ((S r).length : Int) = ((n % r.length : Nat) : Int) := by rw [S_len]; exact (Int.natCast_emod n r.length).symm
        refine ⟨_, rfl, .inl ⟨rfl, _, SqL.of hLi⟩, _, rfl, _, rfl, _, rfl, _, rfl, by rw [S_len]; omega, _, _, rfl, rfl, (show (0 : Int) < ((S r).length : Int) by rw [S_len]; omega), _, _, _, rfl, rfl, by rw [S_len]; omega, by rw [ei]; exact atI_nat eg, L, _, _, rfl, rfl, hLi, by rw [ov_len]; omega, ?_⟩
        refine ⟨_, rfl, _, _, rfl, rfl, ?_⟩
        refine ⟨_, n + 1, done ++ [r.getD (n % r.length) 97], by rw [Int.natCast_add]; rfl, same_new q hL0, ?_, by simp [hd], ?_⟩
        · rw [upd_same]
          simp [ov]
          rfl
        · rw [he, ed, e0]
          show done ++ (if (0 : Nat) = 0 then r.getD (n % r.length) 97 :: Ks332.filled r (n + 1) (cells.drop (i + 1)) else _) = _
          rw [if_pos rfl, List.append_assoc]
          rfl
      · have e0 : ¬ cells.getD i 0 = 0 := fun z => c (by rw [z]; exact decide_eq_true rfl)
        refine ⟨_, rfl, .inl ⟨rfl, _, SqL.of hLi⟩, _, rfl, L, _, _, rfl, rfl, hLi, by rw [ov_len]; omega, ?_⟩
        refine ⟨_, n, done ++ [cells.getD i 0], rfl, same_new q hL0, ?_, by simp [hd], ?_⟩
        · rw [upd_same, SE_letter e0]
          simp [ov]
        · rw [he, ed]
          show done ++ (if cells.getD i 0 = 0 then _ else cells.getD i 0 :: Ks332.filled r n (cells.drop (i + 1))) = _
          rw [if_neg e0, List.append_assoc]
          rfl
    · rintro σ H' ⟨v4, n, done, rfl, q, hLi, hd, he⟩
      refine ⟨_, rfl, k H' L q hL0 ?_⟩
      rw [lv_len, List.drop_length] at he
      have e2 : Ks332.filled r n [] = [] := rfl
      rw [he, e2, List.append_nil]
      exact hLi
end
end HW
end
section
set_option Elab.async false
set_option linter.all false
set_option maxRecDepth 100000
set_option maxHeartbeats 4000000
namespace HW
open PySem PySem.Spec PyProof.Rows L2 HX
abbrev sSearch : Stmt := top 41
abbrev sSearchInit : Stmt := inClass sSearch 0
abbrev sRun : Stmt := inClass sSearch 1
abbrev sIsOver : Stmt := inClass sSearch 2
abbrev sPutFrom : Stmt := inClass sSearch 3
abbrev sTryAt : Stmt := inClass sSearch 4
abbrev sJudge : Stmt := inClass sSearch 5
structure STxt (K : PySem.W.Frag) (C : Addr) : Prop where
  cl : Cls K C
  nB : NoAttr K C "board"
  nW : NoAttr K C "words"
  nF : NoAttr K C "filling"
  nM : NoAttr K C "most"
  nC : NoAttr K C "choices"
  nT : NoAttr K C "tries"
  nS : NoAttr K C "stopped"
  nD : NoAttr K C "made"
def searchF (b lw lc : Addr) (rest : List Nat) (most n : Nat) (st : Bool) (md : V) : List (Str × V) :=
  [("board", .ref b), ("words", .ref lw), ("filling", .str (S rest)), ("most", .int (most : Int)), ("choices", .ref lc), ("tries", .int (n : Int)), ("stopped", .bl st), ("made", md)]
/-- the places of each word -/
def Choices (H : Hp) (lc : Addr) (wd hg : Nat) (ws : List (List Nat)) : Prop := ∃ cas : List Addr, H lc = some (.lst (cas.map V.ref)) ∧ cas.length = ws.length ∧
  ∀ (i : Nat) (x : List Nat), ws[i]? = some x → ∃ a as, cas[i]? = some a ∧ LL H a as ((pathsOf wd hg x.length).map iv)
/-- the search's own addresses and data, which stay -/
structure Sea where
  sA : Addr
  dx : Addr
  b : Addr
  lw : Addr
  lc : Addr
  wd : Nat
  hg : Nat
  ws : List (List Nat)
  rest : List Nat
  most : Nat
structure Sea.Ok (z : Sea) : Prop where
  w2 : 2 ≤ z.wd
  w8 : z.wd ≤ 8
  h2 : 2 ≤ z.hg
  h8 : z.hg ≤ 8
  ok : ∀ x ∈ z.ws, Ks331.okWord x = true
  few : z.ws.length ≤ 12
  r0 : z.rest ≠ []
  r1 : z.rest.length ≤ 64
  m : z.most ≤ 2000
structure SeaAt (CB C : Addr) (z : Sea) (H : Hp) (n : Nat) (st : Bool) (md : V) : Prop where
  obj : H z.sA = some (.ins C z.dx (searchF z.b z.lw z.lc z.rest z.most n st md))
  board : BoardAt CB H z.b z.wd z.hg
  words : H z.lw = some (.lst (sv z.ws))
  ch : Choices H z.lc z.wd z.hg z.ws
/-- all but the object at a stays -/
def But (H H' : Hp) (a : Addr) : Prop := ∀ b o, H b = some o → b ≠ a → H' b = some o
theorem But.trans {H H1 H2 : Hp} {a : Addr} (x : But H H1 a) (y : But H1 H2 a) : But H H2 a := fun b o e ne => y b o (x b o e ne) ne
theorem But.of_same {H H1 : Hp} {a : Addr} (x : Same H H1) : But H H1 a := fun b o e _ => x b o e
theorem LL.but {H H' : Hp} {l a : Addr} {as : List Addr} {xss : List (List V)} {C dx : Addr} {fs : List (Str × V)} (x : But H H' a) (ha : H a = some (.ins C dx fs)) (h : LL H l as xss) : LL H' l as xss :=
  ⟨x _ _ h.lst (ne_of h.lst ha (by intro z; cases z)), h.len, fun i b e => let ⟨xs, h1, h2⟩ := h.at_ i b e; ⟨xs, h1, x _ _ h2 (ne_of h2 ha (by intro z; cases z))⟩⟩
theorem SeaAt.move {CB C : Addr} {z : Sea} {H H' : Hp} {n n' : Nat} {st st' : Bool} {md md' : V} (h : SeaAt CB C z H n st md) (x : But H H' z.sA) (e : H' z.sA = some (.ins C z.dx (searchF z.b z.lw z.lc z.rest z.most n' st' md'))) : SeaAt CB C z H' n' st' md' := by
  obtain ⟨dx, R, T, ras, h1, h2, h3⟩ := h.board
  obtain ⟨cas, c1, c2, c3⟩ := h.ch
  have hb : z.b ≠ z.sA := ne_of h1 h.obj (by
    intro q
    injection q with _ _ q
    have := congrArg List.length q
    cases this)
  refine ⟨e, ⟨dx, R, T, ras, x _ _ h1 hb, h2.but x h.obj, x _ _ h3 (ne_of h3 h.obj (by intro z; cases z))⟩, x _ _ h.words (ne_of h.words h.obj (by intro z; cases z)), ⟨cas, x _ _ c1 (ne_of c1 h.obj (by intro z; cases z)), c2, fun i y hy => ?_⟩⟩
  obtain ⟨a, as, ha, ll⟩ := c3 i y hy
  exact ⟨a, as, ha, ll.but x h.obj⟩
theorem SeaAt.same {CB C : Addr} {z : Sea} {H H' : Hp} {n : Nat} {st : Bool} {md : V} (h : SeaAt CB C z H n st md) (s : Same H H') : SeaAt CB C z H' n st md :=
  h.move (But.of_same s) (s _ _ h.obj)
/-- how the search stands behind a part of it -/
def After (C : Addr) (z : Sea) (n : Nat) (H' : Hp) : R → Prop
  | .cont m => n ≤ m ∧ m ≤ z.most ∧ H' z.sA = some (.ins C z.dx (searchF z.b z.lw z.lc z.rest z.most m false .non))
  | .out => ∃ m : Nat, H' z.sA = some (.ins C z.dx (searchF z.b z.lw z.lc z.rest z.most m true .non))
  | .found m g => ∃ L : Addr, H' z.sA = some (.ins C z.dx (searchF z.b z.lw z.lc z.rest z.most m false (.ref L))) ∧ H' L = some (.lst (ov g.cells))
section
variable {P : Program} {w : World} {K : PySem.W.Frag} {mg : Str → Option Value} {base : Heap}
def spJudge (CB C : Addr) : Sp := fun vs H Q _ => ∃ (z : Sea) (la : Addr) (n : Nat) (g : Ks331.Grid), vs = [.ref z.sA, .ref la] ∧ z.Ok ∧ SeaAt CB C z H n false .non ∧ n ≤ z.most ∧ Sq g z.wd z.hg ∧ H la = some (.lst (lv g.cells)) ∧
  ∀ H', But H H' z.sA → After C z n H' (judged z.rest z.ws g n) → Q .non H'
theorem scJudge : FnScope ["self", "letters", "whole"] ["self", "letters"] (defScope sJudge) := ⟨rfl, rfl, rfl, by decide +kernel, rfl, by decide +kernel, by decide +kernel⟩
theorem ok_judge {f CB C : Addr} {fd : FuncData} (F : Fun K "judge" "Search.judge" sJudge f fd) (T : STxt K C) (C1 : Cal P w K mg base 1 "filled" ["letters", "filling"] (spFilled K)) (C2 : Cal P w K mg base 3 "is_right" ["board", "letters", "words"] (spIsRight K CB)) :
    FnOk P w K mg base CX0 4 f fd ["self", "letters"] (spJudge CB C) := by
  refine F.ok scJudge (fun vs H Q E h => ?_) (fun cdv A outer s H vs Q E hr h => ?_)
  · obtain ⟨z, la, n, g, rfl, _⟩ := h
    rfl
  · obtain ⟨z, la, n, g, rfl, zo, hs, hn, sq, hla, k⟩ := h
    have hr1 : Room 1 _ := hr.mono (by decide)
    refine ⟨_, pss_cons (ps_set (i := 2) scJudge.nd rfl (Or.inl rfl) (pe_cal C1 hr1 rfl (pa_cons (pv 1) (pa_cons (pe_fld (pv 0) rfl) pa_nil))))
      (pss_one (ps_if (pt_val (pe_cal C2 hr rfl (pa_cons (pe_fld (pv 0) rfl) (pa_cons (pv 2) (pa_cons (pe_fld (pv 0) rfl) pa_nil))))) (pss_one (ps_fld (pv 0) (pv 2) rfl)) pss_nil)), ?_⟩
    have r1 := zo.r1
    refine ⟨_, rfl, _, rfl, z.sA, C, z.dx, _, _, rfl, hs.obj, T.cl, T.nF, rfl, la, g.cells, z.rest, rfl, SqL.of hla, by rw [sq.len]; exact sq.size, zo.r0, by omega, fun H1 L s1 hL0 hL => ?_⟩
    have hs1 := hs.same s1
    have len : (Ks332.filled z.rest 0 g.cells).length = z.wd * z.hg := by rw [filled_len, sq.len]
    refine ⟨_, rfl, z.sA, C, z.dx, _, _, rfl, hs1.obj, T.cl, T.nB, rfl, _, rfl, _, rfl, z.sA, C, z.dx, _, _, rfl, hs1.obj, T.cl, T.nW, rfl, z.b, L, z.lw, z.wd, z.hg, _, z.ws, rfl, hs1.board, zo.w2, zo.w8, zo.h2, zo.h8, hL, len, SqL.of hs1.words, zo.ok, fun H2 s2 => ⟨_, rfl, ?_⟩⟩
    have hs2 := hs1.same s2
    have ew : g.wide = z.wd := sq.wide
    have eg : (⟨z.wd, Ks332.filled z.rest 0 g.cells⟩ : Ks331.Grid) = { g with cells := Ks332.filled z.rest 0 g.cells } := by rw [← ew]
    cases e : Ks332.right ⟨z.wd, Ks332.filled z.rest 0 g.cells⟩ z.ws with
    | false =>
      have ej : judged z.rest z.ws g n = .cont n := by
        unfold judged
        rw [← eg, e]
        rfl
      refine iteF (k H2 (But.of_same (s1.trans s2)) ?_)
      rw [ej]
      exact ⟨Nat.le_refl _, hn, hs2.obj⟩
    | true =>
      have ej : judged z.rest z.ws g n = .found n { g with cells := Ks332.filled z.rest 0 g.cells } := by
        unfold judged
        rw [← eg, e]
        rfl
      refine iteT ⟨_, rfl, _, rfl, z.sA, C, z.dx, _, rfl, hs2.obj, T.cl, T.nD, (by show 8 < 1000; decide), k _ ?_ ?_⟩
      · intro b o e1 ne
        rw [upd_ne ne]
        exact s2 _ _ (s1 _ _ e1)
      · rw [ej]
        exact ⟨L, by rw [upd_same]; rfl, by rw [upd_ne (ne_of (s2 _ _ hL) hs2.obj (by intro q; cases q))]; exact s2 _ _ hL⟩
def spIsOver (C : Addr) : Sp := fun vs H Q _ => ∃ (a dx : Addr) (fs : List (Str × V)) (st : Bool) (md : V), vs = [.ref a] ∧ H a = some (.ins C dx fs) ∧ fs.lookup ("stopped" : Str) = some (.bl st) ∧ fs.lookup ("made" : Str) = some md ∧ Q (.bl (st || !decide (md = .non))) H
theorem scIsOver : FnScope ["self"] ["self"] (defScope sIsOver) := ⟨rfl, rfl, rfl, by decide +kernel, rfl, by decide +kernel, by decide +kernel⟩
theorem ok_isOver {f C : Addr} {fd : FuncData} (F : Fun K "is_over" "Search.is_over" sIsOver f fd) (T : STxt K C) : FnOk P w K mg base CX0 1 f fd ["self"] (spIsOver C) := by
  refine F.ok scIsOver (fun vs H Q E h => ?_) (fun cdv A outer s H vs Q E hr h => ?_)
  · obtain ⟨a, dx, fs, st, md, rfl, _⟩ := h
    rfl
  · obtain ⟨a, dx, fs, st, md, rfl, hA, l1, l2, k⟩ := h
    refine ⟨_, pss_one (ps_ret (pe_or (pe_fld (pv 0) rfl) (pe_one (pe_cmpR op_notN (pe_fld (pv 0) rfl) pe_non (nomark _))))), ?_⟩
    refine ⟨_, rfl, a, C, dx, fs, _, rfl, hA, T.cl, T.nS, l1, st, rfl, ?_⟩
    cases st with
    | true => exact iteT k
    | false => exact iteF ⟨_, rfl, a, C, dx, fs, _, rfl, hA, T.cl, T.nD, l2, rfl, k⟩
end
end HW
end
section
set_option Elab.async false
set_option linter.all false
set_option maxRecDepth 100000
set_option maxHeartbeats 4000000
namespace HW
open PySem PySem.Spec PyProof.Rows L2 HX
section
variable {P : Program} {w : World} {K : PySem.W.Frag} {mg : Str → Option Value} {base : Heap}
/-- put_from, with r words or fewer still to put in -/
def spPut (CB C : Addr) (r : Nat) : Sp := fun vs H Q _ => ∃ (z : Sea) (la : Addr) (n : Nat) (g : Ks331.Grid) (done rem : List (List Nat)), vs = [.ref z.sA, .int ((done.length : Nat) : Int), .ref la] ∧ z.Ok ∧ SeaAt CB C z H n false .non ∧ n ≤ z.most ∧ z.ws = done ++ rem ∧ rem.length ≤ r ∧
  Sq g z.wd z.hg ∧ H la = some (.lst (lv g.cells)) ∧ ∀ H', But H H' z.sA → After C z n H' (go z.rest z.ws z.most rem g n) → Q .non H'
/-- try_at, with r words or fewer to put in, the one that's put in among them -/
def spTry (CB C : Addr) : Nat → Sp
  | 0 => fun _ _ _ _ => False
  | r + 1 => fun vs H Q _ => ∃ (z : Sea) (la pa : Addr) (n : Nat) (g : Ks331.Grid) (done rem : List (List Nat)) (x : List Nat) (pl : Ks331.Place), vs = [.ref z.sA, .int ((done.length : Nat) : Int), .ref la, .ref pa] ∧ z.Ok ∧ SeaAt CB C z H n false .non ∧ n ≤ z.most ∧ z.ws = done ++ x :: rem ∧ rem.length ≤ r ∧
    Sq g z.wd z.hg ∧ H la = some (.lst (lv g.cells)) ∧ pl ∈ spots z.wd z.hg x.length ∧ H pa = some (.lst (iv (pathAt z.wd z.hg x.length pl))) ∧
    ∀ H', But H H' z.sA → After C z n H' (if z.most ≤ n then .out else go z.rest z.ws z.most rem (Ks332.put g x pl) (n + 1)) → Q .non H'
theorem scTryAt : FnScope ["self", "number", "letters", "path"] ["self", "number", "letters", "path"] (defScope sTryAt) := ⟨rfl, rfl, rfl, by decide +kernel, rfl, by decide +kernel, by decide +kernel⟩
theorem word_nz {x : List Nat} (h : Ks331.okWord x = true) : ∀ b ∈ x, b ≠ 0 := fun b hb => by
  have := letter_of (List.all_eq_true.mp (okWord_len h).2.2 b hb)
  omega
theorem after_mono {C : Addr} {z : Sea} {n n' : Nat} {H' : Hp} {r : R} (h : n ≤ n') (a : After C z n' H' r) : After C z n H' r := by
  cases r with
  | cont m => exact ⟨Nat.le_trans h a.1, a.2⟩
  | out => exact a
  | found m g => exact a
theorem ok_tryAt {f CB C : Addr} {fd : FuncData} (r k : Nat) (F : Fun K "try_at" "Search.try_at" sTryAt f fd) (T : STxt K C) (C1 : Cal P w K mg base 1 "with_word" ["letters", "word", "path"] (spWithWord K)) (hk : 1 ≤ k)
    (M : Mth P w K mg base k C "put_from" ["self", "number", "letters"] (spPut CB C r)) : FnOk P w K mg base CX0 (k + 1) f fd ["self", "number", "letters", "path"] (spTry CB C (r + 1)) := by
  refine F.ok scTryAt (fun vs H Q E h => ?_) (fun cdv A outer s H vs Q E hr h => ?_)
  · obtain ⟨z, la, pa, n, g, done, rem, x, pl, rfl, _⟩ := h
    rfl
  · obtain ⟨z, la, pa, n, g, done, rem, x, pl, rfl, zo, hs, hn, hws, hrem, sq, hla, hpl, hpa, k⟩ := h
    have hr1 : Room 1 _ := hr.mono hk
    have m2 := zo.m
    refine ⟨_, pss_cons (ps_if (pt_cmpR op_eq (pe_fld (pv 0) rfl) (pe_fld (pv 0) rfl) (nomark _)) (pss_cons (ps_fld (pv 0) pe_bl rfl) (pss_one ps_retN)) pss_nil)
      (pss_cons (ps_fldaug (pv 0) pe_int in_add)
      (pss_one (ps_expr (pe_mth M hr T.cl (pv 0) (pa_cons (pe_op op_add (pv 1) pe_int) (pa_cons (pe_cal C1 hr1 rfl (pa_cons (pv 2) (pa_cons (pe_ix ix_list (pe_fld (pv 0) rfl) (pv 1) (fun _ _ => rfl)) (pa_cons (pv 3) pa_nil)))) pa_nil)))))), ?_⟩
    refine ⟨_, rfl, z.sA, C, z.dx, _, _, rfl, hs.obj, T.cl, T.nT, rfl, _, rfl, z.sA, C, z.dx, _, _, rfl, hs.obj, T.cl, T.nM, rfl, rfl, _, rfl, ite2 (fun c => ?_) (fun c => ?_)⟩
    · have e : n = z.most := by
        have := of_decide_eq_true c
        injection this with this
        omega
      refine ⟨_, rfl, z.sA, C, z.dx, _, rfl, hs.obj, T.cl, T.nS, (by show 8 < 1000; decide), k _ (fun b o e ne => by rw [upd_ne ne]; exact e) ?_⟩
      rw [if_pos (by omega)]
      exact ⟨n, by rw [upd_same]; rfl⟩
    · have e : ¬ n = z.most := fun q => c (by rw [q]; exact decide_eq_true rfl)
      refine ⟨_, rfl, z.sA, C, z.dx, _, _, rfl, hs.obj, T.cl, T.nT, rfl, _, _, rfl, rfl, z.dx, _, hs.obj, (by show 8 < 1000; decide), ?_⟩
      have en : ((n : Int) + 1) = ((n + 1 : Nat) : Int) := by omega
      have hp1 : putF ("tries" : Str) (V.int ((n : Int) + 1)) (searchF z.b z.lw z.lc z.rest z.most n false .non) = searchF z.b z.lw z.lc z.rest z.most (n + 1) false .non := by
        rw [en]
        rfl
      rw [hp1]
      generalize hH1 : upd H z.sA (.ins C z.dx (searchF z.b z.lw z.lc z.rest z.most (n + 1) false .non)) = H1
      have b1 : But H H1 z.sA := fun b o e ne => by rw [← hH1, upd_ne ne]; exact e
      have hs1 : SeaAt CB C z H1 (n + 1) false .non := hs.move b1 (by rw [← hH1, upd_same])
      have hla1 : H1 la = some (.lst (lv g.cells)) := b1 _ _ hla (ne_of hla hs.obj (by intro q; cases q))
      have hpa1 : H1 pa = some (.lst (iv (pathAt z.wd z.hg x.length pl))) := b1 _ _ hpa (ne_of hpa hs.obj (by intro q; cases q))
      have hx : z.ws[done.length]? = some x := by rw [hws, List.getElem?_append_right (Nat.le_refl _), Nat.sub_self]; rfl
      have hxo := zo.ok x (List.mem_of_getElem? hx)
      have hat : atI (sv z.ws) ((done.length : Nat) : Int) = some (V.str (S x)) := atI_nat (by unfold sv; rw [List.getElem?_map, hx]; rfl)
      refine ⟨_, rfl, z.sA, z.dx, _, rfl, hs1.obj, rfl, _, rfl, _, _, rfl, rfl, _, rfl, _, rfl, z.sA, C, z.dx, _, _, rfl, hs1.obj, T.cl, T.nW, rfl, _, rfl, z.lw, _, _, _, rfl, rfl, SqL.of hs1.words, hat, _, rfl, la, pa, g.cells, x, pathAt z.wd z.hg x.length pl, rfl, SqL.of hla1, SqL.of hpa1, path_len hpl, fun c hc => by rw [sq.len]; exact path_lt hc, word_nz hxo, by rw [sq.len]; exact sq.size, fun H2 L s2 hL0 hL => ?_⟩
      have hs2 := hs1.same s2
      have l8 := (okWord_len hxo).2.1
      refine ⟨z, L, n + 1, Ks332.put g x pl, done ++ [x], rem, ?_, zo, hs2, by omega, by rw [hws, List.append_assoc]; rfl, hrem, put_sq sq x pl, ?_, fun H3 b3 a3 => ?_⟩
      · rw [List.length_append, Int.natCast_add]
        rfl
      · rw [hL, put_spot sq l8 hpl]
      · refine k H3 ((b1.trans (But.of_same s2)).trans b3) ?_
        rw [if_neg (by omega)]
        exact after_mono (Nat.le_succ n) a3
end
end HW
end
section
set_option Elab.async false
set_option linter.all false
set_option maxRecDepth 100000
set_option maxHeartbeats 4000000
namespace HW
open PySem PySem.Spec PyProof.Rows L2 HX
section
variable {P : Program} {w : World} {K : PySem.W.Frag} {mg : Str → Option Value} {base : Heap}
theorem scPutFrom : FnScope ["self", "number", "letters", "word", "path"] ["self", "number", "letters"] (defScope sPutFrom) := ⟨rfl, rfl, rfl, by decide +kernel, rfl, by decide +kernel, by decide +kernel⟩
theorem go_nil (rest : List Nat) (all : List (List Nat)) (most : Nat) (g : Ks331.Grid) (n : Nat) : go rest all most [] g n = judged rest all g n := rfl
theorem go_cons {rest : List Nat} {all : List (List Nat)} {most : Nat} {x : List Nat} {rem : List (List Nat)} {g : Ks331.Grid} {n wd hg : Nat} (sq : Sq g wd hg) (h8 : x.length ≤ 8) :
    go rest all most (x :: rem) g n = tryAll (go rest all most rem) (Ks332.put g x) most ((spots wd hg x.length).filter (Ks332.room g x)) n := by
  show tryAll _ _ _ (Ks332.rooms g x) n = _
  rw [rooms_spots sq h8]
theorem ok_putFrom {f CB C : Addr} {fd : FuncData} (r k kt : Nat) (F : Fun K "put_from" "Search.put_from" sPutFrom f fd) (T : STxt K C) (len : mg "len" = none) (C1 : Cal P w K mg base 1 "fits" ["letters", "word", "path"] (spFits K)) (MJ : Mth P w K mg base 4 C "judge" ["self", "letters"] (spJudge CB C))
    (MO : Mth P w K mg base 1 C "is_over" ["self"] (spIsOver C)) (MT : Mth P w K mg base kt C "try_at" ["self", "number", "letters", "path"] (spTry CB C r)) (hk : 4 ≤ k) (hkt : kt ≤ k) : FnOk P w K mg base CX0 (k + 1) f fd ["self", "number", "letters"] (spPut CB C r) := by
  refine F.ok scPutFrom (fun vs H Q E h => ?_) (fun cdv A outer s H vs Q E hr h => ?_)
  · obtain ⟨z, la, n, g, done, rem, rfl, _⟩ := h
    rfl
  · obtain ⟨z, la, n, g, done, rem, rfl, zo, hs, hn, hws, hrem, sq, hla, k⟩ := h
    have hr1 : Room 1 _ := hr.mono (by omega)
    have hr4 : Room 4 _ := hr.mono hk
    have hrt : Room kt _ := hr.mono hkt
    refine ⟨_, pss_cons (ps_if (pt_cmpR op_eq (pv 1) (pe_callB call_len_seq (by rfl) len PySem.boot_len (pa_cons (pe_fld (pv 0) rfl) pa_nil)) (nomark _)) (pss_cons (ps_expr (pe_mth MJ hr4 T.cl (pv 0) (pa_cons (pv 2) pa_nil))) (pss_one ps_retN)) pss_nil)
      (pss_cons (ps_set (i := 3) scPutFrom.nd rfl (Or.inl rfl) (pe_ix ix_list (pe_fld (pv 0) rfl) (pv 1) (fun _ _ => rfl)))
      (pss_one (ps_for PassesOwn.never rfl (pi_list (pe_ix ix_list (pe_fld (pv 0) rfl) (pv 1) (fun _ _ => rfl))) (pg_name (i := 4) scPutFrom.nd rfl (Or.inl rfl))
        (pss_one (ps_if (pt_val (pe_cal C1 hr1 rfl (pa_cons (pv 2) (pa_cons (pv 3) (pa_cons (pv 4) pa_nil)))))
          (pss_cons (ps_expr (pe_mth MT hrt T.cl (pv 0) (pa_cons (pv 1) (pa_cons (pv 2) (pa_cons (pv 4) pa_nil)))))
          (pss_one (ps_if (pt_val (pe_mth0 MO hr1 T.cl (pv 0))) (pss_one ps_retN) pss_nil))) pss_nil))))), ?_⟩
    have wl : (sv z.ws).length = z.ws.length := sv_len
    refine ⟨_, rfl, _, rfl, z.sA, C, z.dx, _, _, rfl, hs.obj, T.cl, T.nW, rfl, z.lw, _, rfl, .inl (SqL.of hs.words), rfl, _, rfl, ?_⟩
    rw [wl]
    cases rem with
    | nil =>
      have e : V.int ((done.length : Nat) : Int) = V.int ((z.ws.length : Nat) : Int) := by rw [hws, List.append_nil]
      rw [decide_eq_true e]
      refine iteT ⟨_, rfl, z.sA, z.dx, _, rfl, hs.obj, rfl, _, rfl, z, la, n, g, rfl, zo, hs, hn, sq, hla, fun H' b' a' => ?_⟩
      exact k H' b' (by rw [go_nil]; exact a')
    | cons x rem' =>
      have e : ¬ V.int ((done.length : Nat) : Int) = V.int ((z.ws.length : Nat) : Int) := fun q => by
        injection q with q
        rw [hws, List.length_append, List.length_cons] at q
        omega
      rw [decide_eq_false e]
      refine iteF ?_
      cases r with
      | zero => exact absurd hrem (by simp)
      | succ r =>
        have hrem' : rem'.length ≤ r := by
          rw [List.length_cons] at hrem
          omega
        have hx : z.ws[done.length]? = some x := by rw [hws, List.getElem?_append_right (Nat.le_refl _), Nat.sub_self]; rfl
        have hxo := zo.ok x (List.mem_of_getElem? hx)
        have l8 := (okWord_len hxo).2.1
        have hat : atI (sv z.ws) ((done.length : Nat) : Int) = some (V.str (S x)) := atI_nat (by unfold sv; rw [List.getElem?_map, hx]; rfl)
        obtain ⟨cas, c1, c2, c3⟩ := hs.ch
        obtain ⟨ca, as, hca, ll⟩ := c3 _ _ hx
        have hat2 : atI (cas.map V.ref) ((done.length : Nat) : Int) = some (V.ref ca) := atI_nat (by rw [List.getElem?_map, hca]; rfl)
        refine ⟨_, rfl, z.sA, C, z.dx, _, _, rfl, hs.obj, T.cl, T.nW, rfl, _, rfl, z.lw, _, _, _, rfl, rfl, SqL.of hs.words, hat, ?_⟩
        have hcaS : ∀ H', But H H' z.sA → SqL K H' ca (as.map V.ref) := fun H' b' => SqL.of (b' _ _ ll.lst (ne_of ll.lst hs.obj (by intro q; cases q)))
        have asl : (as.map V.ref).length = (spots z.wd z.hg x.length).length := by
          rw [List.length_map, ll.len, List.length_map]
          unfold pathsOf
          rw [List.length_map]
        have hlaS : ∀ H', But H H' z.sA → H' la = some (.lst (lv g.cells)) := fun H' b' => b' _ _ hla (ne_of hla hs.obj (by intro q; cases q))
        refine ⟨_, rfl, z.sA, C, z.dx, _, _, rfl, hs.obj, T.cl, T.nC, rfl, _, rfl, z.lc, _, _, _, rfl, rfl, SqL.of c1, hat2, ca, rfl, ⟨_, hcaS H (fun _ _ e _ => e)⟩, for_list (K := K) (a := ca) (xs := as.map V.ref)
          (fun i σ H' => ∃ (v : Option V) (m : Nat), σ = [some (.ref z.sA), some (.int ((done.length : Nat) : Int)), some (.ref la), some (.str (S x)), v] ∧ But H H' z.sA ∧ SeaAt CB C z H' m false .non ∧ n ≤ m ∧ m ≤ z.most ∧
            tryAll (go z.rest z.ws z.most rem') (Ks332.put g x) z.most (((spots z.wd z.hg x.length).drop i).filter (Ks332.room g x)) m = go z.rest z.ws z.most (x :: rem') g n)
          ⟨none, n, rfl, fun _ _ e _ => e, hs, Nat.le_refl _, hn, by rw [go_cons sq l8]; rfl⟩ (fun i σ H' _ ⟨_, _, _, b', _⟩ => hcaS H' b') ?_ ?_⟩
        · rintro i y σ H' hi ⟨v, m, rfl, b', hs', hnm, hm, heq⟩
          obtain ⟨pa, xs, hpa, rfl, hxs, hpaH⟩ := ll.ref_get hi
          obtain ⟨pth, hpth, rfl⟩ := map_iv_get hxs
          unfold pathsOf at hpth
          rw [List.getElem?_map] at hpth
          obtain ⟨pl, hpl, rfl⟩ := Option.map_eq_some_iff.mp hpth
          have hmem := List.mem_of_getElem? hpl
          have hpaH' : H' pa = some (.lst (iv (pathAt z.wd z.hg x.length pl))) := b' _ _ hpaH (ne_of hpaH hs.obj (by intro q; cases q))
          obtain ⟨hil, hig⟩ := List.getElem?_eq_some_iff.mp hpl
          have edr : (spots z.wd z.hg x.length).drop i = pl :: (spots z.wd z.hg x.length).drop (i + 1) := by rw [List.drop_eq_getElem_cons hil, hig]
          have eroom : fitsOf g.cells x (pathAt z.wd z.hg x.length pl) = Ks332.room g x pl := (room_spot sq l8 hmem).symm
          refine ⟨_, rfl, _, rfl, _, rfl, la, pa, g.cells, x, pathAt z.wd z.hg x.length pl, rfl, SqL.of (hlaS H' b'), SqL.of hpaH', path_len hmem, fun c hc => by rw [sq.len]; exact path_lt hc, word_nz hxo, fun H2 s2 => ⟨_, rfl, ?_⟩⟩
          have hs2 := hs'.same s2
          have b2 := b'.trans (But.of_same (a := z.sA) s2)
          rw [eroom]
          cases er : Ks332.room g x pl with
          | false =>
            refine iteF ⟨_, m, rfl, b2, hs2, hnm, hm, ?_⟩
            rw [← heq, edr, List.filter_cons, er]
            rfl
          | true =>
            rw [edr, List.filter_cons, er, if_pos rfl] at heq
            refine iteT ⟨_, rfl, z.sA, z.dx, _, rfl, hs2.obj, rfl, _, rfl, _, rfl, _, rfl, z, la, pa, m, g, done, rem', x, pl, rfl, zo, hs2, hm, hws, hrem', sq, hlaS H2 b2, hmem, s2 _ _ hpaH', fun H3 b3 a3 => ?_⟩
            have b23 := b2.trans b3
            have heq' : (if z.most ≤ m then R.out else match go z.rest z.ws z.most rem' (Ks332.put g x pl) (m + 1) with
              | .cont m => tryAll (go z.rest z.ws z.most rem') (Ks332.put g x) z.most (((spots z.wd z.hg x.length).drop (i + 1)).filter (Ks332.room g x)) m
              | .out => .out
              | .found m g => .found m g) = go z.rest z.ws z.most (x :: rem') g n := heq
            cases eR : (if z.most ≤ m then R.out else go z.rest z.ws z.most rem' (Ks332.put g x pl) (m + 1)) with
            | cont m' =>
              rw [eR] at a3
              obtain ⟨a31, a32, a33⟩ := a3
              have nle : ¬ z.most ≤ m := fun q => by rw [if_pos q] at eR; cases eR
              rw [if_neg nle] at eR heq'
              rw [eR] at heq'
              have hs3 : SeaAt CB C z H3 m' false .non := hs2.move b3 a33
              refine ⟨_, rfl, z.sA, z.dx, _, rfl, hs3.obj, rfl, z.sA, z.dx, _, false, .non, rfl, hs3.obj, rfl, rfl, _, rfl, iteF ⟨_, m', rfl, b23, hs3, by omega, a32, heq'⟩⟩
            | out =>
              rw [eR] at a3
              obtain ⟨m', a31⟩ := a3
              have hs3 : SeaAt CB C z H3 m' true .non := hs2.move b3 a31
              refine ⟨_, rfl, z.sA, z.dx, _, rfl, hs3.obj, rfl, z.sA, z.dx, _, true, .non, rfl, hs3.obj, rfl, rfl, _, rfl, iteT (k H3 b23 ?_)⟩
              have : go z.rest z.ws z.most (x :: rem') g n = .out := by
                rw [← heq']
                by_cases q : z.most ≤ m
                · rw [if_pos q]
                · rw [if_neg q] at eR ⊢
                  rw [eR]
              rw [this]
              exact ⟨m', a31⟩
            | found m' g' =>
              rw [eR] at a3
              obtain ⟨L, a31, a32⟩ := a3
              have nle : ¬ z.most ≤ m := fun q => by rw [if_pos q] at eR; cases eR
              rw [if_neg nle] at eR heq'
              rw [eR] at heq'
              have hs3 : SeaAt CB C z H3 m' false (.ref L) := hs2.move b3 a31
              refine ⟨_, rfl, z.sA, z.dx, _, rfl, hs3.obj, rfl, z.sA, z.dx, _, false, .ref L, rfl, hs3.obj, rfl, rfl, _, rfl, iteT (k H3 b23 ?_)⟩
              rw [← heq']
              exact ⟨L, a31, a32⟩
        · rintro σ H' ⟨v, m, rfl, b', hs', hnm, hm, heq⟩
          refine k H' b' ?_
          rw [asl, List.drop_length] at heq
          have : tryAll (go z.rest z.ws z.most rem') (Ks332.put g x) z.most ([].filter (Ks332.room g x)) m = .cont m := rfl
          rw [this] at heq
          rw [← heq]
          exact ⟨hnm, hm, hs'.obj⟩
end
end HW
end
section
set_option Elab.async false
set_option linter.all false
set_option maxRecDepth 100000
set_option maxHeartbeats 4000000
namespace HW
open PySem PySem.Spec PyProof.Rows L2 HX
section
variable {P : Program} {w : World} {K : PySem.W.Frag} {mg : Str → Option Value} {base : Heap}
theorem put_all {CB C fp ft : Addr} {fdp fdt : FuncData} (Fp : Fun K "put_from" "Search.put_from" sPutFrom fp fdp) (Ft : Fun K "try_at" "Search.try_at" sTryAt ft fdt) (T : STxt K C) (len : mg "len" = none) (mp : Meth K C "put_from" fp) (mt : Meth K C "try_at" ft)
    (bp : Binds K fdp ["self", "number", "letters"] []) (bt : Binds K fdt ["self", "number", "letters", "path"] []) (C1 : Cal P w K mg base 1 "fits" ["letters", "word", "path"] (spFits K)) (C2 : Cal P w K mg base 1 "with_word" ["letters", "word", "path"] (spWithWord K))
    (MJ : Mth P w K mg base 4 C "judge" ["self", "letters"] (spJudge CB C)) (MO : Mth P w K mg base 1 C "is_over" ["self"] (spIsOver C)) : ∀ r : Nat, FnOk P w K mg base CX0 (2 * r + 5) fp fdp ["self", "number", "letters"] (spPut CB C r)
  | 0 => ok_putFrom 0 4 0 Fp T len C1 MJ MO ⟨ft, fdt, ⟨fun _ _ _ _ h => False.elim h, fun _ _ _ _ _ _ _ _ _ _ _ _ _ h => False.elim h⟩, mt, bt⟩ (by omega) (by omega)
  | r + 1 => by
    have ih := put_all Fp Ft T len mp mt bp bt C1 C2 MJ MO r
    have ht := ok_tryAt (CB := CB) r (2 * r + 5) Ft T C2 (by omega) ⟨fp, fdp, ih, mp, bp⟩
    have := ok_putFrom (CB := CB) (r + 1) (2 * r + 6) (2 * r + 6) Fp T len C1 MJ MO ⟨ft, fdt, ht, mt, bt⟩ (by omega) (by omega)
    rw [show 2 * (r + 1) + 5 = 2 * r + 6 + 1 by omega]
    exact this
def spSearchInit (CB C : Addr) : Sp := fun vs H Q _ => ∃ (sA dx b lw : Addr) (wd hg most : Nat) (ws : List (List Nat)) (rest : List Nat), vs = [.ref sA, .ref b, .ref lw, .str (S rest), .int (most : Int)] ∧ H sA = some (.ins C dx []) ∧ BoardAt CB H b wd hg ∧ wd ≤ 8 ∧ hg ≤ 8 ∧ H lw = some (.lst (sv ws)) ∧ ws.length ≤ 12 ∧ (∀ x ∈ ws, x.length ≤ 8) ∧
  ∀ H' lc, SeaAt CB C ⟨sA, dx, b, lw, lc, wd, hg, ws, rest, most⟩ H' 0 false .non → But H H' sA → Q .non H'
theorem scSearchInit : FnScope ["self", "board", "words", "filling", "most", "word"] ["self", "board", "words", "filling", "most"] (defScope sSearchInit) := ⟨rfl, rfl, rfl, by decide +kernel, rfl, by decide +kernel, by decide +kernel⟩
theorem ok_searchInit {f CB C : Addr} {fd : FuncData} (F : Fun K "__init__" "Search.__init__" sSearchInit f fd) (T : STxt K C) (B : BTxt K CB) (len : mg "len" = none) (M1 : Mth P w K mg base 1 CB "paths" ["self", "length"] (spPaths CB)) :
    FnOk P w K mg base CX0 2 f fd ["self", "board", "words", "filling", "most"] (spSearchInit CB C) := by
  refine F.ok scSearchInit (fun vs H Q E h => ?_) (fun cdv A outer s H vs Q E hr h => ?_)
  · obtain ⟨sA, dx, b, lw, wd, hg, most, ws, rest, rfl, _⟩ := h
    rfl
  · obtain ⟨sA, dx, b, lw, wd, hg, most, ws, rest, rfl, hA, hB, w8, h8, hw, few, x8, k⟩ := h
    have sz : 100000 < sizeLine := by decide
    refine ⟨_, pss_cons (ps_fld (pv 0) (pv 1) rfl) (pss_cons (ps_fld (pv 0) (pv 2) rfl) (pss_cons (ps_fld (pv 0) (pv 3) rfl) (pss_cons (ps_fld (pv 0) (pv 4) rfl)
      (pss_cons (ps_fld (pv 0) (pe_lc (own := [("word", 5)]) rfl scSearchInit.nd (pi_list (pv 2)) (blkOk_by rfl)
        (fun s H C cl fp => pg_name (i := 5) scSearchInit.nd rfl (Or.inl rfl)) (fun s H C cl fp => pts_nil) (fun s H C cl fp => pe_mth M1 hr B.cl (pv 1) (pa_cons (pe_callB call_len_str (by rfl) len PySem.boot_len (pa_cons (pv 5) pa_nil)) pa_nil))) rfl)
      (pss_cons (ps_fld (pv 0) pe_int rfl) (pss_cons (ps_fld (pv 0) pe_bl rfl) (pss_one (ps_fld (pv 0) pe_non rfl)))))))), ?_⟩
    refine ⟨_, rfl, _, rfl, sA, C, dx, [], rfl, hA, T.cl, T.nB, (by show 0 < 1000; decide), ?_⟩
    refine ⟨_, rfl, _, rfl, sA, C, dx, _, rfl, upd_same, T.cl, T.nW, (by show 1 < 1000; decide), ?_⟩
    refine ⟨_, rfl, _, rfl, sA, C, dx, _, rfl, upd_same, T.cl, T.nF, (by show 2 < 1000; decide), ?_⟩
    refine ⟨_, rfl, _, rfl, sA, C, dx, _, rfl, upd_same, T.cl, T.nM, (by show 3 < 1000; decide), ?_⟩
    generalize hfs : putF ("most" : Str) (V.int (most : Int)) (putF ("filling" : Str) (.str (S rest)) (putF ("words" : Str) (.ref lw) (putF ("board" : Str) (.ref b) []))) = fs
    have hfs' : fs = ([("board", .ref b), ("words", .ref lw), ("filling", .str (S rest)), ("most", .int (most : Int))] : List (Str × V)) := by rw [← hfs]; rfl
    generalize hH1 : upd (upd (upd (upd H sA _) sA _) sA _) sA (.ins C dx fs) = H1
    have hA1 : H1 sA = some (.ins C dx fs) := by rw [← hH1, upd_same]
    have b1 : But H H1 sA := fun c o e ne => by rw [← hH1, upd_ne ne, upd_ne ne, upd_ne ne, upd_ne ne]; exact e
    have nb : b ≠ sA := by
      obtain ⟨dx', R, Tk, ras, hb, _⟩ := id hB
      exact ne_of hb hA (by intro q; injection q with _ _ q; have := congrArg List.length q; cases this)
    have hB1 : BoardAt CB H1 b wd hg := by
      obtain ⟨dx', R, Tk, ras, hb, hR, hT⟩ := hB
      exact ⟨dx', R, Tk, ras, b1 _ _ hb nb, hR.but b1 hA, b1 _ _ hT (ne_of hT hA (by intro q; cases q))⟩
    have hw1 : H1 lw = some (.lst (sv ws)) := b1 _ _ hw (ne_of hw hA (by intro q; cases q))
    obtain ⟨dxb, Rb, Tkb, rasb, hb1, _⟩ := id hB1
    refine ⟨_, rfl, lw, rfl, ⟨_, SqL.of hw1⟩, fun D hD => lc_listY (K := K) (a := lw) (xs := sv ws)
      (fun i H' => ∃ cas : List Addr, Same H1 H' ∧ H' D = some (.lst (cas.map V.ref)) ∧ cas.length = i ∧ ∀ (j : Nat) (x : List Nat), ws[j]? = some x → j < i → ∃ a as, cas[j]? = some a ∧ LL H' a as ((pathsOf wd hg x.length).map iv) ∧ D ≠ a ∧ D ∉ as) ?_ (fun i H' _ ⟨_, q, _⟩ => SqL.of (q _ _ hw1)) (fun i y H' hy ⟨cas, q, hDl, hcl, hch⟩ => ?_) (fun H' ⟨cas, q, hDl, hcl, hch⟩ => ?_)⟩
    · exact ⟨[], same_new (Same.refl H1) hD, upd_same, rfl, fun j x _ hj => absurd hj (by omega)⟩
    · obtain ⟨x, hx, rfl⟩ := sv_get hy
      have hx8 := x8 x (List.mem_of_getElem? hx)
      refine ⟨rfl, _, rfl, b, dxb, _, rfl, q _ _ hb1, rfl, _, rfl, _, rfl, by rw [S_len]; omega, b, wd, hg, x.length, by rw [S_len]; rfl, hB1.same q, w8, h8, fun H4 L as s4 ll hL0 hAs0 => ?_⟩
      have nDL : D ≠ L := ne_of_none hDl hL0
      have nDas : D ∉ as := fun m => by
        have := hAs0 D m
        rw [hDl] at this
        cases this
      refine ⟨_, s4 _ _ hDl, ?_, cas ++ [L], same_new (q.trans s4) hD, ?_, by simp [hcl], fun j x' hj hlt => ?_⟩
      · rw [List.length_map, hcl]
        have := (List.getElem?_eq_some_iff.mp hx).1
        omega
      · rw [upd_same, List.map_append]
        rfl
      · by_cases hji : j = i
        · subst hji
          rw [hx] at hj
          cases hj
          exact ⟨L, as, by rw [List.getElem?_append_right (by omega), hcl, Nat.sub_self]; rfl, ll.write (Ne.symm nDL) nDas, nDL, nDas⟩
        · obtain ⟨a, as', h1, h2, h3, h4⟩ := hch j x' hj (by omega)
          exact ⟨a, as', by rw [List.getElem?_append_left (by omega)]; exact h1, (h2.same s4).write (Ne.symm h3) h4, h3, h4⟩
    · have hA' := q _ _ hA1
      rw [sv_len] at hcl hch
      refine ⟨_, rfl, sA, C, dx, fs, rfl, hA', T.cl, T.nC, (by rw [hfs']; show 4 < 1000; decide), ?_⟩
      refine ⟨_, rfl, sA, C, dx, _, rfl, upd_same, T.cl, T.nT, (by rw [hfs']; show 5 < 1000; decide), ?_⟩
      refine ⟨_, rfl, sA, C, dx, _, rfl, upd_same, T.cl, T.nS, (by rw [hfs']; show 6 < 1000; decide), ?_⟩
      refine ⟨_, rfl, sA, C, dx, _, rfl, upd_same, T.cl, T.nD, (by rw [hfs']; show 7 < 1000; decide), ?_⟩
      generalize hH2 : upd (upd (upd (upd H' sA _) sA _) sA _) sA _ = H2
      have b2 : But H' H2 sA := fun c o e ne => by rw [← hH2, upd_ne ne, upd_ne ne, upd_ne ne, upd_ne ne]; exact e
      have b12 : But H1 H2 sA := (But.of_same q).trans b2
      refine k H2 D ⟨?_, ?_, b12 _ _ hw1 (ne_of hw1 hA1 (by intro q; cases q)), ⟨cas, b2 _ _ hDl (ne_of hDl hA' (by intro q; cases q)), hcl, fun j x hj => ?_⟩⟩ (b1.trans b12)
      · rw [← hH2, upd_same, hfs']
        rfl
      · obtain ⟨dx', R, Tk, ras, hb, hR, hT⟩ := hB1
        exact ⟨dx', R, Tk, ras, b12 _ _ hb nb, hR.but b12 hA1, b12 _ _ hT (ne_of hT hA1 (by intro q; cases q))⟩
      · have hlt := (List.getElem?_eq_some_iff.mp hj).1
        obtain ⟨a, as, h1, h2, _⟩ := hch j x hj hlt
        exact ⟨a, as, h1, h2.but b2 hA'⟩
def spRun (CB C : Addr) : Sp := fun vs H Q _ => ∃ (z : Sea), vs = [.ref z.sA] ∧ z.Ok ∧ SeaAt CB C z H 0 false .non ∧ ∀ H', But H H' z.sA → After C z 0 H' (go z.rest z.ws z.most z.ws (Ks332.empty z.wd z.hg) 0) → Q .non H'
theorem scRun : FnScope ["self"] ["self"] (defScope sRun) := ⟨rfl, rfl, rfl, by decide +kernel, rfl, by decide +kernel, by decide +kernel⟩
theorem rep_flat (n : Nat) (v : V) : (List.replicate n [v]).flatten = List.replicate n v := by
  induction n with
  | zero => rfl
  | succ n ih => rw [List.replicate_succ, List.flatten_cons, ih, List.replicate_succ]; rfl
theorem ok_run {f CB C : Addr} {fd : FuncData} (F : Fun K "run" "Search.run" sRun f fd) (T : STxt K C) (B : BTxt K CB) (T3 : Cst3 mg) (M : Mth P w K mg base 29 C "put_from" ["self", "number", "letters"] (spPut CB C 12)) : FnOk P w K mg base CX0 30 f fd ["self"] (spRun CB C) := by
  refine F.ok scRun (fun vs H Q E h => ?_) (fun cdv A outer s H vs Q E hr h => ?_)
  · obtain ⟨z, rfl, _⟩ := h
    rfl
  · obtain ⟨z, rfl, zo, hs, k⟩ := h
    have sz : 100000 < sizeLine := by decide
    have hsz : z.wd * z.hg ≤ 64 := Nat.mul_le_mul zo.w8 zo.h8
    refine ⟨_, pss_one (ps_expr (pe_mth M hr T.cl (pv 0) (pa_cons pe_int (pa_cons (pe_op op_rep (pe_lst (pa_cons (pe_gv rfl T3.empty) pa_nil)) (pe_fld (pe_fld (pv 0) rfl) rfl)) pa_nil)))), ?_⟩
    obtain ⟨dxb, R, Tk, ras, hb, _⟩ := id hs.board
    refine ⟨_, rfl, z.sA, z.dx, _, rfl, hs.obj, rfl, (by show 1 ≤ sizeLine; decide), fun l hl => ?_⟩
    have hl0 : H l = none := hl
    have s1 : Same H (upd H l (.lst [.str (S [])])) := same_new (Same.refl H) hl0
    have hs1 := hs.same s1
    refine ⟨_, rfl, z.sA, C, z.dx, _, _, rfl, hs1.obj, T.cl, T.nB, rfl, z.b, CB, dxb, _, _, rfl, s1 _ _ hb, B.cl, B.nS, rfl, l, _, _, rfl, rfl, upd_same, by omega, by omega, ?_, fun p hp => ?_⟩
    · rw [Int.toNat_natCast]
      show 1 * (z.wd * z.hg) ≤ sizeLine
      omega
    · have hp0 := s1.free hp
      have s2 := same_new (o := .lst (List.replicate (((z.wd * z.hg : Nat) : Int)).toNat [V.str (S [])]).flatten) s1 hp0
      refine ⟨z, p, 0, Ks332.empty z.wd z.hg, [], z.ws, rfl, zo, hs.same s2, Nat.zero_le _, rfl, zo.few, ⟨rfl, by simp [Ks332.empty], zo.w2, zo.w8, zo.h2, zo.h8⟩, ?_, fun H' b' a' => k H' ((But.of_same s2).trans b') a'⟩
      rw [upd_same, Int.toNat_natCast, rep_flat]
      unfold Ks332.empty lv
      rw [List.map_replicate]
      rfl
end
end HW
end
section
set_option Elab.async false
set_option linter.all false
set_option maxRecDepth 100000
set_option maxHeartbeats 4000000
namespace HW
open PySem PySem.Spec PyProof.Rows L2 HX
abbrev sReader : Stmt := top 43
abbrev sReaderInit : Stmt := inClass sReader 0
abbrev sIsDone : Stmt := inClass sReader 1
abbrev sTake : Stmt := inClass sReader 2
abbrev sTakeRow : Stmt := inClass sReader 3
structure RTxt (K : PySem.W.Frag) (C : Addr) : Prop where
  cl : Cls K C
  nN : NoAttr K C "numbers"
  nP : NoAttr K C "place"
def readerF (a : Addr) (p : Nat) : List (Str × V) := [("numbers", .ref a), ("place", .int (p : Int))]
theorem sqL_but {K : PySem.W.Frag} {H H' : Hp} {a r C dx : Addr} {xs : List V} {fs : List (Str × V)} (x : But H H' r) (hr : H r = some (.ins C dx fs)) (h : SqL K H a xs) : SqL K H' a xs := by
  rcases h with (h | ⟨o, h⟩) | h
  · exact .inl (.inl (x _ _ h (ne_of h hr (by intro z; cases z))))
  · exact .inl (.inr ⟨o, x _ _ h (ne_of h hr (by intro z; cases z))⟩)
  · exact .inr h
section
variable {P : Program} {w : World} {K : PySem.W.Frag} {mg : Str → Option Value} {base : Heap}
def spReaderInit (C : Addr) : Sp := fun vs H Q _ => ∃ (r dx a : Addr), vs = [.ref r, .ref a] ∧ H r = some (.ins C dx []) ∧ ∀ H', H' r = some (.ins C dx (readerF a 0)) → But H H' r → Q .non H'
theorem scReaderInit : FnScope ["self", "numbers"] ["self", "numbers"] (defScope sReaderInit) := ⟨rfl, rfl, rfl, by decide +kernel, rfl, by decide +kernel, by decide +kernel⟩
theorem ok_readerInit {f C : Addr} {fd : FuncData} (F : Fun K "__init__" "Reader.__init__" sReaderInit f fd) (T : RTxt K C) : FnOk P w K mg base CX0 1 f fd ["self", "numbers"] (spReaderInit C) := by
  refine F.ok scReaderInit (fun vs H Q E h => ?_) (fun cdv A outer s H vs Q E hr h => ?_)
  · obtain ⟨r, dx, a, rfl, _⟩ := h
    rfl
  · obtain ⟨r, dx, a, rfl, hr0, k⟩ := h
    refine ⟨_, pss_cons (ps_fld (pv 0) (pv 1) rfl) (pss_one (ps_fld (pv 0) pe_int rfl)), ?_⟩
    refine ⟨_, rfl, _, rfl, r, C, dx, [], rfl, hr0, T.cl, T.nN, (by show 0 < 1000; decide), ?_⟩
    refine ⟨_, rfl, r, C, dx, _, rfl, upd_same, T.cl, T.nP, (by show 1 < 1000; decide), ?_⟩
    exact k _ upd_same fun b o e ne => by rw [upd_ne ne, upd_ne ne]; exact e
def spIsDone (K : PySem.W.Frag) (C : Addr) : Sp := fun vs H Q _ => ∃ (r dx a : Addr) (l : List Nat) (p : Nat), vs = [.ref r] ∧ H r = some (.ins C dx (readerF a p)) ∧ SqL K H a (iv l) ∧ Q (.bl (decide (l.length ≤ p))) H
theorem scIsDone : FnScope ["self"] ["self"] (defScope sIsDone) := ⟨rfl, rfl, rfl, by decide +kernel, rfl, by decide +kernel, by decide +kernel⟩
theorem ok_isDone {f C : Addr} {fd : FuncData} (F : Fun K "is_done" "Reader.is_done" sIsDone f fd) (T : RTxt K C) (len : mg "len" = none) : FnOk P w K mg base CX0 1 f fd ["self"] (spIsDone K C) := by
  refine F.ok scIsDone (fun vs H Q E h => ?_) (fun cdv A outer s H vs Q E hr h => ?_)
  · obtain ⟨r, dx, a, l, p, rfl, _⟩ := h
    rfl
  · obtain ⟨r, dx, a, l, p, rfl, hr0, hS, k⟩ := h
    refine ⟨_, pss_one (ps_ret (pe_cmpR op_ge (pe_fld (pv 0) rfl) (pe_callB call_len_seq (by rfl) len PySem.boot_len (pa_cons (pe_fld (pv 0) rfl) pa_nil)) (nomark _))), ?_⟩
    refine ⟨_, rfl, r, C, dx, _, _, rfl, hr0, T.cl, T.nP, rfl, _, rfl, r, C, dx, _, _, rfl, hr0, T.cl, T.nN, rfl, a, _, rfl, .inl hS, _, _, rfl, rfl, ?_⟩
    have e : decide (((iv l).length : Int) ≤ (p : Int)) = decide (l.length ≤ p) := decide_eq_decide.mpr (by rw [iv_len]; omega)
    rw [← e] at k
    exact k
def spTake (K : PySem.W.Frag) (C : Addr) : Sp := fun vs H Q _ => ∃ (r dx a : Addr) (l : List Nat) (p n : Nat), vs = [.ref r] ∧ H r = some (.ins C dx (readerF a p)) ∧ SqL K H a (iv l) ∧ l[p]? = some n ∧
  ∀ H', H' r = some (.ins C dx (readerF a (p + 1))) → But H H' r → Q (.int (n : Int)) H'
theorem scTake : FnScope ["self", "number"] ["self"] (defScope sTake) := ⟨rfl, rfl, rfl, by decide +kernel, rfl, by decide +kernel, by decide +kernel⟩
theorem readerF_put (a : Addr) (p q : Nat) (v : Int) (h : v = (q : Int)) : putF ("place" : Str) (V.int v) (readerF a p) = readerF a q := by
  rw [h]
  rfl
theorem ok_take {f C : Addr} {fd : FuncData} (F : Fun K "take" "Reader.take" sTake f fd) (T : RTxt K C) : FnOk P w K mg base CX0 1 f fd ["self"] (spTake K C) := by
  refine F.ok scTake (fun vs H Q E h => ?_) (fun cdv A outer s H vs Q E hr h => ?_)
  · obtain ⟨r, dx, a, l, p, n, rfl, _⟩ := h
    rfl
  · obtain ⟨r, dx, a, l, p, n, rfl, hr0, hS, hn, k⟩ := h
    refine ⟨_, pss_cons (ps_set (i := 1) scTake.nd rfl (Or.inl rfl) (pe_ix ix_list (pe_fld (pv 0) rfl) (pe_fld (pv 0) rfl) (fun _ _ => rfl)))
      (pss_cons (ps_fldaug (pv 0) pe_int in_add) (pss_one (ps_ret (pv 1)))), ?_⟩
    refine ⟨_, rfl, r, C, dx, _, _, rfl, hr0, T.cl, T.nN, rfl, _, rfl, r, C, dx, _, _, rfl, hr0, T.cl, T.nP, rfl, a, _, _, _, rfl, rfl, hS, atI_nat (by unfold iv; rw [List.getElem?_map, hn]; rfl), ?_⟩
    refine ⟨_, rfl, r, C, dx, _, _, rfl, hr0, T.cl, T.nP, rfl, _, _, rfl, rfl, dx, _, hr0, (by show 2 < 1000; decide), _, rfl, ?_⟩
    rw [readerF_put a p (p + 1) _ (by omega)]
    exact k _ upd_same fun b o e ne => by rw [upd_ne ne]; exact e
def spTakeRow (K : PySem.W.Frag) (C : Addr) : Sp := fun vs H Q _ => ∃ (r dx a : Addr) (l : List Nat) (p n : Nat), vs = [.ref r] ∧ H r = some (.ins C dx (readerF a p)) ∧ SqL K H a (iv l) ∧ l[p]? = some n ∧ p + 1 + n ≤ l.length ∧
  ∀ H' L, H' r = some (.ins C dx (readerF a (p + 1 + n))) → But H H' r → H' L = some (.lst (iv ((l.drop (p + 1)).take n))) → Q (.ref L) H'
theorem scTakeRow : FnScope ["self", "length", "row"] ["self"] (defScope sTakeRow) := ⟨rfl, rfl, rfl, by decide +kernel, rfl, by decide +kernel, by decide +kernel⟩
theorem cut_mid (l : List Nat) (p n : Nat) (h : p + n ≤ l.length) : cutV (iv l) (some (p : Int)) (some ((p : Int) + (n : Int))) = iv ((l.drop p).take n) := by
  unfold cutV
  rw [show ((p : Int) + (n : Int)) = ((p + n : Nat) : Int) by omega, HT.sIx_nat, HT.sIx_nat, iv_len, Nat.min_eq_left (show p ≤ l.length by omega), Nat.min_eq_left h, Nat.add_sub_cancel_left]
  unfold iv
  rw [← List.map_drop, ← List.map_take]
theorem ok_takeRow {f C : Addr} {fd : FuncData} (F : Fun K "take_row" "Reader.take_row" sTakeRow f fd) (T : RTxt K C) (M : Mth P w K mg base 1 C "take" ["self"] (spTake K C)) : FnOk P w K mg base CX0 2 f fd ["self"] (spTakeRow K C) := by
  refine F.ok scTakeRow (fun vs H Q E h => ?_) (fun cdv A outer s H vs Q E hr h => ?_)
  · obtain ⟨r, dx, a, l, p, n, rfl, _⟩ := h
    rfl
  · obtain ⟨r, dx, a, l, p, n, rfl, hr0, hS, hn, hle, k⟩ := h
    refine ⟨_, pss_cons (ps_set (i := 1) scTakeRow.nd rfl (Or.inl rfl) (pe_mth0 M hr T.cl (pv 0)))
      (pss_cons (ps_set (i := 2) scTakeRow.nd rfl (Or.inl rfl) (pe_slice sl_list (pe_fld (pv 0) rfl) (po_some (pe_fld (pv 0) rfl)) (po_some (pe_op op_add (pe_fld (pv 0) rfl) (pv 1)))))
      (pss_cons (ps_fldaug (pv 0) (pv 1) in_add) (pss_one (ps_ret (pv 2))))), ?_⟩
    refine ⟨_, rfl, r, dx, _, rfl, hr0, rfl, r, dx, a, l, p, n, rfl, hr0, hS, hn, fun H1 h1 b1 => ?_⟩
    have hS1 := sqL_but b1 hr0 hS
    refine ⟨_, rfl, r, C, dx, _, _, rfl, h1, T.cl, T.nN, rfl, _, rfl, r, C, dx, _, _, rfl, h1, T.cl, T.nP, rfl, _, rfl, _, rfl, r, C, dx, _, _, rfl, h1, T.cl, T.nP, rfl, _, rfl, _, _, rfl, rfl, _, rfl, a, _, rfl, hS1, fun L hL => ?_⟩
    have nrL : r ≠ L := ne_of_none h1 hL
    refine ⟨_, rfl, r, C, dx, _, _, rfl, by rw [upd_ne nrL]; exact h1, T.cl, T.nP, rfl, _, rfl, _, _, rfl, rfl, dx, _, by rw [upd_ne nrL]; exact h1, (by show 2 < 1000; decide), _, rfl, ?_⟩
    rw [readerF_put a (p + 1) (p + 1 + n) _ (by omega), cut_mid l (p + 1) n hle]
    refine k _ L upd_same (fun b o e ne => ?_) ?_
    · have hb1 := b1 _ _ e ne
      rw [upd_ne ne, upd_ne (ne_of_none hb1 hL)]
      exact hb1
    · rw [upd_ne (Ne.symm nrL), upd_same]
end
end HW
end
section
set_option Elab.async false
set_option linter.all false
set_option maxRecDepth 100000
set_option maxHeartbeats 4000000
namespace HW
open PySem PySem.Spec PyProof.Rows L2 HX
abbrev sIsSquare : Stmt := top 68
abbrev sIsFilling : Stmt := top 69
abbrev sPuzzle : Stmt := top 70
abbrev sPuzzleInit : Stmt := inClass sPuzzle 0
abbrev sBegin : Stmt := inClass sPuzzle 1
structure Cst4 (mg : Str → Option Value) : Prop where
  range : Gv mg "OUT_OF_RANGE" (.int (-22))
  right : Gv mg "NOT_RIGHT" (.int (-33))
  many : Gv mg "TOO_MANY_TRIES" (.int (-35))
  filling : Gv mg "BAD_FILLING" (.int (-71))
  square : Gv mg "NO_SQUARE" (.int (-61))
  line : Gv mg "NOT_IN_LINE" (.int (-71))
  found : Gv mg "FOUND_ALREADY" (.int (-17))
  all : Gv mg "ALL_FOUND" (.int (-6))
  word : Gv mg "NO_WORD" (.int 255)
  players : Gv mg "PLAYERS" (.int 4)
  wrong : Gv mg "MOST_WRONG" (.int 1000000)
  tries : Gv mg "MOST_TRIES" (.int 2000)
  llist : Gv mg "LONGEST_LIST" (.int 200)
  lfill : Gv mg "LONGEST_FILLING" (.int 64)
  noref : Gv mg "NO_REFUSAL" (.int 0)
  len : mg "len" = none
  list : mg "list" = none
  min : mg "min" = none
  enumerate : mg "enumerate" = none
structure PTxt (K : PySem.W.Frag) (C : Addr) : Prop where
  cl : Cls K C
  nB : NoAttr K C "board"
  nL : NoAttr K C "letters"
  nW : NoAttr K C "words"
  nF : NoAttr K C "finders"
  nG : NoAttr K C "wrong"
def puzF (vb : V) (la lw lf lg : Addr) : List (Str × V) := [("board", vb), ("letters", .ref la), ("words", .ref lw), ("finders", .ref lf), ("wrong", .ref lg)]
/-- who found each word -/
def fv (by_ : List Nat) : List V := by_.map fun (k : Nat) => if k = 0 then V.non else V.int ((k : Int) - 1)
theorem fv_len {l : List Nat} : (fv l).length = l.length := by simp [fv]
/-- the square and its words, which stay till the next square -/
def Static (CB : Addr) (H : Hp) (vb : V) (la lw : Addr) (a : Ks333.Abs) : Prop :=
  (vb = .non ∧ a.grid.wide = 0) ∨ ∃ (b : Addr) (wd hg : Nat), vb = .ref b ∧ BoardAt CB H b wd hg ∧ Sq a.grid wd hg ∧ H la = some (.lst (ov a.grid.cells)) ∧ H lw = some (.lst (sv a.words)) ∧
    (∀ x ∈ a.words, Ks331.okWord x = true) ∧ Ks332.right a.grid a.words = true ∧ a.by_.length = a.words.length ∧ a.words.length ≤ 12
/-- the puzzle at p stands for a; what stands in Hf is none of its own -/
structure PuzAt (CB C : Addr) (Hf H : Hp) (p dx : Addr) (a : Ks333.Abs) : Prop where
  frame : Same Hf H
  fp : Hf p = none
  ex : ∃ (H0 : Hp) (vb : V) (la lw lf lg : Addr), Same H0 H ∧ H0 p = none ∧ H0 lf = none ∧ H0 lg = none ∧ Hf lf = none ∧ Hf lg = none ∧ lf ≠ lg ∧ H p = some (.ins C dx (puzF vb la lw lf lg)) ∧ H lf = some (.lst (fv a.by_)) ∧ H lg = some (.lst (iv a.wrong)) ∧
    a.wrong.length = 4 ∧ (∀ n ∈ a.wrong, n ≤ 1000000) ∧ Static CB H0 vb la lw a
theorem PuzAt.same {CB C : Addr} {Hf H H' : Hp} {p dx : Addr} {a : Ks333.Abs} (h : PuzAt CB C Hf H p dx a) (s : Same H H') : PuzAt CB C Hf H' p dx a := by
  obtain ⟨H0, vb, la, lw, lf, lg, h1, h2, h3, h4, h5, h6, h7, h8, h9, h10, h11⟩ := h.ex
  exact ⟨h.frame.trans s, h.fp, H0, vb, la, lw, lf, lg, h1.trans s, h2, h3, h4, h5, h6, h7, s _ _ h8, s _ _ h9, s _ _ h10, h11⟩
section
variable {P : Program} {w : World} {K : PySem.W.Frag} {mg : Str → Option Value} {base : Heap}
theorem okGrid_eq (wd : Nat) (cells : List Nat) (h1 : 2 ≤ wd) (h2 : wd ≤ 8) (h3 : cells.length % wd = 0) : Ks331.okGrid ⟨wd, cells⟩ = ((decide (2 ≤ cells.length / wd) && decide (cells.length / wd ≤ 8)) && cells.all Ks331.isLetter) := by
  have e : cells.length = wd * (cells.length / wd) := by
    have := Nat.div_add_mod cells.length wd
    omega
  unfold Ks331.okGrid Ks331.okSize Ks331.Grid.high
  simp only []
  rw [decide_eq_true h1, decide_eq_true h2, beq_iff_eq.mpr e]
  simp
theorem okGrid_no {wd : Nat} {cells : List Nat} (h : ¬ ((2 ≤ wd ∧ wd ≤ 8) ∧ cells.length % wd = 0)) : Ks331.okGrid ⟨wd, cells⟩ = false := by
  cases e : Ks331.okGrid ⟨wd, cells⟩ with
  | false => rfl
  | true =>
    exfalso
    unfold Ks331.okGrid Ks331.okSize Ks331.Grid.high at e
    simp only [Bool.and_eq_true, decide_eq_true_iff, beq_iff_eq] at e
    obtain ⟨⟨⟨e1, ⟨⟨e2, e3⟩, e4⟩⟩, e5⟩, e6⟩ := e
    exact h ⟨⟨e1, e2.2⟩, by rw [e5, Nat.mul_mod_right]⟩
def spIsSquare (K : PySem.W.Frag) : Sp := fun vs H Q _ => ∃ (wd : Nat) (ca : Addr) (cells : List Nat), vs = [.int (wd : Int), .ref ca] ∧ SqL K H ca (iv cells) ∧ cells.length ≤ 30000 ∧ ∀ H', Same H H' → Q (.bl (Ks331.okGrid ⟨wd, cells⟩)) H'
theorem scIsSquare : FnScope ["wide", "cells"] ["wide", "cells"] (defScope sIsSquare) := ⟨rfl, rfl, rfl, by decide +kernel, rfl, by decide +kernel, by decide +kernel⟩
theorem ok_isSquare {f : Addr} {fd : FuncData} (F : Fun K "is_square" "is_square" sIsSquare f fd) (T : Cst4 mg) (C1 : Cal P w K mg base 1 "is_side" ["length"] spIsSide) (C2 : Cal P w K mg base 1 "are_letters" ["row"] (spAreLetters K)) : FnOk P w K mg base CX0 2 f fd ["wide", "cells"] (spIsSquare K) := by
  refine F.ok scIsSquare (fun vs H Q E h => ?_) (fun cdv A outer s H vs Q E hr h => ?_)
  · obtain ⟨wd, ca, cells, rfl, _⟩ := h
    rfl
  · obtain ⟨wd, ca, cells, rfl, hS, hl, k⟩ := h
    refine ⟨_, pss_cons (ps_if (PW.pt (pw_or (pt_not (pt_val (pe_cal C1 hr rfl (pa_cons (pv 0) pa_nil)))) (pw_or1 (pt_cmpR op_ne (pe_op op_mod (pe_callB call_len_seq (by rfl) T.len PySem.boot_len (pa_cons (pv 1) pa_nil)) (pv 0)) pe_int (nomark _))))) (pss_one (ps_ret pe_bl)) pss_nil)
      (pss_one (ps_ret (pe_and (pe_cal C1 hr rfl (pa_cons (pe_op op_fdiv (pe_callB call_len_seq (by rfl) T.len PySem.boot_len (pa_cons (pv 1) pa_nil)) (pv 0)) pa_nil)) (pe_one (pe_cal C2 hr rfl (pa_cons (pv 1) pa_nil)))))), ?_⟩
    refine ⟨_, rfl, wd, rfl, fun H1 s1 => ⟨_, rfl, ?_⟩⟩
    cases e : (decide (2 ≤ wd) && decide (wd ≤ 8)) with
    | false =>
      have hn : ¬ (2 ≤ wd ∧ wd ≤ 8) := fun z => by
        rw [decide_eq_true z.1, decide_eq_true z.2] at e
        cases e
      have k' := k H1 s1
      rw [okGrid_no (fun z => hn z.1)] at k'
      exact iteT (iteT k')
    | true =>
      simp only [Bool.and_eq_true, decide_eq_true_iff] at e
      have em : ((iv cells).length : Int) % (wd : Int) = ((cells.length % wd : Nat) : Int) := by rw [iv_len]; exact (Int.natCast_emod _ _).symm
      have ed : ((iv cells).length : Int) / (wd : Int) = ((cells.length / wd : Nat) : Int) := by rw [iv_len]; exact (Int.natCast_ediv _ _).symm
      refine iteF ⟨_, rfl, ca, _, rfl, .inl (s1.seq hS), _, rfl, _, _, rfl, rfl, (show (0 : Int) < (wd : Int) by omega), rfl, _, rfl, ?_⟩
      by_cases h3 : cells.length % wd = 0
      · have h0 : V.int (((iv cells).length : Int) % (wd : Int)) = V.int 0 := by rw [em, h3]; rfl
        refine iteNS h0 ⟨_, rfl, ca, _, rfl, .inl (s1.seq hS), _, rfl, _, _, rfl, rfl, (show (0 : Int) < (wd : Int) ∧ (wd : Int) < 1073741824 by omega), cells.length / wd, (show [V.int (((iv cells).length : Int) / (wd : Int))] = [V.int ((cells.length / wd : Nat) : Int)] by rw [ed]), fun H2 s2 => ⟨_, rfl, ?_⟩⟩
        have eg := okGrid_eq wd cells e.1 e.2 h3
        cases e2 : (decide (2 ≤ cells.length / wd) && decide (cells.length / wd ≤ 8)) with
        | false =>
          have k' := k H2 (s1.trans s2)
          rw [eg, e2] at k'
          exact iteF k'
        | true =>
          refine iteT ⟨_, rfl, ca, cells, rfl, (s1.trans s2).seq hS, hl, fun H3 s3 => ?_⟩
          have k' := k H3 ((s1.trans s2).trans s3)
          rw [eg, e2, Bool.true_and] at k'
          exact k'
      · have hne : ¬ V.int (((iv cells).length : Int) % (wd : Int)) = V.int 0 := fun z => by
          rw [em] at z
          injection z with z
          omega
        have k' := k H1 s1
        rw [okGrid_no (fun z => h3 z.2)] at k'
        exact ite2 (fun _ => k') (fun d => absurd (show (!decide (V.int (((iv cells).length : Int) % (wd : Int)) = V.int 0)) = true by rw [decide_eq_false hne]; rfl) d)
def fillOk (r : List Nat) : Bool := decide (1 ≤ r.length) && decide (r.length ≤ 64) && r.all Ks331.isLetter
def spIsFilling (K : PySem.W.Frag) : Sp := fun vs H Q _ => ∃ (ra : Addr) (r : List Nat), vs = [.ref ra] ∧ SqL K H ra (iv r) ∧ r.length ≤ 30000 ∧ ∀ H', Same H H' → Q (.bl (fillOk r)) H'
theorem scIsFilling : FnScope ["filling"] ["filling"] (defScope sIsFilling) := ⟨rfl, rfl, rfl, by decide +kernel, rfl, by decide +kernel, by decide +kernel⟩
theorem ok_isFilling {f : Addr} {fd : FuncData} (F : Fun K "is_filling" "is_filling" sIsFilling f fd) (T : Cst4 mg) (C : Cal P w K mg base 1 "are_letters" ["row"] (spAreLetters K)) : FnOk P w K mg base CX0 2 f fd ["filling"] (spIsFilling K) := by
  refine F.ok scIsFilling (fun vs H Q E h => ?_) (fun cdv A outer s H vs Q E hr h => ?_)
  · obtain ⟨a, l, rfl, _⟩ := h
    rfl
  · obtain ⟨a, l, rfl, hS, hl, k⟩ := h
    refine ⟨_, pss_one (ps_ret (pe_and (pe_chain op_le op_le pe_int (pe_callB call_len_seq (by rfl) T.len PySem.boot_len (pa_cons (pv 0) pa_nil)) (pe_gv rfl T.lfill))
      (pe_one (pe_cal C hr rfl (pa_cons (pv 0) pa_nil))))), ?_⟩
    refine ⟨_, rfl, a, _, rfl, .inl hS, _, _, rfl, rfl, _, rfl, ite2 (fun c => ⟨_, _, rfl, rfl, _, rfl, ite2 (fun d => ⟨_, rfl, a, l, rfl, hS, hl, fun H' s => ?_⟩) (fun d => ?_)⟩) (fun c => ⟨_, rfl, ?_⟩)⟩
    · have c' := of_decide_eq_true c
      have d' := of_decide_eq_true d
      rw [iv_len] at c' d'
      have e : fillOk l = l.all Ks331.isLetter := by
        unfold fillOk
        rw [decide_eq_true (show 1 ≤ l.length by omega), decide_eq_true (show l.length ≤ 64 by omega)]
        rfl
      have := k H' s
      rw [e] at this
      exact this
    · have d' : ¬ ((iv l).length : Int) ≤ 64 := fun z => d (decide_eq_true z)
      rw [iv_len] at d'
      have e : fillOk l = false := by
        unfold fillOk
        rw [decide_eq_false (show ¬ l.length ≤ 64 by omega), Bool.and_false, Bool.false_and]
      have := k H (Same.refl H)
      rw [e] at this
      exact this
    · have c' : ¬ (1 : Int) ≤ ((iv l).length : Int) := fun z => c (decide_eq_true z)
      rw [iv_len] at c'
      have e : fillOk l = false := by
        unfold fillOk
        rw [decide_eq_false (show ¬ 1 ≤ l.length by omega), Bool.false_and, Bool.false_and]
      have := k H (Same.refl H)
      rw [e] at this
      exact iteF this
end
end HW
end
section
set_option Elab.async false
set_option linter.all false
set_option maxRecDepth 100000
set_option maxHeartbeats 4000000
namespace HW
open PySem PySem.Spec PyProof.Rows L2 HX
/-- the heap without one object -/
def sans (H : Hp) (p : Addr) : Hp := fun b => if b = p then none else H b
theorem sans_p (H : Hp) (p : Addr) : sans H p p = none := if_pos rfl
theorem sans_ne {H : Hp} {p b : Addr} (h : b ≠ p) : sans H p b = H b := if_neg h
theorem sans_none {H : Hp} {p b : Addr} (h : H b = none) : sans H p b = none := by
  unfold sans
  split
  · rfl
  · exact h
theorem sans_same {H H' : Hp} {p : Addr} (x : But H H' p) : Same (sans H p) H' := fun b o e => by
  have hb : b ≠ p := fun z => by rw [z, sans_p] at e; cases e
  rw [sans_ne hb] at e
  exact x b o e hb
theorem LL.sans {H : Hp} {l p C dx : Addr} {as : List Addr} {xss : List (List V)} {fs : List (Str × V)} (hp : H p = some (.ins C dx fs)) (h : LL H l as xss) : LL (sans H p) l as xss :=
  ⟨by rw [sans_ne (ne_of h.lst hp (by intro z; cases z))]; exact h.lst, h.len, fun i b e => let ⟨xs, h1, h2⟩ := h.at_ i b e; ⟨xs, h1, by rw [sans_ne (ne_of h2 hp (by intro z; cases z))]; exact h2⟩⟩
theorem board_ne {CB C : Addr} {H : Hp} {b p dx : Addr} {wd hg : Nat} {vb : V} {la lw lf lg : Addr} (h : BoardAt CB H b wd hg) (hp : H p = some (.ins C dx (puzF vb la lw lf lg))) : b ≠ p := by
  obtain ⟨dx', R, T, ras, hb, _⟩ := h
  refine ne_of hb hp ?_
  intro q
  injection q with _ _ q
  have e1 : (("wide" : Str), V.int (wd : Int)) = (("board" : Str), vb) := by
    have := congrArg List.head? q
    exact Option.some.inj this
  have e2 : ("wide" : Str) = "board" := congrArg Prod.fst e1
  exact absurd e2 (by decide +kernel)
theorem BoardAt.sans {CB C : Addr} {H : Hp} {b p dx : Addr} {wd hg : Nat} {vb : V} {la lw lf lg : Addr} (h : BoardAt CB H b wd hg) (hp : H p = some (.ins C dx (puzF vb la lw lf lg))) : BoardAt CB (sans H p) b wd hg := by
  have hne := board_ne h hp
  obtain ⟨dx', R, T, ras, hb, hR, hT⟩ := h
  exact ⟨dx', R, T, ras, by rw [sans_ne hne]; exact hb, hR.sans hp, by rw [sans_ne (ne_of hT hp (by intro z; cases z))]; exact hT⟩
abbrev sLoad : Stmt := inClass sPuzzle 2
abbrev sMake : Stmt := inClass sPuzzle 3
section
variable {P : Program} {w : World} {K : PySem.W.Frag} {mg : Str → Option Value} {base : Heap}
/-- begin: a new square, right for its words -/
def spBegin (CB C : Addr) : Sp := fun vs H Q _ => ∃ (Hf : Hp) (p dx b la lw : Addr) (a : Ks333.Abs) (wd hg : Nat) (cells : List Nat) (ws : List (List Nat)), vs = [.ref p, .ref b, .ref la, .ref lw] ∧ PuzAt CB C Hf H p dx a ∧ BoardAt CB H b wd hg ∧ Sq ⟨wd, cells⟩ wd hg ∧
  H la = some (.lst (ov cells)) ∧ H lw = some (.lst (sv ws)) ∧ (∀ x ∈ ws, Ks331.okWord x = true) ∧ Ks332.right ⟨wd, cells⟩ ws = true ∧ ws.length ≤ 12 ∧ ∀ H', PuzAt CB C Hf H' p dx (Ks333.begun ⟨wd, cells⟩ ws) → But H H' p → Q .non H'
theorem scBegin : FnScope ["self", "board", "letters", "words"] ["self", "board", "letters", "words"] (defScope sBegin) := ⟨rfl, rfl, rfl, by decide +kernel, rfl, by decide +kernel, by decide +kernel⟩
theorem fv_zero (n : Nat) (ws : List (List Nat)) (h : n = ws.length) : List.replicate n V.non = fv (ws.map fun _ => 0) := by
  subst h
  unfold fv
  rw [List.map_map]
  induction ws with
  | nil => rfl
  | cons a ws ih =>
    show V.non :: List.replicate ws.length V.non = _
    rw [ih]
    rfl
theorem ok_begin {f CB C : Addr} {fd : FuncData} (F : Fun K "begin" "Puzzle.begin" sBegin f fd) (T : PTxt K C) (T4 : Cst4 mg) : FnOk P w K mg base CX0 1 f fd ["self", "board", "letters", "words"] (spBegin CB C) := by
  refine F.ok scBegin (fun vs H Q E h => ?_) (fun cdv A outer s H vs Q E hr h => ?_)
  · obtain ⟨Hf, p, dx, b, la, lw, a, wd, hg, cells, ws, rfl, _⟩ := h
    rfl
  · obtain ⟨Hf, p, dx, b, la, lw, a, wd, hg, cells, ws, rfl, hp, hB, sq, hla, hlw, hok, hri, few, k⟩ := h
    have sz : 100000 < sizeLine := by decide
    obtain ⟨H0, vb0, la0, lw0, lf0, lg0, _, _, _, _, _, _, _, hpo, _⟩ := hp.ex
    refine ⟨_, pss_cons (ps_fld (pv 0) (pv 1) rfl) (pss_cons (ps_fld (pv 0) (pv 2) rfl) (pss_cons (ps_fld (pv 0) (pv 3) rfl)
      (pss_cons (ps_fld (pv 0) (pe_op op_rep (pe_lst (pa_cons pe_non pa_nil)) (pe_callB call_len_seq (by rfl) T4.len PySem.boot_len (pa_cons (pv 3) pa_nil))) rfl)
      (pss_one (ps_fld (pv 0) (pe_op op_rep (pe_lst (pa_cons pe_int pa_nil)) (pe_gv rfl T4.players)) rfl))))), ?_⟩
    refine ⟨_, rfl, _, rfl, p, C, dx, _, rfl, hpo, T.cl, T.nB, (by show 5 < 1000; decide), ?_⟩
    refine ⟨_, rfl, _, rfl, p, C, dx, _, rfl, upd_same, T.cl, T.nL, (by show 5 < 1000; decide), ?_⟩
    refine ⟨_, rfl, _, rfl, p, C, dx, _, rfl, upd_same, T.cl, T.nW, (by show 5 < 1000; decide), ?_⟩
    have efs : putF ("words" : Str) (V.ref lw) (putF ("letters" : Str) (.ref la) (putF ("board" : Str) (.ref b) (puzF vb0 la0 lw0 lf0 lg0))) = puzF (.ref b) la lw lf0 lg0 := rfl
    rw [efs]
    generalize hH1 : upd (upd (upd H p _) p _) p (.ins C dx (puzF (.ref b) la lw lf0 lg0)) = H1
    have b1 : But H H1 p := fun c o e ne => by rw [← hH1, upd_ne ne, upd_ne ne, upd_ne ne]; exact e
    have hp1 : H1 p = some (.ins C dx (puzF (.ref b) la lw lf0 lg0)) := by rw [← hH1, upd_same]
    have hlw1 : H1 lw = some (.lst (sv ws)) := b1 _ _ hlw (ne_of hlw hpo (by intro z; cases z))
    refine ⟨(by show 1 ≤ sizeLine; decide), fun l1 hl1 => ?_⟩
    have s1 : Same H1 (upd H1 l1 (.lst [.non])) := same_new (Same.refl H1) hl1
    refine ⟨_, rfl, lw, _, rfl, .inl (SqL.of (s1 _ _ hlw1)), l1, _, _, rfl, rfl, upd_same, ?_, ?_, ?_, fun lf hlf => ?_⟩
    · rw [sv_len]; omega
    · rw [sv_len]; omega
    · rw [sv_len, Int.toNat_natCast]
      show 1 * ws.length ≤ sizeLine
      omega
    have el : (List.replicate (((sv ws).length : Int)).toNat [V.non]).flatten = fv (ws.map fun _ => 0) := by
      rw [Int.toNat_natCast, rep_flat]
      exact fv_zero _ ws sv_len
    rw [el]
    have hlf1 : H1 lf = none := s1.free hlf
    have s2 : Same H1 (upd (upd H1 l1 (.lst [.non])) lf (.lst (fv (ws.map fun _ => 0)))) := same_new s1 hlf1
    refine ⟨_, rfl, p, C, dx, _, rfl, s2 _ _ hp1, T.cl, T.nF, (by show 5 < 1000; decide), ?_⟩
    have efs2 : putF ("finders" : Str) (V.ref lf) (puzF (.ref b) la lw lf0 lg0) = puzF (.ref b) la lw lf lg0 := rfl
    rw [efs2]
    generalize hH2 : upd (upd (upd H1 l1 (.lst [.non])) lf (.lst (fv (ws.map fun _ => 0)))) p (.ins C dx (puzF (.ref b) la lw lf lg0)) = H2
    have b2 : But H1 H2 p := fun c o e ne => by rw [← hH2, upd_ne ne]; exact s2 _ _ e
    have hp2 : H2 p = some (.ins C dx (puzF (.ref b) la lw lf lg0)) := by rw [← hH2, upd_same]
    have hlf2 : H2 lf = some (.lst (fv (ws.map fun _ => 0))) := by
      rw [← hH2, upd_ne (fun z => by rw [z, hp1] at hlf1; cases hlf1), upd_same]
    refine ⟨(by show 1 ≤ sizeLine; decide), fun l2 hl2 => ?_⟩
    have s3 : Same H2 (upd H2 l2 (.lst [.int 0])) := same_new (Same.refl H2) hl2
    refine ⟨l2, _, _, rfl, rfl, upd_same, by decide, by decide, (by show 1 * 4 ≤ sizeLine; decide), fun lg hlg => ?_⟩
    have hlg2 : H2 lg = none := s3.free hlg
    have el2 : (List.replicate ((4 : Int)).toNat [V.int 0]).flatten = iv [0, 0, 0, 0] := rfl
    rw [el2]
    have s4 : Same H2 (upd (upd H2 l2 (.lst [.int 0])) lg (.lst (iv [0, 0, 0, 0]))) := same_new s3 hlg2
    refine ⟨_, rfl, p, C, dx, _, rfl, s4 _ _ hp2, T.cl, T.nG, (by show 5 < 1000; decide), ?_⟩
    have efs3 : putF ("wrong" : Str) (V.ref lg) (puzF (.ref b) la lw lf lg0) = puzF (.ref b) la lw lf lg := rfl
    rw [efs3]
    generalize hH3 : upd (upd (upd H2 l2 (.lst [.int 0])) lg (.lst (iv [0, 0, 0, 0]))) p (.ins C dx (puzF (.ref b) la lw lf lg)) = H3
    have b3 : But H2 H3 p := fun c o e ne => by rw [← hH3, upd_ne ne]; exact s4 _ _ e
    have hb : But H H3 p := (b1.trans b2).trans b3
    have nlf : lf ≠ p := fun z => by rw [z, hp1] at hlf1; cases hlf1
    have nlg : lg ≠ p := fun z => by rw [z, hp2] at hlg2; cases hlg2
    have hlfH : H lf = none := by
      cases q : H lf with
      | none => rfl
      | some o => rw [b1 _ _ q nlf] at hlf1; cases hlf1
    have hlgH : H lg = none := by
      cases q : H lg with
      | none => rfl
      | some o => rw [(b1.trans b2) _ _ q nlg] at hlg2; cases hlg2
    refine k H3 ⟨fun c o e => hb c o (hp.frame _ _ e) (fun z => by rw [z, hp.fp] at e; cases e), hp.fp, sans H p, .ref b, la, lw, lf, lg, sans_same hb, sans_p H p, sans_none hlfH, sans_none hlgH, hp.frame.free hlfH, hp.frame.free hlgH, ne_of_none hlf2 hlg2, by rw [← hH3, upd_same], b3 _ _ hlf2 nlf, ?_, rfl, ?_, ?_⟩ hb
    · rw [← hH3, upd_ne nlg, upd_same]
      rfl
    · intro n hn
      have : n ∈ [0, 0, 0, 0] := hn
      simp at this
      omega
    · exact .inr ⟨b, wd, hg, rfl, hB.sans hpo, sq, by rw [sans_ne (ne_of hla hpo (by intro z; cases z))]; exact hla, by rw [sans_ne (ne_of hlw hpo (by intro z; cases z))]; exact hlw, hok, hri, by simp [Ks333.begun], few⟩
def spPuzzleInit (CB C : Addr) : Sp := fun vs H Q _ => ∃ (Hf : Hp) (p dx : Addr), vs = [.ref p] ∧ H p = some (.ins C dx []) ∧ But Hf H p ∧ Hf p = none ∧ ∀ H', PuzAt CB C Hf H' p dx Ks333Neutral.start → Q .non H'
theorem scPuzzleInit : FnScope ["self"] ["self"] (defScope sPuzzleInit) := ⟨rfl, rfl, rfl, by decide +kernel, rfl, by decide +kernel, by decide +kernel⟩
theorem ok_puzzleInit {f CB C : Addr} {fd : FuncData} (F : Fun K "__init__" "Puzzle.__init__" sPuzzleInit f fd) (T : PTxt K C) (T4 : Cst4 mg) : FnOk P w K mg base CX0 1 f fd ["self"] (spPuzzleInit CB C) := by
  refine F.ok scPuzzleInit (fun vs H Q E h => ?_) (fun cdv A outer s H vs Q E hr h => ?_)
  · obtain ⟨Hf, p, dx, rfl, _⟩ := h
    rfl
  · obtain ⟨Hf, p, dx, rfl, hp, hb0, hfp, k⟩ := h
    refine ⟨_, pss_cons (ps_fld (pv 0) pe_non rfl) (pss_cons (ps_fld (pv 0) (pe_lst pa_nil) rfl) (pss_cons (ps_fld (pv 0) (pe_lst pa_nil) rfl) (pss_cons (ps_fld (pv 0) (pe_lst pa_nil) rfl)
      (pss_one (ps_fld (pv 0) (pe_op op_rep (pe_lst (pa_cons pe_int pa_nil)) (pe_gv rfl T4.players)) rfl))))), ?_⟩
    refine ⟨_, rfl, p, C, dx, [], rfl, hp, T.cl, T.nB, (by show 0 < 1000; decide), ?_⟩
    refine ⟨Nat.zero_le _, fun la hla => ⟨_, rfl, p, C, dx, _, rfl, by rw [upd_ne (ne_of_none upd_same hla), upd_same], T.cl, T.nL, (by show 1 < 1000; decide), ?_⟩⟩
    refine ⟨Nat.zero_le _, fun lw hlw => ⟨_, rfl, p, C, dx, _, rfl, by rw [upd_ne (ne_of_none upd_same hlw), upd_same], T.cl, T.nW, (by show 2 < 1000; decide), ?_⟩⟩
    refine ⟨Nat.zero_le _, fun lf hlf => ⟨_, rfl, p, C, dx, _, rfl, by rw [upd_ne (ne_of_none upd_same hlf), upd_same], T.cl, T.nF, (by show 3 < 1000; decide), ?_⟩⟩
    refine ⟨(by show 1 ≤ sizeLine; decide), fun l2 hl2 => ?_⟩
    generalize hH1 : upd (upd (upd (upd (upd (upd (upd H p _) la _) p _) lw _) p _) lf _) p _ = H1 at hl2 ⊢
    have nlf : lf ≠ p := fun z => ne_of_none upd_same hlf z.symm
    have b1 : But H H1 p := fun c o e ne => by
      have e1 : upd H p (.ins C dx (putF "board" .non [])) c = some o := by rw [upd_ne ne]; exact e
      have n1 := ne_of_none e1 hla
      have e2 : (upd (upd (upd H p (.ins C dx (putF "board" .non []))) la (.lst [])) p (.ins C dx (putF "letters" (.ref la) (putF "board" .non [])))) c = some o := by
        rw [upd_ne ne, upd_ne n1]; exact e1
      have n2 := ne_of_none e2 hlw
      have e3 : (upd (upd (upd (upd (upd H p (.ins C dx (putF "board" .non []))) la (.lst [])) p (.ins C dx (putF "letters" (.ref la) (putF "board" .non [])))) lw (.lst [])) p (.ins C dx (putF "words" (.ref lw) (putF "letters" (.ref la) (putF "board" .non []))))) c = some o := by
        rw [upd_ne ne, upd_ne n2]; exact e2
      have n3 := ne_of_none e3 hlf
      rw [← hH1, upd_ne ne, upd_ne n3]
      exact e3
    have hp1 : H1 p = some (.ins C dx (putF "finders" (.ref lf) (putF "words" (.ref lw) (putF "letters" (.ref la) (putF "board" .non []))))) := by rw [← hH1, upd_same]
    have hlf1 : H1 lf = some (.lst (fv [])) := by rw [← hH1, upd_ne nlf, upd_same]; rfl
    have s3 : Same H1 (upd H1 l2 (.lst [.int 0])) := same_new (Same.refl H1) hl2
    refine ⟨l2, _, _, rfl, rfl, upd_same, by decide, by decide, (by show 1 * 4 ≤ sizeLine; decide), fun lg hlg => ?_⟩
    have hlg2 : H1 lg = none := s3.free hlg
    have el2 : (List.replicate ((4 : Int)).toNat [V.int 0]).flatten = iv [0, 0, 0, 0] := rfl
    rw [el2]
    have s4 : Same H1 (upd (upd H1 l2 (.lst [.int 0])) lg (.lst (iv [0, 0, 0, 0]))) := same_new s3 hlg2
    refine ⟨_, rfl, p, C, dx, _, rfl, s4 _ _ hp1, T.cl, T.nG, (by show 4 < 1000; decide), ?_⟩
    have efs3 : putF ("wrong" : Str) (V.ref lg) (putF "finders" (.ref lf) (putF "words" (.ref lw) (putF "letters" (.ref la) (putF "board" .non [])))) = puzF .non la lw lf lg := rfl
    rw [efs3]
    generalize hH3 : upd (upd (upd H1 l2 (.lst [.int 0])) lg (.lst (iv [0, 0, 0, 0]))) p (.ins C dx (puzF .non la lw lf lg)) = H3
    have b3 : But H1 H3 p := fun c o e ne => by rw [← hH3, upd_ne ne]; exact s4 _ _ e
    have nlg : lg ≠ p := fun z => by rw [z, hp1] at hlg2; cases hlg2
    have hlfH : Hf lf = none := by
      cases q : Hf lf with
      | none => rfl
      | some o =>
        have q1 := hb0 _ _ q nlf
        have e1 : upd H p (.ins C dx (putF "board" .non [])) lf = some o := by rw [upd_ne nlf]; exact q1
        have n1 := ne_of_none e1 hla
        have e2 : (upd (upd (upd H p (.ins C dx (putF "board" .non []))) la (.lst [])) p (.ins C dx (putF "letters" (.ref la) (putF "board" .non [])))) lf = some o := by
          rw [upd_ne nlf, upd_ne n1]; exact e1
        have n2 := ne_of_none e2 hlw
        rw [upd_ne nlf, upd_ne n2, e2] at hlf
        cases hlf
    have hlgH : Hf lg = none := by
      cases q : Hf lg with
      | none => rfl
      | some o => rw [b1 _ _ (hb0 _ _ q nlg) nlg] at hlg2; cases hlg2
    refine k H3 ⟨fun c o e => (b1.trans b3) c o (hb0 _ _ e (fun z => by rw [z, hfp] at e; cases e)) (fun z => by rw [z, hfp] at e; cases e), hfp, fun _ => none, .non, la, lw, lf, lg, (fun c o e => nomatch e), rfl, rfl, rfl, hlfH, hlgH, ne_of_none hlf1 hlg2, (by rw [← hH3, upd_same]), b3 _ _ hlf1 nlf, ?_, rfl, ?_, .inl ⟨rfl, rfl⟩⟩
    · rw [← hH3, upd_ne nlg, upd_same]
      rfl
    · intro n hn
      have : n ∈ [0, 0, 0, 0] := hn
      simp at this
      omega
end
end HW
end
section
set_option Elab.async false
set_option linter.all false
set_option maxRecDepth 100000
set_option maxHeartbeats 4000000
namespace HX
open PySem PySem.Spec PyProof.Rows L2
section
variable {X : Cx}
/-- list.count of flat values -/
def rCountL (K : PySem.W.Frag) : V → List V → Hp → VK → Prop := fun x xs H Q => ∃ (a : Addr) (ys : List V) (y : V), x = V.ref a ∧ xs = [y] ∧ SqL K H a ys ∧ flatV y = true ∧ ys.all flatV = true ∧ Q (.int ((ys.countP fun z => eqV z y : Nat) : Int)) H
theorem countP_eqU {x : V} : ∀ {xs : List V} {us : List Value}, Vals xs us → xs.all flatV = true → us.countP (eqU x) = xs.countP fun y => eqV y x
  | _, _, .nil, _ => rfl
  | y :: xs, u :: us, .cons r t, f => by
    rw [List.all_cons, Bool.and_eq_true] at f
    rw [List.countP_cons, List.countP_cons, countP_eqU t f.2, eqU_of r f.1]
theorem mt_countL : MtR X "list.count" (rCountL X.K) := by
  intro pins s σ H x xs v us Q I rx rxs h
  obtain ⟨a, ys, y, rfl, rfl, hs, fy, fys, q⟩ := h
  cases rx
  cases rxs with
  | cons ry rt =>
    rename_i uy ut
    cases rt
    obtain ⟨its, rv, ⟨⟨cls, dd, data, sl⟩, n, ho, hc, hdn, hd⟩, hlen⟩ := I.list hs
    simp only at hc hd
    subst hc hd
    refine call_meets PySem.F.slot_list_count ⟨_, ho, rfl⟩ PySem.F.entry_list_count (PySem.F.args_list_count_2 _ _)
      (SeqAt.list_countAt a its.toArray n dd sl uy (eqU y)) ⟨ho, fun u' hu' => mem_eqAt ry fy rv fys u' (by simpa using hu'), ?_⟩
    rw [show its.toArray.toList = its from rfl, countP_eqU rv fys]
    exact ⟨.int _, H, I.tok _, ⟨_, rfl⟩, q⟩
end
end HX
namespace HW
open PySem PySem.Spec PyProof.Rows L2 HX
/-! ### A list that a call doesn't see -/
/-- what a function does, beside a list that it never sees -/
def spOff (sp : Sp) : Sp := fun vs H Q E => ∃ (t : Addr) (xs : List V), H t = some (.lst xs) ∧ sp vs (sans H t) (fun v H1 => H1 t = none → Q v (upd H1 t (.lst xs))) E
theorem hok_sans {P : Program} {w : World} {H : Hp} {h : Heap} {t : Addr} {xs : List V} (ht : H t = some (.lst xs)) (x : HOk P w H h) : HOk P w (sans H t) h := fun a o e => by
  have ha : a ≠ t := fun z => by rw [z, sans_p] at e; cases e
  rw [sans_ne ha] at e
  exact (x a o e).stay (fun _ _ _ q => q) (fun b q => by rw [sans_ne (ne_of q ht (by intro z; cases z))]; exact q) (fun b ys q => by rw [sans_ne (ne_of q ht (by intro z; cases z))]; exact q)
theorem FnOk.off {P : Program} {w : World} {K : PySem.W.Frag} {mg : Str → Option Value} {base : Heap} {k : Nat} {f : Addr} {fd : FuncData} {ps : List Str} {sp : Sp} (F : FnOk P w K mg base CX0 k f fd ps sp) : FnOk P w K mg base CX0 k f fd ps (spOff sp) where
  len := fun vs H Q E h => by
    obtain ⟨t, xs, _, h⟩ := h
    exact F.len _ _ _ _ h
  run := fun A outer s H args us vs Q E hr e hb hv h => by
    obtain ⟨t, xs, ht, h⟩ := h
    have hn : ∀ b, H b = none → sans H t b = none := fun b q => sans_none q
    have e' : Env0 P w K mg base A outer s (sans H t) := ⟨e.frames, e.mod, fun b o q => ⟨(e.bs b o q).1, hn _ (e.bs b o q).2⟩, e.bsz, e.funs, fun b q => hn _ (e.frf b q), hok_sans ht e.hok, e.bare⟩
    refine codeAny_mono (F.run A outer s (sans H t) args us vs _ E hr e' hb hv h) fun r s' hq => ?_
    cases r with
    | error er => exact hq.elim
    | ok fl =>
      cases fl with
      | ret u =>
        obtain ⟨v, H1, h1, h2, un, h3, h4, q⟩ := hq
        obtain ⟨hz, its, n, rv, hob⟩ := e.hok t _ ht
        have hst : sans H t t = none := sans_p H t
        have ht1 : H1 t = none := un.free t _ hob hst (by simp)
        have htf : t ∉ frs outer := fun z => by have := e.frf t z; rw [ht] at this; cases this
        have hob' := un.keep t _ hob hst htf (by simp)
        refine ⟨v, upd H1 t (.lst xs), h1, h2, ?_, ?_, h4, q ht1⟩
        · refine ⟨fun b o q n hb hx => un.keep b o q (hn b n) hb hx, fun b o q n hb hx => un.slot b o q (hn b n) hb hx, fun b o q n hx => ?_, un.there, fun b ys q => ?_, fun b o u q => ?_, fun b ps q => ?_⟩
          · rw [upd_ne (fun z => by rw [z, ht] at n; cases n)]
            exact un.free b o q (hn b n) hx
          · have nb : b ≠ t := ne_of q ht (by intro z; cases z)
            rw [upd_ne nb]
            exact un.tups b ys (by rw [sans_ne nb]; exact q)
          · have nb : b ≠ t := ne_of q ht (by intro z; cases z)
            rw [upd_ne nb]
            exact un.frzs b o u (by rw [sans_ne nb]; exact q)
          · have nb : b ≠ t := ne_of q ht (by intro z; cases z)
            rw [upd_ne nb]
            exact un.tbls b ps (by rw [sans_ne nb]; exact q)
        · intro a o ea
          by_cases na : a = t
          · rw [na, upd_same] at ea
            cases ea
            rw [na]
            exact ⟨hz, its, n, rv, hob'⟩
          · rw [upd_ne na] at ea
            exact (h3 a o ea).stay (fun _ _ _ q => q) (fun b q => by rw [upd_ne (fun z => by rw [z, ht1] at q; cases q)]; exact q) (fun b ys q => by rw [upd_ne (fun z => by rw [z, ht1] at q; cases q)]; exact q)
      | _ => exact hq.elim
theorem Cal.off {P : Program} {w : World} {K : PySem.W.Frag} {mg : Str → Option Value} {base : Heap} {k : Nat} {x : Str} {ps : List Str} {sp : Sp} (C : Cal P w K mg base k x ps sp) : Cal P w K mg base k x ps (spOff sp) := by
  obtain ⟨f, fd, F, h⟩ := C.ex
  exact ⟨f, fd, FnOk.off F, h⟩
/-! ### Answers -/
def zv (l : List Int) : List V := l.map V.int
def ansOf (x : Ks333.Abs × Ks333.Ans) : List Int := x.2.ret :: Ks333Neutral.ints x.2.out
/-- a call of the puzzle at p, told as the specification does -/
def Does (CB C : Addr) (Hf : Hp) (p dx : Addr) (x : Ks333.Abs × Ks333.Ans) (Q : VK) : Prop := ∀ H' L, PuzAt CB C Hf H' p dx x.1 → H' L = some (.lst (zv (ansOf x))) → Hf L = none → Q (.ref L) H'
theorem Does.one {CB C : Addr} {Hf H : Hp} {p dx : Addr} {a : Ks333.Abs} {v : Int} {Q : VK} {L : Addr} (k : Does CB C Hf p dx (a, Ks333.no v) Q) (h : PuzAt CB C Hf H p dx a) (hL : H L = none) : Q (.ref L) (upd H L (.lst [.int v])) :=
  k _ L (h.same (same_new (Same.refl H) hL)) (by rw [upd_same]; rfl) (h.frame.free hL)
end HW
end
section
set_option Elab.async false
set_option linter.all false
set_option maxRecDepth 100000
set_option maxHeartbeats 4000000
namespace HW
open PySem PySem.Spec PyProof.Rows L2 HX
theorem linesGo_lens : ∀ (r line : List Nat), (linesGo line r).length ≤ r.length + 1 ∧ ∀ x ∈ linesGo line r, x.length ≤ line.length + r.length
  | [], line => by
    unfold linesGo
    split
    · exact ⟨by simp, fun x hx => by cases hx⟩
    · exact ⟨by simp, fun x hx => by rw [List.mem_singleton.mp hx]; simp⟩
  | b :: r, line => by
    by_cases h : b = 10
    · subst h
      rw [linesGo_end]
      obtain ⟨h1, h2⟩ := linesGo_lens r []
      refine ⟨by simp; omega, fun x hx => ?_⟩
      rcases List.mem_cons.mp hx with rfl | hx
      · simp
      · have := h2 x hx
        simp at this ⊢
        omega
    · rw [linesGo_some _ _ _ h]
      obtain ⟨h1, h2⟩ := linesGo_lens r (line ++ [b])
      refine ⟨by simp; omega, fun x hx => ?_⟩
      have := h2 x hx
      simp at this ⊢
      omega
theorem lines_lens (t : List Nat) : (Ks331.linesOf t).length ≤ t.length + 1 ∧ ∀ x ∈ Ks331.linesOf t, x.length ≤ t.length := by
  rw [linesOf_go]
  have := linesGo_lens t []
  simpa using this
theorem refusal_zero {ls : List (List Nat)} (h : refusal ls = 0) : (∀ x ∈ ls, Ks331.okWord x = true) ∧ ls.length ≤ 12 := by
  unfold refusal at h
  split at h
  · omega
  · rename_i h1
    split at h
    · omega
    · rename_i h2
      refine ⟨okWords h1, ?_⟩
      have : ¬ (12 < ls.length) := fun z => h2 (.inr z)
      omega
section
variable {P : Program} {w : World} {K : PySem.W.Frag} {mg : Str → Option Value} {base : Heap}
def spLoad (K : PySem.W.Frag) (CB C : Addr) : Sp := fun vs H Q _ => ∃ (Hf : Hp) (p dx ca ta : Addr) (a : Ks333.Abs) (wd : Nat) (cells t : List Nat), vs = [.ref p, .int (wd : Int), .ref ca, .ref ta] ∧ PuzAt CB C Hf H p dx a ∧ SqL K H ca (iv cells) ∧ SqL K H ta (iv t) ∧
  cells.length ≤ 30000 ∧ t.length ≤ 30000 ∧ Does CB C Hf p dx (Ks333.act a (.load wd cells (if Ks331.TEXT < t.length then none else some t))) Q
theorem scLoad : FnScope ["self", "wide", "cells", "listing", "lines", "refusal", "words", "board", "letters", "line"] ["self", "wide", "cells", "listing"] (defScope sLoad) := ⟨rfl, rfl, rfl, by decide +kernel, rfl, by decide +kernel, by decide +kernel⟩
theorem ok_load {f CB C : Addr} {fd : FuncData} (F : Fun K "load" "Puzzle.load" sLoad f fd) (T : PTxt K C) (T4 : Cst4 mg)
    (C1 : Cal P w K mg base 2 "is_square" ["wide", "cells"] (spIsSquare K)) (C2 : Cal P w K mg base 1 "lines_of" ["row"] (spLinesOf K)) (C3 : Cal P w K mg base 3 "list_refusal" ["lines"] (spListRefusal K)) (C4 : Cal P w K mg base 1 "text_of" ["row"] (spTextOf K))
    (M1 : Mak P w K mg base 2 "Board" CB ["self", "wide", "high"] (spBoardInit CB)) (C5 : Cal P w K mg base 3 "is_right" ["board", "letters", "words"] (spIsRight K CB)) (M2 : Mth P w K mg base 1 C "begin" ["self", "board", "letters", "words"] (spBegin CB C)) :
    FnOk P w K mg base CX0 4 f fd ["self", "wide", "cells", "listing"] (spLoad K CB C) := by
  refine F.ok scLoad (fun vs H Q E h => ?_) (fun cdv A outer s H vs Q E hr h => ?_)
  · obtain ⟨Hf, p, dx, ca, ta, a, wd, cells, t, rfl, _⟩ := h
    rfl
  · obtain ⟨Hf, p, dx, ca, ta, a, wd, cells, t, rfl, hp, hca, hta, hlc, hlt, k⟩ := h
    have hr1 : Room 1 _ := hr.mono (by decide)
    have hr2 : Room 2 _ := hr.mono (by decide)
    have hr3 : Room 3 _ := hr.mono (by decide)
    have sz : 100000 < sizeLine := by decide
    rw [act_load] at k
    refine ⟨_, pss_cons (ps_if (PW.pt (pw_or (pt_not (pt_val (pe_cal C1 hr2 rfl (pa_cons (pv 1) (pa_cons (pv 2) pa_nil))))) (pw_or1 (pt_cmpR op_gt (pe_callB call_len_seq (by rfl) T4.len PySem.boot_len (pa_cons (pv 3) pa_nil)) (pe_gv rfl T4.llist) (nomark _))))) (pss_one (ps_ret (pe_lst (pa_cons (pe_gv rfl T4.range) pa_nil)))) pss_nil)
      (pss_cons (ps_set (i := 4) scLoad.nd rfl (Or.inl rfl) (pe_cal C2 hr1 rfl (pa_cons (pv 3) pa_nil)))
      (pss_cons (ps_set (i := 5) scLoad.nd rfl (Or.inl rfl) (pe_cal C3 hr3 rfl (pa_cons (pv 4) pa_nil)))
      (pss_cons (ps_if (pt_cmpR op_ne (pv 5) (pe_gv rfl T4.noref) (nomark _)) (pss_one (ps_ret (pe_lst (pa_cons (pv 5) pa_nil)))) pss_nil)
      (pss_cons (ps_setLc (i := 6) (te := tCall (spTextOf K) [] E0 (tCons (tVar 9) tNil)) (own := [("line", 9)]) rfl scLoad.nd rfl rfl (sw_true rfl rfl rfl rfl) (pi_list (pv 4)) (blkOk_by rfl)
        (fun s H C cl fp => pg_name (i := 9) scLoad.nd rfl (Or.inl rfl)) (fun s H C cl fp => pts_nil) (fun s H C cl fp => pe_cal C4 hr1 rfl (pa_cons (pv 9) pa_nil)))
      (pss_cons (ps_set (i := 7) scLoad.nd rfl (Or.inl rfl) (pe_mak M1 hr rfl (pa_cons (pv 1) (pa_cons (pe_op op_fdiv (pe_callB call_len_seq (by rfl) T4.len PySem.boot_len (pa_cons (pv 2) pa_nil)) (pv 1)) pa_nil))))
      (pss_cons (ps_set (i := 8) scLoad.nd rfl (Or.inl rfl) (pe_callTy (call_listS rfl) (by rfl) T4.list (by decide +kernel) (pa_cons (pe_cal C4 hr1 rfl (pa_cons (pv 2) pa_nil)) pa_nil)))
      (pss_cons (ps_if (pt_not (pt_val (pe_cal C5 hr3 rfl (pa_cons (pv 7) (pa_cons (pv 8) (pa_cons (pv 6) pa_nil)))))) (pss_one (ps_ret (pe_lst (pa_cons (pe_gv rfl T4.right) pa_nil)))) pss_nil)
      (pss_cons (ps_expr (pe_mth M2 hr1 T.cl (pv 0) (pa_cons (pv 7) (pa_cons (pv 8) (pa_cons (pv 6) pa_nil)))))
      (pss_one (ps_ret (pe_lst (pa_cons (pe_callB call_len_seq (by rfl) T4.len PySem.boot_len (pa_cons (pv 6) pa_nil)) pa_nil)))))))))))), ?_⟩
    have bad : ∀ H1, Same H H1 → (Ks331.okGrid ⟨wd, cells⟩ = false ∨ Ks331.TEXT < t.length) → 1 ≤ sizeLine ∧ ∀ L, H1 L = none → Q (.ref L) (upd H1 L (.lst [.int (-22)])) := fun H1 s1 z => by
      rw [if_pos z] at k
      exact ⟨(by show 1 ≤ sizeLine; decide), fun L hL => k.one (hp.same s1) hL⟩
    refine ⟨_, rfl, _, rfl, wd, ca, cells, rfl, hca, hlc, fun H1 s1 => ⟨_, rfl, ?_⟩⟩
    cases eg : Ks331.okGrid ⟨wd, cells⟩ with
    | false => exact iteT (iteT (bad H1 s1 (.inl eg)))
    | true =>
      refine iteF ⟨_, rfl, ta, _, rfl, .inl (s1.seq hta), _, _, rfl, rfl, _, rfl, ite2 (fun c => ?_) (fun c => ?_)⟩
      · have c' := of_decide_eq_true c
        rw [iv_len] at c'
        exact bad H1 s1 (.inr (show 200 < t.length by omega))
      · have c' : ¬ (200 : Int) < ((iv t).length : Int) := fun z => c (decide_eq_true z)
        rw [iv_len] at c'
        rw [if_neg (fun z => z.elim (fun z => by rw [eg] at z; cases z) (fun z => by have : 200 < t.length := z; omega))] at k
        obtain ⟨ll1, ll2⟩ := lines_lens t
        refine ⟨_, rfl, ta, t, rfl, s1.seq hta, hlt, fun H2 L as s2 hL => ?_⟩
        refine ⟨_, rfl, L, as, Ks331.linesOf t, rfl, hL, by omega, fun x hx => by have := ll2 x hx; omega, fun H3 s3 => ?_⟩
        have s13 := (s1.trans s2).trans s3
        refine ⟨_, rfl, rfl, _, rfl, ite2 (fun d => ?_) (fun d => ?_)⟩
        · have d' : refusal (Ks331.linesOf t) ≠ 0 := fun z => by rw [z] at d; exact absurd d (by decide)
          rw [if_pos d'] at k
          exact ⟨_, rfl, (by show 1 ≤ sizeLine; decide), fun L' hL' => k.one (hp.same s13) hL'⟩
        · have d' : refusal (Ks331.linesOf t) = 0 := by
            by_cases z : refusal (Ks331.linesOf t) = 0
            · exact z
            · exact absurd (show (!decide (V.int (refusal (Ks331.linesOf t)) = V.int 0)) = true by rw [decide_eq_false (fun q => z (by injection q))]; rfl) d
          rw [if_neg (fun z => z d')] at k
          obtain ⟨hok, few⟩ := refusal_zero d'
          generalize hws : Ks331.linesOf t = ws at *
          have hL3 := hL.same s3
          have len : (as.map V.ref).length = ws.length := by rw [List.length_map, hL.len, List.length_map]
          have hz : (sv ws).length ≤ sizeLine := by rw [sv_len]; omega
          have hg : 2 ≤ wd ∧ wd ≤ 8 ∧ 2 ≤ cells.length / wd ∧ cells.length / wd ≤ 8 ∧ cells.length = wd * (cells.length / wd) ∧ cells.all Ks331.isLetter = true := by
            unfold Ks331.okGrid Ks331.okSize Ks331.Grid.high at eg
            simp only [Bool.and_eq_true, decide_eq_true_iff, beq_iff_eq] at eg
            exact ⟨eg.1.1.1, eg.1.1.2.1.1.2, eg.1.1.2.1.2, eg.1.1.2.2, eg.1.2, eg.2⟩
          obtain ⟨w2, w8, h2, h8, hwh, hlet⟩ := hg
          refine ⟨_, rfl, L, rfl, ⟨_, SqL.of hL3.lst⟩, fun D hD => lc_map (ys := sv ws) hD (SqL.of hL3.lst) (by rw [sv_len, len]) (fun i x H4 hxi q => ?_) (fun H4 s4 hD4 => ?_)⟩
          · obtain ⟨xa, xs, ha, rfl, hxs, haH⟩ := hL3.ref_get hxi
            obtain ⟨x, hxx, rfl⟩ := map_iv_get hxs
            have hmem := List.mem_of_getElem? hxx
            have hokx := hok x hmem
            unfold Ks331.okWord at hokx
            simp only [Bool.and_eq_true] at hokx
            refine ⟨rfl, _, rfl, xa, x, rfl, SqL.of (q.1 _ _ haH), by have := ll2 x hmem; omega, hokx.2, fun H5 s5 => ?_⟩
            exact q.fin hD hz s5 (by unfold sv; rw [List.getElem?_map, hxx]; rfl)
          · have s14 := s13.trans s4
            have w0 : (0 : Int) < (wd : Int) ∧ (wd : Int) < 1073741824 := by omega
            have ed : ((iv cells).length : Int) / (wd : Int) = ((cells.length / wd : Nat) : Int) := by rw [iv_len]; exact (Int.natCast_ediv _ _).symm
            refine ⟨_, rfl, _, rfl, ca, _, rfl, .inl (s14.seq hca), _, rfl, _, _, rfl, rfl, w0, fun b dxb hb hdb nb => ?_⟩
            have sb : Same H4 (upd H4 dxb (.own b)) := same_new (Same.refl H4) hdb
            have sb2 : Same H4 (upd (upd H4 dxb (.own b)) b (.ins CB dxb [])) := same_new sb hb
            refine ⟨b, dxb, wd, cells.length / wd, (show ([.ref b, .int (wd : Int), .int (((iv cells).length : Int) / (wd : Int))] : List V) = _ by rw [ed]), upd_same, w2, w8, h2, h8, fun H5 hB5 but5 => ⟨rfl, ?_⟩⟩
            have s45 : Same H4 H5 := fun c o e => but5 c o (sb2 c o e) (ne_of_none e hb)
            have s15 := s14.trans s45
            refine ⟨_, rfl, ca, cells, rfl, s15.seq hca, hlc, hlet, fun H6 s6 => ⟨cells, rfl, by omega, fun la hla => ?_⟩⟩
            have s16 := s15.trans s6
            have s17 := same_new (o := .lst (cells.map fun c => V.str (S [c]))) s16 (s16.free hla)
            have s67 : Same H6 (upd H6 la (.lst (cells.map fun c => V.str (S [c])))) := same_new (Same.refl H6) hla
            generalize hH7 : upd H6 la (.lst (cells.map fun c => V.str (S [c]))) = H7 at s17 s67 ⊢
            have hla7 : H7 la = some (.lst (ov cells)) := by rw [← hH7, upd_same]; rfl
            have hB7 : BoardAt CB H7 b wd (cells.length / wd) := (hB5.same s6).same s67
            have hD7 : H7 D = some (.lst (sv ws)) := s67 _ _ (s6 _ _ (s45 _ _ hD4))
            refine ⟨_, rfl, _, rfl, _, rfl, b, la, D, wd, cells.length / wd, cells, ws, rfl, hB7, w2, w8, h2, h8, hla7, hwh, SqL.of hD7, hok, fun H8 s8 => ⟨_, rfl, ?_⟩⟩
            have s18 := s17.trans s8
            cases er : Ks332.right ⟨wd, cells⟩ ws with
            | false =>
              rw [er, if_pos rfl] at k
              exact iteT ⟨(by show 1 ≤ sizeLine; decide), fun L' hL' => k.one (hp.same s18) hL'⟩
            | true =>
              rw [er, if_neg (by decide)] at k
              refine iteF ?_
              obtain ⟨H0, vb0, la0, lw0, lf0, lg0, _, _, _, _, _, _, _, hpo, _⟩ := (hp.same s18).ex
              refine ⟨_, rfl, p, dx, _, rfl, hpo, rfl, _, rfl, _, rfl, _, rfl, Hf, p, dx, b, la, D, a, wd, cells.length / wd, cells, ws, rfl, hp.same s18, hB7.same s8, ⟨rfl, hwh, w2, w8, h2, h8⟩, s8 _ _ hla7, s8 _ _ hD7, hok, er, few, fun H9 hp9 b9 => ?_⟩
              refine ⟨_, rfl, D, _, rfl, .inl (SqL.of (b9 _ _ (s8 _ _ hD7) (ne_of (s8 _ _ hD7) hpo (by intro z; cases z)))), (by show 1 ≤ sizeLine; decide), fun L' hL' => ?_⟩
              rw [sv_len]
              exact k.one hp9 hL'
end
end HW
end
section
set_option Elab.async false
set_option linter.all false
set_option maxRecDepth 100000
set_option maxHeartbeats 4000000
namespace HW
open PySem PySem.Spec PyProof.Rows L2 HX
theorem tryAll_found {f : Ks331.Grid → Nat → R} {pt : Ks331.Place → Ks331.Grid} {most : Nat} {G : Ks331.Grid → Prop} (hf : ∀ p n m g, f (pt p) n = .found m g → G g) : ∀ (l : List Ks331.Place) (n m : Nat) (g : Ks331.Grid), tryAll f pt most l n = .found m g → G g
  | [], n, m, g, h => by cases h
  | p :: l, n, m, g, h => by
    unfold tryAll at h
    split at h
    · cases h
    · split at h
      · exact tryAll_found hf l _ _ _ h
      · cases h
      · rename_i e
        cases h
        exact hf _ _ _ _ e
theorem put_wide (g : Ks331.Grid) (x : List Nat) (p : Ks331.Place) : (Ks332.put g x p).wide = g.wide := by
  unfold Ks332.put
  split <;> rfl
theorem put_len (g : Ks331.Grid) (x : List Nat) (p : Ks331.Place) : (Ks332.put g x p).cells.length = g.cells.length := by
  unfold Ks332.put
  split
  · exact foldl_set_len _ _
  · rfl
theorem go_found {rest : List Nat} {all : List (List Nat)} {most : Nat} : ∀ (ws : List (List Nat)) (g0 : Ks331.Grid) (n m : Nat) (g : Ks331.Grid), go rest all most ws g0 n = .found m g → g.wide = g0.wide ∧ g.cells.length = g0.cells.length ∧ Ks332.right g all = true
  | [], g0, n, m, g, h => by
    unfold go judged at h
    split at h
    · rename_i e
      cases h
      exact ⟨rfl, filled_len .., e⟩
    · cases h
  | x :: ws, g0, n, m, g, h => by
    unfold go at h
    refine tryAll_found (G := fun g => g.wide = g0.wide ∧ g.cells.length = g0.cells.length ∧ Ks332.right g all = true) (fun p n m g e => ?_) _ _ _ _ h
    obtain ⟨h1, h2, h3⟩ := go_found ws _ _ _ _ e
    exact ⟨by rw [h1, put_wide], by rw [h2, put_len], h3⟩
theorem fillOk_no {r : List Nat} (h : fillOk r = false) : r = [] ∨ Ks332.REST < r.length ∨ r.all Ks331.isLetter = false := by
  unfold fillOk at h
  by_cases h0 : r = []
  · exact .inl h0
  · by_cases h1 : Ks332.REST < r.length
    · exact .inr (.inl h1)
    · refine .inr (.inr ?_)
      have l0 : 1 ≤ r.length := by
        cases r with
        | nil => exact absurd rfl h0
        | cons b r => simp
      have l1 : r.length ≤ 64 := Nat.le_of_not_lt h1
      rw [decide_eq_true l0, decide_eq_true l1] at h
      exact h
theorem fillOk_yes {r : List Nat} (h : fillOk r = true) : r ≠ [] ∧ r.length ≤ 64 ∧ r.all Ks331.isLetter = true ∧ ¬ (r = [] ∨ Ks332.REST < r.length ∨ r.all Ks331.isLetter = false) := by
  unfold fillOk at h
  simp only [Bool.and_eq_true, decide_eq_true_iff] at h
  have h0 : r ≠ [] := fun z => by rw [z] at h; exact absurd h.1.1 (by decide)
  refine ⟨h0, h.1.2, h.2, fun z => ?_⟩
  rcases z with z | z | z
  · exact h0 z
  · exact absurd (show 64 < r.length from z) (by omega)
  · rw [h.2] at z
    cases z
section
variable {P : Program} {w : World} {K : PySem.W.Frag} {mg : Str → Option Value} {base : Heap}
def spMake (K : PySem.W.Frag) (CB C : Addr) : Sp := fun vs H Q _ => ∃ (Hf : Hp) (p dx ta ra : Addr) (a : Ks333.Abs) (wd hg most : Nat) (t r : List Nat), vs = [.ref p, .int (wd : Int), .int (hg : Int), .int (most : Int), .ref ta, .ref ra] ∧ PuzAt CB C Hf H p dx a ∧ SqL K H ta (iv t) ∧ SqL K H ra (iv r) ∧
  t.length ≤ 30000 ∧ r.length ≤ 30000 ∧ Does CB C Hf p dx (Ks333.act a (.make wd hg most (if Ks331.TEXT < t.length then none else some t) r)) Q
theorem scMake : FnScope ["self", "wide", "high", "most", "listing", "filling", "lines", "refusal", "words", "search", "line"] ["self", "wide", "high", "most", "listing", "filling"] (defScope sMake) := ⟨rfl, rfl, rfl, by decide +kernel, rfl, by decide +kernel, by decide +kernel⟩
theorem ok_make {f CB CS C : Addr} {fd : FuncData} (F : Fun K "make" "Puzzle.make" sMake f fd) (T : PTxt K C) (T4 : Cst4 mg) (TS : STxt K CS)
    (C1 : Cal P w K mg base 1 "is_side" ["length"] spIsSide) (C2 : Cal P w K mg base 1 "lines_of" ["row"] (spLinesOf K)) (C3 : Cal P w K mg base 3 "list_refusal" ["lines"] (spListRefusal K)) (C4 : Cal P w K mg base 1 "text_of" ["row"] (spTextOf K))
    (C5 : Cal P w K mg base 2 "is_filling" ["filling"] (spIsFilling K)) (M1 : Mak P w K mg base 2 "Board" CB ["self", "wide", "high"] (spBoardInit CB)) (M2 : Mak P w K mg base 2 "Search" CS ["self", "board", "words", "filling", "most"] (spSearchInit CB CS))
    (M3 : Mth P w K mg base 30 CS "run" ["self"] (spRun CB CS)) (M4 : Mth P w K mg base 1 C "begin" ["self", "board", "letters", "words"] (spBegin CB C)) :
    FnOk P w K mg base CX0 31 f fd ["self", "wide", "high", "most", "listing", "filling"] (spMake K CB C) := by
  refine F.ok scMake (fun vs H Q E h => ?_) (fun cdv A outer s H vs Q E hr h => ?_)
  · obtain ⟨Hf, p, dx, ta, ra, a, wd, hg, most, t, r, rfl, _⟩ := h
    rfl
  · obtain ⟨Hf, p, dx, ta, ra, a, wd, hg, most, t, r, rfl, hp, hta, hra, hlt, hlr, k⟩ := h
    have hr1 : Room 1 _ := hr.mono (by decide)
    have hr2 : Room 2 _ := hr.mono (by decide)
    have hr3 : Room 3 _ := hr.mono (by decide)
    have sz : 100000 < sizeLine := by decide
    rw [act_make] at k
    refine ⟨_, pss_cons (ps_if (PW.pt (pw_or (pt_not (pt_val (pe_cal C1 hr1 rfl (pa_cons (pv 1) pa_nil)))) (pw_or1 (pt_not (pt_val (pe_cal C1 hr1 rfl (pa_cons (pv 2) pa_nil))))))) (pss_one (ps_ret (pe_lst (pa_cons (pe_gv rfl T4.range) pa_nil)))) pss_nil)
      (pss_cons (ps_if (PW.pt (pw_or (pt_cmpR op_gt (pv 3) (pe_gv rfl T4.tries) (nomark _)) (pw_or1 (pt_cmpR op_gt (pe_callB call_len_seq (by rfl) T4.len PySem.boot_len (pa_cons (pv 4) pa_nil)) (pe_gv rfl T4.llist) (nomark _))))) (pss_one (ps_ret (pe_lst (pa_cons (pe_gv rfl T4.range) pa_nil)))) pss_nil)
      (pss_cons (ps_set (i := 6) scMake.nd rfl (Or.inl rfl) (pe_cal C2 hr1 rfl (pa_cons (pv 4) pa_nil)))
      (pss_cons (ps_set (i := 7) scMake.nd rfl (Or.inl rfl) (pe_cal C3 hr3 rfl (pa_cons (pv 6) pa_nil)))
      (pss_cons (ps_if (pt_cmpR op_ne (pv 7) (pe_gv rfl T4.noref) (nomark _)) (pss_one (ps_ret (pe_lst (pa_cons (pv 7) pa_nil)))) pss_nil)
      (pss_cons (ps_if (pt_not (pt_val (pe_cal C5 hr2 rfl (pa_cons (pv 5) pa_nil)))) (pss_one (ps_ret (pe_lst (pa_cons (pe_gv rfl T4.filling) pa_nil)))) pss_nil)
      (pss_cons (ps_setLc (i := 8) (te := tCall (spTextOf K) [] E0 (tCons (tVar 10) tNil)) (own := [("line", 10)]) rfl scMake.nd rfl rfl (sw_true rfl rfl rfl rfl) (pi_list (pv 6)) (blkOk_by rfl)
        (fun s H C cl fp => pg_name (i := 10) scMake.nd rfl (Or.inl rfl)) (fun s H C cl fp => pts_nil) (fun s H C cl fp => pe_cal C4 hr1 rfl (pa_cons (pv 10) pa_nil)))
      (pss_cons (ps_set (i := 9) scMake.nd rfl (Or.inl rfl) (pe_mak M2 hr3 rfl (pa_cons (pe_mak M1 hr3 rfl (pa_cons (pv 1) (pa_cons (pv 2) pa_nil))) (pa_cons (pv 8) (pa_cons (pe_cal C4 hr1 rfl (pa_cons (pv 5) pa_nil)) (pa_cons (pv 3) pa_nil))))))
      (pss_cons (ps_expr (pe_mth0 M3 hr TS.cl (pv 9)))
      (pss_cons (ps_if (pt_val (pe_fld (pv 9) rfl)) (pss_one (ps_ret (pe_lst (pa_cons (pe_gv rfl T4.many) pa_nil)))) pss_nil)
      (pss_cons (ps_if (pt_cmpR op_isN (pe_fld (pv 9) rfl) pe_non (nomark _)) (pss_one (ps_ret (pe_lst (pa_cons (pe_gv rfl T4.right) pa_nil)))) pss_nil)
      (pss_cons (ps_expr (pe_mth M4 hr1 T.cl (pv 0) (pa_cons (pe_fld (pv 9) rfl) (pa_cons (pe_fld (pv 9) rfl) (pa_cons (pv 8) pa_nil)))))
      (pss_one (ps_ret (pe_lst (pa_cons (pe_fld (pv 9) rfl) pa_nil))))))))))))))), ?_⟩
    have bad : ∀ H1, Same H H1 → (Ks331.okSize wd hg = false ∨ Ks332.TRIES < most ∨ Ks331.TEXT < t.length) → 1 ≤ sizeLine ∧ ∀ L, H1 L = none → Q (.ref L) (upd H1 L (.lst [.int (-22)])) := fun H1 s1 z => by
      rw [if_pos z] at k
      exact ⟨(by show 1 ≤ sizeLine; decide), fun L hL => k.one (hp.same s1) hL⟩
    have eok : Ks331.okSize wd hg = ((decide (2 ≤ wd) && decide (wd ≤ 8)) && (decide (2 ≤ hg) && decide (hg ≤ 8))) := by
      unfold Ks331.okSize
      simp only [Bool.and_assoc]
    refine ⟨_, rfl, wd, rfl, fun H1 s1 => ⟨_, rfl, ?_⟩⟩
    cases e1 : (decide (2 ≤ wd) && decide (wd ≤ 8)) with
    | false =>
      rw [e1] at eok
      exact iteT (iteT (bad H1 s1 (.inl eok)))
    | true =>
      refine iteF ⟨_, rfl, hg, rfl, fun H2 s2 => ⟨_, rfl, ?_⟩⟩
      have s12 := s1.trans s2
      cases e2 : (decide (2 ≤ hg) && decide (hg ≤ 8)) with
      | false =>
        rw [e1, e2] at eok
        exact iteT (bad H2 s12 (.inl eok))
      | true =>
        rw [e1, e2] at eok
        simp only [Bool.and_eq_true, decide_eq_true_iff] at e1 e2
        refine iteF ⟨_, rfl, _, _, rfl, rfl, _, rfl, ite2 (fun c => ?_) (fun c => ?_)⟩
        · have c' := of_decide_eq_true c
          exact iteT (bad H2 s12 (.inr (.inl (show 2000 < most by omega))))
        · have c' : ¬ (2000 : Int) < (most : Int) := fun z => c (decide_eq_true z)
          refine ⟨_, rfl, ta, _, rfl, .inl (s12.seq hta), _, _, rfl, rfl, _, rfl, ite2 (fun d => ?_) (fun d => ?_)⟩
          · have d' := of_decide_eq_true d
            rw [iv_len] at d'
            exact bad H2 s12 (.inr (.inr (show 200 < t.length by omega)))
          · have d' : ¬ (200 : Int) < ((iv t).length : Int) := fun z => d (decide_eq_true z)
            rw [iv_len] at d'
            rw [if_neg (show ¬ (Ks331.okSize wd hg = false ∨ Ks332.TRIES < most ∨ Ks331.TEXT < t.length) from fun z => by
              rcases z with z | z | z
              · rw [eok] at z; cases z
              · exact absurd (show 2000 < most from z) (by omega)
              · exact absurd (show 200 < t.length from z) (by omega))] at k
            obtain ⟨ll1, ll2⟩ := lines_lens t
            refine ⟨_, rfl, ta, t, rfl, s12.seq hta, hlt, fun H3 L as s3 hL => ?_⟩
            refine ⟨_, rfl, L, as, Ks331.linesOf t, rfl, hL, by omega, fun x hx => by have := ll2 x hx; omega, fun H4 s4 => ?_⟩
            have s14 := (s12.trans s3).trans s4
            refine ⟨_, rfl, rfl, _, rfl, ite2 (fun d => ?_) (fun d => ?_)⟩
            · have d' : refusal (Ks331.linesOf t) ≠ 0 := fun z => by rw [z] at d; exact absurd d (by decide)
              rw [if_pos d'] at k
              exact ⟨_, rfl, (by show 1 ≤ sizeLine; decide), fun L' hL' => k.one (hp.same s14) hL'⟩
            · have d' : refusal (Ks331.linesOf t) = 0 := by
                by_cases z : refusal (Ks331.linesOf t) = 0
                · exact z
                · exact absurd (show (!decide (V.int (refusal (Ks331.linesOf t)) = V.int 0)) = true by rw [decide_eq_false (fun q => z (by injection q))]; rfl) d
              rw [if_neg (fun z => z d')] at k
              obtain ⟨hok, few⟩ := refusal_zero d'
              generalize hws : Ks331.linesOf t = ws at *
              refine ⟨_, rfl, ra, r, rfl, s14.seq hra, hlr, fun H5 s5 => ⟨_, rfl, ?_⟩⟩
              have s15 := s14.trans s5
              cases ef : fillOk r with
              | false =>
                rw [if_pos (fillOk_no ef)] at k
                exact iteT ⟨(by show 1 ≤ sizeLine; decide), fun L' hL' => k.one (hp.same s15) hL'⟩
              | true =>
                obtain ⟨r0, r64, rl, rn⟩ := fillOk_yes ef
                rw [if_neg rn] at k
                refine iteF ?_
                have hL5 := (hL.same s4).same s5
                have len : (as.map V.ref).length = ws.length := by rw [List.length_map, hL.len, List.length_map]
                have hz : (sv ws).length ≤ sizeLine := by rw [sv_len]; omega
                refine ⟨_, rfl, L, rfl, ⟨_, SqL.of hL5.lst⟩, fun D hD => lc_map (ys := sv ws) hD (SqL.of hL5.lst) (by rw [sv_len, len]) (fun i x H6 hxi q => ?_) (fun H6 s6 hD6 => ?_)⟩
                · obtain ⟨xa, xs, ha, rfl, hxs, haH⟩ := hL5.ref_get hxi
                  obtain ⟨x, hxx, rfl⟩ := map_iv_get hxs
                  have hmem := List.mem_of_getElem? hxx
                  have hokx := hok x hmem
                  unfold Ks331.okWord at hokx
                  simp only [Bool.and_eq_true] at hokx
                  refine ⟨rfl, _, rfl, xa, x, rfl, SqL.of (q.1 _ _ haH), by have := ll2 x hmem; omega, hokx.2, fun H7 s7 => ?_⟩
                  exact q.fin hD hz s7 (by unfold sv; rw [List.getElem?_map, hxx]; rfl)
                · have s16 := s15.trans s6
                  refine ⟨_, rfl, _, rfl, fun b dxb hb hdb nb => ?_⟩
                  have sb : Same H6 (upd H6 dxb (.own b)) := same_new (Same.refl H6) hdb
                  have sb2 : Same H6 (upd (upd H6 dxb (.own b)) b (.ins CB dxb [])) := same_new sb hb
                  refine ⟨b, dxb, wd, hg, rfl, upd_same, e1.1, e1.2, e2.1, e2.2, fun H7 hB7 but7 => ⟨rfl, ?_⟩⟩
                  have s67 : Same H6 H7 := fun c o e => but7 c o (sb2 c o e) (ne_of_none e hb)
                  have s17 := s16.trans s67
                  refine ⟨_, rfl, _, rfl, ra, r, rfl, s17.seq hra, hlr, rl, fun H8 s8 => ⟨_, rfl, fun sA dxs hsA hds nsA => ?_⟩⟩
                  have s18 := s17.trans s8
                  have sc : Same H8 (upd H8 dxs (.own sA)) := same_new (Same.refl H8) hds
                  have sc2 : Same H8 (upd (upd H8 dxs (.own sA)) sA (.ins CS dxs [])) := same_new sc hsA
                  have hx8 : ∀ x ∈ ws, x.length ≤ 8 := fun x hx => by
                    have hokx := hok x hx
                    unfold Ks331.okWord at hokx
                    simp only [Bool.and_eq_true, decide_eq_true_iff] at hokx
                    exact hokx.1.2
                  have hD8 : H8 D = some (.lst (sv ws)) := s8 _ _ (s67 _ _ hD6)
                  refine ⟨sA, dxs, b, D, wd, hg, most, ws, r, rfl, upd_same, (hB7.same s8).same sc2, e1.2, e2.2, sc2 _ _ hD8, few, hx8, fun H9 lc sea9 but9 => ⟨rfl, ?_⟩⟩
                  have s89 : Same H8 H9 := fun c o e => but9 c o (sc2 c o e) (ne_of_none e hsA)
                  refine ⟨_, rfl, sA, dxs, _, rfl, sea9.obj, rfl, ⟨sA, dxs, b, D, lc, wd, hg, ws, r, most⟩, rfl, ⟨e1.1, e1.2, e2.1, e2.2, hok, few, r0, r64, by show most ≤ 2000; omega⟩, sea9, fun H10 but10 aft => ?_⟩
                  have s10 : Same H8 H10 := fun c o e => but10 c o (s89 c o e) (ne_of_none e hsA)
                  have s110 := s18.trans s10
                  cases eR : go r ws most ws (Ks332.empty wd hg) 0 with
                  | cont m =>
                    rw [show go r ws most ws (Ks332.empty wd hg) 0 = .cont m from eR] at aft k
                    obtain ⟨_, _, ho⟩ := aft
                    refine ⟨_, rfl, sA, CS, dxs, _, _, rfl, ho, TS.cl, TS.nS, rfl, _, rfl, iteF ?_⟩
                    refine ⟨_, rfl, sA, CS, dxs, _, _, rfl, ho, TS.cl, TS.nD, rfl, rfl, _, rfl, iteT ⟨(by show 1 ≤ sizeLine; decide), fun L' hL' => k.one (hp.same s110) hL'⟩⟩
                  | out =>
                    rw [show go r ws most ws (Ks332.empty wd hg) 0 = .out from eR] at aft k
                    obtain ⟨m, ho⟩ := aft
                    refine ⟨_, rfl, sA, CS, dxs, _, _, rfl, ho, TS.cl, TS.nS, rfl, _, rfl, iteT ⟨(by show 1 ≤ sizeLine; decide), fun L' hL' => k.one (hp.same s110) hL'⟩⟩
                  | found m g =>
                    obtain ⟨gw, gl, gr⟩ := go_found _ _ _ _ _ eR
                    rw [show go r ws most ws (Ks332.empty wd hg) 0 = .found m g from eR] at aft k
                    obtain ⟨La, ho, hLa⟩ := aft
                    have gw' : g.wide = wd := gw
                    have gl' : g.cells.length = wd * hg := by rw [gl]; simp [Ks332.empty]
                    have hB10 : BoardAt CB H10 b wd hg := ((hB7.same s8)).same s10
                    have hpo10 := hp.same s110
                    obtain ⟨H0, vb0, la0, lw0, lf0, lg0, _, _, _, _, _, _, _, hpo, _⟩ := hpo10.ex
                    have nsp : sA ≠ p := fun z => by
                      have := (hp.same s18).ex
                      obtain ⟨_, _, _, _, _, _, _, _, _, _, _, _, _, hpo8, _⟩ := this
                      rw [z, hpo8] at hsA
                      cases hsA
                    refine ⟨_, rfl, sA, CS, dxs, _, _, rfl, ho, TS.cl, TS.nS, rfl, _, rfl, iteF ?_⟩
                    refine ⟨_, rfl, sA, CS, dxs, _, _, rfl, ho, TS.cl, TS.nD, rfl, rfl, _, rfl, iteF ?_⟩
                    refine ⟨_, rfl, p, dx, _, rfl, hpo, rfl, _, rfl, sA, CS, dxs, _, _, rfl, ho, TS.cl, TS.nB, rfl, _, rfl, sA, CS, dxs, _, _, rfl, ho, TS.cl, TS.nD, rfl, _, rfl,
                      Hf, p, dx, b, La, D, a, wd, hg, g.cells, ws, rfl, hpo10, hB10, ⟨rfl, gl', e1.1, e1.2, e2.1, e2.2⟩, hLa, s10 _ _ hD8, hok, by rw [← gw']; exact gr, few, fun H11 hp11 b11 => ?_⟩
                    refine ⟨_, rfl, sA, CS, dxs, _, _, rfl, b11 _ _ ho nsp, TS.cl, TS.nT, rfl, (by show 1 ≤ sizeLine; decide), fun L' hL' => ?_⟩
                    exact k.one hp11 hL'
end
end HW
end
section
set_option Elab.async false
set_option linter.all false
set_option maxRecDepth 100000
set_option maxHeartbeats 4000000
namespace HW
open PySem PySem.Spec PyProof.Rows L2 HX
abbrev sGuess : Stmt := inClass sPuzzle 4
abbrev sNumberOf : Stmt := inClass sPuzzle 5
abbrev sHint : Stmt := inClass sPuzzle 6
abbrev sUnfound : Stmt := inClass sPuzzle 7
abbrev sRest : Stmt := inClass sPuzzle 8
abbrev sLeft : Stmt := inClass sPuzzle 9
abbrev sTell : Stmt := inClass sPuzzle 10
abbrev sScore : Stmt := inClass sPuzzle 11
/-- a comprehension of n turns -/
theorem lc_it {J : It} {n : Nat} {g : TG} {tt : TT} {te : TE} {vs : List Nat} {σ : L2.St} {H1 : Hp} {D : Addr} {Qd : Hp → Prop} (Pv : Nat → Hp → Prop) (h0 : Pv 0 (upd H1 D (.lst []))) (hgo : ∀ i H, i < n → Pv i H → J.go i H) (hst : ∀ H, Pv n H → J.stop n H)
    (hs : ∀ i x H H', i < n → Pv i H → J.yld i H x H' → g x (wipe σ vs) H' fun σ2 H2 => wipe σ2 vs = wipe σ vs ∧ tt σ2 H2 fun b H3 =>
      if b = true then te σ2 H3 fun y H4 => ∃ acc, H4 D = some (.lst acc) ∧ acc.length < sizeLine ∧ Pv (i + 1) (upd H4 D (.lst (acc ++ [y]))) else Pv (i + 1) H3) (hd : ∀ H, Pv n H → Qd H) :
    ∃ W : Nat → Nat → Hp → Prop, (∃ m, W 0 m (upd H1 D (.lst []))) ∧ ∀ i m H, W i m H →
      (J.stop i H ∧ Qd H) ∨ (J.go i H ∧ ∃ Nx : Hp → Prop, (∀ H', Nx H' → ∃ m', m' < m ∧ W (i + 1) m' H') ∧ ∀ x H', J.yld i H x H' → g x (wipe σ vs) H' fun σ2 H2 => wipe σ2 vs = wipe σ vs ∧ tt σ2 H2 fun b H3 =>
        if b = true then te σ2 H3 fun y H4 => ∃ acc, H4 D = some (.lst acc) ∧ acc.length < sizeLine ∧ Nx (upd H4 D (.lst (acc ++ [y]))) else Nx H3) := by
  refine ⟨fun i m H => m = n - i ∧ i ≤ n ∧ Pv i H, ⟨n, by simp, Nat.zero_le _, h0⟩, ?_⟩
  rintro i m H ⟨rfl, hi, p⟩
  by_cases hlt : i < n
  · exact .inr ⟨hgo i H hlt p, Pv (i + 1), fun H' p' => ⟨n - (i + 1), by omega, rfl, hlt, p'⟩, fun x H' y => hs i x H H' hlt p y⟩
  · have e : i = n := by omega
    subst e
    exact .inl ⟨hst H p, hd H p⟩
/-! ### The puzzle, opened -/
theorem Static.same {CB : Addr} {H H' : Hp} {vb : V} {la lw : Addr} {a : Ks333.Abs} (h : Static CB H vb la lw a) (s : Same H H') : Static CB H' vb la lw a := by
  rcases h with h | ⟨b, wd, hg, h1, h2, h3, h4, h5, h6⟩
  · exact .inl h
  · exact .inr ⟨b, wd, hg, h1, h2.same s, h3, s _ _ h4, s _ _ h5, h6⟩
theorem fv_get {l : List Nat} {i k : Nat} (h : l[i]? = some k) : (fv l)[i]? = some (if k = 0 then V.non else V.int ((k : Int) - 1)) := by
  unfold fv
  rw [List.getElem?_map, h]
  rfl
theorem fv_set {l : List Nat} {i who : Nat} : (fv l).set i (V.int (who : Int)) = fv (l.set i (who + 1)) := by
  unfold fv
  rw [List.map_set]
  congr 1
  rw [if_neg (by omega)]
  congr 1
  omega
theorem iv_set {l : List Nat} {i n : Nat} : (iv l).set i (V.int (n : Int)) = iv (l.set i n) := by
  unfold iv
  rw [List.map_set]
structure Opened (CB C : Addr) (Hf H : Hp) (p dx : Addr) (a : Ks333.Abs) (vb : V) (la lw lf lg : Addr) : Prop where
  obj : H p = some (.ins C dx (puzF vb la lw lf lg))
  lf_ : H lf = some (.lst (fv a.by_))
  lg_ : H lg = some (.lst (iv a.wrong))
  four : a.wrong.length = 4
  most : ∀ n ∈ a.wrong, n ≤ 1000000
  st : Static CB H vb la lw a
  toF : ∀ (H' : Hp) (i who : Nat), Same H H' → PuzAt CB C Hf (upd H' lf (.lst (fv (a.by_.set i (who + 1))))) p dx { a with by_ := a.by_.set i (who + 1) }
  toG : ∀ (H' : Hp) (i n : Nat), Same H H' → n ≤ 1000000 → PuzAt CB C Hf (upd H' lg (.lst (iv (a.wrong.set i n)))) p dx { a with wrong := a.wrong.set i n }
theorem PuzAt.opened {CB C : Addr} {Hf H : Hp} {p dx : Addr} {a : Ks333.Abs} (h : PuzAt CB C Hf H p dx a) : ∃ (vb : V) (la lw lf lg : Addr), Opened CB C Hf H p dx a vb la lw lf lg := by
  obtain ⟨H0, vb, la, lw, lf, lg, h1, h2, h3, h4, h5, h6, h7, h8, h9, h10, h11, h12, h13⟩ := h.ex
  refine ⟨vb, la, lw, lf, lg, h8, h9, h10, h11, h12, h13.same h1, fun H' i who s => ?_, fun H' i n s hn => ?_⟩
  · have npl : p ≠ lf := ne_of h8 h9 (by intro z; cases z)
    refine ⟨fun c o e => ?_, h.fp, H0, vb, la, lw, lf, lg, fun c o e => ?_, h2, h3, h4, h5, h6, h7, ?_, upd_same, ?_, h11, h12, ?_⟩
    · rw [upd_ne (ne_of_none e h5)]
      exact s _ _ (h.frame _ _ e)
    · rw [upd_ne (ne_of_none e h3)]
      exact s _ _ (h1 _ _ e)
    · rw [upd_ne npl]
      exact s _ _ h8
    · rw [upd_ne (Ne.symm h7)]
      exact s _ _ h10
    · rcases h13 with z | ⟨b, wd, hg, z1, z2, z3, z4, z5, z6, z7, z8, z9⟩
      · exact .inl z
      · exact .inr ⟨b, wd, hg, z1, z2, z3, z4, z5, z6, z7, by rw [List.length_set]; exact z8, z9⟩
  · have npl : p ≠ lg := ne_of h8 h10 (by intro z; cases z)
    refine ⟨fun c o e => ?_, h.fp, H0, vb, la, lw, lf, lg, fun c o e => ?_, h2, h3, h4, h5, h6, h7, ?_, ?_, upd_same, ?_, ?_, h13⟩
    · rw [upd_ne (ne_of_none e h6)]
      exact s _ _ (h.frame _ _ e)
    · rw [upd_ne (ne_of_none e h4)]
      exact s _ _ (h1 _ _ e)
    · rw [upd_ne npl]
      exact s _ _ h8
    · rw [upd_ne h7]
      exact s _ _ h9
    · show (a.wrong.set i n).length = 4
      rw [List.length_set]; exact h11
    · intro m hm
      rcases List.mem_or_eq_of_mem_set hm with hm | hm
      · exact h12 m hm
      · rw [hm]; exact hn
theorem on_of {a : Ks333.Abs} {wd hg : Nat} (s : Sq a.grid wd hg) : a.on = true := by
  unfold Ks333.Abs.on
  rw [s.wide]
  have := s.w2
  exact bne_iff_ne.mpr (by omega)
theorem off_of {a : Ks333.Abs} (h : a.grid.wide = 0) : a.on = false := by
  unfold Ks333.Abs.on
  rw [h]
  rfl
def numOf (ws : List (List Nat)) (x : List Nat) : Nat := if ws.findIdx (fun y => y == x || y == x.reverse) < ws.length then ws.findIdx (fun y => y == x || y == x.reverse) else 255
theorem between_lt {wd hg f l : Nat} (w2 : 2 ≤ wd) (w8 : wd ≤ 8) (h8 : hg ≤ 8) (hf : f < wd * hg) (hl : l < wd * hg) (hin : inLine wd f l = true) : (between wd f l).length ≤ 9 ∧ between wd f l ≠ [] ∧ ∀ c ∈ between wd f l, c < wd * hg := by
  obtain ⟨d, hd, st1, st8, hcell⟩ := line_way (by omega) w8 h8 hf hl hin
  obtain ⟨_, _, hpath⟩ := way_line st1 (by omega) hf hcell
  have hbl : (between wd f l).length = steps wd f l + 1 := by unfold between; simp
  refine ⟨by omega, fun z => by rw [z] at hbl; simp at hbl, fun c hc => ?_⟩
  unfold between at hc
  obtain ⟨i, hi, rfl⟩ := List.mem_map.mp hc
  have := (hpath i (by have := List.mem_range.mp hi; omega)).1
  exact cellAt_lt this
section
variable {P : Program} {w : World} {K : PySem.W.Frag} {mg : Str → Option Value} {base : Heap}
def spNumberOf (C : Addr) : Sp := fun vs H Q _ => ∃ (p dx lw : Addr) (fs : List (Str × V)) (ws : List (List Nat)) (x : List Nat), vs = [.ref p, .str (S x)] ∧ H p = some (.ins C dx fs) ∧ fs.lookup ("words" : Str) = some (.ref lw) ∧ H lw = some (.lst (sv ws)) ∧ x.length ≤ 1000 ∧
  ∀ H', Same H H' → Q (.int ((numOf ws x : Nat) : Int)) H'
theorem scNumberOf : FnScope ["self", "text", "turned", "number", "word"] ["self", "text"] (defScope sNumberOf) := ⟨rfl, rfl, rfl, by decide +kernel, rfl, by decide +kernel, by decide +kernel⟩
theorem findIdx_hit {α : Type} {q : α → Bool} {l : List α} {i : Nat} {x : α} (h : l[i]? = some x) (hx : q x = true) (hp : ∀ j, j < i → ∀ y, l[j]? = some y → q y = false) : l.findIdx q = i := by
  obtain ⟨hi, e⟩ := List.getElem?_eq_some_iff.mp h
  rw [List.findIdx_eq hi]
  refine ⟨by rw [e, hx], fun j hj => ?_⟩
  rw [hp j hj _ (List.getElem?_eq_getElem (by omega))]
theorem findIdx_none {α : Type} {q : α → Bool} {l : List α} (hp : ∀ j, j < l.length → ∀ y, l[j]? = some y → q y = false) : ¬ l.findIdx q < l.length := by
  intro h
  have z := List.findIdx_getElem (p := q) (w := h)
  rw [hp _ h _ (List.getElem?_eq_getElem h)] at z
  cases z
theorem ok_numberOf {f C : Addr} {fd : FuncData} (F : Fun K "number_of" "Puzzle.number_of" sNumberOf f fd) (T : PTxt K C) (T4 : Cst4 mg) (C1 : Cal P w K mg base 1 "backwards" ["word"] spBackwards) : FnOk P w K mg base CX0 2 f fd ["self", "text"] (spNumberOf C) := by
  refine F.ok scNumberOf (fun vs H Q E h => ?_) (fun cdv A outer s H vs Q E hr h => ?_)
  · obtain ⟨p, dx, lw, fs, ws, x, rfl, _⟩ := h
    rfl
  · obtain ⟨p, dx, lw, fs, ws, x, rfl, hp, hfs, hlw, hx, k⟩ := h
    refine ⟨_, pss_cons (ps_set (i := 2) scNumberOf.nd rfl (Or.inl rfl) (pe_cal C1 hr rfl (pa_cons (pv 1) pa_nil)))
      (pss_cons (ps_for PassesOwn.never rfl (pi_enum rfl T4.enumerate (pa_cons (pe_fld (pv 0) rfl) pa_nil)) (pg_tup rfl (pgs_cons (pg_name (i := 3) scNumberOf.nd rfl (Or.inl rfl)) (pgs_cons (pg_name (i := 4) scNumberOf.nd rfl (Or.inl rfl)) pgs_nil)))
        (pss_one (ps_if (PW.pt (pw_or (pt_cmpR op_eq (pv 4) (pv 1) (nomark _)) (pw_or1 (pt_cmpR op_eq (pv 4) (pv 2) (nomark _))))) (pss_one (ps_ret (pv 3))) pss_nil)))
      (pss_one (ps_ret (pe_gv rfl T4.word)))), ?_⟩
    refine ⟨_, rfl, x, rfl, hx, fun H1 s1 => ?_⟩
    refine ⟨_, rfl, p, C, dx, fs, _, rfl, s1 _ _ hp, T.cl, T.nW, hfs, lw, _, rfl, SqL.of (s1 _ _ hlw), for_it (n := ws.length) (fun i σ H' => ∃ v3 v4 : Option V, σ = [some (.ref p), some (.str (S x)), some (.str (S x.reverse)), v3, v4] ∧ Same H H' ∧ ∀ j, j < i → ∀ y, ws[j]? = some y → (y == x || y == x.reverse) = false)
      ⟨none, none, rfl, s1, fun j hj => absurd hj (by omega)⟩ ?_ ?_ ?_ ?_⟩
    · rintro i σ H' hi ⟨v3, v4, rfl, q, _⟩
      exact ⟨_, _, SqL.of (q _ _ hlw), List.getElem?_eq_getElem (by rw [sv_len]; exact hi)⟩
    · rintro σ H' ⟨v3, v4, rfl, q, _⟩
      exact ⟨_, SqL.of (q _ _ hlw), by rw [sv_len]; exact Nat.le_refl _⟩
    · rintro i v σ H' H2 hi ⟨v3, v4, rfl, q, hno⟩ ⟨t, y, rfl, ht, rfl, hy⟩
      obtain ⟨z, hz, rfl⟩ := sv_get (hy _ (SqL.of (q _ _ hlw)))
      have q2 : Same H (upd H' t (.tup [.int ((i : Nat) : Int), .str (S z)])) := same_new q (q.free ht)
      have hit : (z == x || z == x.reverse) = true → (numOf ws x : Nat) = i := fun e => by
        unfold numOf
        rw [findIdx_hit (q := fun y => y == x || y == x.reverse) hz e hno, if_pos hi]
      refine ⟨t, _, rfl, SqT.of upd_same, rfl, _, _, rfl, _, _, rfl, rfl, ?_⟩
      refine ⟨_, rfl, _, rfl, rfl, _, rfl, ite2 (fun c => ?_) (fun c => ?_)⟩
      · have c' := of_decide_eq_true c
        injection c' with c'
        have e : (z == x || z == x.reverse) = true := by rw [S_inj c']; simp
        have := k _ q2
        rw [hit e] at this
        exact iteT ⟨_, rfl, this⟩
      · have c1 : z ≠ x := fun e => c (by rw [e]; exact decide_eq_true rfl)
        refine ⟨_, rfl, _, rfl, rfl, _, rfl, ite2 (fun d => ?_) (fun d => ?_)⟩
        · have d' := of_decide_eq_true d
          injection d' with d'
          have e : (z == x || z == x.reverse) = true := by rw [S_inj d']; simp
          have := k _ q2
          rw [hit e] at this
          exact ⟨_, rfl, this⟩
        · have d1 : z ≠ x.reverse := fun e => d (by rw [e]; exact decide_eq_true rfl)
          refine ⟨_, _, rfl, q2, fun j hj y hjy => ?_⟩
          by_cases e : j = i
          · subst e
            rw [hz] at hjy
            cases hjy
            rw [beq_eq_false_iff_ne.mpr c1, beq_eq_false_iff_ne.mpr d1]
            rfl
          · exact hno j (by omega) y hjy
    · rintro σ H' ⟨v3, v4, rfl, q, hno⟩
      have := k H' q
      unfold numOf at this
      rw [if_neg (findIdx_none hno)] at this
      exact this
def spGuess (CB C : Addr) : Sp := fun vs H Q _ => ∃ (Hf : Hp) (p dx : Addr) (a : Ks333.Abs) (who fi la : Nat), vs = [.ref p, .int (who : Int), .int (fi : Int), .int (la : Int)] ∧ PuzAt CB C Hf H p dx a ∧ Does CB C Hf p dx (Ks333.act a (.guess who fi la)) Q
theorem scGuess : FnScope ["self", "who", "first", "last", "path", "number"] ["self", "who", "first", "last"] (defScope sGuess) := ⟨rfl, rfl, rfl, by decide +kernel, rfl, by decide +kernel, by decide +kernel⟩
theorem act_guess_on {a : Ks333.Abs} {who b e : Nat} (h : a.on = true) (h2 : ¬ (Ks333.PLAYERS ≤ who ∨ a.grid.cells.length ≤ b ∨ a.grid.cells.length ≤ e)) : Ks333.act a (.guess who b e) = match Ks333.lettersOf a.grid b e with
      | none => (a, Ks333.no (-71))
      | some w => match Ks333.whichWord a w with
        | none => ({ a with wrong := a.wrong.set who (min Ks333.WRONG (a.wrong.getD who 0 + 1)) }, Ks333.no 255)
        | some i => if Ks333.found a i then (a, Ks333.no (-17)) else ({ a with by_ := a.by_.set i (who + 1) }, Ks333.no i) := by
  show (if a.on = false then _ else if Ks333.PLAYERS ≤ who ∨ a.grid.cells.length ≤ b ∨ a.grid.cells.length ≤ e then _ else _) = _
  rw [if_neg (by rw [h]; decide), if_neg h2]
  rfl
theorem ok_guess {f CB C : Addr} {fd : FuncData} (F : Fun K "guess" "Puzzle.guess" sGuess f fd) (T : PTxt K C) (B : BTxt K CB) (T4 : Cst4 mg) (C1 : Cal P w K mg base 1 "path_between" ["board", "first", "last"] (spPathBetween CB)) (C2 : Cal P w K mg base 1 "read_path" ["letters", "path"] (spReadPath K))
    (M1 : Mth P w K mg base 2 C "number_of" ["self", "text"] (spNumberOf C)) : FnOk P w K mg base CX0 3 f fd ["self", "who", "first", "last"] (spGuess CB C) := by
  refine F.ok scGuess (fun vs H Q E h => ?_) (fun cdv A outer s H vs Q E hr h => ?_)
  · obtain ⟨Hf, p, dx, a, who, fi, la, rfl, _⟩ := h
    rfl
  · obtain ⟨Hf, p, dx, a, who, fi, la, rfl, hp, k⟩ := h
    have hr1 : Room 1 _ := hr.mono (by decide)
    have sz : 100000 < sizeLine := by decide
    obtain ⟨vb, lc, lw, lf, lg, O⟩ := hp.opened
    refine ⟨_, pss_cons (ps_if (pt_cmpR op_isN (pe_fld (pv 0) rfl) pe_non (nomark _)) (pss_one (ps_ret (pe_lst (pa_cons (pe_gv rfl T4.square) pa_nil)))) pss_nil)
      (pss_cons (ps_if (PW.pt (pw_or (pt_cmpR op_ge (pv 1) (pe_gv rfl T4.players) (nomark _)) (pw_or (pt_cmpR op_ge (pv 2) (pe_fld (pe_fld (pv 0) rfl) rfl) (nomark _)) (pw_or1 (pt_cmpR op_ge (pv 3) (pe_fld (pe_fld (pv 0) rfl) rfl) (nomark _)))))) (pss_one (ps_ret (pe_lst (pa_cons (pe_gv rfl T4.range) pa_nil)))) pss_nil)
      (pss_cons (ps_set (i := 4) scGuess.nd rfl (Or.inl rfl) (pe_cal C1 hr1 rfl (pa_cons (pe_fld (pv 0) rfl) (pa_cons (pv 2) (pa_cons (pv 3) pa_nil)))))
      (pss_cons (ps_if (pt_cmpR op_eq (pe_callB call_len_seq (by rfl) T4.len PySem.boot_len (pa_cons (pv 4) pa_nil)) pe_int (nomark _)) (pss_one (ps_ret (pe_lst (pa_cons (pe_gv rfl T4.line) pa_nil)))) pss_nil)
      (pss_cons (ps_set (i := 5) scGuess.nd rfl (Or.inl rfl) (pe_mth M1 hr T.cl (pv 0) (pa_cons (pe_cal C2 hr1 rfl (pa_cons (pe_fld (pv 0) rfl) (pa_cons (pv 4) pa_nil))) pa_nil)))
      (pss_cons (ps_if (pt_cmpR op_eq (pv 5) (pe_gv rfl T4.word) (nomark _)) (pss_cons (ps_asg (pe_callB (call_min2 rfl) (by rfl) T4.min PyProof.Rows.boot_min (pa_cons (pe_op op_add (pe_ix ix_list (pe_fld (pv 0) rfl) (pv 1) (fun _ _ => rfl)) pe_int) (pa_cons (pe_gv rfl T4.wrong) pa_nil))) (pg_sub (pe_fld (pv 0) rfl) (pv 1) set_list))
          (pss_one (ps_ret (pe_lst (pa_cons (pe_gv rfl T4.word) pa_nil))))) pss_nil)
      (pss_cons (ps_if (pt_cmpR op_notN (pe_ix ix_list (pe_fld (pv 0) rfl) (pv 5) (fun _ _ => rfl)) pe_non (nomark _)) (pss_one (ps_ret (pe_lst (pa_cons (pe_gv rfl T4.found) pa_nil)))) pss_nil)
      (pss_cons (ps_asg (pv 1) (pg_sub (pe_fld (pv 0) rfl) (pv 5) set_list))
      (pss_one (ps_ret (pe_lst (pa_cons (pv 5) pa_nil))))))))))), ?_⟩
    refine ⟨_, rfl, p, C, dx, _, _, rfl, O.obj, T.cl, T.nB, rfl, rfl, _, rfl, ?_⟩
    rcases O.st with ⟨rfl, h0⟩ | ⟨b, wd, hg, rfl, hB, sq, hla, hlw, hok, hri, hby, few⟩
    · have ek : Ks333.act a (.guess who fi la) = (a, Ks333.no (-61)) := if_pos (off_of h0)
      rw [ek] at k
      exact iteT ⟨(by show 1 ≤ sizeLine; decide), fun L hL => k.one hp hL⟩
    · refine iteF ?_
      have hon := on_of sq
      obtain ⟨dxb, R, Tk, ras, hb, _⟩ := id hB
      have bad : (Ks333.PLAYERS ≤ who ∨ a.grid.cells.length ≤ fi ∨ a.grid.cells.length ≤ la) → 1 ≤ sizeLine ∧ ∀ L, H L = none → Q (.ref L) (upd H L (.lst [.int (-22)])) := fun z => by
        have ek : Ks333.act a (.guess who fi la) = (a, Ks333.no (-22)) := by
          show (if a.on = false then _ else if Ks333.PLAYERS ≤ who ∨ a.grid.cells.length ≤ fi ∨ a.grid.cells.length ≤ la then _ else _) = _
          rw [if_neg (by rw [hon]; decide), if_pos z]
        rw [ek] at k
        exact ⟨(by show 1 ≤ sizeLine; decide), fun L hL => k.one hp hL⟩
      have hlen := sq.len
      refine ⟨_, rfl, _, _, rfl, rfl, _, rfl, ite2 (fun c => ?_) (fun c => ?_)⟩
      · have c' := of_decide_eq_true c
        exact iteT (bad (.inl (show 4 ≤ who by omega)))
      · have c' : ¬ (4 : Int) ≤ (who : Int) := fun z => c (decide_eq_true z)
        refine ⟨_, rfl, _, rfl, p, C, dx, _, _, rfl, O.obj, T.cl, T.nB, rfl, b, CB, dxb, _, _, rfl, hb, B.cl, B.nS, rfl, _, _, rfl, rfl, _, rfl, ite2 (fun d => ?_) (fun d => ?_)⟩
        · have d' := of_decide_eq_true d
          exact iteT (bad (.inr (.inl (by omega))))
        · have d' : ¬ ((wd * hg : Nat) : Int) ≤ (fi : Int) := fun z => d (decide_eq_true z)
          refine ⟨_, rfl, _, rfl, p, C, dx, _, _, rfl, O.obj, T.cl, T.nB, rfl, b, CB, dxb, _, _, rfl, hb, B.cl, B.nS, rfl, _, _, rfl, rfl, _, rfl, ite2 (fun e => ?_) (fun e => ?_)⟩
          · have e' := of_decide_eq_true e
            exact bad (.inr (.inr (by omega)))
          · have e' : ¬ ((wd * hg : Nat) : Int) ≤ (la : Int) := fun z => e (decide_eq_true z)
            have hfi : fi < wd * hg := by omega
            have hlai : la < wd * hg := by omega
            rw [act_guess_on hon (show ¬ (Ks333.PLAYERS ≤ who ∨ a.grid.cells.length ≤ fi ∨ a.grid.cells.length ≤ la) from fun z => by
              rcases z with z | z | z
              · exact absurd (show 4 ≤ who from z) (by omega)
              · omega
              · omega)] at k
            have hlo : Ks333.lettersOf a.grid fi la = if inLine wd fi la = true then some ((between wd fi la).map fun c => a.grid.cells.getD c 0) else none := by
              have := lettersOf_line (g := a.grid) (h := hg) (b := fi) (e := la) (by rw [sq.wide]; have := sq.w2; omega) (by rw [sq.wide]; exact sq.w8) sq.h8 sq.high (by rw [sq.wide]; exact hfi) (by rw [sq.wide]; exact hlai)
              rw [sq.wide] at this
              exact this
            rw [hlo] at k
            refine ⟨_, rfl, p, C, dx, _, _, rfl, O.obj, T.cl, T.nB, rfl, _, rfl, _, rfl, b, wd, hg, fi, la, rfl, hB, sq.w2, sq.w8, sq.h2, sq.h8, hfi, hlai, fun H1 L s1 hL => ?_⟩
            by_cases hin : inLine wd fi la = true
            · rw [if_pos hin] at hL k
              obtain ⟨b1, b2, b3⟩ := between_lt sq.w2 sq.w8 sq.h8 hfi hlai hin
              have hne : ¬ V.int (((iv (between wd fi la)).length : Nat) : Int) = V.int 0 := fun z => by
                injection z with z
                rw [iv_len] at z
                exact b2 (List.length_eq_zero_iff.mp (by omega))
              refine ⟨_, rfl, L, _, rfl, .inl (SqL.of hL), rfl, _, rfl, ite2 (fun z => absurd (of_decide_eq_true z) hne) (fun _ => ?_)⟩
              refine ⟨_, rfl, p, dx, _, rfl, s1 _ _ O.obj, rfl, _, rfl, p, C, dx, _, _, rfl, s1 _ _ O.obj, T.cl, T.nL, rfl, _, rfl, lc, L, a.grid.cells, between wd fi la, rfl, SqL.of (s1 _ _ hla), SqL.of hL, by omega, fun c hc => by rw [hlen]; exact b3 c hc, fun H2 s2 => ?_⟩
              have s12 := s1.trans s2
              generalize hx : (between wd fi la).map (fun c => a.grid.cells.getD c 0) = x at k ⊢
              have hxl : x.length ≤ 9 := by rw [← hx, List.length_map]; exact b1
              refine ⟨p, dx, lw, _, a.words, x, rfl, s12 _ _ O.obj, rfl, s12 _ _ hlw, by omega, fun H3 s3 => ?_⟩
              have s13 := s12.trans s3
              by_cases hi : a.words.findIdx (fun y => y == x || y == x.reverse) < a.words.length
              · have hw : Ks333.whichWord a x = some (a.words.findIdx (fun y => y == x || y == x.reverse)) := if_pos hi
                have hn : numOf a.words x = a.words.findIdx (fun y => y == x || y == x.reverse) := if_pos hi
                rw [hn]
                simp only [hw] at k
                generalize a.words.findIdx (fun y => y == x || y == x.reverse) = i at *
                have hib : i < a.by_.length := by omega
                have hgb := List.getElem?_eq_getElem hib
                generalize a.by_[i] = kk at hgb
                have hgD : a.by_.getD i 0 = kk := by rw [List.getD_eq_getElem?_getD, hgb]; rfl
                have hn255 : ¬ V.int ((i : Nat) : Int) = V.int 255 := fun z => by
                  injection z with z
                  omega
                refine ⟨_, rfl, rfl, _, rfl, ite2 (fun z => absurd (of_decide_eq_true z) hn255) (fun _ => ?_)⟩
                refine ⟨_, rfl, p, C, dx, _, _, rfl, s13 _ _ O.obj, T.cl, T.nF, rfl, _, rfl, lf, _, _, _, rfl, rfl, SqL.of (s13 _ _ O.lf_), atI_nat (fv_get hgb), rfl, _, rfl, ?_⟩
                by_cases hk : kk = 0
                · have hf : Ks333.found a i = false := by
                    unfold Ks333.found
                    rw [hgD, hk]
                    rfl
                  rw [hf, if_neg (by decide)] at k
                  rw [if_pos hk]
                  refine iteF ⟨_, rfl, _, rfl, p, C, dx, _, _, rfl, s13 _ _ O.obj, T.cl, T.nF, rfl, _, rfl, lf, _, _, i, rfl, rfl, s13 _ _ O.lf_, ixN_nat' (by rw [fv_len]; exact hib), ?_⟩
                  rw [fv_set]
                  have hp4 := O.toF H3 i who s13
                  exact ⟨_, rfl, (by show 1 ≤ sizeLine; decide), fun L' hL' => k.one hp4 hL'⟩
                · have hf : Ks333.found a i = true := by
                    unfold Ks333.found
                    rw [hgD]
                    exact bne_iff_ne.mpr hk
                  rw [hf, if_pos rfl] at k
                  rw [if_neg hk]
                  exact iteT ⟨(by show 1 ≤ sizeLine; decide), fun L' hL' => k.one (hp.same s13) hL'⟩
              · have hw : Ks333.whichWord a x = none := if_neg hi
                have hn : numOf a.words x = 255 := if_neg hi
                rw [hn]
                simp only [hw] at k
                have h4 : who < a.wrong.length := by rw [O.four]; omega
                have hgw := List.getElem?_eq_getElem h4
                generalize hm : a.wrong[who] = m at hgw
                have hgD : a.wrong.getD who 0 = m := by rw [List.getD_eq_getElem?_getD, hgw]; rfl
                have hmM : m ≤ 1000000 := O.most m (by rw [← hm]; exact List.getElem_mem h4)
                have hiv : (iv a.wrong)[who]? = some (V.int (m : Int)) := by unfold iv; rw [List.getElem?_map, hgw]; rfl
                refine ⟨_, rfl, rfl, _, rfl, iteT ?_⟩
                refine ⟨_, rfl, p, C, dx, _, _, rfl, s13 _ _ O.obj, T.cl, T.nG, rfl, _, rfl, lg, _, _, _, rfl, rfl, SqL.of (s13 _ _ O.lg_), atI_nat hiv, _, _, rfl, rfl, _, _, rfl, _, rfl, p, C, dx, _, _, rfl, s13 _ _ O.obj, T.cl, T.nG, rfl, _, rfl, lg, _, _, who, rfl, rfl, s13 _ _ O.lg_, ixN_nat' (by rw [iv_len]; exact h4), ?_⟩
                have em : (if (1000000 : Int) < (m : Int) + 1 then (1000000 : Int) else (m : Int) + 1) = ((min 1000000 (m + 1) : Nat) : Int) := by
                  split <;> omega
                rw [em, iv_set]
                have hp4 := O.toG H3 who (min 1000000 (m + 1)) s13 (Nat.min_le_left _ _)
                rw [hgD] at k
                exact ⟨(by show 1 ≤ sizeLine; decide), fun L' hL' => k.one hp4 hL'⟩
            · rw [if_neg hin] at hL k
              refine ⟨_, rfl, L, _, rfl, .inl (SqL.of hL), rfl, _, rfl, iteT ⟨(by show 1 ≤ sizeLine; decide), fun L' hL' => k.one (hp.same s1) hL'⟩⟩
end
end HW
end
section
set_option Elab.async false
set_option linter.all false
set_option maxRecDepth 100000
set_option maxHeartbeats 4000000
namespace HW
open PySem PySem.Spec PyProof.Rows L2 HX
structure Cst5 (mg : Str → Option Value) : Prop where
  zip : mg "zip" = none
  ord : mg "ord" = none
  load : Gv mg "LOAD" (.int 0)
  make : Gv mg "MAKE" (.int 1)
  guess : Gv mg "GUESS" (.int 2)
  hint : Gv mg "HINT" (.int 3)
  rest : Gv mg "REST" (.int 4)
  left : Gv mg "LEFT" (.int 5)
  tell : Gv mg "TELL" (.int 6)
  score : Gv mg "SCORE" (.int 7)
def unf (b : List Nat) (n : Nat) : List Nat := (List.range n).filter fun i => b.getD i 0 == 0
theorem unf_len (b : List Nat) (n : Nat) : (unf b n).length ≤ n := by
  unfold unf
  have := List.length_filter_le (fun i => b.getD i 0 == 0) (List.range n)
  rw [List.length_range] at this
  exact this
theorem unf_succ {b : List Nat} {n k : Nat} (h : b[n]? = some k) : unf b (n + 1) = unf b n ++ if k = 0 then [n] else [] := by
  unfold unf
  rw [List.range_succ, List.filter_append, List.filter_cons, List.filter_nil, List.getD_eq_getElem?_getD, h]
  by_cases e : k = 0
  · rw [if_pos e, if_pos (by simp [e])]
  · rw [if_neg e, if_neg (by simp [e])]
theorem unf_spec {a : Ks333.Abs} (n : Nat) : (List.range n).filter (fun i => !Ks333.found a i) = unf a.by_ n := by
  unfold unf Ks333.found
  congr 1
  funext i
  show (!!(a.by_.getD i 0 == 0)) = _
  rw [Bool.not_not]
theorem zv_iv (l : List Nat) : zv (Ks333Neutral.ints l) = iv l := by
  unfold zv Ks333Neutral.ints iv
  rw [List.map_map]
  rfl
section
variable {P : Program} {w : World} {K : PySem.W.Frag} {mg : Str → Option Value} {base : Heap}
def spUnfound (C : Addr) : Sp := fun vs H Q _ => ∃ (p dx lf : Addr) (fs : List (Str × V)) (b : List Nat), vs = [.ref p] ∧ H p = some (.ins C dx fs) ∧ fs.lookup ("finders" : Str) = some (.ref lf) ∧ H lf = some (.lst (fv b)) ∧ b.length ≤ 12 ∧
  ∀ H' L, Same H H' → H' L = some (.lst (iv (unf b b.length))) → Q (.ref L) H'
theorem scUnfound : FnScope ["self", "number", "finder"] ["self"] (defScope sUnfound) := ⟨rfl, rfl, rfl, by decide +kernel, rfl, by decide +kernel, by decide +kernel⟩
theorem ok_unfound {f C : Addr} {fd : FuncData} (F : Fun K "unfound" "Puzzle.unfound" sUnfound f fd) (T : PTxt K C) (T4 : Cst4 mg) : FnOk P w K mg base CX0 1 f fd ["self"] (spUnfound C) := by
  refine F.ok scUnfound (fun vs H Q E h => ?_) (fun cdv A outer s H vs Q E hr h => ?_)
  · obtain ⟨p, dx, lf, fs, b, rfl, _⟩ := h
    rfl
  · obtain ⟨p, dx, lf, fs, b, rfl, hp, hfs, hlf, h12, k⟩ := h
    have sz : 100000 < sizeLine := by decide
    refine ⟨_, pss_one (ps_ret (pe_lc (g := gTup K 2 (gCons (gName 1) (gCons (gName 2) gNil))) (own := [("number", 1), ("finder", 2)]) rfl scUnfound.nd (pi_enum rfl T4.enumerate (pa_cons (pe_fld (pv 0) rfl) pa_nil)) (blkOk_by rfl)
        (fun s H C cl fp => pg_tup rfl (pgs_cons (pg_name (i := 1) scUnfound.nd rfl (Or.inl rfl)) (pgs_cons (pg_name (i := 2) scUnfound.nd rfl (Or.inl rfl)) pgs_nil)))
        (fun s H C cl fp => pts_one (pt_cmpR op_isN (pv 2) pe_non (nomark _))) (fun s H C cl fp => pv 1))), ?_⟩
    refine ⟨_, rfl, p, C, dx, fs, _, rfl, hp, T.cl, T.nF, hfs, lf, _, rfl, SqL.of hlf, fun D hD => lc_it (n := b.length) (fun i H' => Same H H' ∧ H' D = some (.lst (iv (unf b i)))) ⟨same_new (Same.refl H) hD, upd_same⟩ (fun i H' hi q => ?_) (fun H' q => ?_) (fun i x H' H2 hi q y => ?_) (fun H' q => ?_)⟩
    · exact ⟨_, _, SqL.of (q.1 _ _ hlf), List.getElem?_eq_getElem (by rw [fv_len]; exact hi)⟩
    · exact ⟨_, SqL.of (q.1 _ _ hlf), by rw [fv_len]; exact Nat.le_refl _⟩
    · obtain ⟨q1, q2⟩ := q
      obtain ⟨t, y, rfl, ht, rfl, hy⟩ := y
      have hk := List.getElem?_eq_getElem hi
      generalize b[i] = kk at hk
      have hy' := hy _ (SqL.of (q1 _ _ hlf))
      rw [fv_get hk] at hy'
      cases hy'
      have s2 : Same H (upd H' t (.tup [.int ((i : Nat) : Int), if kk = 0 then V.non else V.int ((kk : Int) - 1)])) := same_new q1 (q1.free ht)
      have nDt : D ≠ t := ne_of_none q2 ht
      refine ⟨t, _, rfl, SqT.of upd_same, rfl, _, _, rfl, _, _, rfl, rfl, rfl, _, rfl, rfl, _, rfl, ite2 (fun c => ?_) (fun c => ?_)⟩
      · have c' := of_decide_eq_true c
        have k0 : kk = 0 := by
          by_cases z : kk = 0
          · exact z
          · rw [if_neg z] at c'; cases c'
        refine ⟨_, rfl, _, by rw [upd_ne nDt]; exact q2, ?_, same_new s2 hD, ?_⟩
        · rw [iv_len]
          have := unf_len b i
          omega
        · rw [upd_same, unf_succ hk, if_pos k0]
          simp [iv]
      · have k0 : kk ≠ 0 := fun z => c (by rw [if_pos z]; exact decide_eq_true rfl)
        refine ⟨s2, ?_⟩
        rw [upd_ne nDt, q2, unf_succ hk, if_neg k0, List.append_nil]
    · exact k H' D q.1 q.2
def spLeft (CB C : Addr) : Sp := fun vs H Q _ => ∃ (Hf : Hp) (p dx : Addr) (a : Ks333.Abs), vs = [.ref p] ∧ PuzAt CB C Hf H p dx a ∧ Does CB C Hf p dx (Ks333.act a .left) Q
theorem scLeft : FnScope ["self", "numbers"] ["self"] (defScope sLeft) := ⟨rfl, rfl, rfl, by decide +kernel, rfl, by decide +kernel, by decide +kernel⟩
theorem ok_left {f CB C : Addr} {fd : FuncData} (F : Fun K "left" "Puzzle.left" sLeft f fd) (T : PTxt K C) (T4 : Cst4 mg) (M1 : Mth P w K mg base 1 C "unfound" ["self"] (spUnfound C)) : FnOk P w K mg base CX0 2 f fd ["self"] (spLeft CB C) := by
  refine F.ok scLeft (fun vs H Q E h => ?_) (fun cdv A outer s H vs Q E hr h => ?_)
  · obtain ⟨Hf, p, dx, a, rfl, _⟩ := h
    rfl
  · obtain ⟨Hf, p, dx, a, rfl, hp, k⟩ := h
    have sz : 100000 < sizeLine := by decide
    obtain ⟨vb, lc, lw, lf, lg, O⟩ := hp.opened
    refine ⟨_, pss_cons (ps_if (pt_cmpR op_isN (pe_fld (pv 0) rfl) pe_non (nomark _)) (pss_one (ps_ret (pe_lst (pa_cons (pe_gv rfl T4.square) pa_nil)))) pss_nil)
      (pss_cons (ps_set (i := 1) scLeft.nd rfl (Or.inl rfl) (pe_mth0 M1 hr T.cl (pv 0)))
      (pss_one (ps_ret (pe_op op_cat (pe_lst (pa_cons (pe_callB call_len_seq (by rfl) T4.len PySem.boot_len (pa_cons (pv 1) pa_nil)) pa_nil)) (pv 1))))), ?_⟩
    refine ⟨_, rfl, p, C, dx, _, _, rfl, O.obj, T.cl, T.nB, rfl, rfl, _, rfl, ?_⟩
    rcases O.st with ⟨rfl, h0⟩ | ⟨b, wd, hg, rfl, hB, sq, hla, hlw, hok, hri, hby, few⟩
    · have ek : Ks333.act a .left = (a, Ks333.no (-61)) := if_pos (off_of h0)
      rw [ek] at k
      exact iteT ⟨(by show 1 ≤ sizeLine; decide), fun L hL => k.one hp hL⟩
    · have ek : Ks333.act a .left = (a, { ret := ((unf a.by_ a.words.length).length : Nat), out := unf a.by_ a.words.length }) := by
        show (if a.on = false then _ else _) = _
        rw [if_neg (by rw [on_of sq]; decide), unf_spec]
      rw [ek] at k
      refine iteF ⟨_, rfl, p, dx, _, rfl, O.obj, rfl, p, dx, lf, _, a.by_, rfl, O.obj, rfl, O.lf_, by omega, fun H1 L s1 hL => ?_⟩
      rw [hby] at hL
      have hul := unf_len a.by_ a.words.length
      refine ⟨_, rfl, L, _, rfl, .inl (SqL.of hL), (by show 1 ≤ sizeLine; decide), fun L1 hL1 => ?_⟩
      have s2 := same_new (o := .lst [.int (((iv (unf a.by_ a.words.length)).length : Nat) : Int)]) s1 (s1.free hL1)
      refine ⟨_, rfl, L1, L, _, _, rfl, rfl, upd_same, by rw [upd_ne (ne_of_none hL hL1)]; exact hL, ?_, fun L2 hL2 => ?_⟩
      · rw [iv_len]
        show 1 + _ ≤ _
        omega
      · refine k _ L2 ((hp.same s2).same (same_new (Same.refl _) hL2)) ?_ ((hp.same s2).frame.free hL2)
        rw [upd_same, iv_len]
        show some (HO.lst (V.int _ :: iv _)) = some (HO.lst (V.int _ :: zv (Ks333Neutral.ints _)))
        rw [zv_iv]
def spBytesOf (K : PySem.W.Frag) : Sp := fun vs H Q _ => ∃ (la : Addr) (cells : List Nat), vs = [.ref la] ∧ SqL K H la (ov cells) ∧ cells.length ≤ 30000 ∧ ∀ H' L, Same H H' → H' L = some (.lst (iv cells)) → Q (.ref L) H'
theorem scBytesOf : FnScope ["letters", "letter"] ["letters"] (defScope sBytesOf) := ⟨rfl, rfl, rfl, by decide +kernel, rfl, by decide +kernel, by decide +kernel⟩
theorem ov_get {l : List Nat} {i : Nat} {x : V} (h : (ov l)[i]? = some x) : ∃ n, l[i]? = some n ∧ x = V.str (S [n]) := by
  unfold ov at h
  rw [List.getElem?_map] at h
  cases e : l[i]? with
  | none => rw [e] at h; cases h
  | some n => rw [e] at h; exact ⟨n, rfl, (Option.some.inj h).symm⟩
theorem ok_bytesOf {f : Addr} {fd : FuncData} (F : Fun K "bytes_of" "bytes_of" sBytesOf f fd) (T5 : Cst5 mg) : FnOk P w K mg base CX0 1 f fd ["letters"] (spBytesOf K) := by
  refine F.ok scBytesOf (fun vs H Q E h => ?_) (fun cdv A outer s H vs Q E hr h => ?_)
  · obtain ⟨la, cells, rfl, _⟩ := h
    rfl
  · obtain ⟨la, cells, rfl, hla, hl, k⟩ := h
    have sz : 100000 < sizeLine := by decide
    refine ⟨_, pss_one (ps_ret (pe_lc (own := [("letter", 1)]) rfl scBytesOf.nd (pi_list (pv 0)) (blkOk_by rfl)
        (fun s H C cl fp => pg_name (i := 1) scBytesOf.nd rfl (Or.inl rfl)) (fun s H C cl fp => pts_nil) (fun s H C cl fp => pe_callB call_ord (by rfl) T5.ord PyProof.Rows.boot_ord (pa_cons (pv 1) pa_nil)))), ?_⟩
    have hz : (iv cells).length ≤ sizeLine := by rw [iv_len]; omega
    refine ⟨_, rfl, la, rfl, ⟨_, hla⟩, fun D hD => lc_map (ys := iv cells) hD hla (by rw [iv_len, ov_len]) (fun i x H2 hxi p => ?_) (fun H2 s2 p2 => ?_)⟩
    · obtain ⟨n, hn, rfl⟩ := ov_get hxi
      refine ⟨rfl, _, rfl, _, rfl, by rw [S_len]; rfl, ?_⟩
      exact p.fin hD hz (Same.refl _) (by unfold iv; rw [List.getElem?_map, hn]; rfl)
    · exact k H2 D s2 p2
def spTell (CB C : Addr) : Sp := fun vs H Q _ => ∃ (Hf : Hp) (p dx : Addr) (a : Ks333.Abs), vs = [.ref p] ∧ PuzAt CB C Hf H p dx a ∧ Does CB C Hf p dx (Ks333.act a .tell) Q
theorem scTell : FnScope ["self"] ["self"] (defScope sTell) := ⟨rfl, rfl, rfl, by decide +kernel, rfl, by decide +kernel, by decide +kernel⟩
theorem ok_tell {f CB C : Addr} {fd : FuncData} (F : Fun K "tell" "Puzzle.tell" sTell f fd) (T : PTxt K C) (B : BTxt K CB) (T4 : Cst4 mg) (C1 : Cal P w K mg base 1 "bytes_of" ["letters"] (spBytesOf K)) : FnOk P w K mg base CX0 2 f fd ["self"] (spTell CB C) := by
  refine F.ok scTell (fun vs H Q E h => ?_) (fun cdv A outer s H vs Q E hr h => ?_)
  · obtain ⟨Hf, p, dx, a, rfl, _⟩ := h
    rfl
  · obtain ⟨Hf, p, dx, a, rfl, hp, k⟩ := h
    have sz : 100000 < sizeLine := by decide
    obtain ⟨vb, lc, lw, lf, lg, O⟩ := hp.opened
    refine ⟨_, pss_cons (ps_if (pt_cmpR op_isN (pe_fld (pv 0) rfl) pe_non (nomark _)) (pss_one (ps_ret (pe_lst (pa_cons (pe_gv rfl T4.square) pa_nil)))) pss_nil)
      (pss_one (ps_ret (pe_op op_cat (pe_lst (pa_cons (pe_fld (pe_fld (pv 0) rfl) rfl) pa_nil)) (pe_cal C1 hr rfl (pa_cons (pe_fld (pv 0) rfl) pa_nil))))), ?_⟩
    refine ⟨_, rfl, p, C, dx, _, _, rfl, O.obj, T.cl, T.nB, rfl, rfl, _, rfl, ?_⟩
    rcases O.st with ⟨rfl, h0⟩ | ⟨b, wd, hg, rfl, hB, sq, hla, hlw, hok, hri, hby, few⟩
    · have ek : Ks333.act a .tell = (a, Ks333.no (-61)) := if_pos (off_of h0)
      rw [ek] at k
      exact iteT ⟨(by show 1 ≤ sizeLine; decide), fun L hL => k.one hp hL⟩
    · have ek : Ks333.act a .tell = (a, { ret := a.grid.wide, out := a.grid.cells }) := by
        show (if a.on = false then _ else _) = _
        rw [if_neg (by rw [on_of sq]; decide)]
      rw [ek] at k
      obtain ⟨dxb, R, Tk, ras, hb, _⟩ := id hB
      have hsz := sq.size
      have hlen := sq.len
      refine iteF ⟨_, rfl, p, C, dx, _, _, rfl, O.obj, T.cl, T.nB, rfl, b, CB, dxb, _, _, rfl, hb, B.cl, B.nW, rfl, (by show 1 ≤ sizeLine; decide), fun L1 hL1 => ?_⟩
      have s1 := same_new (o := .lst [.int (wd : Int)]) (Same.refl H) hL1
      refine ⟨_, rfl, p, C, dx, _, _, rfl, s1 _ _ O.obj, T.cl, T.nL, rfl, lc, a.grid.cells, rfl, SqL.of (s1 _ _ hla), by omega, fun H2 L s2 hL => ?_⟩
      refine ⟨L1, L, _, _, rfl, rfl, s2 _ _ upd_same, hL, ?_, fun L2 hL2 => ?_⟩
      · rw [iv_len]
        show 1 + _ ≤ _
        omega
      · have hp2 := hp.same (s1.trans s2)
        refine k _ L2 (hp2.same (same_new (Same.refl _) hL2)) ?_ (hp2.frame.free hL2)
        rw [upd_same]
        show some (HO.lst (V.int _ :: iv _)) = some (HO.lst (V.int _ :: zv (Ks333Neutral.ints _)))
        rw [zv_iv, sq.wide]
def spScore (CB C : Addr) : Sp := fun vs H Q _ => ∃ (Hf : Hp) (p dx : Addr) (a : Ks333.Abs) (who : Nat), vs = [.ref p, .int (who : Int)] ∧ PuzAt CB C Hf H p dx a ∧ Does CB C Hf p dx (Ks333.act a (.score who)) Q
theorem scScore : FnScope ["self", "who"] ["self", "who"] (defScope sScore) := ⟨rfl, rfl, rfl, by decide +kernel, rfl, by decide +kernel, by decide +kernel⟩
theorem fv_flat : ∀ (l : List Nat), (fv l).all flatV = true
  | [] => rfl
  | k :: l => by
    show (flatV (if k = 0 then V.non else V.int ((k : Int) - 1)) && (fv l).all flatV) = true
    rw [fv_flat l, Bool.and_true]
    split <;> rfl
theorem fv_count (who : Nat) : ∀ (l : List Nat), (fv l).countP (fun z => eqV z (.int (who : Int))) = (l.filter fun x => x == who + 1).length
  | [] => rfl
  | k :: l => by
    show ((if k = 0 then V.non else V.int ((k : Int) - 1)) :: fv l).countP _ = _
    rw [List.countP_cons, fv_count who l, List.filter_cons]
    by_cases h : k = who + 1
    · rw [if_pos (show (k == who + 1) = true by simp [h]), if_neg (show ¬ k = 0 by omega), if_pos (show eqV (V.int ((k : Int) - 1)) (.int (who : Int)) = true by show ((k : Int) - 1 == (who : Int)) = true; rw [h]; simp)]
      rfl
    · rw [if_neg (show ¬ (k == who + 1) = true by simp [h])]
      by_cases h0 : k = 0
      · rw [if_pos h0, if_neg (show ¬ eqV V.non (.int (who : Int)) = true from fun z => by cases z), Nat.add_zero]
      · rw [if_neg h0, if_neg (show ¬ eqV (V.int ((k : Int) - 1)) (.int (who : Int)) = true from fun z => by
          have z' : ((k : Int) - 1 == (who : Int)) = true := z
          rw [beq_iff_eq] at z'
          omega), Nat.add_zero]
theorem ok_score {f CB C : Addr} {fd : FuncData} (F : Fun K "score" "Puzzle.score" sScore f fd) (T : PTxt K C) (T4 : Cst4 mg) : FnOk P w K mg base CX0 1 f fd ["self", "who"] (spScore CB C) := by
  refine F.ok scScore (fun vs H Q E h => ?_) (fun cdv A outer s H vs Q E hr h => ?_)
  · obtain ⟨Hf, p, dx, a, who, rfl, _⟩ := h
    rfl
  · obtain ⟨Hf, p, dx, a, who, rfl, hp, k⟩ := h
    have sz : 100000 < sizeLine := by decide
    obtain ⟨vb, lc, lw, lf, lg, O⟩ := hp.opened
    refine ⟨_, pss_cons (ps_if (pt_cmpR op_isN (pe_fld (pv 0) rfl) pe_non (nomark _)) (pss_one (ps_ret (pe_lst (pa_cons (pe_gv rfl T4.square) pa_nil)))) pss_nil)
      (pss_cons (ps_if (pt_cmpR op_ge (pv 1) (pe_gv rfl T4.players) (nomark _)) (pss_one (ps_ret (pe_lst (pa_cons (pe_gv rfl T4.range) pa_nil)))) pss_nil)
      (pss_one (ps_ret (pe_lst (pa_cons (pe_bm PySem.F.plainAttrs_list PySem.F.slot_list_count PySem.F.type_list_count mt_countL (pe_fld (pv 0) rfl) (pa_cons (pv 1) pa_nil)) (pa_cons (pe_ix ix_list (pe_fld (pv 0) rfl) (pv 1) (fun _ _ => rfl)) pa_nil)))))), ?_⟩
    refine ⟨_, rfl, p, C, dx, _, _, rfl, O.obj, T.cl, T.nB, rfl, rfl, _, rfl, ?_⟩
    rcases O.st with ⟨rfl, h0⟩ | ⟨b, wd, hg, rfl, hB, sq, hla, hlw, hok, hri, hby, few⟩
    · have ek : Ks333.act a (.score who) = (a, Ks333.no (-61)) := if_pos (off_of h0)
      rw [ek] at k
      exact iteT ⟨(by show 1 ≤ sizeLine; decide), fun L hL => k.one hp hL⟩
    · refine iteF ⟨_, rfl, _, _, rfl, rfl, _, rfl, ite2 (fun c => ?_) (fun c => ?_)⟩
      · have c' := of_decide_eq_true c
        have ek : Ks333.act a (.score who) = (a, Ks333.no (-22)) := by
          show (if a.on = false then _ else if Ks333.PLAYERS ≤ who then _ else _) = _
          rw [if_neg (by rw [on_of sq]; decide), if_pos (show Ks333.PLAYERS ≤ who from (by omega : 4 ≤ who))]
        rw [ek] at k
        exact ⟨(by show 1 ≤ sizeLine; decide), fun L hL => k.one hp hL⟩
      · have c' : ¬ (4 : Int) ≤ (who : Int) := fun z => c (decide_eq_true z)
        have ek : Ks333.act a (.score who) = (a, { ret := ((a.by_.filter fun x => x == who + 1).length : Nat), out := [a.wrong.getD who 0] }) := by
          show (if a.on = false then _ else if Ks333.PLAYERS ≤ who then _ else _) = _
          rw [if_neg (by rw [on_of sq]; decide), if_neg (show ¬ Ks333.PLAYERS ≤ who from (by omega : ¬ 4 ≤ who))]
        rw [ek] at k
        have h4 : who < a.wrong.length := by rw [O.four]; omega
        have hgw := List.getElem?_eq_getElem h4
        generalize hm : a.wrong[who] = m at hgw
        have hgD : a.wrong.getD who 0 = m := by rw [List.getD_eq_getElem?_getD, hgw]; rfl
        have hiv : (iv a.wrong)[who]? = some (V.int (m : Int)) := by unfold iv; rw [List.getElem?_map, hgw]; rfl
        refine ⟨_, rfl, p, C, dx, _, _, rfl, O.obj, T.cl, T.nF, rfl, ?_, _, rfl, lf, _, _, rfl, rfl, SqL.of O.lf_, rfl, fv_flat _, _, rfl, p, C, dx, _, _, rfl, O.obj, T.cl, T.nG, rfl, _, rfl, lg, _, _, _, rfl, rfl, SqL.of O.lg_, atI_nat hiv, (by show 2 ≤ sizeLine; decide), fun L hL => ?_⟩
        · exact .inl ⟨rfl, _, SqL.of O.lf_⟩
        · refine k _ L (hp.same (same_new (Same.refl H) hL)) ?_ (hp.frame.free hL)
          rw [upd_same, fv_count, hgD]
          rfl
end
end HW
end
section
set_option Elab.async false
set_option linter.all false
set_option maxRecDepth 100000
set_option maxHeartbeats 4000000
namespace HW
open PySem PySem.Spec PyProof.Rows L2 HX
/-- the dict's keys -/
def Seen (kvs : List (Key × V)) (l : List Nat) : Prop := ∀ c : Nat, (valV kvs (Sum.inl (c : Int) : Key)).isSome = true ↔ c ∈ l
theorem Seen.put {kvs : List (Key × V)} {l : List Nat} {c : Nat} {v : V} (h : Seen kvs l) : Seen (putK kvs (Sum.inl (c : Int)) v) (l ++ [c]) := fun b => by
  rw [valV_put]
  by_cases e : b = c
  · subst e
    rw [if_pos rfl]
    simp
  · rw [if_neg (fun z => e (by injection z with z; omega)), h b]
    simp [e]
theorem Seen.iff {kvs : List (Key × V)} {l l' : List Nat} (h : Seen kvs l) (e : ∀ c, c ∈ l ↔ c ∈ l') : Seen kvs l' := fun c => (h c).trans (e c)
theorem putK_len {kvs : List (Key × V)} {k : Key} {v : V} : (putK kvs k v).length ≤ kvs.length + 1 := by
  unfold putK
  split
  · rw [List.length_map]; omega
  · simp
theorem ok_lens {x : List Nat} (h : Ks331.okWord x = true) : 2 ≤ x.length ∧ x.length ≤ 8 := by
  unfold Ks331.okWord at h
  simp only [Bool.and_eq_true, decide_eq_true_iff] at h
  exact h.1
theorem first_find {n : Nat} {q : Nat → Bool} : ((List.range n).findIdx q < n → ∃ l, (List.range n).filter q = (List.range n).findIdx q :: l) ∧ (¬ (List.range n).findIdx q < n → (List.range n).filter q = []) := by
  constructor
  · intro h
    have h' : (List.range n).findIdx q < (List.range n).length := by rw [List.length_range]; exact h
    have hq := List.findIdx_getElem (p := q) (w := h')
    rw [List.getElem_range] at hq
    have hf : ((List.range n).filter q).head? = some ((List.range n).findIdx q) := by
      rw [List.head?_filter, List.find?_eq_some_iff_getElem]
      refine ⟨hq, _, h', by rw [List.getElem_range], fun j hj => ?_⟩
      have := List.not_of_lt_findIdx hj
      simpa using this
    cases e : (List.range n).filter q with
    | nil => rw [e] at hf; cases hf
    | cons a l =>
      rw [e] at hf
      cases hf
      exact ⟨l, rfl⟩
  · intro h
    rw [List.filter_eq_nil_iff]
    intro x hx hq
    exact h (by
      have := List.findIdx_lt_length_of_exists ⟨x, hx, hq⟩
      rw [List.length_range] at this
      exact this)
section
variable {P : Program} {w : World} {K : PySem.W.Frag} {mg : Str → Option Value} {base : Heap}
def spUsedCells (K : PySem.W.Frag) (C : Addr) : Sp := fun vs H Q _ => ∃ (b la lw : Addr) (wd hg : Nat) (cells : List Nat) (ws : List (List Nat)), vs = [.ref b, .ref la, .ref lw] ∧ BoardAt C H b wd hg ∧ Sq ⟨wd, cells⟩ wd hg ∧
  H la = some (.lst (ov cells)) ∧ SqL K H lw (sv ws) ∧ (∀ x ∈ ws, Ks331.okWord x = true) ∧ ws.length ≤ 12 ∧ Ks332.right ⟨wd, cells⟩ ws = true ∧ ∀ H' U kvs, Same H H' → H' U = some (.dK kvs) → Seen kvs (Ks331.used ⟨wd, cells⟩ ws) → Q (.ref U) H'
theorem scUsedCells : FnScope ["board", "letters", "words", "used", "word", "cell"] ["board", "letters", "words"] (defScope sUsedCells) := ⟨rfl, rfl, rfl, by decide +kernel, rfl, by decide +kernel, by decide +kernel⟩
theorem ok_usedCells {f C : Addr} {fd : FuncData} (F : Fun K "used_cells" "used_cells" sUsedCells f fd) (C1 : Cal P w K mg base 2 "first_path" ["board", "letters", "word"] (spFirstPath C)) : FnOk P w K mg base CX0 3 f fd ["board", "letters", "words"] (spUsedCells K C) := by
  refine F.ok scUsedCells (fun vs H Q E h => ?_) (fun cdv A outer s H vs Q E hr h => ?_)
  · obtain ⟨b, la, lw, wd, hg, cells, ws, rfl, _⟩ := h
    rfl
  · obtain ⟨b, la, lw, wd, hg, cells, ws, rfl, hB, sq, hla, hlw, hok, few, hri, k⟩ := h
    have hu := hu_of hr
    have sz : 100000 < sizeLine := by decide
    have hsz := sq.size
    refine ⟨_, pss_cons (ps_set (i := 3) scUsedCells.nd rfl (Or.inl rfl) pe_dnewK)
      (pss_cons (ps_for PassesOwn.never rfl (pi_list (pv 2)) (pg_name (i := 4) scUsedCells.nd rfl (Or.inl rfl))
        (pss_one (ps_for PassesOwn.never rfl (pi_list (pe_cal C1 hr rfl (pa_cons (pv 0) (pa_cons (pv 1) (pa_cons (pv 4) pa_nil))))) (pg_name (i := 5) scUsedCells.nd rfl (Or.inl rfl))
          (pss_one (ps_dput hu (pv 3) (pv 5) pe_bl rfl)))))
      (pss_one (ps_ret (pv 3)))), ?_⟩
    intro d hd
    have hd0 : H d = none := hd
    have s0 : Same H (upd H d (.dK [])) := same_new (Same.refl H) hd0
    refine ⟨_, rfl, lw, rfl, ⟨_, s0.seq hlw⟩, for_list (K := K) (a := lw) (xs := sv ws)
      (fun i σ H' => ∃ (v4 v5 : Option V) (kvs : List (Key × V)), σ = [some (.ref b), some (.ref la), some (.ref lw), some (.ref d), v4, v5] ∧ Same H H' ∧ H' d = some (.dK kvs) ∧ Seen kvs (Ks331.used ⟨wd, cells⟩ (ws.take i)) ∧ kvs.length ≤ 8 * i) ?_ (fun i σ H' _ ⟨_, _, _, _, q, _⟩ => q.seq hlw) ?_ ?_⟩
    · refine ⟨none, none, [], rfl, s0, upd_same, fun c => ?_, Nat.zero_le _⟩
      rw [valV_nil]
      simp [Ks331.used]
    · rintro i x σ H' hi ⟨v4, v5, kvs, rfl, q, hk, hseen, hkl⟩
      obtain ⟨y, hy, rfl⟩ := sv_get hi
      have hym := List.mem_of_getElem? hy
      have hyr := right_mem hri hym
      obtain ⟨pl, hpl⟩ := head_right hyr
      obtain ⟨y2, y8⟩ := ok_lens (hok y hym)
      have hi12 : i < ws.length := (List.getElem?_eq_some_iff.mp hy).1
      refine ⟨_, rfl, _, rfl, _, rfl, b, la, wd, hg, cells, y, pl, rfl, hB.same q, sq.w2, sq.w8, sq.h2, sq.h8, q _ _ hla, sq.len, y2, y8, hpl, fun H2 L s2 hL => ?_⟩
      have hk2 := s2 _ _ hk
      have hdL : d ≠ L := ne_of hk2 hL (by intro z; cases z)
      have q2 := q.trans s2
      have plen : (pathAt wd hg y.length pl).length ≤ 8 := by
        unfold pathAt
        rw [List.length_take]
        omega
      refine ⟨L, rfl, ⟨_, SqL.of hL⟩, for_list (K := K) (a := L) (xs := iv (pathAt wd hg y.length pl))
        (fun j σ H' => ∃ (v5 : Option V) (kvs' : List (Key × V)), σ = [some (.ref b), some (.ref la), some (.ref lw), some (.ref d), some (.str (S y)), v5] ∧ Same H H' ∧ H' L = some (.lst (iv (pathAt wd hg y.length pl))) ∧ H' d = some (.dK kvs') ∧ Seen kvs' (Ks331.used ⟨wd, cells⟩ (ws.take i) ++ (pathAt wd hg y.length pl).take j) ∧ kvs'.length ≤ 8 * i + j) ?_ (fun j σ H' _ ⟨_, _, _, _, q, _⟩ => SqL.of q) ?_ ?_⟩
      · exact ⟨_, kvs, rfl, q2, hL, hk2, by rw [List.take_zero, List.append_nil]; exact hseen, hkl⟩
      · rintro j v σ H3 hj ⟨v5, kvs', rfl, q3, hL3, hk3, hs3, hl3⟩
        obtain ⟨c, hc, rfl⟩ := iv_get hj
        have hj8 := (List.getElem?_eq_some_iff.mp hc).1
        refine ⟨_, rfl, _, rfl, d, _, rfl, DPut.k (k := Sum.inl (c : Int)) hk3 (by omega), _, _, rfl, same_new q3 hd0, ?_, upd_same, ?_, ?_⟩
        · rw [upd_ne (Ne.symm hdL)]; exact hL3
        · rw [take_snoc hc, ← List.append_assoc]
          exact hs3.put
        · have := putK_len (kvs := kvs') (k := Sum.inl (c : Int)) (v := .bl true)
          omega
      · rintro σ H3 ⟨v5, kvs', rfl, q3, hL3, hk3, hs3, hl3⟩
        rw [iv_len, List.take_length] at hs3
        rw [iv_len] at hl3
        refine ⟨_, _, kvs', rfl, q3, hk3, hs3.iff fun c => ?_, by omega⟩
        rw [take_snoc hy]
        unfold Ks331.used
        rw [List.flatMap_append, List.mem_append, List.mem_append, List.flatMap_singleton, used_first sq (hok y hym) hyr hpl c]
    · rintro σ H' ⟨v4, v5, kvs, rfl, q, hk, hseen, hkl⟩
      rw [sv_len, List.take_length] at hseen
      exact ⟨_, rfl, k H' d kvs q hk hseen⟩
def spHint (CB C : Addr) : Sp := fun vs H Q _ => ∃ (Hf : Hp) (p dx : Addr) (a : Ks333.Abs), vs = [.ref p] ∧ PuzAt CB C Hf H p dx a ∧ Does CB C Hf p dx (Ks333.act a .hint) Q
theorem scHint : FnScope ["self", "numbers", "path"] ["self"] (defScope sHint) := ⟨rfl, rfl, rfl, by decide +kernel, rfl, by decide +kernel, by decide +kernel⟩
theorem ok_hint {f CB C : Addr} {fd : FuncData} (F : Fun K "hint" "Puzzle.hint" sHint f fd) (T : PTxt K C) (T4 : Cst4 mg) (M1 : Mth P w K mg base 1 C "unfound" ["self"] (spUnfound C)) (C1 : Cal P w K mg base 2 "first_path" ["board", "letters", "word"] (spFirstPath CB)) : FnOk P w K mg base CX0 3 f fd ["self"] (spHint CB C) := by
  refine F.ok scHint (fun vs H Q E h => ?_) (fun cdv A outer s H vs Q E hr h => ?_)
  · obtain ⟨Hf, p, dx, a, rfl, _⟩ := h
    rfl
  · obtain ⟨Hf, p, dx, a, rfl, hp, k⟩ := h
    have sz : 100000 < sizeLine := by decide
    have hr1 : Room 1 _ := hr.mono (by decide)
    obtain ⟨vb, lc, lw, lf, lg, O⟩ := hp.opened
    refine ⟨_, pss_cons (ps_if (pt_cmpR op_isN (pe_fld (pv 0) rfl) pe_non (nomark _)) (pss_one (ps_ret (pe_lst (pa_cons (pe_gv rfl T4.square) pa_nil)))) pss_nil)
      (pss_cons (ps_set (i := 1) scHint.nd rfl (Or.inl rfl) (pe_mth0 M1 hr1 T.cl (pv 0)))
      (pss_cons (ps_if (pt_cmpR op_eq (pe_callB call_len_seq (by rfl) T4.len PySem.boot_len (pa_cons (pv 1) pa_nil)) pe_int (nomark _)) (pss_one (ps_ret (pe_lst (pa_cons (pe_gv rfl T4.all) pa_nil)))) pss_nil)
      (pss_cons (ps_set (i := 2) scHint.nd rfl (Or.inl rfl) (pe_cal C1 hr rfl (pa_cons (pe_fld (pv 0) rfl) (pa_cons (pe_fld (pv 0) rfl) (pa_cons (pe_ix ix_list (pe_fld (pv 0) rfl) (pe_ix ix_list (pv 1) pe_int (fun _ _ => rfl)) (fun _ _ => rfl)) pa_nil)))))
      (pss_one (ps_ret (pe_lst (pa_cons (pe_ix ix_list (pv 1) pe_int (fun _ _ => rfl)) (pa_cons (pe_ix ix_list (pv 2) pe_int (fun _ _ => rfl)) pa_nil)))))))), ?_⟩
    refine ⟨_, rfl, p, C, dx, _, _, rfl, O.obj, T.cl, T.nB, rfl, rfl, _, rfl, ?_⟩
    rcases O.st with ⟨rfl, h0⟩ | ⟨b, wd, hg, rfl, hB, sq, hla, hlw, hok, hri, hby, few⟩
    · have ek : Ks333.act a .hint = (a, Ks333.no (-61)) := if_pos (off_of h0)
      rw [ek] at k
      exact iteT ⟨(by show 1 ≤ sizeLine; decide), fun L hL => k.one hp hL⟩
    · have ek : Ks333.act a .hint = if a.words.length ≤ (List.range a.words.length).findIdx (fun i => !Ks333.found a i) then (a, Ks333.no (-6)) else (a, { ret := ((List.range a.words.length).findIdx (fun i => !Ks333.found a i) : Nat), out := (((Ks331.places a.grid (a.words.getD ((List.range a.words.length).findIdx (fun i => !Ks333.found a i)) [])).head?).map fun p => [p.1]).getD [] }) := by
        show (if a.on = false then _ else _) = _
        rw [if_neg (by rw [on_of sq]; decide)]
      rw [ek] at k
      refine iteF ⟨_, rfl, p, dx, _, rfl, O.obj, rfl, p, dx, lf, _, a.by_, rfl, O.obj, rfl, O.lf_, by omega, fun H1 L s1 hL => ?_⟩
      rw [hby, ← unf_spec] at hL
      obtain ⟨ff1, ff2⟩ := first_find (n := a.words.length) (q := fun i => !Ks333.found a i)
      by_cases hlt : (List.range a.words.length).findIdx (fun i => !Ks333.found a i) < a.words.length
      · rw [if_neg (by omega)] at k
        obtain ⟨l, hl⟩ := ff1 hlt
        rw [hl] at hL
        generalize (List.range a.words.length).findIdx (fun i => !Ks333.found a i) = i at *
        have hne : ¬ V.int (((iv (i :: l)).length : Nat) : Int) = V.int 0 := fun z => by
          injection z with z
          rw [iv_len, List.length_cons] at z
          omega
        have hgw := List.getElem?_eq_getElem hlt
        generalize hx : a.words[i] = x at hgw
        have hgD : a.words.getD i [] = x := by rw [List.getD_eq_getElem?_getD, hgw]; rfl
        have hxm : x ∈ a.words := List.mem_of_getElem? hgw
        obtain ⟨x2, x8⟩ := ok_lens (hok x hxm)
        obtain ⟨pl, hpl⟩ := head_right (right_mem hri hxm)
        rw [hgD, hpl] at k
        have eg : (⟨wd, a.grid.cells⟩ : Ks331.Grid) = a.grid := by rw [← sq.wide]
        have hpm : pl ∈ spots wd hg x.length := by
          have := List.mem_of_mem_head? hpl
          rw [places_spots sq x8] at this
          exact (List.mem_filter.mp this).1
        refine ⟨_, rfl, L, _, rfl, .inl (SqL.of hL), rfl, _, rfl, ite2 (fun z => absurd (of_decide_eq_true z) hne) (fun _ => ?_)⟩
        have h0 : (iv (i :: l))[0]? = some (V.int (i : Int)) := rfl
        have hsx : (sv a.words)[i]? = some (V.str (S x)) := by unfold sv; rw [List.getElem?_map, hgw]; rfl
        refine ⟨_, rfl, p, C, dx, _, _, rfl, s1 _ _ O.obj, T.cl, T.nB, rfl, _, rfl, p, C, dx, _, _, rfl, s1 _ _ O.obj, T.cl, T.nL, rfl, _, rfl, p, C, dx, _, _, rfl, s1 _ _ O.obj, T.cl, T.nW, rfl, _, rfl, L, _, _, _, rfl, rfl, SqL.of hL, atI_nat (j := 0) h0, lw, _, _, _, rfl, rfl, SqL.of (s1 _ _ hlw), atI_nat hsx,
          b, lc, wd, hg, a.grid.cells, x, pl, rfl, hB.same s1, sq.w2, sq.w8, sq.h2, sq.h8, s1 _ _ hla, sq.len, x2, x8, by rw [eg]; exact hpl, fun H2 L2 s2 hL2 => ?_⟩
        have hp0 : (iv (pathAt wd hg x.length pl))[0]? = some (V.int ((pl.1 : Nat) : Int)) := by
          unfold iv
          rw [List.getElem?_map, path_head hpm (by omega)]
          rfl
        refine ⟨_, rfl, L, _, _, _, rfl, rfl, SqL.of (s2 _ _ hL), atI_nat (j := 0) h0, _, rfl, L2, _, _, _, rfl, rfl, SqL.of hL2, atI_nat (j := 0) hp0, (by show 2 ≤ sizeLine; decide), fun L3 hL3 => ?_⟩
        have hp2 := hp.same (s1.trans s2)
        refine k _ L3 (hp2.same (same_new (Same.refl _) hL3)) ?_ (hp2.frame.free hL3)
        rw [upd_same]
        rfl
      · rw [if_pos (by omega)] at k
        rw [ff2 hlt] at hL
        exact ⟨_, rfl, L, _, rfl, .inl (SqL.of hL), rfl, _, rfl, iteT ⟨(by show 1 ≤ sizeLine; decide), fun L' hL' => k.one (hp.same s1) hL'⟩⟩
def spRest (CB C : Addr) : Sp := fun vs H Q _ => ∃ (Hf : Hp) (p dx : Addr) (a : Ks333.Abs), vs = [.ref p] ∧ PuzAt CB C Hf H p dx a ∧ Does CB C Hf p dx (Ks333.act a .rest) Q
theorem scRest : FnScope ["self", "found", "used", "unused", "word", "finder", "cell", "letter"] ["self"] (defScope sRest) := ⟨rfl, rfl, rfl, by decide +kernel, rfl, by decide +kernel, by decide +kernel⟩
def fw (ws : List (List Nat)) (b : List Nat) (i : Nat) : List (List Nat) := (((ws.zip b).take i).filter fun x => x.2 != 0).map Prod.fst
def un (cells u : List Nat) (i : Nat) : List Nat := ((List.range i).filter fun c => !u.contains c).map fun c => cells.getD c 0
theorem un_succ {cells u : List Nat} {i n : Nat} (h : cells[i]? = some n) : un cells u (i + 1) = un cells u i ++ if i ∈ u then [] else [n] := by
  unfold un
  rw [List.range_succ, List.filter_append, List.map_append, List.filter_cons, List.filter_nil]
  by_cases e : i ∈ u
  · rw [if_pos e, if_neg (by simp [e])]
    rfl
  · rw [if_neg e, if_pos (by simp [e])]
    show _ ++ [cells.getD i 0] = _
    rw [List.getD_eq_getElem?_getD, h]
    rfl
theorem un_len (cells u : List Nat) (i : Nat) : (un cells u i).length ≤ i := by
  unfold un
  rw [List.length_map]
  have := List.length_filter_le (fun c => !u.contains c) (List.range i)
  rw [List.length_range] at this
  exact this
theorem fw_len (ws : List (List Nat)) (b : List Nat) (i : Nat) : (fw ws b i).length ≤ i := by
  unfold fw
  rw [List.length_map]
  have := List.length_filter_le (fun x : List Nat × Nat => x.2 != 0) ((ws.zip b).take i)
  rw [List.length_take] at this
  omega
theorem fw_mem {ws : List (List Nat)} {b : List Nat} {i : Nat} {x : List Nat} (h : x ∈ fw ws b i) : x ∈ ws := by
  unfold fw at h
  obtain ⟨⟨y, k⟩, hm, rfl⟩ := List.mem_map.mp h
  have := List.mem_of_mem_take (List.mem_filter.mp hm).1
  exact (List.of_mem_zip this).1
theorem ok_rest {f CB C : Addr} {fd : FuncData} (F : Fun K "rest" "Puzzle.rest" sRest f fd) (T : PTxt K C) (T4 : Cst4 mg) (T5 : Cst5 mg) (C1 : Cal P w K mg base 3 "used_cells" ["board", "letters", "words"] (spUsedCells K CB)) (C2 : Cal P w K mg base 1 "bytes_of" ["letters"] (spBytesOf K)) : FnOk P w K mg base CX0 4 f fd ["self"] (spRest CB C) := by
  refine F.ok scRest (fun vs H Q E h => ?_) (fun cdv A outer s H vs Q E hr h => ?_)
  · obtain ⟨Hf, p, dx, a, rfl, _⟩ := h
    rfl
  · obtain ⟨Hf, p, dx, a, rfl, hp, k⟩ := h
    have sz : 100000 < sizeLine := by decide
    have hu := hu_of hr
    have hr1 : Room 1 _ := hr.mono (by decide)
    obtain ⟨vb, lc, lw, lf, lg, O⟩ := hp.opened
    refine ⟨_, pss_cons (ps_if (pt_cmpR op_isN (pe_fld (pv 0) rfl) pe_non (nomark _)) (pss_one (ps_ret (pe_lst (pa_cons (pe_gv rfl T4.square) pa_nil)))) pss_nil)
      (pss_cons (ps_setLc (i := 1) (g := gTup K 2 (gCons (gName 4) (gCons (gName 5) gNil))) (own := [("word", 4), ("finder", 5)]) rfl scRest.nd rfl rfl (sw_true rfl rfl rfl rfl) (pi_zip rfl T5.zip (pa_cons (pe_fld (pv 0) rfl) (pa_cons (pe_fld (pv 0) rfl) pa_nil))) (blkOk_by rfl)
        (fun s H C cl fp => pg_tup rfl (pgs_cons (pg_name (i := 4) scRest.nd rfl (Or.inl rfl)) (pgs_cons (pg_name (i := 5) scRest.nd rfl (Or.inl rfl)) pgs_nil)))
        (fun s H C cl fp => pts_one (pt_cmpR op_notN (pv 5) pe_non (nomark _))) (fun s H C cl fp => pv 4))
      (pss_cons (ps_set (i := 2) scRest.nd rfl (Or.inr rfl) (pe_cal C1 hr rfl (pa_cons (pe_fld (pv 0) rfl) (pa_cons (pe_fld (pv 0) rfl) (pa_cons (pv 1) pa_nil)))))
      (pss_cons (ps_setLc (i := 3) (g := gTup K 2 (gCons (gName 6) (gCons (gName 7) gNil))) (own := [("cell", 6), ("letter", 7)]) rfl scRest.nd rfl rfl (sw_true rfl rfl rfl rfl) (pi_enum rfl T4.enumerate (pa_cons (pe_fld (pv 0) rfl) pa_nil)) (blkOk_by rfl)
        (fun s H C cl fp => pg_tup rfl (pgs_cons (pg_name (i := 6) scRest.nd rfl (Or.inl rfl)) (pgs_cons (pg_name (i := 7) scRest.nd rfl (Or.inl rfl)) pgs_nil)))
        (fun s H C cl fp => pts_one (pt_cmp (pc_dnotin hu (pv 6) (pv 2)))) (fun s H C cl fp => pv 7))
      (pss_one (ps_ret (pe_op op_cat (pe_lst (pa_cons (pe_callB call_len_seq (by rfl) T4.len PySem.boot_len (pa_cons (pv 3) pa_nil)) pa_nil)) (pe_cal C2 hr1 rfl (pa_cons (pv 3) pa_nil)))))))), ?_⟩
    refine ⟨_, rfl, p, C, dx, _, _, rfl, O.obj, T.cl, T.nB, rfl, rfl, _, rfl, ?_⟩
    rcases O.st with ⟨rfl, h0⟩ | ⟨b, wd, hg, rfl, hB, sq, hla, hlw, hok, hri, hby, few⟩
    · have ek : Ks333.act a .rest = (a, Ks333.no (-61)) := if_pos (off_of h0)
      rw [ek] at k
      exact iteT ⟨(by show 1 ≤ sizeLine; decide), fun L hL => k.one hp hL⟩
    · have eg : (⟨wd, a.grid.cells⟩ : Ks331.Grid) = a.grid := by rw [← sq.wide]
      have efw : Ks333.foundWords a = fw a.words a.by_ a.words.length := by
        unfold fw Ks333.foundWords
        rw [List.take_of_length_le (by rw [List.length_zip]; omega)]
      generalize huu : Ks331.used a.grid (fw a.words a.by_ a.words.length) = u
      have ek : Ks333.act a .rest = (a, { ret := ((un a.grid.cells u a.grid.cells.length).length : Nat), out := un a.grid.cells u a.grid.cells.length }) := by
        show (if a.on = false then _ else _) = _
        rw [if_neg (by rw [on_of sq]; decide)]
        show (a, ({ ret := ((Ks331.unused a.grid (Ks333.foundWords a)).length : Nat), out := (Ks331.unused a.grid (Ks333.foundWords a)).map fun c => a.grid.cells.getD c 0 } : Ks333.Ans)) = _
        rw [efw]
        unfold Ks331.unused un
        simp only [huu, List.length_map]
      rw [ek] at k
      have hlen := sq.len
      have hsz := sq.size
      refine iteF ⟨_, rfl, p, C, dx, _, _, rfl, O.obj, T.cl, T.nW, rfl, _, rfl, p, C, dx, _, _, rfl, O.obj, T.cl, T.nF, rfl, lw, lf, _, _, rfl, SqL.of hlw, SqL.of O.lf_, fun D hD => lc_it (n := a.words.length) (fun i H' => Same H H' ∧ H' D = some (.lst (sv (fw a.words a.by_ i)))) ⟨same_new (Same.refl H) hD, upd_same⟩ (fun i H' hi q => ?_) (fun H' q => ?_) (fun i x H' H2 hi q y => ?_) (fun H1 q => ?_)⟩
      · exact ⟨_, _, _, _, SqL.of (q.1 _ _ hlw), SqL.of (q.1 _ _ O.lf_), List.getElem?_eq_getElem (by rw [sv_len]; exact hi), List.getElem?_eq_getElem (by rw [fv_len]; omega)⟩
      · exact ⟨_, _, SqL.of (q.1 _ _ hlw), SqL.of (q.1 _ _ O.lf_), .inl (by rw [sv_len]; exact Nat.le_refl _)⟩
      · obtain ⟨q1, q2⟩ := q
        obtain ⟨t, y1, y2, rfl, ht, rfl, hy1, hy2⟩ := y
        obtain ⟨wx, hwx, rfl⟩ := sv_get (hy1 _ (SqL.of (q1 _ _ hlw)))
        have hib : i < a.by_.length := by omega
        have hk := List.getElem?_eq_getElem hib
        generalize a.by_[i] = kk at hk
        have hy' := hy2 _ (SqL.of (q1 _ _ O.lf_))
        rw [fv_get hk] at hy'
        cases hy'
        have hz : (a.words.zip a.by_)[i]? = some (wx, kk) := by rw [List.getElem?_zip_eq_some]; exact ⟨hwx, hk⟩
        have s2 : Same H (upd H' t (.tup [.str (S wx), if kk = 0 then V.non else V.int ((kk : Int) - 1)])) := same_new q1 (q1.free ht)
        have nDt : D ≠ t := ne_of_none q2 ht
        have hfs : fw a.words a.by_ (i + 1) = fw a.words a.by_ i ++ if kk = 0 then [] else [wx] := by
          unfold fw
          rw [take_filter_snoc hz, List.map_append]
          by_cases e : kk = 0
          · rw [if_pos e, if_neg (by simp [e])]
            rfl
          · rw [if_neg e, if_pos (by simp [e])]
            rfl
        refine ⟨t, _, rfl, SqT.of upd_same, rfl, _, _, rfl, _, _, rfl, rfl, rfl, _, rfl, rfl, _, rfl, ?_⟩
        by_cases k0 : kk = 0
        · rw [if_pos k0] at s2 ⊢
          refine iteF ⟨s2, ?_⟩
          rw [upd_ne nDt, q2, hfs, if_pos k0, List.append_nil]
        · rw [if_neg k0] at s2 ⊢
          refine iteT ⟨_, rfl, _, by rw [upd_ne nDt]; exact q2, ?_, same_new s2 hD, ?_⟩
          · rw [sv_len]
            have := fw_len a.words a.by_ i
            omega
          · rw [upd_same, hfs, if_neg k0]
            simp [sv]
      · obtain ⟨s1, hD1⟩ := q
        generalize hfw : fw a.words a.by_ a.words.length = ws at *
        have hwm : ∀ x ∈ ws, x ∈ a.words := fun x hx => by rw [← hfw] at hx; exact fw_mem hx
        have hwl : ws.length ≤ 12 := by
          have := fw_len a.words a.by_ a.words.length
          rw [hfw] at this
          omega
        have hri2 : Ks332.right ⟨wd, a.grid.cells⟩ ws = true := by
          rw [eg]
          exact List.all_eq_true.mpr fun x hx => right_mem hri (hwm x hx)
        refine ⟨_, rfl, p, C, dx, _, _, rfl, s1 _ _ O.obj, T.cl, T.nB, rfl, _, rfl, p, C, dx, _, _, rfl, s1 _ _ O.obj, T.cl, T.nL, rfl, _, rfl, b, lc, D, wd, hg, a.grid.cells, ws, rfl, hB.same s1, ⟨rfl, hlen, sq.w2, sq.w8, sq.h2, sq.h8⟩, s1 _ _ hla, SqL.of hD1, fun x hx => hok x (hwm x hx), hwl, hri2, fun H2 U kvs s2 hU hseen => ?_⟩
        rw [eg, huu] at hseen
        have s12 := s1.trans s2
        refine ⟨_, rfl, p, C, dx, _, _, rfl, s12 _ _ O.obj, T.cl, T.nL, rfl, lc, _, rfl, SqL.of (s12 _ _ hla), fun D2 hD2 => lc_it (n := a.grid.cells.length) (fun i H' => Same H2 H' ∧ H' D2 = some (.lst (ov (un a.grid.cells u i)))) ⟨same_new (Same.refl H2) hD2, upd_same⟩ (fun i H' hi q => ?_) (fun H' q => ?_) (fun i x H' H3 hi q y => ?_) (fun H3 q => ?_)⟩
        · exact ⟨_, _, SqL.of (q.1 _ _ (s12 _ _ hla)), List.getElem?_eq_getElem (by rw [ov_len]; exact hi)⟩
        · exact ⟨_, SqL.of (q.1 _ _ (s12 _ _ hla)), by rw [ov_len]; exact Nat.le_refl _⟩
        · obtain ⟨q1, q2⟩ := q
          obtain ⟨t, y1, rfl, ht, rfl, hy1⟩ := y
          obtain ⟨n, hn, rfl⟩ := ov_get (hy1 _ (SqL.of (q1 _ _ (s12 _ _ hla))))
          have s3 : Same H2 (upd H' t (.tup [.int ((i : Nat) : Int), .str (S [n])])) := same_new q1 (q1.free ht)
          have nDt : D2 ≠ t := ne_of_none q2 ht
          have hU3 := s3 _ _ hU
          refine ⟨t, _, rfl, SqT.of upd_same, rfl, _, _, rfl, _, _, rfl, rfl, rfl, _, rfl, _, rfl, U, _, rfl, DGet.k (k := Sum.inl (i : Int)) hU3, _, rfl, ?_⟩
          by_cases e : i ∈ u
          · rw [(hseen i).mpr e]
            refine iteF ⟨s3, ?_⟩
            rw [upd_ne nDt, q2, un_succ hn, if_pos e, List.append_nil]
          · have e2 : (valV kvs (Sum.inl (i : Int) : Key)).isSome = false := by
              cases z : (valV kvs (Sum.inl (i : Int) : Key)).isSome with
              | false => rfl
              | true => exact absurd ((hseen i).mp z) e
            rw [e2]
            refine iteT ⟨_, rfl, _, by rw [upd_ne nDt]; exact q2, ?_, same_new s3 hD2, ?_⟩
            · rw [ov_len]
              have := un_len a.grid.cells u i
              omega
            · rw [upd_same, un_succ hn, if_neg e]
              simp [ov]
        · obtain ⟨s3, hD3⟩ := q
          have hul := un_len a.grid.cells u a.grid.cells.length
          refine ⟨_, rfl, D2, _, rfl, .inl (SqL.of hD3), (by show 1 ≤ sizeLine; decide), fun L1 hL1 => ?_⟩
          have s4 := same_new (o := .lst [.int (((ov (un a.grid.cells u a.grid.cells.length)).length : Nat) : Int)]) (Same.refl H3) hL1
          refine ⟨_, rfl, D2, un a.grid.cells u a.grid.cells.length, rfl, SqL.of (s4 _ _ hD3), by omega, fun H5 L s5 hL => ?_⟩
          refine ⟨L1, L, _, _, rfl, rfl, s5 _ _ upd_same, hL, ?_, fun L2 hL2 => ?_⟩
          · rw [iv_len]
            show 1 + _ ≤ _
            omega
          · have hp5 := hp.same (((s12.trans s3).trans s4).trans s5)
            refine k _ L2 (hp5.same (same_new (Same.refl _) hL2)) ?_ (hp5.frame.free hL2)
            rw [upd_same, ov_len]
            show some (HO.lst (V.int _ :: iv _)) = some (HO.lst (V.int _ :: zv (Ks333Neutral.ints _)))
            rw [zv_iv]
end
end HW
end
section
set_option Elab.async false
set_option linter.all false
set_option maxRecDepth 100000
set_option maxHeartbeats 4000000
namespace HW
open PySem PySem.Spec PyProof.Rows L2 HX
abbrev sLoadAns : Stmt := top 71
abbrev sMakeAns : Stmt := top 72
abbrev sGuessAns : Stmt := top 73
abbrev sCallAns : Stmt := top 74
abbrev sAnswers : Stmt := top 75
/-- the reader: its own addresses, and the numbers that it reads -/
structure Rdr where
  C : Addr
  r : Addr
  dx : Addr
  a : Addr
  l : List Nat
def Rdr.ob (Z : Rdr) (pl : Nat) : HO := .ins Z.C Z.dx (readerF Z.a pl)
def Rdr.hp (Z : Rdr) (Hg : Hp) (pl : Nat) : Hp := upd Hg Z.r (Z.ob pl)
theorem static_sans {CB : Addr} {H0 H : Hp} {vb : V} {la lw r CR dxr x : Addr} {n : Nat} {a : Ks333.Abs} (h : Static CB H0 vb la lw a) (s : Same H0 H) (hr : H r = some (.ins CR dxr (readerF x n))) : Static CB (sans H0 r) vb la lw a := by
  have nl : ∀ c xs, H0 c = some (.lst xs) → sans H0 r c = some (.lst xs) := fun c xs e => by
    rw [sans_ne (ne_of (s _ _ e) hr (by intro z; cases z))]
    exact e
  rcases h with h | ⟨b, wd, hg, h1, h2, h3, h4, h5, h6⟩
  · exact .inl h
  · refine .inr ⟨b, wd, hg, h1, ?_, h3, nl _ _ h4, nl _ _ h5, h6⟩
    obtain ⟨dx', R, T, ras, hb, hR, hT⟩ := h2
    have nb : b ≠ r := ne_of (s _ _ hb) hr (by
      intro q
      injection q with _ _ q
      have := congrArg List.length q
      cases this)
    exact ⟨dx', R, T, ras, by rw [sans_ne nb]; exact hb, ⟨nl _ _ hR.lst, hR.len, fun i c e => let ⟨xs, z1, z2⟩ := hR.at_ i c e; ⟨xs, z1, nl _ _ z2⟩⟩, nl _ _ hT⟩
theorem PuzAt.read {CB C : Addr} {Z : Rdr} {Hg H H' : Hp} {p dx : Addr} {a : Ks333.Abs} {pl pl' : Nat} (h : PuzAt CB C (Z.hp Hg pl) H p dx a) (h' : H' Z.r = some (Z.ob pl')) (x : But H H' Z.r) : PuzAt CB C (Z.hp Hg pl') H' p dx a := by
  have hr0 : (Z.hp Hg pl) Z.r = some (Z.ob pl) := upd_same
  have hr : H Z.r = some (Z.ob pl) := h.frame _ _ hr0
  have off : ∀ b, (Z.hp Hg pl) b = none → b ≠ Z.r ∧ (Z.hp Hg pl') b = none := fun b e => by
    have nb : b ≠ Z.r := fun z => by rw [z, hr0] at e; cases e
    refine ⟨nb, ?_⟩
    unfold Rdr.hp at e ⊢
    rw [upd_ne nb] at e ⊢
    exact e
  obtain ⟨H0, vb, la, lw, lf, lg, h1, h2, h3, h4, h5, h6, h7, h8, h9, h10, h11, h12, h13⟩ := h.ex
  refine ⟨fun b o e => ?_, (off _ h.fp).2, sans H0 Z.r, vb, la, lw, lf, lg, fun b o e => ?_, sans_none h2, sans_none h3, sans_none h4, (off _ h5).2, (off _ h6).2, h7, x _ _ h8 (off _ h.fp).1, x _ _ h9 (off _ h5).1, x _ _ h10 (off _ h6).1, h11, h12, static_sans h13 h1 hr⟩
  · by_cases nb : b = Z.r
    · subst nb
      have : (Z.hp Hg pl') Z.r = some (Z.ob pl') := upd_same
      rw [this] at e
      rw [h', e]
    · have e' : (Z.hp Hg pl) b = some o := by
        unfold Rdr.hp at e ⊢
        rw [upd_ne nb] at e ⊢
        exact e
      exact x _ _ (h.frame _ _ e') nb
  · have nb : b ≠ Z.r := fun z => by rw [z, sans_p] at e; cases e
    rw [sans_ne nb] at e
    exact x _ _ (h1 _ _ e) nb
theorem Rdr.nums {K : PySem.W.Frag} {Z : Rdr} {Hg : Hp} {pl pl' : Nat} (h : SqL K (Z.hp Hg pl) Z.a (iv Z.l)) : SqL K (Z.hp Hg pl') Z.a (iv Z.l) := by
  refine sqL_but (r := Z.r) (C := Z.C) (dx := Z.dx) (fs := readerF Z.a pl) (fun b o e ne => ?_) upd_same h
  unfold Rdr.hp at e ⊢
  rw [upd_ne ne] at e ⊢
  exact e
/-- how a call stands in the numbers -/
inductive Parse (l : List Nat) : Nat → Ks333.Call → Nat → Prop
  | load {pl wd n1 n2 : Nat} (h0 : l[pl]? = some 0) (h1 : l[pl + 1]? = some wd) (h2 : l[pl + 2]? = some n1) (h3 : pl + 3 + n1 ≤ l.length) (h4 : l[pl + 3 + n1]? = some n2) (h5 : pl + 4 + n1 + n2 ≤ l.length) :
    Parse l pl (.load wd ((l.drop (pl + 3)).take n1) (if Ks331.TEXT < ((l.drop (pl + 4 + n1)).take n2).length then none else some ((l.drop (pl + 4 + n1)).take n2))) (pl + 4 + n1 + n2)
  | make {pl wd hg most n1 n2 : Nat} (h0 : l[pl]? = some 1) (h1 : l[pl + 1]? = some wd) (h2 : l[pl + 2]? = some hg) (h3 : l[pl + 3]? = some most) (h4 : l[pl + 4]? = some n1) (h5 : pl + 5 + n1 ≤ l.length) (h6 : l[pl + 5 + n1]? = some n2) (h7 : pl + 6 + n1 + n2 ≤ l.length) :
    Parse l pl (.make wd hg most (if Ks331.TEXT < ((l.drop (pl + 5)).take n1).length then none else some ((l.drop (pl + 5)).take n1)) ((l.drop (pl + 6 + n1)).take n2)) (pl + 6 + n1 + n2)
  | guess {pl who fi la : Nat} (h0 : l[pl]? = some 2) (h1 : l[pl + 1]? = some who) (h2 : l[pl + 2]? = some fi) (h3 : l[pl + 3]? = some la) : Parse l pl (.guess who fi la) (pl + 4)
  | hint {pl : Nat} (h0 : l[pl]? = some 3) : Parse l pl .hint (pl + 1)
  | rest {pl : Nat} (h0 : l[pl]? = some 4) : Parse l pl .rest (pl + 1)
  | left {pl : Nat} (h0 : l[pl]? = some 5) : Parse l pl .left (pl + 1)
  | tell {pl : Nat} (h0 : l[pl]? = some 6) : Parse l pl .tell (pl + 1)
  | score {pl who : Nat} (h0 : l[pl]? = some 7) (h1 : l[pl + 1]? = some who) : Parse l pl (.score who) (pl + 2)
section
variable {P : Program} {w : World} {K : PySem.W.Frag} {mg : Str → Option Value} {base : Heap}
def spLoadAns (K : PySem.W.Frag) (CB C CR : Addr) : Sp := fun vs H Q _ => ∃ (Z : Rdr) (Hg : Hp) (p dx : Addr) (a : Ks333.Abs) (pl wd n1 n2 : Nat), vs = [.ref p, .ref Z.r] ∧ Z.C = CR ∧ PuzAt CB C (Z.hp Hg (pl + 1)) H p dx a ∧ SqL K (Z.hp Hg 0) Z.a (iv Z.l) ∧ Z.l.length ≤ 30000 ∧
  Z.l[pl + 1]? = some wd ∧ Z.l[pl + 2]? = some n1 ∧ pl + 3 + n1 ≤ Z.l.length ∧ Z.l[pl + 3 + n1]? = some n2 ∧ pl + 4 + n1 + n2 ≤ Z.l.length ∧
  Does CB C (Z.hp Hg (pl + 4 + n1 + n2)) p dx (Ks333.act a (.load wd ((Z.l.drop (pl + 3)).take n1) (if Ks331.TEXT < ((Z.l.drop (pl + 4 + n1)).take n2).length then none else some ((Z.l.drop (pl + 4 + n1)).take n2)))) Q
theorem scLoadAns : FnScope ["puzzle", "reader", "wide", "cells", "listing"] ["puzzle", "reader"] (defScope sLoadAns) := ⟨rfl, rfl, rfl, by decide +kernel, rfl, by decide +kernel, by decide +kernel⟩
theorem lst_but {H H' : Hp} {r C dx L : Addr} {fs : List (Str × V)} {xs : List V} (x : But H H' r) (hr : H r = some (.ins C dx fs)) (hL : H L = some (.lst xs)) : H' L = some (.lst xs) := x _ _ hL (ne_of hL hr (by intro z; cases z))
theorem ok_loadAns {f CB C CR : Addr} {fd : FuncData} (F : Fun K "load_answer" "load_answer" sLoadAns f fd) (T : PTxt K C) (R : RTxt K CR) (M1 : Mth P w K mg base 1 CR "take" ["self"] (spTake K CR)) (M2 : Mth P w K mg base 2 CR "take_row" ["self"] (spTakeRow K CR))
    (M3 : Mth P w K mg base 4 C "load" ["self", "wide", "cells", "listing"] (spLoad K CB C)) : FnOk P w K mg base CX0 5 f fd ["puzzle", "reader"] (spLoadAns K CB C CR) := by
  refine F.ok scLoadAns (fun vs H Q E h => ?_) (fun cdv A outer s H vs Q E hr h => ?_)
  · obtain ⟨Z, Hg, p, dx, a, pl, wd, n1, n2, rfl, _⟩ := h
    rfl
  · obtain ⟨Z, Hg, p, dx, a, pl, wd, n1, n2, rfl, rfl, hp, hN, hl, l1, l2, l3, l4, l5, k⟩ := h
    have hr1 : Room 1 _ := hr.mono (by decide)
    have hr2 : Room 2 _ := hr.mono (by decide)
    refine ⟨_, pss_cons (ps_set (i := 2) scLoadAns.nd rfl (Or.inl rfl) (pe_mth0 M1 hr1 R.cl (pv 1))) (pss_cons (ps_set (i := 3) scLoadAns.nd rfl (Or.inl rfl) (pe_mth0 M2 hr2 R.cl (pv 1))) (pss_cons (ps_set (i := 4) scLoadAns.nd rfl (Or.inl rfl) (pe_mth0 M2 hr2 R.cl (pv 1)))
      (pss_one (ps_ret (pe_mth M3 hr T.cl (pv 0) (pa_cons (pv 2) (pa_cons (pv 3) (pa_cons (pv 4) pa_nil)))))))), ?_⟩
    have ho : H Z.r = some (Z.ob (pl + 1)) := hp.frame _ _ upd_same
    refine ⟨_, rfl, Z.r, Z.dx, _, rfl, ho, rfl, Z.r, Z.dx, Z.a, Z.l, pl + 1, wd, rfl, ho, hp.frame.seq (Rdr.nums hN), l1, fun H1 h1 b1 => ?_⟩
    have hp1 : PuzAt CB C (Z.hp Hg (pl + 2)) H1 p dx a := hp.read h1 b1
    refine ⟨_, rfl, Z.r, Z.dx, _, rfl, h1, rfl, Z.r, Z.dx, Z.a, Z.l, pl + 2, n1, rfl, h1, hp1.frame.seq (Rdr.nums hN), l2, l3, fun H2 L1 h2 b2 hL1 => ?_⟩
    have hp2 : PuzAt CB C (Z.hp Hg (pl + 3 + n1)) H2 p dx a := hp1.read h2 b2
    refine ⟨_, rfl, Z.r, Z.dx, _, rfl, h2, rfl, Z.r, Z.dx, Z.a, Z.l, pl + 3 + n1, n2, rfl, h2, hp2.frame.seq (Rdr.nums hN), l4, (by omega), fun H3 L2 h3 b3 hL2 => ?_⟩
    have e3 : pl + 3 + n1 + 1 = pl + 4 + n1 := by omega
    rw [e3] at h3 hL2
    have hp3 : PuzAt CB C (Z.hp Hg (pl + 4 + n1 + n2)) H3 p dx a := hp2.read h3 b3
    have hL1' := lst_but b3 h2 hL1
    obtain ⟨vb, lc, lw, lf, lg, O⟩ := hp3.opened
    refine ⟨_, rfl, p, dx, _, rfl, O.obj, rfl, _, rfl, _, rfl, _, rfl, _, p, dx, L1, L2, a, wd, _, _, rfl, hp3, SqL.of hL1', SqL.of hL2, ?_, ?_, k⟩
    · rw [List.length_take, List.length_drop]; omega
    · rw [List.length_take, List.length_drop]; omega
def spMakeAns (K : PySem.W.Frag) (CB C CR : Addr) : Sp := fun vs H Q _ => ∃ (Z : Rdr) (Hg : Hp) (p dx : Addr) (a : Ks333.Abs) (pl wd hg most n1 n2 : Nat), vs = [.ref p, .ref Z.r] ∧ Z.C = CR ∧ PuzAt CB C (Z.hp Hg (pl + 1)) H p dx a ∧ SqL K (Z.hp Hg 0) Z.a (iv Z.l) ∧ Z.l.length ≤ 30000 ∧
  Z.l[pl + 1]? = some wd ∧ Z.l[pl + 2]? = some hg ∧ Z.l[pl + 3]? = some most ∧ Z.l[pl + 4]? = some n1 ∧ pl + 5 + n1 ≤ Z.l.length ∧ Z.l[pl + 5 + n1]? = some n2 ∧ pl + 6 + n1 + n2 ≤ Z.l.length ∧
  Does CB C (Z.hp Hg (pl + 6 + n1 + n2)) p dx (Ks333.act a (.make wd hg most (if Ks331.TEXT < ((Z.l.drop (pl + 5)).take n1).length then none else some ((Z.l.drop (pl + 5)).take n1)) ((Z.l.drop (pl + 6 + n1)).take n2))) Q
theorem scMakeAns : FnScope ["puzzle", "reader", "wide", "high", "most", "listing", "filling"] ["puzzle", "reader"] (defScope sMakeAns) := ⟨rfl, rfl, rfl, by decide +kernel, rfl, by decide +kernel, by decide +kernel⟩
theorem ok_makeAns {f CB C CR : Addr} {fd : FuncData} (F : Fun K "make_answer" "make_answer" sMakeAns f fd) (T : PTxt K C) (R : RTxt K CR) (M1 : Mth P w K mg base 1 CR "take" ["self"] (spTake K CR)) (M2 : Mth P w K mg base 2 CR "take_row" ["self"] (spTakeRow K CR))
    (M3 : Mth P w K mg base 31 C "make" ["self", "wide", "high", "most", "listing", "filling"] (spMake K CB C)) : FnOk P w K mg base CX0 32 f fd ["puzzle", "reader"] (spMakeAns K CB C CR) := by
  refine F.ok scMakeAns (fun vs H Q E h => ?_) (fun cdv A outer s H vs Q E hr h => ?_)
  · obtain ⟨Z, Hg, p, dx, a, pl, wd, hg, most, n1, n2, rfl, _⟩ := h
    rfl
  · obtain ⟨Z, Hg, p, dx, a, pl, wd, hg, most, n1, n2, rfl, rfl, hp, hN, hl, l1, l2, l3, l4, l5, l6, l7, k⟩ := h
    have hr1 : Room 1 _ := hr.mono (by decide)
    have hr2 : Room 2 _ := hr.mono (by decide)
    refine ⟨_, pss_cons (ps_set (i := 2) scMakeAns.nd rfl (Or.inl rfl) (pe_mth0 M1 hr1 R.cl (pv 1))) (pss_cons (ps_set (i := 3) scMakeAns.nd rfl (Or.inl rfl) (pe_mth0 M1 hr1 R.cl (pv 1))) (pss_cons (ps_set (i := 4) scMakeAns.nd rfl (Or.inl rfl) (pe_mth0 M1 hr1 R.cl (pv 1)))
      (pss_cons (ps_set (i := 5) scMakeAns.nd rfl (Or.inl rfl) (pe_mth0 M2 hr2 R.cl (pv 1))) (pss_cons (ps_set (i := 6) scMakeAns.nd rfl (Or.inl rfl) (pe_mth0 M2 hr2 R.cl (pv 1)))
      (pss_one (ps_ret (pe_mth M3 hr T.cl (pv 0) (pa_cons (pv 2) (pa_cons (pv 3) (pa_cons (pv 4) (pa_cons (pv 5) (pa_cons (pv 6) pa_nil)))))))))))), ?_⟩
    have ho : H Z.r = some (Z.ob (pl + 1)) := hp.frame _ _ upd_same
    refine ⟨_, rfl, Z.r, Z.dx, _, rfl, ho, rfl, Z.r, Z.dx, Z.a, Z.l, pl + 1, wd, rfl, ho, hp.frame.seq (Rdr.nums hN), l1, fun H1 h1 b1 => ?_⟩
    have hp1 : PuzAt CB C (Z.hp Hg (pl + 2)) H1 p dx a := hp.read h1 b1
    refine ⟨_, rfl, Z.r, Z.dx, _, rfl, h1, rfl, Z.r, Z.dx, Z.a, Z.l, pl + 2, hg, rfl, h1, hp1.frame.seq (Rdr.nums hN), l2, fun H2 h2 b2 => ?_⟩
    have hp2 : PuzAt CB C (Z.hp Hg (pl + 3)) H2 p dx a := hp1.read h2 b2
    refine ⟨_, rfl, Z.r, Z.dx, _, rfl, h2, rfl, Z.r, Z.dx, Z.a, Z.l, pl + 3, most, rfl, h2, hp2.frame.seq (Rdr.nums hN), l3, fun H3 h3 b3 => ?_⟩
    have hp3 : PuzAt CB C (Z.hp Hg (pl + 4)) H3 p dx a := hp2.read h3 b3
    refine ⟨_, rfl, Z.r, Z.dx, _, rfl, h3, rfl, Z.r, Z.dx, Z.a, Z.l, pl + 4, n1, rfl, h3, hp3.frame.seq (Rdr.nums hN), l4, l5, fun H4 L1 h4 b4 hL1 => ?_⟩
    have hp4 : PuzAt CB C (Z.hp Hg (pl + 5 + n1)) H4 p dx a := hp3.read h4 b4
    refine ⟨_, rfl, Z.r, Z.dx, _, rfl, h4, rfl, Z.r, Z.dx, Z.a, Z.l, pl + 5 + n1, n2, rfl, h4, hp4.frame.seq (Rdr.nums hN), l6, (by omega), fun H5 L2 h5 b5 hL2 => ?_⟩
    have e3 : pl + 5 + n1 + 1 = pl + 6 + n1 := by omega
    rw [e3] at h5 hL2
    have hp5 : PuzAt CB C (Z.hp Hg (pl + 6 + n1 + n2)) H5 p dx a := hp4.read h5 b5
    have hL1' := lst_but b5 h4 hL1
    obtain ⟨vb, lc, lw, lf, lg, O⟩ := hp5.opened
    refine ⟨_, rfl, p, dx, _, rfl, O.obj, rfl, _, rfl, _, rfl, _, rfl, _, rfl, _, rfl, _, p, dx, L1, L2, a, wd, hg, most, _, _, rfl, hp5, SqL.of hL1', SqL.of hL2, ?_, ?_, k⟩
    · rw [List.length_take, List.length_drop]; omega
    · rw [List.length_take, List.length_drop]; omega
def spGuessAns (K : PySem.W.Frag) (CB C CR : Addr) : Sp := fun vs H Q _ => ∃ (Z : Rdr) (Hg : Hp) (p dx : Addr) (a : Ks333.Abs) (pl who fi la : Nat), vs = [.ref p, .ref Z.r] ∧ Z.C = CR ∧ PuzAt CB C (Z.hp Hg (pl + 1)) H p dx a ∧ SqL K (Z.hp Hg 0) Z.a (iv Z.l) ∧
  Z.l[pl + 1]? = some who ∧ Z.l[pl + 2]? = some fi ∧ Z.l[pl + 3]? = some la ∧ Does CB C (Z.hp Hg (pl + 4)) p dx (Ks333.act a (.guess who fi la)) Q
theorem scGuessAns : FnScope ["puzzle", "reader", "who", "first", "last"] ["puzzle", "reader"] (defScope sGuessAns) := ⟨rfl, rfl, rfl, by decide +kernel, rfl, by decide +kernel, by decide +kernel⟩
theorem ok_guessAns {f CB C CR : Addr} {fd : FuncData} (F : Fun K "guess_answer" "guess_answer" sGuessAns f fd) (T : PTxt K C) (R : RTxt K CR) (M1 : Mth P w K mg base 1 CR "take" ["self"] (spTake K CR)) (M3 : Mth P w K mg base 3 C "guess" ["self", "who", "first", "last"] (spGuess CB C)) :
    FnOk P w K mg base CX0 4 f fd ["puzzle", "reader"] (spGuessAns K CB C CR) := by
  refine F.ok scGuessAns (fun vs H Q E h => ?_) (fun cdv A outer s H vs Q E hr h => ?_)
  · obtain ⟨Z, Hg, p, dx, a, pl, who, fi, la, rfl, _⟩ := h
    rfl
  · obtain ⟨Z, Hg, p, dx, a, pl, who, fi, la, rfl, rfl, hp, hN, l1, l2, l3, k⟩ := h
    have hr1 : Room 1 _ := hr.mono (by decide)
    refine ⟨_, pss_cons (ps_set (i := 2) scGuessAns.nd rfl (Or.inl rfl) (pe_mth0 M1 hr1 R.cl (pv 1))) (pss_cons (ps_set (i := 3) scGuessAns.nd rfl (Or.inl rfl) (pe_mth0 M1 hr1 R.cl (pv 1))) (pss_cons (ps_set (i := 4) scGuessAns.nd rfl (Or.inl rfl) (pe_mth0 M1 hr1 R.cl (pv 1)))
      (pss_one (ps_ret (pe_mth M3 hr T.cl (pv 0) (pa_cons (pv 2) (pa_cons (pv 3) (pa_cons (pv 4) pa_nil)))))))), ?_⟩
    have ho : H Z.r = some (Z.ob (pl + 1)) := hp.frame _ _ upd_same
    refine ⟨_, rfl, Z.r, Z.dx, _, rfl, ho, rfl, Z.r, Z.dx, Z.a, Z.l, pl + 1, who, rfl, ho, hp.frame.seq (Rdr.nums hN), l1, fun H1 h1 b1 => ?_⟩
    have hp1 : PuzAt CB C (Z.hp Hg (pl + 2)) H1 p dx a := hp.read h1 b1
    refine ⟨_, rfl, Z.r, Z.dx, _, rfl, h1, rfl, Z.r, Z.dx, Z.a, Z.l, pl + 2, fi, rfl, h1, hp1.frame.seq (Rdr.nums hN), l2, fun H2 h2 b2 => ?_⟩
    have hp2 : PuzAt CB C (Z.hp Hg (pl + 3)) H2 p dx a := hp1.read h2 b2
    refine ⟨_, rfl, Z.r, Z.dx, _, rfl, h2, rfl, Z.r, Z.dx, Z.a, Z.l, pl + 3, la, rfl, h2, hp2.frame.seq (Rdr.nums hN), l3, fun H3 h3 b3 => ?_⟩
    have hp3 : PuzAt CB C (Z.hp Hg (pl + 4)) H3 p dx a := hp2.read h3 b3
    obtain ⟨vb, lc, lw, lf, lg, O⟩ := hp3.opened
    exact ⟨_, rfl, p, dx, _, rfl, O.obj, rfl, _, rfl, _, rfl, _, rfl, _, p, dx, a, who, fi, la, rfl, hp3, k⟩
/-- what is never reached -/
theorem ps_never {X : Cx} {st : Stmt} : PS X st (fun _ _ _ => False) := fun _ _ _ _ _ _ h => h.elim
def spCallAns (K : PySem.W.Frag) (CB C CR : Addr) : Sp := fun vs H Q _ => ∃ (Z : Rdr) (Hg : Hp) (p dx : Addr) (a : Ks333.Abs) (pl pl' : Nat) (c : Ks333.Call), vs = [.ref p, .ref Z.r] ∧ Z.C = CR ∧ PuzAt CB C (Z.hp Hg pl) H p dx a ∧ SqL K (Z.hp Hg 0) Z.a (iv Z.l) ∧ Z.l.length ≤ 30000 ∧ Parse Z.l pl c pl' ∧
  Does CB C (Z.hp Hg pl') p dx (Ks333.act a c) Q
theorem scCallAns : FnScope ["puzzle", "reader", "call"] ["puzzle", "reader"] (defScope sCallAns) := ⟨rfl, rfl, rfl, by decide +kernel, rfl, by decide +kernel, by decide +kernel⟩
theorem Parse.call {l : List Nat} {pl pl' : Nat} {c : Ks333.Call} (h : Parse l pl c pl') : ∃ n, l[pl]? = some n := by cases h <;> exact ⟨_, by assumption⟩
theorem ok_callAns {f CB C CR : Addr} {fd : FuncData} (F : Fun K "call_answer" "call_answer" sCallAns f fd) (T : PTxt K C) (R : RTxt K CR) (T5 : Cst5 mg) (M0 : Mth P w K mg base 1 CR "take" ["self"] (spTake K CR)) (C1 : Cal P w K mg base 5 "load_answer" ["puzzle", "reader"] (spLoadAns K CB C CR))
    (C2 : Cal P w K mg base 32 "make_answer" ["puzzle", "reader"] (spMakeAns K CB C CR)) (C3 : Cal P w K mg base 4 "guess_answer" ["puzzle", "reader"] (spGuessAns K CB C CR)) (M1 : Mth P w K mg base 3 C "hint" ["self"] (spHint CB C)) (M2 : Mth P w K mg base 4 C "rest" ["self"] (spRest CB C))
    (M3 : Mth P w K mg base 2 C "left" ["self"] (spLeft CB C)) (M4 : Mth P w K mg base 2 C "tell" ["self"] (spTell CB C)) (M5 : Mth P w K mg base 1 C "score" ["self", "who"] (spScore CB C)) : FnOk P w K mg base CX0 33 f fd ["puzzle", "reader"] (spCallAns K CB C CR) := by
  refine F.ok scCallAns (fun vs H Q E h => ?_) (fun cdv A outer s H vs Q E hr h => ?_)
  · obtain ⟨Z, Hg, p, dx, a, pl, pl', c, rfl, _⟩ := h
    rfl
  · obtain ⟨Z, Hg, p, dx, a, pl, pl', c, rfl, rfl, hp, hN, hl, hc, k⟩ := h
    have hr1 : Room 1 _ := hr.mono (by decide)
    have hr2 : Room 2 _ := hr.mono (by decide)
    have hr3 : Room 3 _ := hr.mono (by decide)
    have hr4 : Room 4 _ := hr.mono (by decide)
    have hr5 : Room 5 _ := hr.mono (by decide)
    refine ⟨_, pss_cons (ps_set (i := 2) scCallAns.nd rfl (Or.inl rfl) (pe_mth0 M0 hr1 R.cl (pv 1)))
      (pss_cons (ps_if (pt_cmpR op_eq (pv 2) (pe_gv rfl T5.load) (nomark _)) (pss_one (ps_ret (pe_cal C1 hr5 rfl (pa_cons (pv 0) (pa_cons (pv 1) pa_nil))))) pss_nil)
      (pss_cons (ps_if (pt_cmpR op_eq (pv 2) (pe_gv rfl T5.make) (nomark _)) (pss_one (ps_ret (pe_cal C2 hr rfl (pa_cons (pv 0) (pa_cons (pv 1) pa_nil))))) pss_nil)
      (pss_cons (ps_if (pt_cmpR op_eq (pv 2) (pe_gv rfl T5.guess) (nomark _)) (pss_one (ps_ret (pe_cal C3 hr4 rfl (pa_cons (pv 0) (pa_cons (pv 1) pa_nil))))) pss_nil)
      (pss_cons (ps_if (pt_cmpR op_eq (pv 2) (pe_gv rfl T5.hint) (nomark _)) (pss_one (ps_ret (pe_mth0 M1 hr3 T.cl (pv 0)))) pss_nil)
      (pss_cons (ps_if (pt_cmpR op_eq (pv 2) (pe_gv rfl T5.rest) (nomark _)) (pss_one (ps_ret (pe_mth0 M2 hr4 T.cl (pv 0)))) pss_nil)
      (pss_cons (ps_if (pt_cmpR op_eq (pv 2) (pe_gv rfl T5.left) (nomark _)) (pss_one (ps_ret (pe_mth0 M3 hr2 T.cl (pv 0)))) pss_nil)
      (pss_cons (ps_if (pt_cmpR op_eq (pv 2) (pe_gv rfl T5.tell) (nomark _)) (pss_one (ps_ret (pe_mth0 M4 hr2 T.cl (pv 0)))) pss_nil)
      (pss_cons (ps_if (pt_cmpR op_eq (pv 2) (pe_gv rfl T5.score) (nomark _)) (pss_one (ps_ret (pe_mth M5 hr1 T.cl (pv 0) (pa_cons (pe_mth0 M0 hr1 R.cl (pv 1)) pa_nil)))) pss_nil)
      (pss_one ps_never))))))))), ?_⟩
    have ho : H Z.r = some (Z.ob pl) := hp.frame _ _ upd_same
    obtain ⟨n, hn⟩ := hc.call
    refine ⟨_, rfl, Z.r, Z.dx, _, rfl, ho, rfl, Z.r, Z.dx, Z.a, Z.l, pl, n, rfl, ho, hp.frame.seq (Rdr.nums hN), hn, fun H1 h1 b1 => ?_⟩
    have hp1 : PuzAt CB C (Z.hp Hg (pl + 1)) H1 p dx a := hp.read h1 b1
    obtain ⟨vb, lc, lw, lf, lg, O⟩ := hp1.opened
    cases hc with
    | load h0 g1 g2 g3 g4 g5 =>
      rw [h0] at hn
      cases hn
      exact ⟨_, rfl, rfl, _, rfl, iteT ⟨_, rfl, _, rfl, Z, Hg, p, dx, a, pl, _, _, _, rfl, rfl, hp1, hN, hl, g1, g2, g3, g4, g5, k⟩⟩
    | make h0 g1 g2 g3 g4 g5 g6 g7 =>
      rw [h0] at hn
      cases hn
      exact ⟨_, rfl, rfl, _, rfl, iteF ⟨_, rfl, rfl, _, rfl, iteT ⟨_, rfl, _, rfl, Z, Hg, p, dx, a, pl, _, _, _, _, _, rfl, rfl, hp1, hN, hl, g1, g2, g3, g4, g5, g6, g7, k⟩⟩⟩
    | guess h0 g1 g2 g3 =>
      rw [h0] at hn
      cases hn
      exact ⟨_, rfl, rfl, _, rfl, iteF ⟨_, rfl, rfl, _, rfl, iteF ⟨_, rfl, rfl, _, rfl, iteT ⟨_, rfl, _, rfl, Z, Hg, p, dx, a, pl, _, _, _, rfl, rfl, hp1, hN, g1, g2, g3, k⟩⟩⟩⟩
    | hint h0 =>
      rw [h0] at hn
      cases hn
      exact ⟨_, rfl, rfl, _, rfl, iteF ⟨_, rfl, rfl, _, rfl, iteF ⟨_, rfl, rfl, _, rfl, iteF ⟨_, rfl, rfl, _, rfl, iteT ⟨_, rfl, p, dx, _, rfl, O.obj, rfl, _, p, dx, a, rfl, hp1, k⟩⟩⟩⟩⟩
    | rest h0 =>
      rw [h0] at hn
      cases hn
      exact ⟨_, rfl, rfl, _, rfl, iteF ⟨_, rfl, rfl, _, rfl, iteF ⟨_, rfl, rfl, _, rfl, iteF ⟨_, rfl, rfl, _, rfl, iteF ⟨_, rfl, rfl, _, rfl, iteT ⟨_, rfl, p, dx, _, rfl, O.obj, rfl, _, p, dx, a, rfl, hp1, k⟩⟩⟩⟩⟩⟩
    | left h0 =>
      rw [h0] at hn
      cases hn
      exact ⟨_, rfl, rfl, _, rfl, iteF ⟨_, rfl, rfl, _, rfl, iteF ⟨_, rfl, rfl, _, rfl, iteF ⟨_, rfl, rfl, _, rfl, iteF ⟨_, rfl, rfl, _, rfl, iteF ⟨_, rfl, rfl, _, rfl, iteT ⟨_, rfl, p, dx, _, rfl, O.obj, rfl, _, p, dx, a, rfl, hp1, k⟩⟩⟩⟩⟩⟩⟩
    | tell h0 =>
      rw [h0] at hn
      cases hn
      exact ⟨_, rfl, rfl, _, rfl, iteF ⟨_, rfl, rfl, _, rfl, iteF ⟨_, rfl, rfl, _, rfl, iteF ⟨_, rfl, rfl, _, rfl, iteF ⟨_, rfl, rfl, _, rfl, iteF ⟨_, rfl, rfl, _, rfl, iteF ⟨_, rfl, rfl, _, rfl, iteT ⟨_, rfl, p, dx, _, rfl, O.obj, rfl, _, p, dx, a, rfl, hp1, k⟩⟩⟩⟩⟩⟩⟩⟩
    | score h0 g1 =>
      rw [h0] at hn
      cases hn
      refine ⟨_, rfl, rfl, _, rfl, iteF ⟨_, rfl, rfl, _, rfl, iteF ⟨_, rfl, rfl, _, rfl, iteF ⟨_, rfl, rfl, _, rfl, iteF ⟨_, rfl, rfl, _, rfl, iteF ⟨_, rfl, rfl, _, rfl, iteF ⟨_, rfl, rfl, _, rfl, iteF ⟨_, rfl, rfl, _, rfl, iteT ⟨_, rfl, p, dx, _, rfl, O.obj, rfl, ?_⟩⟩⟩⟩⟩⟩⟩⟩⟩
      refine ⟨_, rfl, Z.r, Z.dx, _, rfl, h1, rfl, Z.r, Z.dx, Z.a, Z.l, pl + 1, _, rfl, h1, hp1.frame.seq (Rdr.nums hN), g1, fun H2 h2 b2 => ?_⟩
      have hp2 : PuzAt CB C (Z.hp Hg (pl + 2)) H2 p dx a := hp1.read h2 b2
      exact ⟨_, p, dx, a, _, rfl, hp2, k⟩
end
end HW
end
section
set_option Elab.async false
set_option linter.all false
set_option maxRecDepth 100000
set_option maxHeartbeats 4000000
namespace HW
open PySem PySem.Spec PyProof.Rows L2 HX
/-! ### The calls that stand in the numbers -/
def Plays (l : List Nat) : Nat → List Ks333.Call → Prop
  | pl, [] => l.length ≤ pl
  | pl, c :: cs => ∃ pl', Parse l pl c pl' ∧ Plays l pl' cs
def toldOf : Ks333.Abs → List Ks333.Call → List Int
  | _, [] => []
  | a, c :: cs => ((ansOf (Ks333.act a c)).length : Int) :: (ansOf (Ks333.act a c) ++ toldOf (Ks333.act a c).1 cs)
def zs (l : List Nat) : List Int := l.map fun (n : Nat) => (n : Int)
theorem nats_zs (l : List Nat) : Ks333Neutral.nats (zs l) = l := by
  unfold Ks333Neutral.nats zs
  rw [List.map_map]
  induction l with
  | nil => rfl
  | cons a l ih => rw [List.map_cons, ih]; rfl
theorem row_zs {R : List Nat} {x s : List Int} (h : PyFlat.row (zs R) = some (x, s)) : ∃ n R', R = n :: R' ∧ n ≤ R'.length ∧ x = zs (R'.take n) ∧ s = zs (R'.drop n) := by
  cases R with
  | nil => cases h
  | cons n R' =>
    have h' : (if 0 ≤ (n : Int) ∧ (n : Int).toNat ≤ (zs R').length then some ((zs R').take (n : Int).toNat, (zs R').drop (n : Int).toNat) else none) = some (x, s) := h
    split at h'
    · rename_i c
      cases h'
      refine ⟨n, R', rfl, ?_, ?_, ?_⟩
      · have := c.2
        unfold zs at this
        rw [List.length_map] at this
        simpa using this
      · rw [Int.toNat_natCast]; unfold zs; rw [List.map_take]
      · rw [Int.toNat_natCast]; unfold zs; rw [List.map_drop]
    · cases h'
theorem rows2_zs {R : List Nat} {xs : List (List Int)} {t : List Int} (h : PyFlat.rows 2 (zs R) = some (xs, t)) : ∃ n1 R1 n2 R2, R = n1 :: R1 ∧ n1 ≤ R1.length ∧ R1.drop n1 = n2 :: R2 ∧ n2 ≤ R2.length ∧ xs = [zs (R1.take n1), zs (R2.take n2)] ∧ t = zs (R2.drop n2) := by
  have h' : (match PyFlat.row (zs R) with
    | none => none
    | some (x, s) => match (match PyFlat.row s with
        | none => none
        | some (x, s) => some ([x], s) : Option (List (List Int) × List Int)) with
      | none => none
      | some (xs, t) => some (x :: xs, t)) = some (xs, t) := by
    rw [← h]
    unfold PyFlat.rows PyFlat.rows PyFlat.rows
    rfl
  cases e1 : PyFlat.row (zs R) with
  | none => rw [e1] at h'; cases h'
  | some y =>
    obtain ⟨x, s⟩ := y
    rw [e1] at h'
    obtain ⟨n1, R1, rfl, l1, rfl, rfl⟩ := row_zs e1
    simp only at h'
    cases e2 : PyFlat.row (zs (R1.drop n1)) with
    | none => rw [e2] at h'; cases h'
    | some y =>
      obtain ⟨x2, s2⟩ := y
      rw [e2] at h'
      obtain ⟨n2, R2, h3, l2, rfl, rfl⟩ := row_zs e2
      cases h'
      exact ⟨n1, R1, n2, R2, rfl, l1, h3, l2, rfl, rfl⟩
theorem drop_cons' {L M : List Nat} {pl x : Nat} (h : L.drop pl = x :: M) : L[pl]? = some x ∧ L.drop (pl + 1) = M ∧ pl < L.length := by
  have hl : pl < L.length := by
    have := congrArg List.length h
    rw [List.length_drop, List.length_cons] at this
    omega
  have e := List.drop_eq_getElem_cons hl
  rw [h] at e
  injection e with e1 e2
  exact ⟨by rw [List.getElem?_eq_getElem hl, e1], e2.symm, hl⟩
theorem call_parse {L M : List Nat} {pl : Nat} (hM : L.drop pl = M) {c : List (List Int)} {t : List Int} (h : PyFlat.call PyKs333.shape (zs M) = some (c, t)) :
    ∃ d pl', Parse L pl d pl' ∧ t = zs (L.drop pl') ∧ ∀ a, Ks333Neutral.step a (PyKs333.whole c) = Ks333Neutral.sa (Ks333.act a d) := by
  cases M with
  | nil => cases h
  | cons m M =>
    obtain ⟨g0, hM1, hlt⟩ := drop_cons' hM
    have h' : (match PyKs333.shape (m : Int) with
      | none => none
      | some (n, k) => if (zs M).length < n then none else match PyFlat.rows k ((zs M).drop n) with
        | none => none
        | some (xs, t) => some (((m : Int) :: (zs M).take n) :: xs, t)) = some (c, t) := h
    match m, g0, h' with
    | 0, g0, h' =>
      cases M with
      | nil => cases h'
      | cons wd M =>
        obtain ⟨g1, hM2, _⟩ := drop_cons' hM1
        have h2 : (if (zs (wd :: M)).length < 1 then none else match PyFlat.rows 2 (zs M) with
          | none => none
          | some (xs, t) => some ([(0 : Int), (wd : Int)] :: xs, t)) = some (c, t) := h'
        rw [if_neg (by show ¬ (zs M).length + 1 < 1; omega)] at h2
        cases er : PyFlat.rows 2 (zs M) with
        | none => rw [er] at h2; cases h2
        | some y =>
          obtain ⟨xs, t'⟩ := y
          rw [er] at h2
          obtain ⟨n1, R1, n2, R2, rfl, l1, hR2, l2, rfl, rfl⟩ := rows2_zs er
          cases h2
          obtain ⟨g2, hM3, k2⟩ := drop_cons' hM2
          have e4 : L.drop (pl + 1 + 1 + 1 + n1) = n2 :: R2 := by rw [← List.drop_drop, hM3, hR2]
          obtain ⟨g4, hM4, k4⟩ := drop_cons' e4
          have le1 := congrArg List.length hM3
          have le2 := congrArg List.length hM4
          rw [List.length_drop] at le1 le2
          have q3 : L.drop (pl + 3) = R1 := hM3
          have q4 : L.drop (pl + 4 + n1) = R2 := by rw [← hM4]; congr 1; omega
          refine ⟨_, _, Parse.load (l := L) (pl := pl) (wd := wd) (n1 := n1) (n2 := n2) g0 g1 g2 (by omega) (by rw [← g4]) (by omega), ?_, fun a => ?_⟩
          · rw [← q4, List.drop_drop]
          · rw [q3, q4]
            show Ks333Neutral.sa (Ks333.act a (.load wd (Ks333Neutral.nats (zs (R1.take n1))) (if Ks331.TEXT < (Ks333Neutral.nats (zs (R2.take n2))).length then none else some (Ks333Neutral.nats (zs (R2.take n2)))))) = _
            rw [nats_zs, nats_zs]
    | 1, g0, h' =>
      cases M with
      | nil => cases h'
      | cons wd M =>
        cases M with
        | nil => cases h'
        | cons hg M =>
          cases M with
          | nil => cases h'
          | cons most M =>
            obtain ⟨g1, hM2, _⟩ := drop_cons' hM1
            obtain ⟨g2, hM3, _⟩ := drop_cons' hM2
            obtain ⟨g3, hM4, _⟩ := drop_cons' hM3
            have h2 : (if (zs (wd :: hg :: most :: M)).length < 3 then none else match PyFlat.rows 2 (zs M) with
              | none => none
              | some (xs, t) => some ([(1 : Int), (wd : Int), (hg : Int), (most : Int)] :: xs, t)) = some (c, t) := h'
            rw [if_neg (by show ¬ (zs M).length + 1 + 1 + 1 < 3; omega)] at h2
            cases er : PyFlat.rows 2 (zs M) with
            | none => rw [er] at h2; cases h2
            | some y =>
              obtain ⟨xs, t'⟩ := y
              rw [er] at h2
              obtain ⟨n1, R1, n2, R2, rfl, l1, hR2, l2, rfl, rfl⟩ := rows2_zs er
              cases h2
              obtain ⟨g4, hM5, k2⟩ := drop_cons' hM4
              have e4 : L.drop (pl + 1 + 1 + 1 + 1 + 1 + n1) = n2 :: R2 := by rw [← List.drop_drop, hM5, hR2]
              obtain ⟨g5, hM6, k4⟩ := drop_cons' e4
              have le1 := congrArg List.length hM5
              have le2 := congrArg List.length hM6
              rw [List.length_drop] at le1 le2
              have q3 : L.drop (pl + 5) = R1 := hM5
              have q4 : L.drop (pl + 6 + n1) = R2 := by rw [← hM6]; congr 1; omega
              refine ⟨_, _, Parse.make (l := L) (pl := pl) (wd := wd) (hg := hg) (most := most) (n1 := n1) (n2 := n2) g0 g1 g2 g3 g4 (by omega) (by rw [← g5]) (by omega), ?_, fun a => ?_⟩
              · rw [← q4, List.drop_drop]
              · rw [q3, q4]
                show Ks333Neutral.sa (Ks333.act a (.make wd hg most (if Ks331.TEXT < (Ks333Neutral.nats (zs (R1.take n1))).length then none else some (Ks333Neutral.nats (zs (R1.take n1)))) (Ks333Neutral.nats (zs (R2.take n2))))) = _
                rw [nats_zs, nats_zs]
    | 2, g0, h' =>
      cases M with
      | nil => cases h'
      | cons wd M =>
        cases M with
        | nil => cases h'
        | cons hg M =>
          cases M with
          | nil => cases h'
          | cons most M =>
            obtain ⟨g1, hM2, _⟩ := drop_cons' hM1
            obtain ⟨g2, hM3, _⟩ := drop_cons' hM2
            obtain ⟨g3, hM4, _⟩ := drop_cons' hM3
            have h2 : (if (zs (wd :: hg :: most :: M)).length < 3 then none else some ([[(2 : Int), (wd : Int), (hg : Int), (most : Int)]], zs M)) = some (c, t) := h'
            rw [if_neg (by show ¬ (zs M).length + 1 + 1 + 1 < 3; omega)] at h2
            cases h2
            exact ⟨_, _, Parse.guess g0 g1 g2 g3, by rw [← hM4], fun a => rfl⟩
    | 3, g0, h' =>
      have h2 : (if (zs M).length < 0 then none else some ([[(3 : Int)]], zs M)) = some (c, t) := h'
      rw [if_neg (by omega)] at h2
      cases h2
      exact ⟨_, _, Parse.hint g0, by rw [← hM1], fun a => rfl⟩
    | 4, g0, h' =>
      have h2 : (if (zs M).length < 0 then none else some ([[(4 : Int)]], zs M)) = some (c, t) := h'
      rw [if_neg (by omega)] at h2
      cases h2
      exact ⟨_, _, Parse.rest g0, by rw [← hM1], fun a => rfl⟩
    | 5, g0, h' =>
      have h2 : (if (zs M).length < 0 then none else some ([[(5 : Int)]], zs M)) = some (c, t) := h'
      rw [if_neg (by omega)] at h2
      cases h2
      exact ⟨_, _, Parse.left g0, by rw [← hM1], fun a => rfl⟩
    | 6, g0, h' =>
      have h2 : (if (zs M).length < 0 then none else some ([[(6 : Int)]], zs M)) = some (c, t) := h'
      rw [if_neg (by omega)] at h2
      cases h2
      exact ⟨_, _, Parse.tell g0, by rw [← hM1], fun a => rfl⟩
    | 7, g0, h' =>
      cases M with
      | nil => cases h'
      | cons wd M =>
        obtain ⟨g1, hM2, _⟩ := drop_cons' hM1
        have h2 : (if (zs (wd :: M)).length < 1 then none else some ([[(7 : Int), (wd : Int)]], zs M)) = some (c, t) := h'
        rw [if_neg (by show ¬ (zs M).length + 1 < 1; omega)] at h2
        cases h2
        exact ⟨_, _, Parse.score g0 g1, by rw [← hM2], fun a => rfl⟩
    | m + 8, g0, h' =>
      exfalso
      have e : PyKs333.shape ((m + 8 : Nat) : Int) = none := by
        unfold PyKs333.shape
        rw [if_neg (by omega), if_neg (by omega), if_neg (by omega), if_neg (by omega), if_neg (by omega), if_neg (by omega), if_neg (by omega), if_neg (by omega)]
      rw [e] at h'
      cases h'
theorem calls_plays {L : List Nat} : ∀ (f : Nat) (pl : Nat) (cs : List (List (List Int))), PyFlat.calls PyKs333.shape f (zs (L.drop pl)) = some cs →
    ∃ ds, Plays L pl ds ∧ ∀ a, PyFlat.told (PyFlat.played Ks333Neutral.step a (cs.map PyKs333.whole)) = toldOf a ds
  | f, pl, cs, h => by
    cases e : L.drop pl with
    | nil =>
      rw [e] at h
      have h' : some [] = some cs := by
        rw [← h]
        cases f <;> rfl
      cases h'
      exact ⟨[], by have := congrArg List.length e; rw [List.length_drop] at this; show L.length ≤ pl; rw [List.length_nil] at this; omega, fun a => rfl⟩
    | cons m M =>
      rw [e] at h
      cases f with
      | zero => cases h
      | succ f =>
        have h' : (match PyFlat.call PyKs333.shape (zs (m :: M)) with
          | none => none
          | some (c, t) => match PyFlat.calls PyKs333.shape f t with
            | none => none
            | some cs => some (c :: cs)) = some cs := h
        cases ec : PyFlat.call PyKs333.shape (zs (m :: M)) with
        | none => rw [ec] at h'; cases h'
        | some y =>
          obtain ⟨c, t⟩ := y
          rw [ec] at h'
          obtain ⟨d, pl', hp, rfl, hs⟩ := call_parse e ec
          simp only at h'
          cases er : PyFlat.calls PyKs333.shape f (zs (L.drop pl')) with
          | none => rw [er] at h'; cases h'
          | some cs' =>
            rw [er] at h'
            cases h'
            obtain ⟨ds, hd, ht⟩ := calls_plays f pl' cs' er
            refine ⟨d :: ds, ⟨pl', hp, hd⟩, fun a => ?_⟩
            show ((((Ks333Neutral.step a (PyKs333.whole c)).2.length : Nat) : Int) :: (Ks333Neutral.step a (PyKs333.whole c)).2) ++ PyFlat.told (PyFlat.played Ks333Neutral.step (Ks333Neutral.step a (PyKs333.whole c)).1 (cs'.map PyKs333.whole)) = _
            rw [hs a, ht]
            rfl
theorem runs_played : ∀ (cs : List (List (List Int))) (a : Ks333.Abs), Ks333Neutral.runs a cs = PyFlat.played Ks333Neutral.step a cs
  | [], _ => rfl
  | c :: cs, a => by
    show (Ks333Neutral.step a c).2 :: Ks333Neutral.runs _ cs = (Ks333Neutral.step a c).2 :: PyFlat.played _ _ cs
    rw [runs_played cs]
theorem foldl_add : ∀ (l : List Nat) (n : Nat), l.foldl (· + ·) n = n + l.sum
  | [], n => rfl
  | a :: l, n => by
    rw [List.foldl_cons, foldl_add l, List.sum_cons]
    omega
theorem told_len : ∀ (A : List (List Int)), (PyFlat.told A).length = A.length + (A.map List.length).sum
  | [] => rfl
  | a :: A => by
    show ((a.length : Int) :: a ++ PyFlat.told A).length = _
    rw [List.length_append, told_len A, List.map_cons, List.sum_cons, List.length_cons, List.length_cons]
    omega
theorem played_len : ∀ (cs : List (List (List Int))) (a : Ks333.Abs), (PyFlat.played Ks333Neutral.step a cs).length = cs.length
  | [], _ => rfl
  | c :: cs, a => by
    show (PyFlat.played _ _ cs).length + 1 = _
    rw [played_len cs, List.length_cons]
/-- what is asked, in the program's words -/
theorem asked_plays {L : List Nat} (h : PyKs333.answers_asked (zs L) = true) : ∃ ds, Plays L 0 ds ∧ PyKs333.answers (zs L) = toldOf Ks333Neutral.start ds ∧ (toldOf Ks333Neutral.start ds).length ≤ 1000300 := by
  unfold PyKs333.answers_asked PyKs333.calls at h
  unfold PyKs333.answers PyKs333.calls
  cases e : PyFlat.calls PyKs333.shape (zs L).length (zs L) with
  | none => rw [e] at h; cases h
  | some cs =>
    rw [e] at h
    simp only [Bool.and_eq_true] at h
    obtain ⟨h1, h2⟩ := h
    obtain ⟨ds, hd, ht⟩ := calls_plays (L := L) (zs L).length 0 cs (by rw [List.drop_zero]; exact e)
    refine ⟨ds, hd, ht _, ?_⟩
    rw [← ht, told_len, played_len]
    have h1' := of_decide_eq_true (show decide ((cs.map PyKs333.whole).length ≤ 300) = true from h1)
    unfold Ks333Neutral.asked Ks333Neutral.f at h2
    simp only [Bool.and_eq_true, decide_eq_true_iff] at h2
    have h3 := h2.2
    rw [runs_played, foldl_add] at h3
    omega
end HW
end
section
set_option Elab.async false
set_option linter.all false
set_option maxRecDepth 100000
set_option maxHeartbeats 4000000
namespace HW
open PySem PySem.Spec PyProof.Rows L2 HX
theorem sans_upd {H : Hp} {t : Addr} {o : HO} (h : H t = none) : sans (upd H t o) t = H := by
  funext b
  by_cases e : b = t
  · subst e
    rw [sans_p, h]
  · rw [sans_ne e, upd_ne e]
theorem same_sans (H : Hp) (t : Addr) : Same (sans H t) H := fun b o e => by
  have nb : b ≠ t := fun z => by rw [z, sans_p] at e; cases e
  rw [sans_ne nb] at e
  exact e
theorem PuzAt.widen {CB C : Addr} {Hf H1 H2 : Hp} {p dx r : Addr} {o : HO} {a : Ks333.Abs} (h : PuzAt CB C Hf H1 p dx a) (hr : H1 r = none) (s : Same H1 H2) (h2 : H2 r = some o) : PuzAt CB C (upd Hf r o) H2 p dx a := by
  obtain ⟨H0, vb, la, lw, lf, lg, k1, k2, k3, k4, k5, k6, k7, k8, k9, k10, k11, k12, k13⟩ := h.ex
  refine ⟨fun b ob e => ?_, ?_, H0, vb, la, lw, lf, lg, k1.trans s, k2, k3, k4, ?_, ?_, k7, s _ _ k8, s _ _ k9, s _ _ k10, k11, k12, k13⟩
  · by_cases nb : b = r
    · subst nb
      rw [upd_same] at e
      rw [h2, e]
    · rw [upd_ne nb] at e
      exact s _ _ (h.frame _ _ e)
  · rw [upd_ne (ne_of_none k8 hr)]; exact h.fp
  · rw [upd_ne (ne_of_none k9 hr)]; exact k5
  · rw [upd_ne (ne_of_none k10 hr)]; exact k6
theorem Parse.lt {l : List Nat} {pl pl' : Nat} {c : Ks333.Call} (h : Parse l pl c pl') : pl < l.length := by
  obtain ⟨n, hn⟩ := h.call
  exact (List.getElem?_eq_some_iff.mp hn).1
theorem zv_len (l : List Int) : (zv l).length = l.length := by unfold zv; rw [List.length_map]
section
variable {P : Program} {w : World} {K : PySem.W.Frag} {mg : Str → Option Value} {base : Heap}
def spAnswers (K : PySem.W.Frag) : Sp := fun vs H Q _ => ∃ (a : Addr) (l : List Nat) (cs : List Ks333.Call), vs = [.ref a] ∧ SqL K H a (iv l) ∧ l.length ≤ 30000 ∧ Plays l 0 cs ∧ (toldOf Ks333Neutral.start cs).length ≤ 1000300 ∧ ∀ H' t, H' t = some (.lst (zv (toldOf Ks333Neutral.start cs))) → Q (.ref t) H'
theorem scAnswers : FnScope ["calls", "puzzle", "reader", "told", "answer"] ["calls"] (defScope sAnswers) := ⟨rfl, rfl, rfl, by decide +kernel, rfl, by decide +kernel, by decide +kernel⟩
theorem ok_answers {f CB C CR : Addr} {fd : FuncData} (F : Fun K "answers" "answers" sAnswers f fd) (R : RTxt K CR) (T4 : Cst4 mg) (MP : Mak P w K mg base 1 "Puzzle" C ["self"] (spPuzzleInit CB C)) (MR : Mak P w K mg base 1 "Reader" CR ["self", "numbers"] (spReaderInit CR))
    (M1 : Mth P w K mg base 1 CR "is_done" ["self"] (spIsDone K CR)) (C1 : Cal P w K mg base 33 "call_answer" ["puzzle", "reader"] (spCallAns K CB C CR)) : FnOk P w K mg base CX0 34 f fd ["calls"] (spAnswers K) := by
  refine F.ok scAnswers (fun vs H Q E h => ?_) (fun cdv A outer s H vs Q E hr h => ?_)
  · obtain ⟨a, l, cs, rfl, _⟩ := h
    rfl
  · obtain ⟨a, l, cs, rfl, hS, hl, hpl, hlen, k⟩ := h
    have hr1 : Room 1 _ := hr.mono (by decide)
    have hr2 : Room 2 _ := hr.mono (by decide)
    have sz : 1000300 < sizeLine := by decide
    refine ⟨_, pss_cons (ps_set (i := 1) scAnswers.nd rfl (Or.inl rfl) (pe_mak0 MP hr2 rfl))
      (pss_cons (ps_set (i := 2) scAnswers.nd rfl (Or.inl rfl) (pe_mak MR hr2 rfl (pa_cons (pv 0) pa_nil)))
      (pss_cons (ps_set (i := 3) scAnswers.nd rfl (Or.inl rfl) (pe_lst pa_nil))
      (pss_cons (ps_while PassesOwn.never (pt_not (pt_val (pe_mth0 M1 hr1 R.cl (pv 2))))
        (pss_cons (ps_set (i := 4) scAnswers.nd rfl (Or.inl rfl) (pe_cal C1.off hr rfl (pa_cons (pv 1) (pa_cons (pv 2) pa_nil))))
        (pss_cons (ps_expr (pe_bm PySem.F.plainAttrs_list PySem.F.slot_list_append PySem.F.type_list_append mt_append (pv 3) (pa_cons (pe_callB call_len_seq (by rfl) T4.len PySem.boot_len (pa_cons (pv 4) pa_nil)) pa_nil)))
        (pss_one (ps_expr (pe_bm PySem.F.plainAttrs_list PySem.F.slot_list_extend PySem.F.type_list_extend mt_extend (pv 3) (pa_cons (pv 4) pa_nil)))))))
      (pss_one (ps_ret (pv 3)))))), ?_⟩
    intro p dx hp0 hdx npd
    refine ⟨H, p, dx, rfl, upd_same, fun b o e ne => by rw [upd_ne ne, upd_ne (ne_of_none e hdx)]; exact e, hp0, fun H1 hp1 => ⟨rfl, ?_⟩⟩
    refine ⟨_, rfl, fun r dxr hr0 hdr nrd => ⟨r, dxr, a, rfl, upd_same, fun H2 h2 b2 => ⟨rfl, ?_⟩⟩⟩
    have s12 : Same H1 H2 := fun b o e => b2 b o (by rw [upd_ne (ne_of_none e hr0), upd_ne (ne_of_none e hdr)]; exact e) (ne_of_none e hr0)
    let Z : Rdr := ⟨CR, r, dxr, a, l⟩
    have hrH : H r = none := hp1.frame.free hr0
    have hp2 : PuzAt CB C (Z.hp H 0) H2 p dx Ks333Neutral.start := hp1.widen hr0 s12 h2
    have hN : SqL K (Z.hp H 0) Z.a (iv Z.l) := (same_new (Same.refl H) hrH).seq hS
    refine ⟨Nat.zero_le _, fun t ht => ?_⟩
    refine ⟨fun m σ H' => ∃ (a' : Ks333.Abs) (pl : Nat) (cs' : List Ks333.Call) (told : List Int) (v4 : Option V), m = cs'.length ∧ σ = [some (.ref a), some (.ref p), some (.ref r), some (.ref t), v4] ∧ H' t = some (.lst (zv told)) ∧ PuzAt CB C (Z.hp H pl) (sans H' t) p dx a' ∧ Plays l pl cs' ∧ told ++ toldOf a' cs' = toldOf Ks333Neutral.start cs,
      ⟨_, Ks333Neutral.start, 0, cs, [], none, rfl, rfl, upd_same, by rw [sans_upd ht]; exact hp2, hpl, rfl⟩, ?_⟩
    rintro m σ H' ⟨a', pl, cs', told, v4, rfl, rfl, ht', hp', hpl', htold⟩
    have ho : H' r = some (Z.ob pl) := same_sans H' t _ _ (hp'.frame _ _ upd_same)
    have hS' : SqL K H' a (iv l) := (same_sans H' t).seq (hp'.frame.seq (Rdr.nums hN))
    refine ⟨_, rfl, r, dxr, _, rfl, ho, rfl, r, dxr, a, l, pl, rfl, ho, hS', _, rfl, ?_⟩
    cases cs' with
    | nil =>
      have hle : l.length ≤ pl := hpl'
      rw [decide_eq_true hle]
      refine iteF ⟨_, rfl, k H' t ?_⟩
      rw [ht', ← htold]
      show _ = some (HO.lst (zv (told ++ [])))
      rw [List.append_nil]
    | cons c cs' =>
      obtain ⟨pl', hc, hcs⟩ := hpl'
      have hlt := hc.lt
      rw [decide_eq_false (by omega)]
      refine iteT ⟨fun σ H' => ∃ (a' : Ks333.Abs) (pl : Nat) (told : List Int) (v4 : Option V), σ = [some (.ref a), some (.ref p), some (.ref r), some (.ref t), v4] ∧ H' t = some (.lst (zv told)) ∧ PuzAt CB C (Z.hp H pl) (sans H' t) p dx a' ∧ Plays l pl cs' ∧ told ++ toldOf a' cs' = toldOf Ks333Neutral.start cs,
        fun σ' H' ⟨a', pl, told, v4, q⟩ => ⟨cs'.length, by simp, a', pl, cs', told, v4, rfl, q⟩, ?_⟩
      have ed : told ++ ((ansOf (Ks333.act a' c)).length : Int) :: (ansOf (Ks333.act a' c) ++ toldOf (Ks333.act a' c).1 cs') = toldOf Ks333Neutral.start cs := htold
      have el := congrArg List.length ed
      rw [List.length_append, List.length_cons, List.length_append] at el
      refine ⟨_, rfl, _, rfl, t, _, ht', Z, H, p, dx, a', pl, pl', c, rfl, rfl, hp', hN, hl, hc, fun H3 L hp3 hL _ ht3 => ?_⟩
      have nLt : L ≠ t := ne_of_none hL ht3
      refine ⟨_, rfl, .inl ⟨rfl, _, SqL.of upd_same⟩, _, rfl, L, _, rfl, .inl (SqL.of (by rw [upd_ne nLt]; exact hL)), t, _, _, rfl, rfl, upd_same, by rw [zv_len]; omega, ?_⟩
      refine ⟨_, rfl, .inl ⟨rfl, _, SqL.of upd_same⟩, _, rfl, t, L, _, _, rfl, rfl, upd_same, by rw [upd_ne nLt, upd_ne nLt]; exact hL, ?_, ?_⟩
      · rw [List.length_append, zv_len, zv_len]
        show told.length + 1 + _ ≤ _
        omega
      · refine ⟨(Ks333.act a' c).1, pl', told ++ ((ansOf (Ks333.act a' c)).length : Int) :: ansOf (Ks333.act a' c), _, rfl, ?_, ?_, hcs, ?_⟩
        · rw [upd_same, zv_len]
          unfold zv
          rw [List.map_append, List.map_cons, List.append_assoc]
          rfl
        · rw [upd_upd, upd_upd, sans_upd ht3]
          exact hp3
        · rw [List.append_assoc]
          exact ed
end
end HW
end
section
set_option Elab.async false
set_option linter.all false
set_option maxRecDepth 100000
set_option maxHeartbeats 4000000
namespace HW
open PySem PySem.Spec PyProof.Rows L2 HX
/-! ### The module as it stands behind its top -/
structure FnIn (K : PySem.W.Frag) (mg : Str → Option Value) (x : Str) (st : Stmt) : Prop where
  ex : ∃ f fd, mg x = some (.ref f) ∧ Fun K x x st f fd
structure MtIn (K : PySem.W.Frag) (C : Addr) (m qual : Str) (st : Stmt) : Prop where
  ex : ∃ f fd, Meth K C m f ∧ Fun K m qual st f fd
structure ClIn (K : PySem.W.Frag) (mg : Str → Option Value) (x : Str) (C : Addr) : Prop where
  at_ : mg x = some (.ref C)
  makes : PySem.W.makesIn K C = true
  kp : PySem.W.keepIn K (.ref C) = true
theorem FnIn.of {K : PySem.W.Frag} {h : Heap} {mg : Str → Option Value} {x : Str} {st : Stmt} {f : Addr} {oc : Value} {od an : Option Addr} {osl : Array (Option Value)} {kV doc pm cdv ct : Value} (X : K.In h) (G : h.Ns mainGlobals mg) (a : PySem.W.nsIn K mainGlobals x = some (some (.ref f)))
    (l : K.lookup f = some ⟨oc, od, .func (PySem.W.fnOf x x (defArgs st) (defBody st) (defScope st) .none kV doc pm an cdv ct), osl⟩) (c : PySem.W.codeIn K cdv x = true) (k : PySem.W.keepIn K (.ref f) = true) : FnIn K mg x st :=
  ⟨f, _, PySem.W.mg_of X G a, fun_mk l c k⟩
theorem MtIn.of {K : PySem.W.Frag} {C : Addr} {m qual : Str} {st : Stmt} {f : Addr} {oc : Value} {od an : Option Addr} {osl : Array (Option Value)} {kV doc pm cdv ct : Value} (a : PySem.W.findIn K (.ref C) m = some (some (.ref f))) (i : PySem.W.isFn K (.ref f) = true)
    (l : K.lookup f = some ⟨oc, od, .func (PySem.W.fnOf m qual (defArgs st) (defBody st) (defScope st) .none kV doc pm an cdv ct), osl⟩) (c : PySem.W.codeIn K cdv qual = true) (k : PySem.W.keepIn K (.ref f) = true) : MtIn K C m qual st :=
  ⟨f, _, ⟨a, i, k⟩, fun_mk l c k⟩
theorem ClIn.of {K : PySem.W.Frag} {h : Heap} {mg : Str → Option Value} {x : Str} {C : Addr} (X : K.In h) (G : h.Ns mainGlobals mg) (a : PySem.W.nsIn K mainGlobals x = some (some (.ref C))) (mk : PySem.W.makesIn K C = true) (kc : PySem.W.keepIn K (.ref C) = true) : ClIn K mg x C := ⟨PySem.W.mg_of X G a, mk, kc⟩
theorem Gv.int {K : PySem.W.Frag} {h : Heap} {mg : Str → Option Value} {x : Str} {i : Int} {t : Tok} (X : K.In h) (G : h.Ns mainGlobals mg) (a : PySem.W.nsIn K mainGlobals x = some (some (.int i t))) : Gv mg x (.int i) := ⟨_, PySem.W.mg_of X G a, t, rfl⟩
theorem Gv.str {K : PySem.W.Frag} {h : Heap} {mg : Str → Option Value} {x : Str} {i : Str} {t : Tok} (X : K.In h) (G : h.Ns mainGlobals mg) (a : PySem.W.nsIn K mainGlobals x = some (some (.str i t))) : Gv mg x (.str i) := ⟨_, PySem.W.mg_of X G a, t, rfl⟩
theorem Gv.ref {K : PySem.W.Frag} {h : Heap} {mg : Str → Option Value} {x : Str} {a : Addr} (X : K.In h) (G : h.Ns mainGlobals mg) (e : PySem.W.nsIn K mainGlobals x = some (some (.ref a))) : Gv mg x (.ref a) := ⟨_, PySem.W.mg_of X G e, rfl⟩
abbrev BindOk (x qual : Str) (st : Stmt) (ps : List Str) : Prop := ∀ (kV doc pm : Value) (an : Option Addr) (cdv ct : Value) (us : List Value), us.length = ps.length → bindArgs (PySem.W.fnOf x qual (defArgs st) (defBody st) (defScope st) .none kV doc pm an cdv ct) ⟨us, []⟩ = pure (ps.zip us)
section
variable {P : Program} {w : World} {K : PySem.W.Frag} {mg : Str → Option Value} {base : Heap}
theorem FnIn.cal {x : Str} {st : Stmt} {ps : List Str} {k : Nat} {sp : Sp} (I : FnIn K mg x st) (b : BindOk x x st ps) (h : ∀ {f fd}, Fun K x x st f fd → FnOk P w K mg base CX0 k f fd ps sp) : Cal P w K mg base k x ps sp := by
  obtain ⟨f, fd, m, F⟩ := I.ex
  exact ⟨f, fd, h F, m, F.kp, F.binds b⟩
theorem MtIn.mth {C : Addr} {m qual : Str} {st : Stmt} {ps : List Str} {k : Nat} {sp : Sp} (I : MtIn K C m qual st) (b : BindOk m qual st ps) (h : ∀ {f fd}, Fun K m qual st f fd → FnOk P w K mg base CX0 k f fd ps sp) : Mth P w K mg base k C m ps sp := by
  obtain ⟨f, fd, m, F⟩ := I.ex
  exact ⟨f, fd, h F, m, F.binds b⟩
theorem ClIn.mak {x : Str} {C : Addr} {qual : Str} {st : Stmt} {ps : List Str} {k : Nat} {sp : Sp} (D : ClIn K mg x C) (I : MtIn K C "__init__" qual st) (b : BindOk "__init__" qual st ps) (h : ∀ {f fd}, Fun K "__init__" qual st f fd → FnOk P w K mg base CX0 k f fd ps sp) : Mak P w K mg base k x C ps sp := by
  obtain ⟨f, fd, m, F⟩ := I.ex
  exact ⟨f, fd, ⟨D.makes, m.at_, m.fn, D.kp⟩, h F, D.at_, F.binds b⟩
end
theorem all_mk {P : Program} {w : World} {K : PySem.W.Frag} {mg : Str → Option Value} {fa CB CS CR C : Addr} (hfa : mg "answers" = some (.ref fa)) (T : Cst mg) (T2 : Cst2 K mg) (T3 : Cst3 mg) (T4 : Cst4 mg) (T5 : Cst5 mg) (B : BTxt K CB) (TS : STxt K CS) (R : RTxt K CR) (TP : PTxt K C)
    (f_are_letters : FnIn K mg "are_letters" sAreLetters)
    (f_text_of : FnIn K mg "text_of" sTextOf)
    (f_bytes_of : FnIn K mg "bytes_of" sBytesOf)
    (f_backwards : FnIn K mg "backwards" sBackwards)
    (f_lines_of : FnIn K mg "lines_of" sLinesOf)
    (f_is_word : FnIn K mg "is_word" sIsWord)
    (f_has_twins : FnIn K mg "has_twins" sHasTwins)
    (f_list_refusal : FnIn K mg "list_refusal" sListRefusal)
    (f_is_side : FnIn K mg "is_side" sIsSide)
    (f_all_places : FnIn K mg "all_places" sAllPlaces)
    (f_read_path : FnIn K mg "read_path" sReadPath)
    (f_read_track : FnIn K mg "read_track" sReadTrack)
    (f_times_in : FnIn K mg "times_in" sTimesIn)
    (f_is_right : FnIn K mg "is_right" sIsRight)
    (f_first_path : FnIn K mg "first_path" sFirstPath)
    (f_used_cells : FnIn K mg "used_cells" sUsedCells)
    (f_path_between : FnIn K mg "path_between" sPathBetween)
    (f_fits : FnIn K mg "fits" sFits)
    (f_with_word : FnIn K mg "with_word" sWithWord)
    (f_filled : FnIn K mg "filled" sFilled)
    (f_is_square : FnIn K mg "is_square" sIsSquare)
    (f_is_filling : FnIn K mg "is_filling" sIsFilling)
    (f_load_answer : FnIn K mg "load_answer" sLoadAns)
    (f_make_answer : FnIn K mg "make_answer" sMakeAns)
    (f_guess_answer : FnIn K mg "guess_answer" sGuessAns)
    (f_call_answer : FnIn K mg "call_answer" sCallAns)
    (f_answers : FnIn K mg "answers" sAnswers)
    (c_Board : ClIn K mg "Board" CB)
    (m_Board_init : MtIn K CB "__init__" "Board.__init__" sBoardInit)
    (m_Board_cells_from : MtIn K CB "cells_from" "Board.cells_from" sCellsFrom)
    (m_Board_paths : MtIn K CB "paths" "Board.paths" sPaths)
    (m_Board_whole_track : MtIn K CB "whole_track" "Board.whole_track" sWholeTrack)
    (c_Search : ClIn K mg "Search" CS)
    (m_Search_init : MtIn K CS "__init__" "Search.__init__" sSearchInit)
    (m_Search_run : MtIn K CS "run" "Search.run" sRun)
    (m_Search_is_over : MtIn K CS "is_over" "Search.is_over" sIsOver)
    (m_Search_put_from : MtIn K CS "put_from" "Search.put_from" sPutFrom)
    (m_Search_try_at : MtIn K CS "try_at" "Search.try_at" sTryAt)
    (m_Search_judge : MtIn K CS "judge" "Search.judge" sJudge)
    (c_Reader : ClIn K mg "Reader" CR)
    (m_Reader_init : MtIn K CR "__init__" "Reader.__init__" sReaderInit)
    (m_Reader_is_done : MtIn K CR "is_done" "Reader.is_done" sIsDone)
    (m_Reader_take : MtIn K CR "take" "Reader.take" sTake)
    (m_Reader_take_row : MtIn K CR "take_row" "Reader.take_row" sTakeRow)
    (c_Puzzle : ClIn K mg "Puzzle" C)
    (m_Puzzle_init : MtIn K C "__init__" "Puzzle.__init__" sPuzzleInit)
    (m_Puzzle_begin : MtIn K C "begin" "Puzzle.begin" sBegin)
    (m_Puzzle_load : MtIn K C "load" "Puzzle.load" sLoad)
    (m_Puzzle_make : MtIn K C "make" "Puzzle.make" sMake)
    (m_Puzzle_guess : MtIn K C "guess" "Puzzle.guess" sGuess)
    (m_Puzzle_number_of : MtIn K C "number_of" "Puzzle.number_of" sNumberOf)
    (m_Puzzle_hint : MtIn K C "hint" "Puzzle.hint" sHint)
    (m_Puzzle_unfound : MtIn K C "unfound" "Puzzle.unfound" sUnfound)
    (m_Puzzle_rest : MtIn K C "rest" "Puzzle.rest" sRest)
    (m_Puzzle_left : MtIn K C "left" "Puzzle.left" sLeft)
    (m_Puzzle_tell : MtIn K C "tell" "Puzzle.tell" sTell)
    (m_Puzzle_score : MtIn K C "score" "Puzzle.score" sScore) :
    ∃ fd : FuncData, (∀ (s : Shared) (us : List Value), us.length = (["calls"] : List Str).length → BindsTo s fd ⟨us, []⟩ ((["calls"] : List Str).zip us)) ∧ ∀ base : Heap, K.In base → base.Ns mainGlobals mg → FnOk P w K mg base CX0 34 fa fd ["calls"] (spAnswers K) := by
  obtain ⟨f, fd, hf, F⟩ := f_answers.ex
  have e := hfa.symm.trans hf
  cases e
  have bA : Binds K fd ["calls"] [] := F.binds (fun _ _ _ _ _ _ us hl => match us, hl with | [_], _ => rfl)
  refine ⟨fd, fun s us hu => ?_, fun base _ _ => ?_⟩
  · obtain ⟨oc, od, kV, doc, pm, an, cdv, ct, osl, rfl, lk, hcd⟩ := F.ex
    exact match us, hu with | [_], _ => .of_eq rfl
  · have C_letters : Cal P w K mg base 1 "are_letters" ["row"] (spAreLetters K) := f_are_letters.cal (fun _ _ _ _ _ _ us hl => match us, hl with | [_], _ => rfl) fun F => ok_areLetters F T
    have C_text : Cal P w K mg base 1 "text_of" ["row"] (spTextOf K) := f_text_of.cal (fun _ _ _ _ _ _ us hl => match us, hl with | [_], _ => rfl) fun F => ok_textOf F T
    have C_bytes : Cal P w K mg base 1 "bytes_of" ["letters"] (spBytesOf K) := f_bytes_of.cal (fun _ _ _ _ _ _ us hl => match us, hl with | [_], _ => rfl) fun F => ok_bytesOf F T5
    have C_back : Cal P w K mg base 1 "backwards" ["word"] spBackwards := f_backwards.cal (fun _ _ _ _ _ _ us hl => match us, hl with | [_], _ => rfl) fun F => ok_backwards F T
    have C_lines : Cal P w K mg base 1 "lines_of" ["row"] (spLinesOf K) := f_lines_of.cal (fun _ _ _ _ _ _ us hl => match us, hl with | [_], _ => rfl) fun F => ok_linesOf F T
    have C_word : Cal P w K mg base 2 "is_word" ["line"] (spIsWord K) := f_is_word.cal (fun _ _ _ _ _ _ us hl => match us, hl with | [_], _ => rfl) fun F => ok_isWord F T C_letters
    have C_twins : Cal P w K mg base 2 "has_twins" ["words"] (spHasTwins K) := f_has_twins.cal (fun _ _ _ _ _ _ us hl => match us, hl with | [_], _ => rfl) fun F => ok_hasTwins F T C_back
    have C_refusal : Cal P w K mg base 3 "list_refusal" ["lines"] (spListRefusal K) := f_list_refusal.cal (fun _ _ _ _ _ _ us hl => match us, hl with | [_], _ => rfl) fun F => ok_listRefusal F T C_word C_text C_twins
    have C_side : Cal P w K mg base 1 "is_side" ["length"] spIsSide := f_is_side.cal (fun _ _ _ _ _ _ us hl => match us, hl with | [_], _ => rfl) fun F => ok_isSide F T2
    have C_places : Cal P w K mg base 1 "all_places" ["size"] spAllPlaces := f_all_places.cal (fun _ _ _ _ _ _ us hl => match us, hl with | [_], _ => rfl) fun F => ok_allPlaces F T2
    have M_cells : Mth P w K mg base 1 CB "cells_from" ["self", "cell", "way"] (spCellsFrom CB) := m_Board_cells_from.mth (fun _ _ _ _ _ _ us hl => match us, hl with | [_, _, _], _ => rfl) fun F => ok_cellsFrom F T2 B
    have M_track : Mth P w K mg base 1 CB "whole_track" ["self"] (spWholeTrack CB) := m_Board_whole_track.mth (fun _ _ _ _ _ _ us hl => match us, hl with | [_], _ => rfl) fun F => ok_wholeTrack F T2 B
    have K_board : Mak P w K mg base 2 "Board" CB ["self", "wide", "high"] (spBoardInit CB) := c_Board.mak m_Board_init (fun _ _ _ _ _ _ us hl => match us, hl with | [_, _, _], _ => rfl) fun F => ok_boardInit F T2 B C_places M_cells M_track
    have M_paths : Mth P w K mg base 1 CB "paths" ["self", "length"] (spPaths CB) := m_Board_paths.mth (fun _ _ _ _ _ _ us hl => match us, hl with | [_, _], _ => rfl) fun F => ok_paths F T2 B
    have C_rpath : Cal P w K mg base 1 "read_path" ["letters", "path"] (spReadPath K) := f_read_path.cal (fun _ _ _ _ _ _ us hl => match us, hl with | [_, _], _ => rfl) fun F => ok_readPath F
    have C_rtrack : Cal P w K mg base 2 "read_track" ["board", "letters"] (spReadTrack CB) := f_read_track.cal (fun _ _ _ _ _ _ us hl => match us, hl with | [_, _], _ => rfl) fun F => ok_readTrack F T2 B C_rpath
    have C_times : Cal P w K mg base 1 "times_in" ["text", "word"] spTimesIn := f_times_in.cal (fun _ _ _ _ _ _ us hl => match us, hl with | [_, _], _ => rfl) fun F => ok_timesIn F
    have C_right : Cal P w K mg base 3 "is_right" ["board", "letters", "words"] (spIsRight K CB) := f_is_right.cal (fun _ _ _ _ _ _ us hl => match us, hl with | [_, _, _], _ => rfl) fun F => ok_isRight F C_rtrack C_back C_times
    have C_first : Cal P w K mg base 2 "first_path" ["board", "letters", "word"] (spFirstPath CB) := f_first_path.cal (fun _ _ _ _ _ _ us hl => match us, hl with | [_, _, _], _ => rfl) fun F => ok_firstPath F T2 B M_paths C_rpath
    have C_used : Cal P w K mg base 3 "used_cells" ["board", "letters", "words"] (spUsedCells K CB) := f_used_cells.cal (fun _ _ _ _ _ _ us hl => match us, hl with | [_, _, _], _ => rfl) fun F => ok_usedCells F C_first
    have C_between : Cal P w K mg base 1 "path_between" ["board", "first", "last"] (spPathBetween CB) := f_path_between.cal (fun _ _ _ _ _ _ us hl => match us, hl with | [_, _, _], _ => rfl) fun F => ok_pathBetween F T2 B
    have C_fits : Cal P w K mg base 1 "fits" ["letters", "word", "path"] (spFits K) := f_fits.cal (fun _ _ _ _ _ _ us hl => match us, hl with | [_, _, _], _ => rfl) fun F => ok_fits F T3
    have C_with : Cal P w K mg base 1 "with_word" ["letters", "word", "path"] (spWithWord K) := f_with_word.cal (fun _ _ _ _ _ _ us hl => match us, hl with | [_, _, _], _ => rfl) fun F => ok_withWord F T3
    have C_filled : Cal P w K mg base 1 "filled" ["letters", "filling"] (spFilled K) := f_filled.cal (fun _ _ _ _ _ _ us hl => match us, hl with | [_, _], _ => rfl) fun F => ok_filled F T3
    have M_judge : Mth P w K mg base 4 CS "judge" ["self", "letters"] (spJudge CB CS) := m_Search_judge.mth (fun _ _ _ _ _ _ us hl => match us, hl with | [_, _], _ => rfl) fun F => ok_judge F TS C_filled C_right
    have M_over : Mth P w K mg base 1 CS "is_over" ["self"] (spIsOver CS) := m_Search_is_over.mth (fun _ _ _ _ _ _ us hl => match us, hl with | [_], _ => rfl) fun F => ok_isOver F TS
    have M_put : Mth P w K mg base 29 CS "put_from" ["self", "number", "letters"] (spPut CB CS 12) := by
      obtain ⟨fp, fdp, mp, Fp⟩ := m_Search_put_from.ex
      obtain ⟨ft, fdt, mt, Ft⟩ := m_Search_try_at.ex
      exact ⟨fp, fdp, put_all Fp Ft TS T4.len mp mt (Fp.binds (fun _ _ _ _ _ _ us hl => match us, hl with | [_, _, _], _ => rfl)) (Ft.binds (fun _ _ _ _ _ _ us hl => match us, hl with | [_, _, _, _], _ => rfl)) C_fits C_with M_judge M_over 12, mp, Fp.binds (fun _ _ _ _ _ _ us hl => match us, hl with | [_, _, _], _ => rfl)⟩
    have M_run : Mth P w K mg base 30 CS "run" ["self"] (spRun CB CS) := m_Search_run.mth (fun _ _ _ _ _ _ us hl => match us, hl with | [_], _ => rfl) fun F => ok_run F TS B T3 M_put
    have K_search : Mak P w K mg base 2 "Search" CS ["self", "board", "words", "filling", "most"] (spSearchInit CB CS) := c_Search.mak m_Search_init (fun _ _ _ _ _ _ us hl => match us, hl with | [_, _, _, _, _], _ => rfl) fun F => ok_searchInit F TS B T4.len M_paths
    have K_reader : Mak P w K mg base 1 "Reader" CR ["self", "numbers"] (spReaderInit CR) := c_Reader.mak m_Reader_init (fun _ _ _ _ _ _ us hl => match us, hl with | [_, _], _ => rfl) fun F => ok_readerInit F R
    have M_done : Mth P w K mg base 1 CR "is_done" ["self"] (spIsDone K CR) := m_Reader_is_done.mth (fun _ _ _ _ _ _ us hl => match us, hl with | [_], _ => rfl) fun F => ok_isDone F R T4.len
    have M_take : Mth P w K mg base 1 CR "take" ["self"] (spTake K CR) := m_Reader_take.mth (fun _ _ _ _ _ _ us hl => match us, hl with | [_], _ => rfl) fun F => ok_take F R
    have M_row : Mth P w K mg base 2 CR "take_row" ["self"] (spTakeRow K CR) := m_Reader_take_row.mth (fun _ _ _ _ _ _ us hl => match us, hl with | [_], _ => rfl) fun F => ok_takeRow F R M_take
    have C_square : Cal P w K mg base 2 "is_square" ["wide", "cells"] (spIsSquare K) := f_is_square.cal (fun _ _ _ _ _ _ us hl => match us, hl with | [_, _], _ => rfl) fun F => ok_isSquare F T4 C_side C_letters
    have C_filling : Cal P w K mg base 2 "is_filling" ["filling"] (spIsFilling K) := f_is_filling.cal (fun _ _ _ _ _ _ us hl => match us, hl with | [_], _ => rfl) fun F => ok_isFilling F T4 C_letters
    have M_begin : Mth P w K mg base 1 C "begin" ["self", "board", "letters", "words"] (spBegin CB C) := m_Puzzle_begin.mth (fun _ _ _ _ _ _ us hl => match us, hl with | [_, _, _, _], _ => rfl) fun F => ok_begin F TP T4
    have K_puzzle : Mak P w K mg base 1 "Puzzle" C ["self"] (spPuzzleInit CB C) := c_Puzzle.mak m_Puzzle_init (fun _ _ _ _ _ _ us hl => match us, hl with | [_], _ => rfl) fun F => ok_puzzleInit F TP T4
    have M_load : Mth P w K mg base 4 C "load" ["self", "wide", "cells", "listing"] (spLoad K CB C) := m_Puzzle_load.mth (fun _ _ _ _ _ _ us hl => match us, hl with | [_, _, _, _], _ => rfl) fun F => ok_load F TP T4 C_square C_lines C_refusal C_text K_board C_right M_begin
    have M_make : Mth P w K mg base 31 C "make" ["self", "wide", "high", "most", "listing", "filling"] (spMake K CB C) := m_Puzzle_make.mth (fun _ _ _ _ _ _ us hl => match us, hl with | [_, _, _, _, _, _], _ => rfl) fun F => ok_make F TP T4 TS C_side C_lines C_refusal C_text C_filling K_board K_search M_run M_begin
    have M_number : Mth P w K mg base 2 C "number_of" ["self", "text"] (spNumberOf C) := m_Puzzle_number_of.mth (fun _ _ _ _ _ _ us hl => match us, hl with | [_, _], _ => rfl) fun F => ok_numberOf F TP T4 C_back
    have M_guess : Mth P w K mg base 3 C "guess" ["self", "who", "first", "last"] (spGuess CB C) := m_Puzzle_guess.mth (fun _ _ _ _ _ _ us hl => match us, hl with | [_, _, _, _], _ => rfl) fun F => ok_guess F TP B T4 C_between C_rpath M_number
    have M_unfound : Mth P w K mg base 1 C "unfound" ["self"] (spUnfound C) := m_Puzzle_unfound.mth (fun _ _ _ _ _ _ us hl => match us, hl with | [_], _ => rfl) fun F => ok_unfound F TP T4
    have M_hint : Mth P w K mg base 3 C "hint" ["self"] (spHint CB C) := m_Puzzle_hint.mth (fun _ _ _ _ _ _ us hl => match us, hl with | [_], _ => rfl) fun F => ok_hint F TP T4 M_unfound C_first
    have M_rest : Mth P w K mg base 4 C "rest" ["self"] (spRest CB C) := m_Puzzle_rest.mth (fun _ _ _ _ _ _ us hl => match us, hl with | [_], _ => rfl) fun F => ok_rest F TP T4 T5 C_used C_bytes
    have M_left : Mth P w K mg base 2 C "left" ["self"] (spLeft CB C) := m_Puzzle_left.mth (fun _ _ _ _ _ _ us hl => match us, hl with | [_], _ => rfl) fun F => ok_left F TP T4 M_unfound
    have M_tell : Mth P w K mg base 2 C "tell" ["self"] (spTell CB C) := m_Puzzle_tell.mth (fun _ _ _ _ _ _ us hl => match us, hl with | [_], _ => rfl) fun F => ok_tell F TP B T4 C_bytes
    have M_score : Mth P w K mg base 1 C "score" ["self", "who"] (spScore CB C) := m_Puzzle_score.mth (fun _ _ _ _ _ _ us hl => match us, hl with | [_, _], _ => rfl) fun F => ok_score F TP T4
    have C_load : Cal P w K mg base 5 "load_answer" ["puzzle", "reader"] (spLoadAns K CB C CR) := f_load_answer.cal (fun _ _ _ _ _ _ us hl => match us, hl with | [_, _], _ => rfl) fun F => ok_loadAns F TP R M_take M_row M_load
    have C_make : Cal P w K mg base 32 "make_answer" ["puzzle", "reader"] (spMakeAns K CB C CR) := f_make_answer.cal (fun _ _ _ _ _ _ us hl => match us, hl with | [_, _], _ => rfl) fun F => ok_makeAns F TP R M_take M_row M_make
    have C_guess : Cal P w K mg base 4 "guess_answer" ["puzzle", "reader"] (spGuessAns K CB C CR) := f_guess_answer.cal (fun _ _ _ _ _ _ us hl => match us, hl with | [_, _], _ => rfl) fun F => ok_guessAns F TP R M_take M_guess
    have C_call : Cal P w K mg base 33 "call_answer" ["puzzle", "reader"] (spCallAns K CB C CR) := f_call_answer.cal (fun _ _ _ _ _ _ us hl => match us, hl with | [_, _], _ => rfl) fun F => ok_callAns F TP R T5 M_take C_load C_make C_guess M_hint M_rest M_left M_tell M_score
    exact ok_answers F R T4 K_puzzle K_reader M_done C_call
end HW
end
section
set_option Elab.async false
set_option linter.all false
set_option maxRecDepth 100000
set_option maxHeartbeats 4000000
namespace HW
open PySem PySem.Spec PyProof.Rows L2 HX
theorem KT.of {K : PySem.W.Frag} {a : Addr} {cls : Value} {od : Option Addr} {its : Array Value} {n : Nat} {sl : Array (Option Value)} {xs : List V} (l : K.lookup a = some ⟨cls, od, .seq its n, sl⟩) (hc : cls = .type "tuple") (hz : its.size ≤ sizeLine) (v : Vals xs its.toList) : KT K a xs :=
  fun H => .inr ⟨_, its, n, l, hc, rfl, hz, v⟩
theorem KT.two {K : PySem.W.Frag} {a : Addr} {cls : Value} {od : Option Addr} {i j : Int} {t u : Tok} {n : Nat} {sl : Array (Option Value)} (l : K.lookup a = some ⟨cls, od, .seq #[.int i t, .int j u] n, sl⟩) (hc : cls = .type "tuple") : KT K a [.int i, .int j] :=
  KT.of l hc (by show 2 ≤ sizeLine; decide) (.cons ⟨_, rfl⟩ (.cons ⟨_, rfl⟩ .nil))
theorem ways_of {K : PySem.W.Frag} {mg : Str → Option Value} {a t0 t1 t2 t3 t4 t5 t6 t7 : Addr} {cls : Value} {od : Option Addr} {n : Nat} {sl : Array (Option Value)} (g : Gv mg "WAYS" (.ref a)) (l : K.lookup a = some ⟨cls, od, .seq #[.ref t0, .ref t1, .ref t2, .ref t3, .ref t4, .ref t5, .ref t6, .ref t7] n, sl⟩) (hc : cls = .type "tuple")
    (k0 : KT K t0 [.int 1, .int 0]) (k1 : KT K t1 [.int 1, .int 1]) (k2 : KT K t2 [.int 0, .int 1]) (k3 : KT K t3 [.int (-1), .int 1]) (k4 : KT K t4 [.int (-1), .int 0]) (k5 : KT K t5 [.int (-1), .int (-1)]) (k6 : KT K t6 [.int 0, .int (-1)]) (k7 : KT K t7 [.int 1, .int (-1)]) :
    ∃ (a : Addr) (ts : List Addr), Gv mg "WAYS" (.ref a) ∧ KT K a (ts.map V.ref) ∧ ts.length = 8 ∧ ∀ (d : Nat) (t : Addr), ts[d]? = some t → KT K t [.int (Ks331.stepOf d).1, .int (Ks331.stepOf d).2] := by
  refine ⟨a, [t0, t1, t2, t3, t4, t5, t6, t7], g, KT.of l hc (by show 8 ≤ sizeLine; decide) (.cons rfl (.cons rfl (.cons rfl (.cons rfl (.cons rfl (.cons rfl (.cons rfl (.cons rfl .nil)))))))), rfl, fun d t h => ?_⟩
  match d, h with
  | 0, h => cases h; exact k0
  | 1, h => cases h; exact k1
  | 2, h => cases h; exact k2
  | 3, h => cases h; exact k3
  | 4, h => cases h; exact k4
  | 5, h => cases h; exact k5
  | 6, h => cases h; exact k6
  | 7, h => cases h; exact k7
  | d + 8, h => simp at h
end HW
open PySem PySem.W PyProof.Rows
theorem HW.asked_sp {K : PySem.W.Frag} {H : L2.Hp} {x : Addr} (l : List Int) (hwi : ((Codec.inLen 0 30000 l && l.all (Codec.inInt 0 4294967295)) && true) = true) (hask : PyKs333.answers_asked l = true) (hs : L2.SqL K H x (l.map L2.V.int)) :
    HW.spAnswers K [.ref x] H (fun v H' => L2.Dw K H' v (.list ((PyKs333.answers l).map WData.int))) fun _ _ _ => False := by
  rw [Bool.and_eq_true, Bool.and_eq_true] at hwi
  have hall : ∀ z ∈ l, 0 ≤ z := fun z hz => (Codec.inInt_iff.mp (List.all_eq_true.mp hwi.1.2 z hz)).1
  have el : HW.zs (l.map Int.toNat) = l := by
    unfold HW.zs
    rw [List.map_map]
    conv => rhs; rw [← List.map_id l]
    apply List.map_congr_left
    intro z hz
    have := hall z hz
    show ((z.toNat : Nat) : Int) = z
    omega
  rw [← el] at hask
  obtain ⟨ds, h1, h2, h3⟩ := HW.asked_plays hask
  rw [el] at h2
  refine ⟨x, l.map Int.toNat, ds, rfl, ?_, ?_, h1, h3, fun H' t ht => ?_⟩
  · have e : l.map L2.V.int = HW.iv (l.map Int.toNat) := by
      conv => lhs; rw [← el]
      unfold HW.zs HW.iv
      rw [List.map_map]
      rfl
    rw [← e]
    exact hs
  · rw [List.length_map]
    exact (Codec.inNat_iff.mp hwi.1.1).2
  · rw [h2]
    exact .lst (L2.SqL.of ht) (L2.dw_ints _)
end
section
/-! The head's own step makes a faster twin of every heap, tree and object that it names, with a proof whose size grows with the square of the objects: 60 MB together, more than a compiled proof may have. Where a twin's name is taken, the step does without the twin, and the kernel reads the constant itself, as fast. So the forty greatest twins' names are taken here. -/
def PySem.W.Fast.tw6571335364302264620 : Unit := ()
def PySem.W.Fast.tw9375352741921963490 : Unit := ()
def PySem.W.Fast.tw5843011146620356717 : Unit := ()
def PySem.W.Fast.tw6941754650835763916 : Unit := ()
def PySem.W.Fast.tw1990668286876693424 : Unit := ()
def PySem.W.Fast.tw10961433025898864331 : Unit := ()
def PySem.W.Fast.tw4882044640188930453 : Unit := ()
def PySem.W.Fast.tw11673802463277013040 : Unit := ()
def PySem.W.Fast.tw1753475429390609691 : Unit := ()
def PySem.W.Fast.tw12132897613962152692 : Unit := ()
def PySem.W.Fast.tw1028979427955670638 : Unit := ()
def PySem.W.Fast.tw11195105954814896306 : Unit := ()
def PySem.W.Fast.tw15934285723558122366 : Unit := ()
def PySem.W.Fast.tw16586607758648723171 : Unit := ()
def PySem.W.Fast.tw233798566351229840 : Unit := ()
def PySem.W.Fast.tw10546182096273794018 : Unit := ()
def PySem.W.Fast.tw9269012835900049959 : Unit := ()
def PySem.W.Fast.tw1902781277386446883 : Unit := ()
def PySem.W.Fast.tw4642192427107524414 : Unit := ()
def PySem.W.Fast.tw7121474208804542559 : Unit := ()
def PySem.W.Fast.tw2763348425455020693 : Unit := ()
def PySem.W.Fast.tw9414308393497630172 : Unit := ()
def PySem.W.Fast.tw12450003091405957148 : Unit := ()
def PySem.W.Fast.tw14909399464677374888 : Unit := ()
def PySem.W.Fast.tw18276172323711213226 : Unit := ()
def PySem.W.Fast.tw745730098739475590 : Unit := ()
def PySem.W.Fast.tw15601408629295631150 : Unit := ()
def PySem.W.Fast.tw11717428925565733052 : Unit := ()
def PySem.W.Fast.tw7635741013656371408 : Unit := ()
def PySem.W.Fast.tw14013869417610789456 : Unit := ()
def PySem.W.Fast.tw12084392719340540179 : Unit := ()
def PySem.W.Fast.tw12008823619351645455 : Unit := ()
def PySem.W.Fast.tw16861800337868188591 : Unit := ()
def PySem.W.Fast.tw6184878225797604529 : Unit := ()
def PySem.W.Fast.tw14235156612934875487 : Unit := ()
def PySem.W.Fast.tw12186155790335648002 : Unit := ()
def PySem.W.Fast.tw6043677386319699130 : Unit := ()
def PySem.W.Fast.tw3913338082993777249 : Unit := ()
def PySem.W.Fast.tw17566818539739431661 : Unit := ()
def PySem.W.Fast.tw14135783525408265774 : Unit := ()
open PySem PySem.W PyProof.Rows
set_option Elab.async false
set_option linter.all false
set_option maxRecDepth 100000
set_option maxRecDepth 100000 in
set_option maxHeartbeats 0 in
theorem PySem.Challenge.cw_hiddenwords_s01_answers_holds : PySem.Challenge.rw_hiddenwords_s01_answers.Holds := by
  w_on; k_headS; (case hw => exact ⟨[.list [.int 3]], by decide +kernel, by decide +kernel⟩)
  k_fillS
  refine L2.walk_specK (r := PySem.Challenge.rw_hiddenwords_s01_answers) (k := 34) (CX := L2.CX0) (ps := ["calls"]) (sp := HW.spAnswers) (by decide +kernel) rfl rfl ⟨rfl, by decide, by decide⟩ (fun w h Y => PySem.W.kIn_of Y) ?F ?S (fun _ _ _ _ z => z)
  case F =>
    intro w mg fa h Y KX G hmg
    have v_LETTERS : HW.Gv mg "LETTERS" (.str "abcdefghijklmnopqrstuvwxyz") := by refine' HW.Gv.str KX G ?a_LETTERS; (case a_LETTERS => k_is)
    have v_FIRST_LETTER : HW.Gv mg "FIRST_LETTER" (.int (97)) := by refine' HW.Gv.int KX G ?a_FIRST_LETTER; (case a_FIRST_LETTER => k_is)
    have v_LAST_LETTER : HW.Gv mg "LAST_LETTER" (.int (122)) := by refine' HW.Gv.int KX G ?a_LAST_LETTER; (case a_LAST_LETTER => k_is)
    have v_LINE_END : HW.Gv mg "LINE_END" (.int (10)) := by refine' HW.Gv.int KX G ?a_LINE_END; (case a_LINE_END => k_is)
    have v_SHORTEST_WORD : HW.Gv mg "SHORTEST_WORD" (.int (2)) := by refine' HW.Gv.int KX G ?a_SHORTEST_WORD; (case a_SHORTEST_WORD => k_is)
    have v_LONGEST_WORD : HW.Gv mg "LONGEST_WORD" (.int (8)) := by refine' HW.Gv.int KX G ?a_LONGEST_WORD; (case a_LONGEST_WORD => k_is)
    have v_MOST_WORDS : HW.Gv mg "MOST_WORDS" (.int (12)) := by refine' HW.Gv.int KX G ?a_MOST_WORDS; (case a_MOST_WORDS => k_is)
    have v_NO_REFUSAL : HW.Gv mg "NO_REFUSAL" (.int (0)) := by refine' HW.Gv.int KX G ?a_NO_REFUSAL; (case a_NO_REFUSAL => k_is)
    have v_BAD_LINE : HW.Gv mg "BAD_LINE" (.int (-1000)) := by refine' HW.Gv.int KX G ?a_BAD_LINE; (case a_BAD_LINE => k_is)
    have v_BAD_COUNT : HW.Gv mg "BAD_COUNT" (.int (-28)) := by refine' HW.Gv.int KX G ?a_BAD_COUNT; (case a_BAD_COUNT => k_is)
    have v_LISTED_TWICE : HW.Gv mg "LISTED_TWICE" (.int (-17)) := by refine' HW.Gv.int KX G ?a_LISTED_TWICE; (case a_LISTED_TWICE => k_is)
    have v_all : mg "all" = none := by refine' PySem.W.mg_none_of KX G ?a_all; (case a_all => k_is)
    have v_len : mg "len" = none := by refine' PySem.W.mg_none_of KX G ?a_len; (case a_len => k_is)
    have v_enumerate : mg "enumerate" = none := by refine' PySem.W.mg_none_of KX G ?a_enumerate; (case a_enumerate => k_is)
    have v_reversed : mg "reversed" = none := by refine' PySem.W.mg_none_of KX G ?a_reversed; (case a_reversed => k_is)
    have v_LEAST_SIDE : HW.Gv mg "LEAST_SIDE" (.int (2)) := by refine' HW.Gv.int KX G ?a_LEAST_SIDE; (case a_LEAST_SIDE => k_is)
    have v_MOST_SIDE : HW.Gv mg "MOST_SIDE" (.int (8)) := by refine' HW.Gv.int KX G ?a_MOST_SIDE; (case a_MOST_SIDE => k_is)
    have v_HALF_TURN : HW.Gv mg "HALF_TURN" (.int (4)) := by refine' HW.Gv.int KX G ?a_HALF_TURN; (case a_HALF_TURN => k_is)
    have v_GAP : HW.Gv mg "GAP" (.str (HX.S [32])) := by refine' HW.Gv.str KX G ?a_GAP; (case a_GAP => k_is)
    have v_range : mg "range" = none := by refine' PySem.W.mg_none_of KX G ?a_range; (case a_range => k_is)
    have v_abs : mg "abs" = none := by refine' PySem.W.mg_none_of KX G ?a_abs; (case a_abs => k_is)
    have v_max : mg "max" = none := by refine' PySem.W.mg_none_of KX G ?a_max; (case a_max => k_is)
    have v_EMPTY : HW.Gv mg "EMPTY" (.str (HX.S [])) := by refine' HW.Gv.str KX G ?a_EMPTY; (case a_EMPTY => k_is)
    have v_zip : mg "zip" = none := by refine' PySem.W.mg_none_of KX G ?a_zip; (case a_zip => k_is)
    have v_list : mg "list" = none := by refine' PySem.W.mg_none_of KX G ?a_list; (case a_list => k_is)
    have v_OUT_OF_RANGE : HW.Gv mg "OUT_OF_RANGE" (.int (-22)) := by refine' HW.Gv.int KX G ?a_OUT_OF_RANGE; (case a_OUT_OF_RANGE => k_is)
    have v_NOT_RIGHT : HW.Gv mg "NOT_RIGHT" (.int (-33)) := by refine' HW.Gv.int KX G ?a_NOT_RIGHT; (case a_NOT_RIGHT => k_is)
    have v_TOO_MANY_TRIES : HW.Gv mg "TOO_MANY_TRIES" (.int (-35)) := by refine' HW.Gv.int KX G ?a_TOO_MANY_TRIES; (case a_TOO_MANY_TRIES => k_is)
    have v_BAD_FILLING : HW.Gv mg "BAD_FILLING" (.int (-71)) := by refine' HW.Gv.int KX G ?a_BAD_FILLING; (case a_BAD_FILLING => k_is)
    have v_NO_SQUARE : HW.Gv mg "NO_SQUARE" (.int (-61)) := by refine' HW.Gv.int KX G ?a_NO_SQUARE; (case a_NO_SQUARE => k_is)
    have v_NOT_IN_LINE : HW.Gv mg "NOT_IN_LINE" (.int (-71)) := by refine' HW.Gv.int KX G ?a_NOT_IN_LINE; (case a_NOT_IN_LINE => k_is)
    have v_FOUND_ALREADY : HW.Gv mg "FOUND_ALREADY" (.int (-17)) := by refine' HW.Gv.int KX G ?a_FOUND_ALREADY; (case a_FOUND_ALREADY => k_is)
    have v_ALL_FOUND : HW.Gv mg "ALL_FOUND" (.int (-6)) := by refine' HW.Gv.int KX G ?a_ALL_FOUND; (case a_ALL_FOUND => k_is)
    have v_NO_WORD : HW.Gv mg "NO_WORD" (.int (255)) := by refine' HW.Gv.int KX G ?a_NO_WORD; (case a_NO_WORD => k_is)
    have v_PLAYERS : HW.Gv mg "PLAYERS" (.int (4)) := by refine' HW.Gv.int KX G ?a_PLAYERS; (case a_PLAYERS => k_is)
    have v_MOST_WRONG : HW.Gv mg "MOST_WRONG" (.int (1000000)) := by refine' HW.Gv.int KX G ?a_MOST_WRONG; (case a_MOST_WRONG => k_is)
    have v_MOST_TRIES : HW.Gv mg "MOST_TRIES" (.int (2000)) := by refine' HW.Gv.int KX G ?a_MOST_TRIES; (case a_MOST_TRIES => k_is)
    have v_LONGEST_LIST : HW.Gv mg "LONGEST_LIST" (.int (200)) := by refine' HW.Gv.int KX G ?a_LONGEST_LIST; (case a_LONGEST_LIST => k_is)
    have v_LONGEST_FILLING : HW.Gv mg "LONGEST_FILLING" (.int (64)) := by refine' HW.Gv.int KX G ?a_LONGEST_FILLING; (case a_LONGEST_FILLING => k_is)
    have v_min : mg "min" = none := by refine' PySem.W.mg_none_of KX G ?a_min; (case a_min => k_is)
    have v_ord : mg "ord" = none := by refine' PySem.W.mg_none_of KX G ?a_ord; (case a_ord => k_is)
    have v_LOAD : HW.Gv mg "LOAD" (.int (0)) := by refine' HW.Gv.int KX G ?a_LOAD; (case a_LOAD => k_is)
    have v_MAKE : HW.Gv mg "MAKE" (.int (1)) := by refine' HW.Gv.int KX G ?a_MAKE; (case a_MAKE => k_is)
    have v_GUESS : HW.Gv mg "GUESS" (.int (2)) := by refine' HW.Gv.int KX G ?a_GUESS; (case a_GUESS => k_is)
    have v_HINT : HW.Gv mg "HINT" (.int (3)) := by refine' HW.Gv.int KX G ?a_HINT; (case a_HINT => k_is)
    have v_REST : HW.Gv mg "REST" (.int (4)) := by refine' HW.Gv.int KX G ?a_REST; (case a_REST => k_is)
    have v_LEFT : HW.Gv mg "LEFT" (.int (5)) := by refine' HW.Gv.int KX G ?a_LEFT; (case a_LEFT => k_is)
    have v_TELL : HW.Gv mg "TELL" (.int (6)) := by refine' HW.Gv.int KX G ?a_TELL; (case a_TELL => k_is)
    have v_SCORE : HW.Gv mg "SCORE" (.int (7)) := by refine' HW.Gv.int KX G ?a_SCORE; (case a_SCORE => k_is)
    refine' HW.all_mk hmg ⟨v_LETTERS, v_FIRST_LETTER, v_LAST_LETTER, v_LINE_END, v_SHORTEST_WORD, v_LONGEST_WORD, v_MOST_WORDS, v_NO_REFUSAL, v_BAD_LINE, v_BAD_COUNT, v_LISTED_TWICE, v_all, v_len, v_enumerate, v_reversed⟩ ⟨v_LEAST_SIDE, v_MOST_SIDE, v_HALF_TURN, v_GAP, ?ways, v_range, v_len, v_abs, v_max⟩ ⟨v_EMPTY, v_zip, v_list, v_len⟩ ⟨v_OUT_OF_RANGE, v_NOT_RIGHT, v_TOO_MANY_TRIES, v_BAD_FILLING, v_NO_SQUARE, v_NOT_IN_LINE, v_FOUND_ALREADY, v_ALL_FOUND, v_NO_WORD, v_PLAYERS, v_MOST_WRONG, v_MOST_TRIES, v_LONGEST_LIST, v_LONGEST_FILLING, v_NO_REFUSAL, v_len, v_list, v_min, v_enumerate⟩ ⟨v_zip, v_ord, v_LOAD, v_MAKE, v_GUESS, v_HINT, v_REST, v_LEFT, v_TELL, v_SCORE⟩ ⟨⟨?B_pg, ?B_hd, ?B_po, ?B_sa⟩, ?B_wide, ?B_high, ?B_size, ?B_rays, ?B_track⟩ ⟨⟨?TS_pg, ?TS_hd, ?TS_po, ?TS_sa⟩, ?TS_board, ?TS_words, ?TS_filling, ?TS_most, ?TS_choices, ?TS_tries, ?TS_stopped, ?TS_made⟩ ⟨⟨?R_pg, ?R_hd, ?R_po, ?R_sa⟩, ?R_numbers, ?R_place⟩ ⟨⟨?TP_pg, ?TP_hd, ?TP_po, ?TP_sa⟩, ?TP_board, ?TP_letters, ?TP_words, ?TP_finders, ?TP_wrong⟩ (HW.FnIn.of KX G ?f_are_letters_a ?f_are_letters_l ?f_are_letters_c ?f_are_letters_k) (HW.FnIn.of KX G ?f_text_of_a ?f_text_of_l ?f_text_of_c ?f_text_of_k) (HW.FnIn.of KX G ?f_bytes_of_a ?f_bytes_of_l ?f_bytes_of_c ?f_bytes_of_k) (HW.FnIn.of KX G ?f_backwards_a ?f_backwards_l ?f_backwards_c ?f_backwards_k) (HW.FnIn.of KX G ?f_lines_of_a ?f_lines_of_l ?f_lines_of_c ?f_lines_of_k) (HW.FnIn.of KX G ?f_is_word_a ?f_is_word_l ?f_is_word_c ?f_is_word_k) (HW.FnIn.of KX G ?f_has_twins_a ?f_has_twins_l ?f_has_twins_c ?f_has_twins_k) (HW.FnIn.of KX G ?f_list_refusal_a ?f_list_refusal_l ?f_list_refusal_c ?f_list_refusal_k) (HW.FnIn.of KX G ?f_is_side_a ?f_is_side_l ?f_is_side_c ?f_is_side_k) (HW.FnIn.of KX G ?f_all_places_a ?f_all_places_l ?f_all_places_c ?f_all_places_k) (HW.FnIn.of KX G ?f_read_path_a ?f_read_path_l ?f_read_path_c ?f_read_path_k) (HW.FnIn.of KX G ?f_read_track_a ?f_read_track_l ?f_read_track_c ?f_read_track_k) (HW.FnIn.of KX G ?f_times_in_a ?f_times_in_l ?f_times_in_c ?f_times_in_k) (HW.FnIn.of KX G ?f_is_right_a ?f_is_right_l ?f_is_right_c ?f_is_right_k) (HW.FnIn.of KX G ?f_first_path_a ?f_first_path_l ?f_first_path_c ?f_first_path_k) (HW.FnIn.of KX G ?f_used_cells_a ?f_used_cells_l ?f_used_cells_c ?f_used_cells_k) (HW.FnIn.of KX G ?f_path_between_a ?f_path_between_l ?f_path_between_c ?f_path_between_k) (HW.FnIn.of KX G ?f_fits_a ?f_fits_l ?f_fits_c ?f_fits_k) (HW.FnIn.of KX G ?f_with_word_a ?f_with_word_l ?f_with_word_c ?f_with_word_k) (HW.FnIn.of KX G ?f_filled_a ?f_filled_l ?f_filled_c ?f_filled_k) (HW.FnIn.of KX G ?f_is_square_a ?f_is_square_l ?f_is_square_c ?f_is_square_k) (HW.FnIn.of KX G ?f_is_filling_a ?f_is_filling_l ?f_is_filling_c ?f_is_filling_k) (HW.FnIn.of KX G ?f_load_answer_a ?f_load_answer_l ?f_load_answer_c ?f_load_answer_k) (HW.FnIn.of KX G ?f_make_answer_a ?f_make_answer_l ?f_make_answer_c ?f_make_answer_k) (HW.FnIn.of KX G ?f_guess_answer_a ?f_guess_answer_l ?f_guess_answer_c ?f_guess_answer_k) (HW.FnIn.of KX G ?f_call_answer_a ?f_call_answer_l ?f_call_answer_c ?f_call_answer_k) (HW.FnIn.of KX G ?f_answers_a ?f_answers_l ?f_answers_c ?f_answers_k) (HW.ClIn.of KX G ?c_Board_a ?c_Board_m ?c_Board_k) (HW.MtIn.of ?m_Board_init_a ?m_Board_init_i ?m_Board_init_l ?m_Board_init_c ?m_Board_init_k) (HW.MtIn.of ?m_Board_cells_from_a ?m_Board_cells_from_i ?m_Board_cells_from_l ?m_Board_cells_from_c ?m_Board_cells_from_k) (HW.MtIn.of ?m_Board_paths_a ?m_Board_paths_i ?m_Board_paths_l ?m_Board_paths_c ?m_Board_paths_k) (HW.MtIn.of ?m_Board_whole_track_a ?m_Board_whole_track_i ?m_Board_whole_track_l ?m_Board_whole_track_c ?m_Board_whole_track_k) (HW.ClIn.of KX G ?c_Search_a ?c_Search_m ?c_Search_k) (HW.MtIn.of ?m_Search_init_a ?m_Search_init_i ?m_Search_init_l ?m_Search_init_c ?m_Search_init_k) (HW.MtIn.of ?m_Search_run_a ?m_Search_run_i ?m_Search_run_l ?m_Search_run_c ?m_Search_run_k) (HW.MtIn.of ?m_Search_is_over_a ?m_Search_is_over_i ?m_Search_is_over_l ?m_Search_is_over_c ?m_Search_is_over_k) (HW.MtIn.of ?m_Search_put_from_a ?m_Search_put_from_i ?m_Search_put_from_l ?m_Search_put_from_c ?m_Search_put_from_k) (HW.MtIn.of ?m_Search_try_at_a ?m_Search_try_at_i ?m_Search_try_at_l ?m_Search_try_at_c ?m_Search_try_at_k) (HW.MtIn.of ?m_Search_judge_a ?m_Search_judge_i ?m_Search_judge_l ?m_Search_judge_c ?m_Search_judge_k) (HW.ClIn.of KX G ?c_Reader_a ?c_Reader_m ?c_Reader_k) (HW.MtIn.of ?m_Reader_init_a ?m_Reader_init_i ?m_Reader_init_l ?m_Reader_init_c ?m_Reader_init_k) (HW.MtIn.of ?m_Reader_is_done_a ?m_Reader_is_done_i ?m_Reader_is_done_l ?m_Reader_is_done_c ?m_Reader_is_done_k) (HW.MtIn.of ?m_Reader_take_a ?m_Reader_take_i ?m_Reader_take_l ?m_Reader_take_c ?m_Reader_take_k) (HW.MtIn.of ?m_Reader_take_row_a ?m_Reader_take_row_i ?m_Reader_take_row_l ?m_Reader_take_row_c ?m_Reader_take_row_k) (HW.ClIn.of KX G ?c_Puzzle_a ?c_Puzzle_m ?c_Puzzle_k) (HW.MtIn.of ?m_Puzzle_init_a ?m_Puzzle_init_i ?m_Puzzle_init_l ?m_Puzzle_init_c ?m_Puzzle_init_k) (HW.MtIn.of ?m_Puzzle_begin_a ?m_Puzzle_begin_i ?m_Puzzle_begin_l ?m_Puzzle_begin_c ?m_Puzzle_begin_k) (HW.MtIn.of ?m_Puzzle_load_a ?m_Puzzle_load_i ?m_Puzzle_load_l ?m_Puzzle_load_c ?m_Puzzle_load_k) (HW.MtIn.of ?m_Puzzle_make_a ?m_Puzzle_make_i ?m_Puzzle_make_l ?m_Puzzle_make_c ?m_Puzzle_make_k) (HW.MtIn.of ?m_Puzzle_guess_a ?m_Puzzle_guess_i ?m_Puzzle_guess_l ?m_Puzzle_guess_c ?m_Puzzle_guess_k) (HW.MtIn.of ?m_Puzzle_number_of_a ?m_Puzzle_number_of_i ?m_Puzzle_number_of_l ?m_Puzzle_number_of_c ?m_Puzzle_number_of_k) (HW.MtIn.of ?m_Puzzle_hint_a ?m_Puzzle_hint_i ?m_Puzzle_hint_l ?m_Puzzle_hint_c ?m_Puzzle_hint_k) (HW.MtIn.of ?m_Puzzle_unfound_a ?m_Puzzle_unfound_i ?m_Puzzle_unfound_l ?m_Puzzle_unfound_c ?m_Puzzle_unfound_k) (HW.MtIn.of ?m_Puzzle_rest_a ?m_Puzzle_rest_i ?m_Puzzle_rest_l ?m_Puzzle_rest_c ?m_Puzzle_rest_k) (HW.MtIn.of ?m_Puzzle_left_a ?m_Puzzle_left_i ?m_Puzzle_left_l ?m_Puzzle_left_c ?m_Puzzle_left_k) (HW.MtIn.of ?m_Puzzle_tell_a ?m_Puzzle_tell_i ?m_Puzzle_tell_l ?m_Puzzle_tell_c ?m_Puzzle_tell_k) (HW.MtIn.of ?m_Puzzle_score_a ?m_Puzzle_score_i ?m_Puzzle_score_l ?m_Puzzle_score_c ?m_Puzzle_score_k)
    (case c_Board_a => k_is); (case c_Board_m => k_is); (case c_Board_k => k_is)
    (case c_Search_a => k_is); (case c_Search_m => k_is); (case c_Search_k => k_is)
    (case c_Reader_a => k_is); (case c_Reader_m => k_is); (case c_Reader_k => k_is)
    (case c_Puzzle_a => k_is); (case c_Puzzle_m => k_is); (case c_Puzzle_k => k_is)
    (case B_pg => k_is); (case B_hd => k_is); (case B_po => k_is); (case B_sa => k_is); (case B_wide => show PySem.W.findIn _ _ _ = some none; k_is); (case B_high => show PySem.W.findIn _ _ _ = some none; k_is); (case B_size => show PySem.W.findIn _ _ _ = some none; k_is); (case B_rays => show PySem.W.findIn _ _ _ = some none; k_is); (case B_track => show PySem.W.findIn _ _ _ = some none; k_is)
    (case TS_pg => k_is); (case TS_hd => k_is); (case TS_po => k_is); (case TS_sa => k_is); (case TS_board => show PySem.W.findIn _ _ _ = some none; k_is); (case TS_words => show PySem.W.findIn _ _ _ = some none; k_is); (case TS_filling => show PySem.W.findIn _ _ _ = some none; k_is); (case TS_most => show PySem.W.findIn _ _ _ = some none; k_is); (case TS_choices => show PySem.W.findIn _ _ _ = some none; k_is); (case TS_tries => show PySem.W.findIn _ _ _ = some none; k_is); (case TS_stopped => show PySem.W.findIn _ _ _ = some none; k_is); (case TS_made => show PySem.W.findIn _ _ _ = some none; k_is)
    (case R_pg => k_is); (case R_hd => k_is); (case R_po => k_is); (case R_sa => k_is); (case R_numbers => show PySem.W.findIn _ _ _ = some none; k_is); (case R_place => show PySem.W.findIn _ _ _ = some none; k_is)
    (case TP_pg => k_is); (case TP_hd => k_is); (case TP_po => k_is); (case TP_sa => k_is); (case TP_board => show PySem.W.findIn _ _ _ = some none; k_is); (case TP_letters => show PySem.W.findIn _ _ _ = some none; k_is); (case TP_words => show PySem.W.findIn _ _ _ = some none; k_is); (case TP_finders => show PySem.W.findIn _ _ _ = some none; k_is); (case TP_wrong => show PySem.W.findIn _ _ _ = some none; k_is)
    (case m_Board_init_a => k_is); (case m_Board_init_i => k_is); (case m_Board_init_l => k_is); (case m_Board_init_c => k_is); (case m_Board_init_k => k_is)
    (case m_Board_cells_from_a => k_is); (case m_Board_cells_from_i => k_is); (case m_Board_cells_from_l => k_is); (case m_Board_cells_from_c => k_is); (case m_Board_cells_from_k => k_is)
    (case m_Board_paths_a => k_is); (case m_Board_paths_i => k_is); (case m_Board_paths_l => k_is); (case m_Board_paths_c => k_is); (case m_Board_paths_k => k_is)
    (case m_Board_whole_track_a => k_is); (case m_Board_whole_track_i => k_is); (case m_Board_whole_track_l => k_is); (case m_Board_whole_track_c => k_is); (case m_Board_whole_track_k => k_is)
    (case m_Search_init_a => k_is); (case m_Search_init_i => k_is); (case m_Search_init_l => k_is); (case m_Search_init_c => k_is); (case m_Search_init_k => k_is)
    (case m_Search_run_a => k_is); (case m_Search_run_i => k_is); (case m_Search_run_l => k_is); (case m_Search_run_c => k_is); (case m_Search_run_k => k_is)
    (case m_Search_is_over_a => k_is); (case m_Search_is_over_i => k_is); (case m_Search_is_over_l => k_is); (case m_Search_is_over_c => k_is); (case m_Search_is_over_k => k_is)
    (case m_Search_put_from_a => k_is); (case m_Search_put_from_i => k_is); (case m_Search_put_from_l => k_is); (case m_Search_put_from_c => k_is); (case m_Search_put_from_k => k_is)
    (case m_Search_try_at_a => k_is); (case m_Search_try_at_i => k_is); (case m_Search_try_at_l => k_is); (case m_Search_try_at_c => k_is); (case m_Search_try_at_k => k_is)
    (case m_Search_judge_a => k_is); (case m_Search_judge_i => k_is); (case m_Search_judge_l => k_is); (case m_Search_judge_c => k_is); (case m_Search_judge_k => k_is)
    (case m_Reader_init_a => k_is); (case m_Reader_init_i => k_is); (case m_Reader_init_l => k_is); (case m_Reader_init_c => k_is); (case m_Reader_init_k => k_is)
    (case m_Reader_is_done_a => k_is); (case m_Reader_is_done_i => k_is); (case m_Reader_is_done_l => k_is); (case m_Reader_is_done_c => k_is); (case m_Reader_is_done_k => k_is)
    (case m_Reader_take_a => k_is); (case m_Reader_take_i => k_is); (case m_Reader_take_l => k_is); (case m_Reader_take_c => k_is); (case m_Reader_take_k => k_is)
    (case m_Reader_take_row_a => k_is); (case m_Reader_take_row_i => k_is); (case m_Reader_take_row_l => k_is); (case m_Reader_take_row_c => k_is); (case m_Reader_take_row_k => k_is)
    (case m_Puzzle_init_a => k_is); (case m_Puzzle_init_i => k_is); (case m_Puzzle_init_l => k_is); (case m_Puzzle_init_c => k_is); (case m_Puzzle_init_k => k_is)
    (case m_Puzzle_begin_a => k_is); (case m_Puzzle_begin_i => k_is); (case m_Puzzle_begin_l => k_is); (case m_Puzzle_begin_c => k_is); (case m_Puzzle_begin_k => k_is)
    (case m_Puzzle_load_a => k_is); (case m_Puzzle_load_i => k_is); (case m_Puzzle_load_l => k_is); (case m_Puzzle_load_c => k_is); (case m_Puzzle_load_k => k_is)
    (case m_Puzzle_make_a => k_is); (case m_Puzzle_make_i => k_is); (case m_Puzzle_make_l => k_is); (case m_Puzzle_make_c => k_is); (case m_Puzzle_make_k => k_is)
    (case m_Puzzle_guess_a => k_is); (case m_Puzzle_guess_i => k_is); (case m_Puzzle_guess_l => k_is); (case m_Puzzle_guess_c => k_is); (case m_Puzzle_guess_k => k_is)
    (case m_Puzzle_number_of_a => k_is); (case m_Puzzle_number_of_i => k_is); (case m_Puzzle_number_of_l => k_is); (case m_Puzzle_number_of_c => k_is); (case m_Puzzle_number_of_k => k_is)
    (case m_Puzzle_hint_a => k_is); (case m_Puzzle_hint_i => k_is); (case m_Puzzle_hint_l => k_is); (case m_Puzzle_hint_c => k_is); (case m_Puzzle_hint_k => k_is)
    (case m_Puzzle_unfound_a => k_is); (case m_Puzzle_unfound_i => k_is); (case m_Puzzle_unfound_l => k_is); (case m_Puzzle_unfound_c => k_is); (case m_Puzzle_unfound_k => k_is)
    (case m_Puzzle_rest_a => k_is); (case m_Puzzle_rest_i => k_is); (case m_Puzzle_rest_l => k_is); (case m_Puzzle_rest_c => k_is); (case m_Puzzle_rest_k => k_is)
    (case m_Puzzle_left_a => k_is); (case m_Puzzle_left_i => k_is); (case m_Puzzle_left_l => k_is); (case m_Puzzle_left_c => k_is); (case m_Puzzle_left_k => k_is)
    (case m_Puzzle_tell_a => k_is); (case m_Puzzle_tell_i => k_is); (case m_Puzzle_tell_l => k_is); (case m_Puzzle_tell_c => k_is); (case m_Puzzle_tell_k => k_is)
    (case m_Puzzle_score_a => k_is); (case m_Puzzle_score_i => k_is); (case m_Puzzle_score_l => k_is); (case m_Puzzle_score_c => k_is); (case m_Puzzle_score_k => k_is)
    (case f_are_letters_a => k_is); (case f_are_letters_l => k_is); (case f_are_letters_c => k_is); (case f_are_letters_k => k_is)
    (case f_text_of_a => k_is); (case f_text_of_l => k_is); (case f_text_of_c => k_is); (case f_text_of_k => k_is)
    (case f_bytes_of_a => k_is); (case f_bytes_of_l => k_is); (case f_bytes_of_c => k_is); (case f_bytes_of_k => k_is)
    (case f_backwards_a => k_is); (case f_backwards_l => k_is); (case f_backwards_c => k_is); (case f_backwards_k => k_is)
    (case f_lines_of_a => k_is); (case f_lines_of_l => k_is); (case f_lines_of_c => k_is); (case f_lines_of_k => k_is)
    (case f_is_word_a => k_is); (case f_is_word_l => k_is); (case f_is_word_c => k_is); (case f_is_word_k => k_is)
    (case f_has_twins_a => k_is); (case f_has_twins_l => k_is); (case f_has_twins_c => k_is); (case f_has_twins_k => k_is)
    (case f_list_refusal_a => k_is); (case f_list_refusal_l => k_is); (case f_list_refusal_c => k_is); (case f_list_refusal_k => k_is)
    (case f_is_side_a => k_is); (case f_is_side_l => k_is); (case f_is_side_c => k_is); (case f_is_side_k => k_is)
    (case f_all_places_a => k_is); (case f_all_places_l => k_is); (case f_all_places_c => k_is); (case f_all_places_k => k_is)
    (case f_read_path_a => k_is); (case f_read_path_l => k_is); (case f_read_path_c => k_is); (case f_read_path_k => k_is)
    (case f_read_track_a => k_is); (case f_read_track_l => k_is); (case f_read_track_c => k_is); (case f_read_track_k => k_is)
    (case f_times_in_a => k_is); (case f_times_in_l => k_is); (case f_times_in_c => k_is); (case f_times_in_k => k_is)
    (case f_is_right_a => k_is); (case f_is_right_l => k_is); (case f_is_right_c => k_is); (case f_is_right_k => k_is)
    (case f_first_path_a => k_is); (case f_first_path_l => k_is); (case f_first_path_c => k_is); (case f_first_path_k => k_is)
    (case f_used_cells_a => k_is); (case f_used_cells_l => k_is); (case f_used_cells_c => k_is); (case f_used_cells_k => k_is)
    (case f_path_between_a => k_is); (case f_path_between_l => k_is); (case f_path_between_c => k_is); (case f_path_between_k => k_is)
    (case f_fits_a => k_is); (case f_fits_l => k_is); (case f_fits_c => k_is); (case f_fits_k => k_is)
    (case f_with_word_a => k_is); (case f_with_word_l => k_is); (case f_with_word_c => k_is); (case f_with_word_k => k_is)
    (case f_filled_a => k_is); (case f_filled_l => k_is); (case f_filled_c => k_is); (case f_filled_k => k_is)
    (case f_is_square_a => k_is); (case f_is_square_l => k_is); (case f_is_square_c => k_is); (case f_is_square_k => k_is)
    (case f_is_filling_a => k_is); (case f_is_filling_l => k_is); (case f_is_filling_c => k_is); (case f_is_filling_k => k_is)
    (case f_load_answer_a => k_is); (case f_load_answer_l => k_is); (case f_load_answer_c => k_is); (case f_load_answer_k => k_is)
    (case f_make_answer_a => k_is); (case f_make_answer_l => k_is); (case f_make_answer_c => k_is); (case f_make_answer_k => k_is)
    (case f_guess_answer_a => k_is); (case f_guess_answer_l => k_is); (case f_guess_answer_c => k_is); (case f_guess_answer_k => k_is)
    (case f_call_answer_a => k_is); (case f_call_answer_l => k_is); (case f_call_answer_c => k_is); (case f_call_answer_k => k_is)
    (case f_answers_a => k_is); (case f_answers_l => k_is); (case f_answers_c => k_is); (case f_answers_k => k_is)
    case ways =>
      refine' HW.ways_of (HW.Gv.ref KX G ?wa) ?wl ?wc (HW.KT.two ?w0 ?c0) (HW.KT.two ?w1 ?c1) (HW.KT.two ?w2 ?c2) (HW.KT.two ?w3 ?c3) (HW.KT.two ?w4 ?c4) (HW.KT.two ?w5 ?c5) (HW.KT.two ?w6 ?c6) (HW.KT.two ?w7 ?c7)
      (case wa => k_is); (case wl => k_is); (case wc => rfl)
      (case w0 => k_is); (case c0 => rfl)
      (case w1 => k_is); (case c1 => rfl)
      (case w2 => k_is); (case c2 => rfl)
      (case w3 => k_is); (case c3 => rfl)
      (case w4 => k_is); (case c4 => rfl)
      (case w5 => k_is); (case c5 => rfl)
      (case w6 => k_is); (case c6 => rfl)
      (case w7 => k_is); (case c7 => rfl)
  case S =>
    intro K H xs a hO hwi hask hx
    cases hx with
    | cons h1 h2 =>
      cases h2
      cases h1 with
      | lst hs ha =>
        have e := L2.ints_dw a.1 _ ha
        subst e
        exact HW.asked_sp a.1 hwi hask hs
end
