import PyProof.Rows.All
import Wide.All
import OpenK.AllK
import Wide.FinOn
import PyProof.EqAt
import PyProof.EqKinds
import PyProof.TupleCall
import KE.BitLaws
import Open.SpecLaws
import KE.OsHead
import KE.OsGo
import PySem.Challenge.RW_handkey_s01_answers
set_option Elab.async false
set_option linter.all false
set_option maxRecDepth 100000
/-! THE HAND LAYER, for ints, bools, texts, own classes, lists, tuples, dicts, comprehensions, walks over dicts, enumerate, zip, reversed, texts, calls, loops. Paste it whole ahead of your own text; what your proof does not reach may be deleted. -/
namespace L2
open PySem PySem.Spec PyProof.Rows

/-- a key: an int or a str -/
abbrev Key := Sum Int Str
def keyIs : Key → Value → Bool
  | .inl k, v => Value.isInt k v
  | .inr x, v => Value.isStrOf x v
def keyH (w : World) : Key → Int
  | .inl k => hashInt k
  | .inr x => hashStr w x
theorem keyIs_shape : ∀ {k : Key} {v : Value}, keyIs k v = true → (∃ i t, k = Sum.inl i ∧ v = Value.int i t) ∨ (∃ x t, k = Sum.inr x ∧ v = Value.str x t)
  | .inl i, v, h => by
    obtain ⟨t, e⟩ := Value.isInt_shape (k := i) (v := v) h
    exact .inl ⟨i, t, rfl, e⟩
  | .inr x, v, h => by
    obtain ⟨t, e⟩ := Value.isStrOf_shape (x := x) (v := v) h
    exact .inr ⟨x, t, rfl, e⟩
theorem keyIs_int (i : Int) (t : Tok) : keyIs (.inl i) (.int i t) = true := by simp [keyIs, Value.isInt]
theorem keyIs_str (x : Str) (t : Tok) : keyIs (.inr x) (.str x t) = true := by simp [keyIs, Value.isStrOf]
theorem key_ll (a b : Int) : decide ((Sum.inl a : Key) = Sum.inl b) = (a == b) := by
  by_cases e : a = b
  · subst e; simp
  · have h : ¬ (Sum.inl a : Key) = Sum.inl b := fun q => e (Sum.inl.inj q)
    rw [decide_eq_false h]
    exact (beq_eq_false_iff_ne.mpr e).symm
theorem key_rr (a b : Str) : decide ((Sum.inr a : Key) = Sum.inr b) = decide (a = b) := by
  by_cases e : a = b
  · subst e; simp
  · have h : ¬ (Sum.inr a : Key) = Sum.inr b := fun q => e (Sum.inr.inj q)
    rw [decide_eq_false h, decide_eq_false e]
theorem key_lr (a : Int) (b : Str) : decide ((Sum.inl a : Key) = Sum.inr b) = false := decide_eq_false (fun q => nomatch q)
theorem key_rl (a : Str) (b : Int) : decide ((Sum.inr a : Key) = Sum.inl b) = false := decide_eq_false (fun q => nomatch q)

def mixKind (prog : Program) (w : World) : PySem.KeyKind prog w Key where
  is := keyIs
  hash := keyH w
  inj := fun v a b ha hb => by
    rcases keyIs_shape ha with ⟨i, t, rfl, rfl⟩ | ⟨x, t, rfl, rfl⟩
    · rcases keyIs_shape hb with ⟨j, u, rfl, e⟩ | ⟨y, u, rfl, e⟩
      · injection e with e1 _; rw [e1]
      · exact nomatch e
    · rcases keyIs_shape hb with ⟨j, u, rfl, e⟩ | ⟨y, u, rfl, e⟩
      · exact nomatch e
      · injection e with e1 _; rw [e1]
  byValue := fun k v h => by
    rcases keyIs_shape h with ⟨i, t, rfl, rfl⟩ | ⟨x, t, rfl, rfl⟩ <;> rfl
  pyHash := fun hv h => by
    rcases keyIs_shape hv with ⟨i, t, rfl, rfl⟩ | ⟨x, t, rfl, rfl⟩
    · exact wpAny_pyHash_int h
    · exact wpAny_pyHash_str h
  eqBool := fun hu hv h => by
    rcases keyIs_shape hu with ⟨i, t, rfl, rfl⟩ | ⟨x, t, rfl, rfl⟩
    · rcases keyIs_shape hv with ⟨j, u, rfl, rfl⟩ | ⟨y, u, rfl, rfl⟩
      · rw [key_ll] at h; exact wpAny_eqBool_int h
      · rw [key_lr] at h; exact SeqAt.EqAt.int_str i t y u _ _ _ _ h
    · rcases keyIs_shape hv with ⟨j, u, rfl, rfl⟩ | ⟨y, u, rfl, rfl⟩
      · rw [key_rl] at h; exact SeqAt.EqAt.str_int x t j u _ _ _ _ h
      · rw [key_rr] at h; exact wpAny_eqBool_str h
  «strs» := fun k x t v h => by
    rcases keyIs_shape h with ⟨i, u, rfl, e⟩ | ⟨y, u, rfl, e⟩
    · exact nomatch e
    · injection e with e1 _
      subst e1
      cases v <;> rfl

theorem mixKind_int (prog : Program) (w : World) (i : Int) (t : Tok) : (mixKind prog w).is (.inl i) (.int i t) = true := keyIs_int i t
theorem mixKind_str (prog : Program) (w : World) (x : Str) (t : Tok) : (mixKind prog w).is (.inr x) (.str x t) = true := keyIs_str x t
end L2

namespace L2
open PySem PySem.Spec PyProof.Rows

/-- a value, without the heap -/
inductive V where
  | non | bl (b : Bool) | int (i : Int) | str (x : Str) | byt (b : Array UInt8) | flt (b : UInt64) | ref (a : Addr) | ty (n : String)
  deriving DecidableEq

def RelV : V → Value → Prop
  | .non, u => u = Value.none
  | .bl b, u => u = Value.bool b
  | .int i, u => ∃ t, u = Value.int i t
  | .str x, u => ∃ t, u = Value.str x t
  | .byt b, u => ∃ t, u = Value.bytes b t
  | .flt b, u => ∃ t, u = Value.float b t
  | .ref a, u => u = Value.ref a
  | .ty n, u => u = Value.type n

abbrev Vals : List V → List Value → Prop := Paired RelV
theorem Vals.length {xs : List V} {us : List Value} (r : Vals xs us) : xs.length = us.length := Paired.length r
theorem Vals.get : ∀ {xs : List V} {us : List Value} {i : Nat} {x : V}, Vals xs us → xs[i]? = some x → ∃ u, us[i]? = some u ∧ RelV x u
  | _, _, _, _, .nil, e => by simp at e
  | _, _, 0, _, .cons r _, e => by simp at e; subst e; exact ⟨_, rfl, r⟩
  | _, _, i + 1, x, .cons _ t, e => by
    obtain ⟨u, h1, h2⟩ := Vals.get (i := i) (x := x) t (by simpa using e)
    exact ⟨u, by simpa using h1, h2⟩
theorem Vals.set {x : V} {u : Value} (r : RelV x u) : ∀ {xs : List V} {us : List Value} (i : Nat), Vals xs us → Vals (xs.set i x) (us.set i u)
  | _, _, _, .nil => .nil
  | _, _, 0, .cons _ t => .cons r t
  | _, _, i + 1, .cons q t => .cons q (Vals.set r i t)
theorem Vals.append : ∀ {xs ys : List V} {us ws : List Value}, Vals xs us → Vals ys ws → Vals (xs ++ ys) (us ++ ws)
  | _, _, _, _, .nil, s => s
  | _, _, _, _, .cons r t, s => .cons r (Vals.append t s)
theorem Vals.take : ∀ {xs : List V} {us : List Value} (n : Nat), Vals xs us → Vals (xs.take n) (us.take n)
  | _, _, 0, _ => .nil
  | _, _, _ + 1, .nil => .nil
  | _, _, n + 1, .cons r t => .cons r (Vals.take n t)
theorem Vals.drop : ∀ {xs : List V} {us : List Value} (n : Nat), Vals xs us → Vals (xs.drop n) (us.drop n)
  | _, _, 0, r => r
  | _, _, _ + 1, .nil => .nil
  | _, _, n + 1, .cons _ t => Vals.drop n t
theorem Vals.none_of : ∀ {xs : List V} {us : List Value} {i : Nat}, Vals xs us → xs[i]? = none → us[i]? = none := fun {xs us i} r e => by
  have h1 := r.length
  have h2 : xs.length ≤ i := List.getElem?_eq_none_iff.mp e
  exact List.getElem?_eq_none_iff.mpr (by omega)

def RelO : Option V → Option Value → Prop
  | some v, some u => RelV v u
  | none, none => True
  | _, _ => False
def KV {κ : Type} : List (κ × V) → List (κ × Value) → Prop := Paired fun (p : κ × V) (q : κ × Value) => p.1 = q.1 ∧ RelV p.2 q.2

/-- a key of a dict (00_mix): an int or a text -/
def kV : Key → V
  | .inl i => .int i
  | .inr x => .str x

/-- what stands at a tracked address -/
inductive HO where
  /-- a list -/
  | lst (xs : List V)
  /-- a tuple (never changes) -/
  | tup (xs : List V)
  /-- a dict whose keys are ints and texts; one whose keys are tuples of ints and texts (the empty one is both) -/
  | dK (kvs : List (Key × V)) | dT (kvs : List (List Key × V))
  /-- a set of ints: its members, its size -/
  | set (S : Int → Bool) (n : Nat)
  /-- an instance of the class at C, its dict at dx, its attributes -/
  | ins (C dx : Addr) (fs : List (Str × V))
  /-- the dict of the instance at x -/
  | own (x : Addr)
  /-- the dict of an exception -/
  | xd (fs : List (Str × V))
  /-- a bound method, f of x -/
  | met (f x : Addr)
  /-- a range object lo, lo + 1, .. below hi -/
  | rng (lo hi : Int)
  /-- a thing that is known to the object (the script; a dict while a loop walks it): read, never written while it is so -/
  | frz (o : Obj) (u : HO)
  /-- a code object's table -/
  | tbl (ps : Array Value)
  /-- any other thing, by what is true of its one object (a def of one's own: SetO a S n := HO.ext fun h => ..) -/
  | ext (φ : Heap → Prop)

abbrev Hp := Addr → Option HO
def upd (H : Hp) (a : Addr) (o : HO) : Hp := fun b => if b = a then some o else H b
theorem upd_same {H : Hp} {a : Addr} {o : HO} : upd H a o a = some o := by unfold upd; rw [if_pos rfl]
theorem upd_ne {H : Hp} {a b : Addr} {o : HO} (h : b ≠ a) : upd H a o b = H b := by unfold upd; rw [if_neg h]
/-- two objects of different content stand apart -/
theorem ne_of {H : Hp} {a b : Addr} {o u : HO} (h : H a = some o) (h' : H b = some u) (d : o ≠ u) : a ≠ b := by
  intro e; subst e; rw [h] at h'; exact d (Option.some.inj h')
theorem ne_of_none {H : Hp} {a b : Addr} {o : HO} (h : H a = some o) (h' : H b = none) : a ≠ b := by
  intro e; subst e; rw [h] at h'; cases h'

section
variable (P : Program) (w : World)
def ObjOk (H : Hp) (h : Heap) (a : Addr) : HO → Prop
  | .lst xs => xs.length ≤ sizeLine ∧ ∃ (its : List Value) (n : Nat), Vals xs its ∧ h.get? a = some { cls := .type "list", data := .seq its.toArray n }
  | .tup xs => xs.length ≤ sizeLine ∧ ∃ its : List Value, Vals xs its ∧ IsTup h a its.toArray
  | .dK kvs => kvs.length ≤ sizeLine ∧ (a == sysModules) = false ∧ ∃ vs, KV kvs vs ∧ h.DictOf (mixKind P w) a vs
  | .dT kvs => kvs.length ≤ sizeLine ∧ (a == sysModules) = false ∧ ∃ xs : List (List Key × Addr × Value),
      Paired (fun (p : List Key × V) (q : List Key × Addr × Value) => p.1 = q.1 ∧ H q.2.1 = some (.tup (p.1.map kV)) ∧ RelV p.2 q.2.2) kvs xs ∧
      ∃ o es ep, h.get? a = some o ∧ o.ExactDict ∧ o.data = .dict es ep ∧ es.toList = xs.map (entryOfKey (tupleKind (mixKind P w))) ∧ (xs.map (·.1)).Nodup
  | .set S n => h.SetOf (intKind P w) a S n
  | .ins C dx fs => H dx = some (.own a) ∧ fs.length ≤ 1000 ∧ dx ≠ a ∧ h.get? a = some (PySem.W.instObj C dx) ∧
      ∃ mA, h.Ns1 dx mA ∧ (∀ f, RelO (fs.lookup f) (mA f)) ∧ PySem.Within mA (fs.map (·.1))
  | .own _ => ∃ o, h.get? a = some o
  | .xd fs => ∃ mA, h.Ns1 a mA ∧ ∀ f, RelO (fs.lookup f) (mA f)
  | .rng lo hi => ∃ t u v, h.get? a = some { cls := .type "range", data := .fields #[.int lo t, .int hi u, .int 1 v] }
  | .frz o u => h.get? a = some o ∧ ObjOk H h a u
  | .tbl ps => h.get? a = some { cls := .none, data := .fields ps }
  | .met f x => h.get? a = some (PySem.W.methodObj (.ref f) (.ref x))
  | .ext φ => φ h ∧ (∃ o, h.get? a = some o) ∧ ∀ h1 h2 : Heap, φ h1 → (∀ o, h1.get? a = some o → h2.get? a = some o) → φ h2
/-- the abstract heap is held -/
def HOk (H : Hp) (h : Heap) : Prop := ∀ a o, H a = some o → ObjOk P w H h a o
end

section
variable {P : Program} {w : World} {H H' : Hp} {h h' : Heap} {a : Addr} {o : HO}
theorem ObjOk.lt (x : ObjOk P w H h a o) : a < h.objs.size := by
  cases o with
  | lst xs => obtain ⟨_, _, _, _, e⟩ := x; exact Heap.lt_size e
  | tup xs => obtain ⟨_, _, _, p⟩ := x; exact p.lt
  | dK kvs => obtain ⟨_, _, _, _, o, _, _, e, _⟩ := x; exact Heap.lt_size e
  | dT kvs => obtain ⟨_, _, _, _, o, _, _, e, _⟩ := x; exact Heap.lt_size e
  | set S n => obtain ⟨o, _, _, _, e, _⟩ := x; exact Heap.lt_size e
  | ins C dx fs => obtain ⟨_, _, _, e, _⟩ := x; exact Heap.lt_size e
  | own y => obtain ⟨_, e⟩ := x; exact Heap.lt_size e
  | xd fs => obtain ⟨_, ⟨_, _, _, e, _⟩, _⟩ := x; exact Heap.lt_size e
  | rng lo hi => obtain ⟨_, _, _, e⟩ := x; exact Heap.lt_size e
  | frz ob u => obtain ⟨e, _⟩ := x; exact Heap.lt_size e
  | tbl ps => exact Heap.lt_size (show h.get? a = some _ from x)
  | met f y => exact Heap.lt_size (show h.get? a = some _ from x)
  | ext φ => obtain ⟨_, ⟨_, e⟩, _⟩ := x; exact Heap.lt_size e
theorem Paired.mapP {α β : Type} {F G : α → β → Prop} : ∀ {l₁ : List α} {l₂ : List β}, Paired F l₁ l₂ → (∀ a b, F a b → G a b) → Paired G l₁ l₂
  | _, _, .nil, _ => .nil
  | _, _, .cons r t, f => .cons (f _ _ r) (Paired.mapP t f)
/-- what an object's description leans on: its own object, its own dict, the tuples -/
theorem ObjOk.stay (x : ObjOk P w H h a o) (k : ∀ b u, (b = a ∨ H b = some (.own a)) → h.get? b = some u → h'.get? b = some u)
    (ho : ∀ b, H b = some (.own a) → H' b = some (.own a)) (ht : ∀ b xs, H b = some (.tup xs) → H' b = some (.tup xs)) : ObjOk P w H' h' a o := by
  induction o with
  | lst xs => obtain ⟨z, its, n, r, e⟩ := x; exact ⟨z, its, n, r, k _ _ (.inl rfl) e⟩
  | tup xs => obtain ⟨z, its, r, ob, e, c⟩ := x; exact ⟨z, its, r, ob, k _ _ (.inl rfl) e, c⟩
  | dK kvs => obtain ⟨z, y, vs, r, ob, es, ep, e, c⟩ := x; exact ⟨z, y, vs, r, ob, es, ep, k _ _ (.inl rfl) e, c⟩
  | dT kvs =>
    obtain ⟨z, y, xs, r, ob, es, ep, e, c⟩ := x
    exact ⟨z, y, xs, Paired.mapP r fun p q z => ⟨z.1, ht _ _ z.2.1, z.2.2⟩, ob, es, ep, k _ _ (.inl rfl) e, c⟩
  | set S n => obtain ⟨ob, es, ep, t, e, c⟩ := x; exact ⟨ob, es, ep, t, k _ _ (.inl rfl) e, c⟩
  | ins C dx fs =>
    obtain ⟨d, z, ne, e, mA, ⟨od, es, ep, e2, c⟩, r⟩ := x
    exact ⟨ho _ d, z, ne, k _ _ (.inl rfl) e, mA, ⟨od, es, ep, k _ _ (.inr d) e2, c⟩, r⟩
  | own y => obtain ⟨ob, e⟩ := x; exact ⟨ob, k _ _ (.inl rfl) e⟩
  | xd fs => obtain ⟨mA, ⟨od, es, ep, e, c⟩, r⟩ := x; exact ⟨mA, ⟨od, es, ep, k _ _ (.inl rfl) e, c⟩, r⟩
  | rng lo hi => obtain ⟨t, u, v, e⟩ := x; exact ⟨t, u, v, k _ _ (.inl rfl) e⟩
  | frz ob u ih => obtain ⟨e, q⟩ := x; exact ⟨k _ _ (.inl rfl) e, ih q⟩
  | tbl ps =>
    have e : h.get? a = some { cls := .none, data := .fields ps } := x
    show h'.get? a = some { cls := .none, data := .fields ps }
    exact k a _ (.inl rfl) e
  | met f y =>
    have e : h.get? a = some (PySem.W.methodObj (.ref f) (.ref y)) := x
    show h'.get? a = some (PySem.W.methodObj (.ref f) (.ref y))
    exact k a _ (.inl rfl) e
  | ext φ => obtain ⟨p, ⟨o, e⟩, st⟩ := x; exact ⟨st _ _ p fun o q => k _ _ (.inl rfl) q, ⟨o, k _ _ (.inl rfl) e⟩, st⟩
theorem HOk.lt (x : HOk P w H h) (e : H a = some o) : a < h.objs.size := (x a o e).lt
theorem HOk.fresh (x : HOk P w H h) (e : h.objs.size ≤ a) : H a = none := by
  cases q : H a with
  | none => rfl
  | some u => exact absurd (Nat.lt_of_lt_of_le (x.lt q) e) (Nat.lt_irrefl _)
/-- every object of the heap is kept -/
theorem HOk.kept (x : HOk P w H h) (k : ∀ b u, h.get? b = some u → h'.get? b = some u) : HOk P w H h' := fun a o e =>
  (x a o e).stay (fun b u _ q => k b u q) (fun _ q => q) fun _ _ q => q
/-- a new object is laid and tracked -/
theorem HOk.laid (x : HOk P w H h) (k : ∀ b u, h.get? b = some u → h'.get? b = some u) (hp : h.objs.size ≤ a) (new : ObjOk P w (upd H a o) h' a o) : HOk P w (upd H a o) h' := fun b u e => by
  have hn := x.fresh hp
  by_cases hb : b = a
  · subst hb; rw [upd_same] at e; cases e; exact new
  · rw [upd_ne hb] at e
    exact (x b u e).stay (fun c v _ q => k c v q) (fun c q => by rw [upd_ne (ne_of_none q hn)]; exact q) fun c xs q => by rw [upd_ne (ne_of_none q hn)]; exact q
end

/-- what may be read as u: it is u, or a known u -/
def Rd (H : Hp) (a : Addr) (u : HO) : Prop := H a = some u ∨ ∃ o, H a = some (.frz o u)
theorem Rd.of {H : Hp} {a : Addr} {u : HO} (h : H a = some u) : Rd H a u := .inl h
theorem Rd.ok {P : Program} {w : World} {H : Hp} {h : Heap} {a : Addr} {u : HO} (r : Rd H a u) (x : HOk P w H h) : ObjOk P w H h a u := by
  rcases r with r | ⟨o, r⟩
  · exact x a u r
  · obtain ⟨_, q⟩ := x a _ r
    exact q
/-- what may be written -/
def Mut : Option HO → Prop
  | some (.lst _) => True
  | some (.dK _) => True
  | some (.dT _) => True
  | some (.set _ _) => True
  | some (.ins _ _ _) => True
  | some (.ext _) => True
  | _ => False
section
variable {P : Program} {w : World} {H : Hp} {h h' : Heap} {x e : Addr} {o' : HO}
/-- the object at e is changed: x itself, or the dict of the instance x -/
theorem HOk.write (ok : HOk P w H h) (mu : Mut (H x)) (he : e = x ∨ H e = some (.own x)) (k : ∀ b u, b ≠ e → h.get? b = some u → h'.get? b = some u) (heo : ∃ u, h'.get? e = some u)
    (new : ObjOk P w (upd H x o') h' x o') : HOk P w (upd H x o') h' := fun b u q => by
  have nown : ∀ c y, H c = some (.own y) → c ≠ x := fun c y r z => by subst z; rw [r] at mu; exact mu
  have ntup : ∀ c xs, H c = some (.tup xs) → c ≠ x := fun c xs r z => by subst z; rw [r] at mu; exact mu
  by_cases hb : b = x
  · subst hb; rw [upd_same] at q; cases q; exact new
  · rw [upd_ne hb] at q
    by_cases hbe : b = e
    · have q' : H b = some (.own x) := by
        rcases he with z | z
        · exact absurd (hbe.trans z) hb
        · rw [hbe]; exact z
      rw [q] at q'; cases q'
      obtain ⟨v, hv⟩ := heo
      exact ⟨v, by rw [hbe]; exact hv⟩
    · refine (ok b u q).stay (fun c v hc r => k c v ?_ r) (fun c r => by rw [upd_ne (nown c b r)]; exact r) fun c xs r => by rw [upd_ne (ntup c xs r)]; exact r
      rcases hc with rfl | hc
      · exact hbe
      · rintro rfl
        rcases he with z | z
        · exact nown c b hc z
        · rw [hc] at z; cases z; exact hb rfl
end

/-! ### kept unless tracked; of the frames at fs (the callers') the slots may change (an exception that passes writes there); of the records at ex (iterators) nothing is said -/
structure Un (fs ex : List Addr) (H H' : Hp) (h h' : Heap) : Prop where
  keep : ∀ b o, h.get? b = some o → H b = none → b ∉ fs → b ∉ ex → h'.get? b = some o
  slot : ∀ b o, h.get? b = some o → H b = none → b ∈ fs → b ∉ ex → ∃ sl, h'.get? b = some { o with slots := sl }
  free : ∀ b o, h.get? b = some o → H b = none → b ∉ ex → H' b = none
  there : ∀ b o, h.get? b = some o → b ∉ ex → ∃ o', h'.get? b = some o'
  tups : ∀ b xs, H b = some (.tup xs) → H' b = some (.tup xs)
  frzs : ∀ b o u, H b = some (.frz o u) → H' b = some (.frz o u)
  tbls : ∀ b ps, H b = some (.tbl ps) → ∃ more, H' b = some (.tbl (ps ++ more))
section
variable {fs fs' ex ex' : List Addr} {H H1 H2 : Hp} {h h1 h2 h' : Heap} {a x e : Addr} {o : HO}
theorem Un.any (u : Un fs ex H H1 h h1) {b : Addr} {ob : Obj} (q : h.get? b = some ob) (n : H b = none) (hx : b ∉ ex) : ∃ sl, h1.get? b = some { ob with slots := sl } := by
  by_cases hb : b ∈ fs
  · exact u.slot b ob q n hb hx
  · exact ⟨ob.slots, u.keep b ob q n hb hx⟩
theorem Un.trans (a : Un fs ex H H1 h h1) (b : Un fs ex H1 H2 h1 h2) : Un fs ex H H2 h h2 where
  keep := fun c ob q n hc hx => b.keep c ob (a.keep c ob q n hc hx) (a.free c ob q n hx) hc hx
  slot := fun c ob q n hc hx => by
    obtain ⟨sl, e1⟩ := a.slot c ob q n hc hx
    obtain ⟨sl', e2⟩ := b.slot c _ e1 (a.free c ob q n hx) hc hx
    exact ⟨sl', e2⟩
  free := fun c ob q n hx => by
    obtain ⟨o', e1⟩ := a.there c ob q hx
    exact b.free c o' e1 (a.free c ob q n hx) hx
  there := fun c ob q hx => by
    obtain ⟨o', e1⟩ := a.there c ob q hx
    exact b.there c o' e1 hx
  tups := fun c xs q => b.tups c xs (a.tups c xs q)
  frzs := fun c ob xs q => b.frzs c ob xs (a.frzs c ob xs q)
  tbls := fun c ps q => by
    obtain ⟨m1, e1⟩ := a.tbls c ps q
    obtain ⟨m2, e2⟩ := b.tbls c _ e1
    exact ⟨m1 ++ m2, by rw [e2, Array.append_assoc]⟩
theorem Un.kept (k : ∀ b u, h.get? b = some u → h'.get? b = some u) : Un fs ex H H h h' :=
  ⟨fun b ob q _ _ _ => k b ob q, fun b ob q _ _ _ => ⟨ob.slots, k b ob q⟩, fun _ _ _ n _ => n, fun b ob q _ => ⟨ob, k b ob q⟩, fun _ _ q => q, fun _ _ _ q => q, fun _ ps q => ⟨#[], by rw [q]; simp⟩⟩
theorem Un.refl : Un fs ex H H h h := Un.kept fun _ _ q => q
theorem Un.laid (k : ∀ b u, h.get? b = some u → h'.get? b = some u) (hp : h.objs.size ≤ a) (hn : H a = none) : Un fs ex H (upd H a o) h h' where
  keep := fun b u q _ _ _ => k b u q
  slot := fun b u q _ _ _ => ⟨u.slots, k b u q⟩
  free := fun b u q n _ => by rw [upd_ne (Nat.ne_of_lt (Nat.lt_of_lt_of_le (Heap.lt_size q) hp))]; exact n
  there := fun b u q _ => ⟨u, k b u q⟩
  tups := fun b xs q => by rw [upd_ne (ne_of_none q hn)]; exact q
  frzs := fun b u xs q => by rw [upd_ne (ne_of_none q hn)]; exact q
  tbls := fun b ps q => ⟨#[], by rw [upd_ne (ne_of_none q hn), q]; simp⟩
theorem Un.write (mu : Mut (H x)) (he : e = x ∨ H e = some (.own x)) (k : ∀ b u, b ≠ e → h.get? b = some u → h'.get? b = some u) (heo : ∃ u, h'.get? e = some u) : Un fs ex H (upd H x o) h h' := by
  have hx : ∀ b, H b = none → b ≠ x := fun b n z => by subst z; rw [n] at mu; exact mu
  have hb : ∀ b, H b = none → b ≠ e := fun b n z => by
    subst z
    rcases he with r | r
    · exact hx b n r
    · rw [n] at r; cases r
  have hm : ∀ b u, H b = some u → ¬ Mut (some u) → b ≠ x := fun b u q nm z => by subst z; rw [q] at mu; exact nm mu
  refine ⟨fun b u q n _ _ => k b u (hb b n) q, fun b u q n _ _ => ⟨u.slots, k b u (hb b n) q⟩, fun b u q n _ => by rw [upd_ne (hx b n)]; exact n, fun b u q _ => ?_,
    fun b xs q => by rw [upd_ne (hm b _ q fun z => z)]; exact q, fun b u xs q => by rw [upd_ne (hm b _ q fun z => z)]; exact q, fun b ps q => ⟨#[], by rw [upd_ne (hm b _ q fun z => z), q]; simp⟩⟩
  by_cases hbe : b = e
  · subst hbe; exact heo
  · exact ⟨u, k b u hbe q⟩
theorem Un.mono (u : Un fs ex H H1 h h1) (hs : ∀ b ∈ fs, b ∈ fs') (hx : ∀ b ∈ ex, b ∈ ex') : Un fs' ex' H H1 h h1 :=
  ⟨fun b ob q n hb he => u.keep b ob q n (fun z => hb (hs b z)) fun z => he (hx b z), fun _ _ q n _ he => u.any q n fun z => he (hx _ z), fun b ob q n he => u.free b ob q n fun z => he (hx b z), fun b ob q he => u.there b ob q fun z => he (hx b z), u.tups, u.frzs, u.tbls⟩
end

/-! ### the heap without what is tracked -/
def trk (h : Heap) (H : Hp) : List Addr := (List.range h.objs.size).filter fun a => (H a).isSome
def hidT (h : Heap) (H : Hp) : Heap := PySem.W.hideAll h (trk h H)
theorem hidT_size (h : Heap) (H : Hp) : (hidT h H).objs.size = h.objs.size := PySem.W.hideAll_size _ _
theorem hidT_get {h : Heap} {H : Hp} {b : Addr} {o : Obj} (e : h.get? b = some o) (n : H b = none) : (hidT h H).get? b = some o :=
  PySem.W.hideAll_get _ e fun hm => by
    have q : (H b).isSome = true := (List.mem_filter.mp hm).2
    rw [n] at q; simp at q
theorem of_hidT {h : Heap} {H : Hp} {b : Addr} {o : Obj} (e : (hidT h H).get? b = some o) : h.get? b = some o ∧ H b = none := by
  have e' : h.get? b = some o := PySem.W.of_hideAll (trk h H) e
  refine ⟨e', ?_⟩
  cases q : H b with
  | none => rfl
  | some x =>
    have hm : b ∈ trk h H := List.mem_filter.mpr ⟨List.mem_range.mpr (Heap.lt_size e'), by simp [q]⟩
    have z : (hidT h H).get? b = none := PySem.W.hideAll_none (trk h H) hm
    rw [z] at e; cases e

/-! ### OpenK's ledger, filled with every new object but one -/
def allNews (g h : Heap) (L : Addr) : List (Addr × Obj) := (List.range h.objs.size).filterMap fun a => if a = L ∨ (g.get? a).isSome = true then none else (h.get? a).map fun o => (a, o)
theorem mem_allNews {g h : Heap} {L a : Addr} {o : Obj} (h1 : a ≠ L) (h2 : g.get? a = none) (h3 : h.get? a = some o) : (a, o) ∈ allNews g h L :=
  List.mem_filterMap.mpr ⟨a, List.mem_range.mpr (Heap.lt_size h3), by simp [h1, h2, h3]⟩
theorem of_mem_allNews {g h : Heap} {L : Addr} {p : Addr × Obj} (hp : p ∈ allNews g h L) : p.1 ≠ L ∧ g.get? p.1 = none ∧ h.get? p.1 = some p.2 := by
  obtain ⟨b, _, e⟩ := List.mem_filterMap.mp hp
  split at e
  · cases e
  · rename_i hn
    cases q : h.get? b with
    | none => rw [q] at e; simp at e
    | some u =>
      rw [q] at e
      simp only [Option.map_some, Option.some.injEq] at e
      subst e
      refine ⟨fun z => hn (.inl z), ?_, q⟩
      show g.get? b = none
      cases r : g.get? b with
      | none => rfl
      | some v => exact (hn (.inr (by simp [r]))).elim
def rest (g h : Heap) (L d : Addr) : List (Addr × Obj) := (allNews g h L).filter fun p => decide (p.1 ≠ d)
theorem news_all {g h : Heap} {L : Addr} : News g L h (allNews g h L) := fun p hp => let ⟨a, b, c⟩ := of_mem_allNews hp; ⟨c, a, b⟩
end L2

namespace L2
open PySem PySem.Spec PyProof.Rows

/-- the module's facts, over the base: the heap at the law's entry without what is tracked there -/
structure Mod (K : PySem.W.Frag) (mg : Str → Option Value) (base : Heap) : Prop where
  kin : K.In base
  glob : base.Ns mainGlobals mg
  blt : ∃ mb, base.Ns builtinsNs mb ∧ ∀ x : Str, x ≠ "__name__" → mb x = bootBuiltins x
  nolimit : base.NoLimit

/-- the context: a def's body (or a comprehension's block) running. base: fixed through the whole law; s₀, H₀: the entry; outer: the frames whose slots others may change (a def's callers); stack: all frames that run;
   ex: iterators that were made ahead of the entry and are walked here (a comprehension's); fn: the names whose cells were made at the entry (a def: all; a comprehension's block: its own); calm: not within an except suite; pn: pins that every state bears; xe: what is wanted of an exception that leaves the code -/
structure Cx where
  prog : Program
  w : World
  K : PySem.W.Frag
  mg : Str → Option Value
  base : Heap
  A : Around
  N : List Str
  s_0 : Shared
  H_0 : Hp
  env : Env
  outer : List Env
  stack : List Env
  ex : List Addr
  fn : Str → Bool
  calm : Bool
  pn : List (Addr × Obj)
  xe : Value → Shared → Prop
/-- the callers' frames -/
def frs (l : List Env) : List Addr := l.filterMap (·.frame)
abbrev Cx.fs (X : Cx) : List Addr := frs X.outer

def Vis (sc : Scope) (x : Str) : Prop := sc.names.lookup x = some .local ∨ sc.names.lookup x = some .cell ∨ sc.names.lookup x = some .free
def Loc (sc : Scope) (x : Str) : Prop := sc.names.lookup x = some .local ∨ sc.names.lookup x = some .cell
def Look (env : Env) (h : Heap) (m : Str → Option Value) (x : Str) (u : Value) : Prop :=
  (env.kindOf x = some .local ∧ m x = some u) ∨ ((env.kindOf x = some .cell ∨ env.kindOf x = some .free) ∧ ∃ c, env.cells.lookup x = some c ∧ h.IsCell c (some u))

structure Cx.Ok (X : Cx) : Prop where
  mod : Mod X.K X.mg X.base
  kind : X.env.scope.kind = .function
  glob : X.env.globals = mainGlobals
  blt : X.env.builtins = builtinsNs
  above : X.s_0.heap.objs.size ≤ X.env.locals
  inj : ∀ x y c, X.env.cells.lookup x = some c → X.env.cells.lookup y = some c → x = y
  has : ∀ x, (X.env.kindOf x = some .cell ∨ X.env.kindOf x = some .free) → ∃ c, X.env.cells.lookup x = some c
  cab : ∀ x c, X.fn x = true → X.env.cells.lookup x = some c → X.s_0.heap.objs.size ≤ c
  hd : X.calm = true → X.A.handled = none
  frames : X.A.frames = some X.stack
  stk : X.stack = X.outer ∨ (X.stack = X.env :: X.outer ∧ X.env.frame = some X.env.locals)
  exf : ∀ b ∈ X.ex, b ≠ X.env.locals ∧ ∀ x c, X.env.cells.lookup x = some c → c ≠ b
  bs : ∀ b o, X.base.get? b = some o → X.s_0.heap.get? b = some o ∧ X.H_0 b = none
  bsz : X.base.objs.size ≤ X.s_0.heap.objs.size
  noex : ∀ b o, X.base.get? b = some o → b ∉ X.ex
  exfs : ∀ b ∈ X.ex, b ∉ X.fs
  funs : X.s_0.heap.FunFrames X.base X.outer
  frf : ∀ b ∈ X.fs, X.H_0 b = none

structure Inv (X : Cx) (pins : List (Addr × Obj)) (σ : List (Option V)) (H : Hp) (s : Shared) : Prop where
  ok : X.Ok
  os : s.os = X.s_0.os
  bare : AllBare s.gens
  base : Un X.fs X.ex X.H_0 H X.s_0.heap s.heap
  loc : ∃ m, s.heap.Ns X.env.locals m ∧ ∀ (i : Nat) (x : Str) (v : V), X.N[i]? = some x → σ[i]? = some (some v) → Vis X.env.scope x → ∃ u, RelV v u ∧ Look X.env s.heap m x u
  cell : ∀ x c, X.env.cells.lookup x = some c → ∃ v, s.heap.IsCell c v
  free : H X.env.locals = none
  freeC : ∀ x c, X.env.cells.lookup x = some c → H c = none
  pin : ∀ p ∈ X.pn ++ pins, s.heap.get? p.1 = some p.2 ∧ H p.1 = none ∧ p.1 ≠ X.env.locals ∧ p.1 ∉ X.fs ∧ ∀ v, p.2.data ≠ .cell v
  hok : HOk X.prog X.w H s.heap
  len : σ.length = X.N.length

section
variable {X : Cx} {pins : List (Addr × Obj)} {σ : List (Option V)} {H H' : Hp} {s : Shared} {h' : Heap}

theorem Cx.Ok.nofr (ok : X.Ok) {b : Addr} {o : Obj} (e : X.base.get? b = some o) : b ∉ X.fs := fun hb => by
  have := (ok.funs.mem hb).1
  rw [e] at this; cases this
theorem Inv.bs (I : Inv X pins σ H s) : ∀ b o, X.base.get? b = some o → s.heap.get? b = some o ∧ H b = none := fun b o e =>
  ⟨I.base.keep b o (I.ok.bs b o e).1 (I.ok.bs b o e).2 (I.ok.nofr e) (I.ok.noex b o e), I.base.free b o (I.ok.bs b o e).1 (I.ok.bs b o e).2 (I.ok.noex b o e)⟩
theorem Inv.bk (I : Inv X pins σ H s) : ∀ b o, X.base.get? b = some o → s.heap.get? b = some o := fun b o e => (I.bs b o e).1
theorem Inv.mod (I : Inv X pins σ H s) : Mod X.K X.mg X.base := I.ok.mod
theorem Inv.kIn (I : Inv X pins σ H s) : X.K.In s.heap := I.ok.mod.kin.keeps I.bk
theorem Inv.nolimit (I : Inv X pins σ H s) : s.heap.NoLimit := I.ok.mod.nolimit.keeps I.bk
theorem Inv.lt (I : Inv X pins σ H s) : X.env.locals < s.heap.objs.size := let ⟨_, hn, _⟩ := I.loc; hn.lt
theorem Inv.sz (I : Inv X pins σ H s) : X.s_0.heap.objs.size ≤ s.heap.objs.size := Nat.le_trans I.ok.above (Nat.le_of_lt I.lt)
theorem Inv.nofs (I : Inv X pins σ H s) {a : Addr} (h : s.heap.objs.size ≤ a) : a ∉ X.fs := fun hb => by
  obtain ⟨_, o, ho, _⟩ := I.ok.funs.mem hb
  exact absurd (Nat.lt_of_lt_of_le (Heap.lt_size ho) (Nat.le_trans I.sz h)) (Nat.lt_irrefl _)
theorem Inv.cne (I : Inv X pins σ H s) : ∀ x c, X.env.cells.lookup x = some c → c ≠ X.env.locals := fun x c e z => by
  obtain ⟨v, o, ho, hd⟩ := I.cell x c e
  obtain ⟨m, ⟨o', es, ep, ho', hd', _⟩, _⟩ := I.loc
  rw [z, ho'] at ho; cases ho; rw [hd'] at hd; cases hd
theorem Inv.funs (I : Inv X pins σ H s) : s.heap.FunFrames X.base X.outer := by
  have all : ∀ (l : List Env), (∀ b ∈ frs l, b ∈ X.fs) → X.s_0.heap.FunFrames X.base l → s.heap.FunFrames X.base l := by
    intro l
    induction l with
    | nil => intro _ _; trivial
    | cons env r ih =>
      intro hs hl
      obtain ⟨hk, ⟨L, o, hf, hn, ho, hd⟩, hr⟩ := hl
      have hL : L ∈ X.fs := hs L (by unfold frs; rw [List.filterMap_cons, hf]; exact List.mem_cons_self)
      obtain ⟨sl, e⟩ := I.base.slot L o ho (I.ok.frf L hL) hL fun z => I.ok.exfs L z hL
      exact ⟨hk, ⟨L, _, hf, hn, e, hd⟩, ih (fun b hb => hs b (by unfold frs; rw [List.filterMap_cons, hf]; exact List.mem_cons_of_mem _ hb)) hr⟩
  exact all X.outer (fun _ hb => hb) I.ok.funs

/-- the frames that run, for a call -/
theorem Inv.stack (I : Inv X pins σ H s) : s.heap.FunFrames X.base X.stack := by
  rcases I.ok.stk with e | ⟨e, hf⟩
  · rw [e]; exact I.funs
  · rw [e]
    obtain ⟨m, hn, _⟩ := I.loc
    refine .cons (by rw [I.ok.kind]; decide) hf hn ?_ I.funs
    exact Heap.get?_none_of_le (Nat.le_trans I.ok.bsz I.ok.above)
theorem Inv.stkSub (I : Inv X pins σ H s) : ∀ b ∈ frs X.stack, b ∈ X.env.locals :: X.fs := fun b hb => by
  rcases I.ok.stk with e | ⟨e, hf⟩
  · rw [e] at hb; exact List.mem_cons_of_mem _ hb
  · rw [e] at hb
    unfold frs at hb
    rw [List.filterMap_cons, hf] at hb
    exact hb
theorem Inv.stkFree (I : Inv X pins σ H s) : ∀ b ∈ frs X.stack, H b = none := fun b hb => by
  rcases List.mem_cons.mp (I.stkSub b hb) with e | hb
  · rw [e]; exact I.free
  · obtain ⟨_, o, ho, _⟩ := I.ok.funs.mem hb
    exact I.base.free b o ho (I.ok.frf b hb) fun z => I.ok.exfs b z hb

/-- THE STEP: the untracked objects but the frame and the records at ch are kept (the callers' frames up to slots), the frame's map is kept, the new abstract heap is held -/
theorem Inv.step {g' : Array GenState} {t' : Nat} {d' : Drawn} {ch : List Addr} (I : Inv X pins σ H s)
    (hch : ∀ b ∈ ch, (b ∈ X.ex ∨ X.s_0.heap.objs.size ≤ b) ∧ b ≠ X.env.locals ∧ (∀ x c, X.env.cells.lookup x = some c → c ≠ b) ∧ ∀ p ∈ X.pn ++ pins, p.1 ≠ b)
    (keep : ∀ b o, b ≠ X.env.locals → b ∉ X.fs → b ∉ ch → s.heap.get? b = some o → H b = none → h'.get? b = some o)
    (slot : ∀ b o, b ≠ X.env.locals → b ∈ X.fs → b ∉ ch → s.heap.get? b = some o → H b = none → ∃ sl, h'.get? b = some { o with slots := sl }) (free : ∀ b o, b ∉ ch → s.heap.get? b = some o → H b = none → H' b = none)
    (there : ∀ b o, b ∉ ch → s.heap.get? b = some o → ∃ o', h'.get? b = some o')
    (tups : ∀ b xs, H b = some (.tup xs) → H' b = some (.tup xs)) (frzs : ∀ b o u, H b = some (.frz o u) → H' b = some (.frz o u)) (tbls : ∀ b ps, H b = some (.tbl ps) → ∃ more, H' b = some (.tbl (ps ++ more)))
    (ns : ∀ m, s.heap.Ns X.env.locals m → h'.Ns X.env.locals m) (hok : HOk X.prog X.w H' h') (hg : AllBare g') :
    Inv X pins σ H' { s with heap := h', gens := g', drawn := d', toks := t' } := by
  have neL : ∀ b o, X.s_0.heap.get? b = some o → b ≠ X.env.locals := fun b o e => Nat.ne_of_lt (Nat.lt_of_lt_of_le (Heap.lt_size e) I.ok.above)
  have neC : ∀ b o, X.s_0.heap.get? b = some o → b ∉ X.ex → b ∉ ch := fun b o e hx hb => by
    rcases (hch b hb).1 with z | z
    · exact hx z
    · exact absurd (Nat.lt_of_lt_of_le (Heap.lt_size e) z) (Nat.lt_irrefl _)
  have cellK : ∀ x c, X.env.cells.lookup x = some c → ∀ v, s.heap.IsCell c v → h'.IsCell c v := fun x c e v ⟨o, ho, hd⟩ => by
    have nch : c ∉ ch := fun z => (hch c z).2.2.1 x c e rfl
    by_cases hc : c ∈ X.fs
    · obtain ⟨sl, q⟩ := slot c o (I.cne x c e) hc nch ho (I.freeC x c e)
      exact ⟨_, q, hd⟩
    · exact ⟨o, keep c o (I.cne x c e) hc nch ho (I.freeC x c e), hd⟩
  refine ⟨I.ok, I.os, hg, ⟨fun b o e n hb hx => ?_, fun b o e n hb hx => ?_, fun b o e n hx => ?_, fun b o e hx => ?_, fun b xs e => tups b xs (I.base.tups b xs e), fun b o xs e => frzs b o xs (I.base.frzs b o xs e), fun b ps e => ?_⟩, ?_, fun x c e => ?_, ?_, fun x c e => ?_, fun p hp => ?_, hok, I.len⟩
  · exact keep b o (neL b o e) hb (neC b o e hx) (I.base.keep b o e n hb hx) (I.base.free b o e n hx)
  · obtain ⟨sl, e1⟩ := I.base.slot b o e n hb hx
    obtain ⟨sl', e2⟩ := slot b _ (neL b o e) hb (neC b o e hx) e1 (I.base.free b o e n hx)
    exact ⟨sl', e2⟩
  · obtain ⟨o', e1⟩ := I.base.there b o e hx
    exact free b o' (neC b o e hx) e1 (I.base.free b o e n hx)
  · obtain ⟨o', e1⟩ := I.base.there b o e hx
    exact there b o' (neC b o e hx) e1
  · obtain ⟨m1, e1⟩ := I.base.tbls b ps e
    obtain ⟨m2, e2⟩ := tbls b _ e1
    exact ⟨m1 ++ m2, by rw [e2, Array.append_assoc]⟩
  · obtain ⟨m, hn, hl⟩ := I.loc
    refine ⟨m, ns m hn, fun i x v e1 e2 e3 => ?_⟩
    obtain ⟨u, r, l⟩ := hl i x v e1 e2 e3
    refine ⟨u, r, ?_⟩
    rcases l with l | ⟨k, c, e, z⟩
    · exact .inl l
    · exact .inr ⟨k, c, e, cellK x c e _ z⟩
  · obtain ⟨v, z⟩ := I.cell x c e
    exact ⟨v, cellK x c e v z⟩
  · obtain ⟨m, ⟨o, _, _, ho, _⟩, _⟩ := I.loc
    exact free _ o (fun z => (hch _ z).2.1 rfl) ho I.free
  · obtain ⟨v, o, ho, hd⟩ := I.cell x c e
    exact free c o (fun z => (hch c z).2.2.1 x c e rfl) ho (I.freeC x c e)
  · obtain ⟨e, n, ne, nf, d⟩ := I.pin p hp
    have nch : p.1 ∉ ch := fun z => (hch p.1 z).2.2.2 p hp rfl
    exact ⟨keep p.1 p.2 ne nf nch e n, free p.1 p.2 nch e n, ne, nf, d⟩
/-- .. where the frame's own object is kept too -/
theorem Inv.un {t' : Nat} (I : Inv X pins σ H s) (u : Un X.fs [] H H' s.heap h') (hok : HOk X.prog X.w H' h') : Inv X pins σ H' { s with heap := h', toks := t' } := by
  obtain ⟨m, ⟨o, es, ep, ho, r⟩, _⟩ := id I.loc
  obtain ⟨sl, hL⟩ := u.any ho I.free (by simp)
  exact I.step (g' := s.gens) (d' := s.drawn) (ch := []) (fun _ z => nomatch z) (fun b o _ hb _ e n => u.keep b o e n hb (by simp)) (fun b o _ hb _ e n => u.slot b o e n hb (by simp)) (fun b o _ e n => u.free b o e n (by simp)) (fun b o _ e => u.there b o e (by simp)) u.tups u.frzs u.tbls (fun m' hm => by
    obtain ⟨o', es', ep', ho', r'⟩ := hm
    rw [ho] at ho'; cases ho'
    exact ⟨_, es', ep', hL, r'⟩) hok I.bare
/-- behind a call (or a comprehension's block): the slots of this frame may have changed too, the records at ch may have turned -/
theorem Inv.call {g' : Array GenState} {t' : Nat} {d' : Drawn} {ch : List Addr} (I : Inv X pins σ H s) (u : Un (frs X.stack) ch H H' s.heap h') (hok : HOk X.prog X.w H' h') (hg : AllBare g')
    (hch : ∀ b ∈ ch, (b ∈ X.ex ∨ X.s_0.heap.objs.size ≤ b) ∧ b ≠ X.env.locals ∧ (∀ x c, X.env.cells.lookup x = some c → c ≠ b) ∧ ∀ p ∈ X.pn ++ pins, p.1 ≠ b) :
    Inv X pins σ H' { s with heap := h', gens := g', drawn := d', toks := t' } := by
  obtain ⟨m, ⟨o, es, ep, ho, r⟩, _⟩ := id I.loc
  obtain ⟨sl, hL⟩ := u.any ho I.free fun z => (hch _ z).2.1 rfl
  exact I.step (ch := ch) hch (fun b o hL hb hc e n => u.keep b o e n (fun z => (List.mem_cons.mp (I.stkSub b z)).elim hL hb) hc) (fun b o _ _ hc e n => u.any e n hc) (fun b o hc e n => u.free b o e n hc) (fun b o hc e => u.there b o e hc) u.tups u.frzs u.tbls (fun m' hm => by
    obtain ⟨o', es', ep', ho', r'⟩ := hm
    rw [ho] at ho'; cases ho'
    exact ⟨_, es', ep', hL, r'⟩) hok hg
/-- an untracked record of ours (an iterator) has turned -/
theorem Inv.turned {t' : Nat} {it : Addr} (I : Inv X pins σ H s) (k : ∀ b o, b ≠ it → s.heap.get? b = some o → h'.get? b = some o) (hn : H it = none) (hL : it ≠ X.env.locals)
    (h1 : it ∈ X.ex ∨ X.s_0.heap.objs.size ≤ it) (h2 : ∀ x c, X.env.cells.lookup x = some c → c ≠ it) (h3 : ∀ p ∈ X.pn ++ pins, p.1 ≠ it) : Inv X pins σ H { s with heap := h', toks := t' } := by
  have nit : ∀ b u, H b = some u → b ≠ it := fun b u e z => by rw [z, hn] at e; cases e
  refine I.step (g' := s.gens) (d' := s.drawn) (ch := [it]) (fun b hb => ?_) (fun b o _ _ hc e _ => k b o (fun z => hc (by simp [z])) e) (fun b o _ _ hc e _ => ⟨o.slots, k b o (fun z => hc (by simp [z])) e⟩) (fun _ _ _ _ n => n)
    (fun b o hc e => ⟨o, k b o (fun z => hc (by simp [z])) e⟩) (fun _ _ e => e) (fun _ _ _ e => e) (fun b ps e => ⟨#[], by rw [e]; simp⟩) (fun m hm => ?_) (fun b u e => ?_) I.bare
  · have e : b = it := by simpa using hb
    subst e
    exact ⟨h1, hL, h2, h3⟩
  · obtain ⟨o, es, ep, ho, r⟩ := hm
    exact ⟨o, es, ep, k _ o (Ne.symm hL) ho, r⟩
  · refine (I.hok b u e).stay (fun c v hc q => k c v ?_ q) (fun _ q => q) fun _ _ q => q
    rcases hc with z | z
    · rw [z]; exact nit b u e
    · exact nit c _ z
theorem Inv.tok (I : Inv X pins σ H s) (t : Nat) : Inv X pins σ H { s with toks := t } := I.un (h' := s.heap) (t' := t) Un.refl I.hok
/-- all objects kept -/
theorem Inv.kept {t' : Nat} (I : Inv X pins σ H s) (k : ∀ b u, s.heap.get? b = some u → h'.get? b = some u) : Inv X pins σ H { s with heap := h', toks := t' } := I.un (Un.kept k) (I.hok.kept k)
/-- a new object laid and tracked -/
theorem Inv.laid {a : Addr} {o : HO} {t' : Nat} (I : Inv X pins σ H s) (k : ∀ b u, s.heap.get? b = some u → h'.get? b = some u) (hp : s.heap.objs.size ≤ a) (new : ObjOk X.prog X.w (upd H a o) h' a o) :
    Inv X pins σ (upd H a o) { s with heap := h', toks := t' } := I.un (Un.laid k hp (I.hok.fresh hp)) (I.hok.laid k hp new)
/-- an object written -/
theorem Inv.write {x e : Addr} {o : HO} {t' : Nat} (I : Inv X pins σ H s) (mu : Mut (H x)) (he : e = x ∨ H e = some (.own x)) (k : ∀ b u, b ≠ e → s.heap.get? b = some u → h'.get? b = some u) (heo : ∃ u, h'.get? e = some u)
    (new : ObjOk X.prog X.w (upd H x o) h' x o) : Inv X pins σ (upd H x o) { s with heap := h', toks := t' } := I.un (Un.write mu he k heo) (I.hok.write mu he k heo new)
/-- forgetting slots, pins -/
theorem Inv.weak {σ' : List (Option V)} (I : Inv X pins σ H s) (hl : σ'.length = σ.length) (w : ∀ (i : Nat) v, σ'[i]? = some (some v) → σ[i]? = some (some v)) : Inv X pins σ' H s :=
  ⟨I.ok, I.os, I.bare, I.base, let ⟨m, hn, hl'⟩ := I.loc; ⟨m, hn, fun i x v e1 e2 e3 => hl' i x v e1 (w i v e2) e3⟩, I.cell, I.free, I.freeC, I.pin, I.hok, hl.trans I.len⟩
theorem Inv.pins_of {pins' : List (Addr × Obj)} (I : Inv X pins σ H s) (h : ∀ p ∈ pins', s.heap.get? p.1 = some p.2 ∧ H p.1 = none ∧ p.1 ≠ X.env.locals ∧ p.1 ∉ X.fs ∧ ∀ v, p.2.data ≠ .cell v) : Inv X pins' σ H s :=
  ⟨I.ok, I.os, I.bare, I.base, I.loc, I.cell, I.free, I.freeC, fun p hp => (List.mem_append.mp hp).elim (fun z => I.pin p (List.mem_append_left _ z)) (h p), I.hok, I.len⟩

theorem nodup_ix {N : List Str} (hN : N.Nodup) {i j : Nat} {x : Str} (a : N[i]? = some x) (b : N[j]? = some x) : i = j := by
  obtain ⟨h1, e1⟩ := List.getElem?_eq_some_iff.mp a
  obtain ⟨h2, e2⟩ := List.getElem?_eq_some_iff.mp b
  exact (List.getElem_inj hN).mp (e1.trans e2.symm)

/-- a name is stored; what changed -/
theorem store_ok2 {M : Model} {A : Around} {E : Value → Shared → Prop} {i : Nat} {x : Str} {v : V} {u : Value} {Q : Unit → Shared → Prop} (I : Inv X pins σ H s) (hN : X.N.Nodup) (hi : X.N[i]? = some x) (hx : Loc X.env.scope x) (r : RelV v u)
    (h : ∀ s', Inv X pins (σ.set i (some v)) H s' → (∃ a, Heap.SameBut a s.heap s'.heap ∧ (a = X.env.locals ∨ X.env.cells.lookup x = some a)) → Q () s') (hf : X.fn x = true ∨ X.env.scope.names.lookup x = some .local := by first | exact .inl rfl | exact .inr rfl | assumption) : wpAny M A (storeName X.env x u) Q E s := by
  obtain ⟨m, hn, hl⟩ := id I.loc
  have hcls : (X.env.scope.kind == .class || (X.env.scope.kind == .module && X.env.locals != X.env.globals)) = false := by rw [I.ok.kind]; rfl
  have hiσ : i < σ.length := by rw [I.len]; exact (List.getElem?_eq_some_iff.mp hi).1
  have cne := I.cne
  have tracked : ∀ {a : Addr} {h' : Heap}, (∃ o, s.heap.get? a = some o ∧ H a = none) → Heap.SameBut a s.heap h' → HOk X.prog X.w H h' := fun {a h'} ha hs b ob e => by
    obtain ⟨_, _, hfree⟩ := ha
    refine (I.hok b ob e).stay (fun c w' hc q => (hs.2 c ?_).trans q) (fun _ q => q) fun _ _ q => q
    rintro rfl
    rcases hc with rfl | hc
    · rw [hfree] at e; cases e
    · rw [hfree] at hc; cases hc
  rcases hx with hk | hk
  · refine wpAny_storeName_local hk hn (fun h' hn' hs => ?_) hcls
    obtain ⟨oL, _, _, hoL, _⟩ := id hn
    refine h _ ⟨I.ok, I.os, I.bare, ⟨fun b o e n hb hx => ?_, fun b o e n hb hx => ?_, I.base.free, fun b o e hx => ?_, I.base.tups, I.base.frzs, I.base.tbls⟩, ⟨_, hn', fun j y v' e1 e2 e3 => ?_⟩, fun y c e => ?_, I.free, I.freeC, fun p hp => ?_, tracked ⟨oL, hoL, I.free⟩ hs, by simpa using I.len⟩ ⟨_, hs, .inl rfl⟩
    · exact (hs.2 b (Nat.ne_of_lt (Nat.lt_of_lt_of_le (Heap.lt_size e) I.ok.above))).trans (I.base.keep b o e n hb hx)
    · obtain ⟨sl, e1⟩ := I.base.slot b o e n hb hx
      exact ⟨sl, (hs.2 b (Nat.ne_of_lt (Nat.lt_of_lt_of_le (Heap.lt_size e) I.ok.above))).trans e1⟩
    · obtain ⟨o', e1⟩ := I.base.there b o e hx
      exact ⟨o', (hs.2 b (Nat.ne_of_lt (Nat.lt_of_lt_of_le (Heap.lt_size e) I.ok.above))).trans e1⟩
    · by_cases hj : j = i
      · subst hj
        rw [hi] at e1; cases e1
        rw [List.getElem?_set_self hiσ] at e2
        cases e2
        exact ⟨u, r, .inl ⟨hk, by simp⟩⟩
      · rw [List.getElem?_set_ne (Ne.symm hj)] at e2
        obtain ⟨u', r', q⟩ := hl j y v' e1 e2 e3
        refine ⟨u', r', ?_⟩
        rcases q with ⟨k, e⟩ | ⟨k, c, e, z⟩
        · refine .inl ⟨k, ?_⟩
          have : y ≠ x := fun e => hj (nodup_ix hN e1 (e ▸ hi))
          simp [this, e]
        · exact .inr ⟨k, c, e, z.sameBut hs (cne y c e)⟩
    · obtain ⟨w', z⟩ := I.cell y c e
      exact ⟨w', z.sameBut hs (cne y c e)⟩
    · obtain ⟨e, n, ne, nf, d⟩ := I.pin p hp
      exact ⟨(hs.2 p.1 ne).trans e, n, ne, nf, d⟩
  · have hfn : X.fn x = true := by
      rcases hf with z | z
      · exact z
      · rw [z] at hk; cases hk
    obtain ⟨c, hc⟩ := I.ok.has x (.inl hk)
    obtain ⟨w', z⟩ := I.cell x c hc
    refine wpAny_storeName_cell I.ok.kind hk hc z (fun h' hc' hs => ?_)
    obtain ⟨oc, hoc, hocd⟩ := id z
    refine h { s with heap := h' } ⟨I.ok, I.os, I.bare, ⟨fun b o e n hb hx => ?_, fun b o e n hb hx => ?_, I.base.free, fun b o e hx => ?_, I.base.tups, I.base.frzs, I.base.tbls⟩, ⟨m, hn.sameBut hs (Ne.symm (cne x c hc)), fun j y v' e1 e2 e3 => ?_⟩, fun y c' e => ?_, I.free, I.freeC, fun p hp => ?_, tracked ⟨oc, hoc, I.freeC x c hc⟩ hs, by simpa using I.len⟩ ⟨c, hs, .inr hc⟩
    · exact (hs.2 b (Nat.ne_of_lt (Nat.lt_of_lt_of_le (Heap.lt_size e) (I.ok.cab x c hfn hc)))).trans (I.base.keep b o e n hb hx)
    · obtain ⟨sl, e1⟩ := I.base.slot b o e n hb hx
      exact ⟨sl, (hs.2 b (Nat.ne_of_lt (Nat.lt_of_lt_of_le (Heap.lt_size e) (I.ok.cab x c hfn hc)))).trans e1⟩
    · obtain ⟨o', e1⟩ := I.base.there b o e hx
      exact ⟨o', (hs.2 b (Nat.ne_of_lt (Nat.lt_of_lt_of_le (Heap.lt_size e) (I.ok.cab x c hfn hc)))).trans e1⟩
    · by_cases hj : j = i
      · subst hj
        rw [hi] at e1; cases e1
        rw [List.getElem?_set_self hiσ] at e2
        cases e2
        exact ⟨u, r, .inr ⟨.inl hk, c, hc, hc'⟩⟩
      · rw [List.getElem?_set_ne (Ne.symm hj)] at e2
        obtain ⟨u', r', q⟩ := hl j y v' e1 e2 e3
        refine ⟨u', r', ?_⟩
        rcases q with q | ⟨k, c', e, z'⟩
        · exact .inl q
        · refine .inr ⟨k, c', e, z'.sameBut hs ?_⟩
          rintro rfl
          exact hj (nodup_ix hN e1 (I.ok.inj _ _ _ e hc ▸ hi))
    · by_cases hcc : c' = c
      · subst hcc; exact ⟨_, hc'⟩
      · obtain ⟨w2, z2⟩ := I.cell y c' e
        exact ⟨w2, z2.sameBut hs hcc⟩
    · obtain ⟨e, n, ne, nf, d⟩ := I.pin p hp
      refine ⟨(hs.2 p.1 ?_).trans e, n, ne, nf, d⟩
      intro q
      rw [q, hoc] at e
      have q' : oc = p.2 := Option.some.inj e
      exact d w' (by rw [← q']; exact hocd)
theorem store_ok {M : Model} {A : Around} {E : Value → Shared → Prop} {i : Nat} {x : Str} {v : V} {u : Value} {Q : Unit → Shared → Prop} (I : Inv X pins σ H s) (hN : X.N.Nodup) (hi : X.N[i]? = some x) (hx : Loc X.env.scope x) (r : RelV v u)
    (h : ∀ s', Inv X pins (σ.set i (some v)) H s' → Q () s') (hf : X.fn x = true ∨ X.env.scope.names.lookup x = some .local := by first | exact .inl rfl | exact .inr rfl | assumption) : wpAny M A (storeName X.env x u) Q E s :=
  store_ok2 I hN hi hx r (fun s' I' _ => h s' I') hf
/-- behind a call or a block, the state as it is -/
theorem Inv.call' {s' : Shared} {ch : List Addr} (I : Inv X pins σ H s) (ho : s'.os = s.os) (u : Un (frs X.stack) ch H H' s.heap s'.heap) (hok : HOk X.prog X.w H' s'.heap) (hg : AllBare s'.gens)
    (hch : ∀ b ∈ ch, (b ∈ X.ex ∨ X.s_0.heap.objs.size ≤ b) ∧ b ≠ X.env.locals ∧ (∀ x c, X.env.cells.lookup x = some c → c ≠ b) ∧ ∀ p ∈ X.pn ++ pins, p.1 ≠ b) : Inv X pins σ H' s' := by
  obtain ⟨h', g', d', t', o'⟩ := s'
  have e : o' = s.os := ho
  subst e
  exact I.call (g' := g') (t' := t') (d' := d') u hok hg hch
end

/-! ### the judgements -/
/-- an exception: its class, its own dict's address (where it has one), the abstract heap behind it -/
abbrev XK := Value → Option Addr → Hp → Prop
abbrev St := List (Option V)
abbrev VK := V → Hp → Prop
/-- an expression's reading; a test's; an argument list's -/
abbrev TE := St → Hp → VK → Prop
abbrev TT := St → Hp → (Bool → Hp → Prop) → Prop
abbrev TA := St → Hp → (List V → Hp → Prop) → Prop
/-- what is wanted behind a statement -/
structure Ends where
  nx : St → Hp → Prop
  rt : VK
  bk : St → Hp → Prop := fun _ _ => False
  ct : St → Hp → Prop := fun _ _ => False
abbrev TS := Ends → St → Hp → Prop

def EP (X : Cx) (pins : List (Addr × Obj)) (σ : St) (Q : VK) (u : Value) (s' : Shared) : Prop := ∃ v H', Inv X pins σ H' s' ∧ RelV v u ∧ Q v H'
def TP (X : Cx) (pins : List (Addr × Obj)) (σ : St) (Q : Bool → Hp → Prop) (b : Bool) (s' : Shared) : Prop := ∃ H', Inv X pins σ H' s' ∧ Q b H'
def AP (X : Cx) (pins : List (Addr × Obj)) (σ : St) (Q : List V → Hp → Prop) (us : List Value) (s' : Shared) : Prop := ∃ vs H', Inv X pins σ H' s' ∧ Vals vs us ∧ Q vs H'
def SP (X : Cx) (pins : List (Addr × Obj)) (D : Ends) (f : Flow) (s' : Shared) : Prop :=
  match f with
  | .next => ∃ σ' H', Inv X pins σ' H' s' ∧ D.nx σ' H'
  | .brk => ∃ σ' H', Inv X pins σ' H' s' ∧ D.bk σ' H'
  | .cont => ∃ σ' H', Inv X pins σ' H' s' ∧ D.ct σ' H'
  | .ret u => ∃ v σ' H', Inv X pins σ' H' s' ∧ RelV v u ∧ D.rt v H'

def PE (X : Cx) (e : Expr) (t : TE) : Prop :=
  ∀ (pins : List (Addr × Obj)) (s : Shared) (σ : St) (H : Hp) (Q : VK), Inv X pins σ H s → t σ H Q → wpAny (model X.prog X.w) X.A (eval e X.env) (EP X pins σ Q) X.xe s
def PT (X : Cx) (e : Expr) (t : TT) : Prop :=
  ∀ (pins : List (Addr × Obj)) (s : Shared) (σ : St) (H : Hp) (Q : Bool → Hp → Prop), Inv X pins σ H s → t σ H Q → wpAny (model X.prog X.w) X.A (isTrue e X.env (eval e X.env)) (TP X pins σ Q) X.xe s
/-- a test whatever its 'whole' is (and, or) -/
def PW (X : Cx) (e : Expr) (t : TT) : Prop :=
  ∀ (whole : Sem Value) (pins : List (Addr × Obj)) (s : Shared) (σ : St) (H : Hp) (Q : Bool → Hp → Prop), Inv X pins σ H s → t σ H Q → wpAny (model X.prog X.w) X.A (isTrue e X.env whole) (TP X pins σ Q) X.xe s
theorem PW.pt {X : Cx} {e : Expr} {t : TT} (h : PW X e t) : PT X e t := h _
/-- an argument list (no star), from the left -/
def PA (X : Cx) (es : List Expr) (t : TA) : Prop :=
  ∀ (pos : Pos) (pins : List (Addr × Obj)) (s : Shared) (σ : St) (H : Hp) (Q : List V → Hp → Prop), Inv X pins σ H s → t σ H Q → wpAny (model X.prog X.w) X.A (spliced (backTo pos (starEach es X.env))) (AP X pins σ Q) X.xe s
def PS (X : Cx) (st : Stmt) (t : TS) : Prop :=
  ∀ (pins : List (Addr × Obj)) (s : Shared) (σ : St) (H : Hp) (D : Ends), Inv X pins σ H s → t D σ H → wpAny (model X.prog X.w) X.A (exec st X.env) (SP X pins D) X.xe s
def PSs (X : Cx) (st : List Stmt) (t : TS) : Prop :=
  ∀ (pins : List (Addr × Obj)) (s : Shared) (σ : St) (H : Hp) (D : Ends), Inv X pins σ H s → t D σ H → wpAny (model X.prog X.w) X.A (execs st X.env) (SP X pins D) X.xe s
/-- weaken the end -/
theorem thn {α : Type} {t : Sem α} {Q Q' : α → Shared → Prop} {M : Model} {A : Around} {E : Value → Shared → Prop} {s : Shared} (h : wpAny M A t Q E s) (hQ : ∀ a s, Q a s → Q' a s) : wpAny M A t Q' E s := wpAny_mono h hQ fun _ _ x => x
end L2

namespace L2
open PySem PySem.Spec PyProof.Rows
section
variable {X : Cx}

/-! ### names and constants -/
def tVar (i : Nat) : TE := fun σ H Q => ∃ v, σ[i]? = some (some v) ∧ Q v H
def tC (v : V) : TE := fun _ H Q => Q v H
theorem pe_var {i : Nat} {x : Str} {pos : Pos} (hN : X.N[i]? = some x) (hv : Vis X.env.scope x) (hd : (x == ("__debug__" : Str)) = false := by decide) (hcd : (x == ("__classdict__" : Str)) = false := by decide) : PE X (.Name x pos) (tVar i) := by
  intro pins s σ H Q I h
  obtain ⟨v, e, h⟩ := h
  obtain ⟨m, hn, hl⟩ := I.loc
  obtain ⟨u, r, l⟩ := hl i x v hN e hv
  have fin : EP X pins σ Q u s := ⟨v, H, I, r, h⟩
  rcases l with ⟨hk, hm⟩ | ⟨hk, c, hc, hcell⟩
  · exact wpAny_Name (wpAny_loadName_local I.ok.kind hk hn hm fin) hd
  · rcases hk with hk | hk
    · exact wpAny_Name (wpAny_loadName_cell I.ok.kind hk hc hcell fin) hd
    · exact wpAny_Name (wpAny_loadName_free I.ok.kind hk hc hcell fin hcd) hd
theorem pe_int {i j pos} : PE X (.Constant (.int i) j pos) (tC (.int i)) := fun _ _ _ H _ I h => wpAny_Constant_int ⟨.int i, H, I.tok _, ⟨_, rfl⟩, h⟩
theorem pe_bl {b j pos} : PE X (.Constant (.bool b) j pos) (tC (.bl b)) := fun _ _ _ H _ I h => Constant_bool ⟨.bl b, H, I, rfl, h⟩
theorem pe_str {x j pos} : PE X (.Constant (.str x) j pos) (tC (.str x)) := fun _ _ _ H _ I h => Calls.Constant_str ⟨.str x, H, I.tok _, ⟨_, rfl⟩, h⟩

/-- a global name of the def -/
def Gl (X : Cx) (x : Str) : Prop := X.env.kindOf x = some .globalImplicit
theorem ld_glob {E : Value → Shared → Prop} {pins : List (Addr × Obj)} {s : Shared} {σ : St} {H : Hp} {x : Str} {u : Value} {pos : Pos} {Q : Value → Shared → Prop} (I : Inv X pins σ H s) (hg : Gl X x) (hm : X.mg x = some u) (h : Q u s)
    (hd : (x == ("__debug__" : Str)) = false := by decide) : wpAny (model X.prog X.w) X.A (eval (.Name x pos) X.env) Q E s :=
  Calls.Name_function_global I.ok.kind hg (Calls.loadGlobal_global (by rw [I.ok.glob]; exact I.mod.glob.keeps I.bk) hm h) hd
theorem ld_blt {E : Value → Shared → Prop} {pins : List (Addr × Obj)} {s : Shared} {σ : St} {H : Hp} {x : Str} {u : Value} {pos : Pos} {Q : Value → Shared → Prop} (I : Inv X pins σ H s) (hg : Gl X x) (hm : X.mg x = none) (hv : bootBuiltins x = some u) (h : Q u s)
    (hn : x ≠ "__name__" := by decide) (hd : (x == ("__debug__" : Str)) = false := by decide) : wpAny (model X.prog X.w) X.A (eval (.Name x pos) X.env) Q E s := by
  obtain ⟨mb, h1, h2⟩ := I.mod.blt
  exact Calls.Name_function_global I.ok.kind hg (Calls.loadGlobal_builtin (by rw [I.ok.glob]; exact I.mod.glob.keeps I.bk) hm (by rw [I.ok.blt]; exact h1.keeps I.bk) ((h2 x hn).trans hv) h) hd
/-- a module's constant, a class, a function, as a value -/
theorem pe_glob {x : Str} {v : V} {u : Value} {pos : Pos} (hg : Gl X x) (hm : X.mg x = some u) (r : RelV v u) (hd : (x == ("__debug__" : Str)) = false := by decide) : PE X (.Name x pos) (tC v) :=
  fun _ _ _ H _ I h => ld_glob I hg hm ⟨v, H, I, r, h⟩ hd
/-! ### arithmetic -/
variable {a b : Expr} {ta tb : TE} {pos : Pos}
/-! ### comparisons -/
def PC (X : Cx) (op : CmpOp) (a b : Expr) (t : TE) : Prop :=
  ∀ (pins : List (Addr × Obj)) (s : Shared) (σ : St) (H : Hp) (Q : VK), Inv X pins σ H s → t σ H Q →
    wpAny (model X.prog X.w) X.A (eval a X.env) (fun v s₁ => wpAny (model X.prog X.w) X.A (eval b X.env) (fun u s₂ => wpAny (model X.prog X.w) X.A (compareOp op v u) (EP X pins σ Q) X.xe s₂) X.xe s₁) X.xe s
/-! ### and, or, not -/
variable {tA tB' : TT} {rest : List Expr}
def tAnd (t u : TT) : TT := fun σ H Q => t σ H fun c H1 => if c = true then u σ H1 Q else Q false H1
def tOr (t u : TT) : TT := fun σ H Q => t σ H fun c H1 => if c = true then Q true H1 else u σ H1 Q
def tNot (t : TT) : TT := fun σ H Q => t σ H fun c H1 => Q (!c) H1
theorem pw_and1 (ha : PT X a tA) : PW X (.BoolOp .And [a] pos) tA := by
  intro wh pins s σ H Q I h
  refine isTrue_and (thn (ha pins s σ H Q I h) fun c s1 e => ?_)
  cases c with
  | true => exact isTrue_and_nil e
  | false => exact e
theorem pw_or1 (ha : PT X a tA) : PW X (.BoolOp .Or [a] pos) tA := by
  intro wh pins s σ H Q I h
  refine isTrue_or (thn (ha pins s σ H Q I h) fun c s1 e => ?_)
  cases c with
  | false => exact isTrue_or_nil e
  | true => exact e
theorem pw_and (ha : PT X a tA) (hb : PW X (.BoolOp .And (b :: rest) pos) tB') : PW X (.BoolOp .And (a :: b :: rest) pos) (tAnd tA tB') := by
  intro wh pins s σ H Q I h
  refine isTrue_and (thn (ha pins s σ H _ I h) fun c s1 ⟨H1, I1, q1⟩ => ?_)
  cases c with
  | true => exact hb wh pins s1 σ H1 Q I1 q1
  | false => exact ⟨H1, I1, q1⟩
theorem pw_or (ha : PT X a tA) (hb : PW X (.BoolOp .Or (b :: rest) pos) tB') : PW X (.BoolOp .Or (a :: b :: rest) pos) (tOr tA tB') := by
  intro wh pins s σ H Q I h
  refine isTrue_or (thn (ha pins s σ H _ I h) fun c s1 ⟨H1, I1, q1⟩ => ?_)
  cases c with
  | true => exact ⟨H1, I1, q1⟩
  | false => exact hb wh pins s1 σ H1 Q I1 q1
theorem pt_not (ha : PT X a tA) : PT X (.UnaryOp .Not a pos) (tNot tA) := by
  intro pins s σ H Q I h
  exact isTrue_not (ha pins s σ H (fun c H1 => Q (!c) H1) I h)
/-- .. as values (bools) -/
def tAndV (ta tb : TE) : TE := fun σ H Q => ta σ H fun x H1 => ∃ c, x = .bl c ∧ if c = true then tb σ H1 Q else Q (.bl false) H1
def tOrV (ta tb : TE) : TE := fun σ H Q => ta σ H fun x H1 => ∃ c, x = .bl c ∧ if c = true then Q (.bl true) H1 else tb σ H1 Q
theorem pe_one {op} {t : TE} (h : PE X a t) : PE X (.BoolOp op [a] pos) t := fun pins s σ H Q I hw => BoolOp_one (h pins s σ H Q I hw)
theorem pe_and (ha : PE X a ta) (hb : PE X (.BoolOp .And (b :: rest) pos) tb) : PE X (.BoolOp .And (a :: b :: rest) pos) (tAndV ta tb) := by
  intro pins s σ H Q I h
  refine BoolOp_and (thn (ha pins s σ H _ I h) fun v s1 ⟨x, H1, I1, r1, q1⟩ => ?_)
  obtain ⟨c, rfl, q1⟩ := q1
  cases r1
  refine wpAny_truthy_bool ?_
  cases c with
  | true => exact hb pins s1 σ H1 Q I1 q1
  | false => exact ⟨.bl false, H1, I1, rfl, q1⟩
theorem pe_or (ha : PE X a ta) (hb : PE X (.BoolOp .Or (b :: rest) pos) tb) : PE X (.BoolOp .Or (a :: b :: rest) pos) (tOrV ta tb) := by
  intro pins s σ H Q I h
  refine BoolOp_or (thn (ha pins s σ H _ I h) fun v s1 ⟨x, H1, I1, r1, q1⟩ => ?_)
  obtain ⟨c, rfl, q1⟩ := q1
  cases r1
  refine wpAny_truthy_bool ?_
  cases c with
  | false => exact hb pins s1 σ H1 Q I1 q1
  | true => exact ⟨.bl true, H1, I1, rfl, q1⟩
/-- a if t else b -/
def tIf (t : TT) (ta tb : TE) : TE := fun σ H Q => t σ H fun c H1 => if c = true then ta σ H1 Q else tb σ H1 Q
theorem pe_ifExp {c : Expr} (hc : PT X c tA) (ha : PE X a ta) (hb : PE X b tb) : PE X (.IfExp c a b pos) (tIf tA ta tb) := by
  intro pins s σ H Q I h
  refine wpAny_IfExp (thn (hc pins s σ H _ I h) fun d s1 ⟨H1, I1, q1⟩ => ?_)
  cases d with
  | true => exact ha pins s1 σ H1 Q I1 q1
  | false => exact hb pins s1 σ H1 Q I1 q1
end
end L2

namespace L2
open PySem PySem.Spec PyProof.Rows

/-! ### a list, a tuple that is read: tracked, frozen, or an object of the module -/
def SqL (K : PySem.W.Frag) (H : Hp) (a : Addr) (xs : List V) : Prop :=
  Rd H a (.lst xs) ∨
    ∃ (o : Obj) (its : Array Value) (n : Nat), K.lookup a = some o ∧ o.cls = .type "list" ∧ o.dict = none ∧ o.data = .seq its n ∧ its.size ≤ sizeLine ∧ Vals xs its.toList
def SqT (K : PySem.W.Frag) (H : Hp) (a : Addr) (xs : List V) : Prop :=
  Rd H a (.tup xs) ∨
    ∃ (o : Obj) (its : Array Value) (n : Nat), K.lookup a = some o ∧ o.cls = .type "tuple" ∧ o.data = .seq its n ∧ its.size ≤ sizeLine ∧ Vals xs its.toList
def absV : Value → Option V
  | .none => some .non
  | .bool b => some (.bl b)
  | .int i _ => some (.int i)
  | .str x _ => some (.str x)
  | .bytes b _ => some (.byt b)
  | .float b _ => some (.flt b)
  | .ref a => some (.ref a)
  | .type n => some (.ty n)
  | _ => none
theorem RelV.abs {x : V} {u : Value} (r : RelV x u) : absV u = some x := by
  cases x with
  | non => cases r; rfl
  | bl _ => cases r; rfl
  | int _ => obtain ⟨t, rfl⟩ := r; rfl
  | str _ => obtain ⟨t, rfl⟩ := r; rfl
  | byt _ => obtain ⟨t, rfl⟩ := r; rfl
  | flt _ => obtain ⟨t, rfl⟩ := r; rfl
  | ref _ => cases r; rfl
  | ty _ => cases r; rfl
theorem RelV.inj {x y : V} {u : Value} (r : RelV x u) (q : RelV y u) : x = y := Option.some.inj (r.abs.symm.trans q.abs)
theorem Vals.inj : ∀ {xs ys : List V} {us : List Value}, Vals xs us → Vals ys us → xs = ys
  | _, _, _, .nil, .nil => rfl
  | _, _, _, .cons r t, .cons r' t' => by rw [r.inj r', Vals.inj t t']
section
variable {X : Cx} {pins : List (Addr × Obj)} {σ : St} {H : Hp} {s : Shared} {a : Addr} {xs ys : List V}
theorem SqL.of {K : PySem.W.Frag} (h : H a = some (.lst xs)) : SqL K H a xs := .inl (.inl h)
theorem SqT.of {K : PySem.W.Frag} (h : H a = some (.tup xs)) : SqT K H a xs := .inl (.inl h)
theorem Inv.list (I : Inv X pins σ H s) (h : SqL X.K H a xs) : ∃ its : List Value, Vals xs its ∧ PlainL s.heap a its.toArray ∧ xs.length ≤ sizeLine := by
  rcases h with h | ⟨o, its, n, hk, hc, hd, hs, hz, r⟩
  · obtain ⟨z, its, n, r, e⟩ := h.ok I.hok
    exact ⟨its, r, ⟨_, n, e, rfl, rfl, rfl⟩, z⟩
  · refine ⟨its.toList, r, ⟨o, n, I.kIn a o hk, hc, hd, by simpa using hs⟩, ?_⟩
    have e := r.length
    simp only [Array.length_toList] at e
    omega
theorem Inv.tuple (I : Inv X pins σ H s) (h : SqT X.K H a xs) : ∃ its : List Value, Vals xs its ∧ IsTup s.heap a its.toArray ∧ xs.length ≤ sizeLine := by
  rcases h with h | ⟨o, its, n, hk, hc, hs, hz, r⟩
  · obtain ⟨z, its, r, p⟩ := h.ok I.hok
    exact ⟨its, r, p, z⟩
  · refine ⟨its.toList, r, ⟨o, I.kIn a o hk, hc, n, by simpa using hs⟩, ?_⟩
    have e := r.length
    simp only [Array.length_toList] at e
    omega
theorem Inv.list_inj (I : Inv X pins σ H s) (h : SqL X.K H a xs) (h' : SqL X.K H a ys) : xs = ys := by
  obtain ⟨its, r, ⟨o, n, e, _, _, d⟩, _⟩ := I.list h
  obtain ⟨its', r', ⟨o', n', e', _, _, d'⟩, _⟩ := I.list h'
  rw [e] at e'; cases e'
  rw [d] at d'
  injection d' with d1 _
  have : its = its' := by simpa using congrArg Array.toList d1
  subst this
  exact r.inj r'
theorem Inv.tuple_inj (I : Inv X pins σ H s) (h : SqT X.K H a xs) (h' : SqT X.K H a ys) : xs = ys := by
  obtain ⟨its, r, ⟨o, e, _, n, d⟩, _⟩ := I.tuple h
  obtain ⟨its', r', ⟨o', e', _, n', d'⟩, _⟩ := I.tuple h'
  rw [e] at e'; cases e'
  rw [d] at d'
  injection d' with d1 _
  have : its = its' := by simpa using congrArg Array.toList d1
  subst this
  exact r.inj r'
end

/-! ### another wish about exceptions -/
abbrev Cx.wish (X : Cx) (E : Value → Shared → Prop) : Cx := { X with xe := E }
/-- no exception leaves -/
abbrev Cx.nox (X : Cx) : Cx := X.wish fun _ _ => False
theorem Cx.Ok.wish {X : Cx} (ok : X.Ok) (E : Value → Shared → Prop) : (X.wish E).Ok :=
  ⟨ok.mod, ok.kind, ok.glob, ok.blt, ok.above, ok.inj, ok.has, ok.cab, ok.hd, ok.frames, ok.stk, ok.exf, ok.bs, ok.bsz, ok.noex, ok.exfs, ok.funs, ok.frf⟩
theorem Cx.Ok.unwish {X : Cx} {E : Value → Shared → Prop} (ok : (X.wish E).Ok) : X.Ok :=
  ⟨ok.mod, ok.kind, ok.glob, ok.blt, ok.above, ok.inj, ok.has, ok.cab, ok.hd, ok.frames, ok.stk, ok.exf, ok.bs, ok.bsz, ok.noex, ok.exfs, ok.funs, ok.frf⟩
section
variable {X : Cx} {pins : List (Addr × Obj)} {σ : St} {H : Hp} {s : Shared} {E : Value → Shared → Prop}
theorem Inv.wish (I : Inv X pins σ H s) (E : Value → Shared → Prop) : Inv (X.wish E) pins σ H s := ⟨I.ok.wish E, I.os, I.bare, I.base, I.loc, I.cell, I.free, I.freeC, I.pin, I.hok, I.len⟩
theorem Inv.unwish (I : Inv (X.wish E) pins σ H s) : Inv X pins σ H s := ⟨I.ok.unwish, I.os, I.bare, I.base, I.loc, I.cell, I.free, I.freeC, I.pin, I.hok, I.len⟩
theorem SP.unwish {D : Ends} {f : Flow} {s' : Shared} (h : SP (X.wish E) pins D f s') : SP X pins D f s' := by
  cases f with
  | next => obtain ⟨σ', H', I, q⟩ := h; exact ⟨σ', H', I.unwish, q⟩
  | brk => obtain ⟨σ', H', I, q⟩ := h; exact ⟨σ', H', I.unwish, q⟩
  | cont => obtain ⟨σ', H', I, q⟩ := h; exact ⟨σ', H', I.unwish, q⟩
  | ret u => obtain ⟨v, σ', H', I, r, q⟩ := h; exact ⟨v, σ', H', I.unwish, r, q⟩
theorem PE.nox {e : Expr} {t : TE} (h : PE X.nox e t) : PE X e t := fun pins s σ H Q I hw =>
  wpAny_mono (h pins s σ H Q (I.wish _) hw) (fun _ _ ⟨v, H', I', r, q⟩ => ⟨v, H', I'.unwish, r, q⟩) fun _ _ z => False.elim z
theorem PT.nox {e : Expr} {t : TT} (h : PT X.nox e t) : PT X e t := fun pins s σ H Q I hw =>
  wpAny_mono (h pins s σ H Q (I.wish _) hw) (fun _ _ ⟨H', I', q⟩ => ⟨H', I'.unwish, q⟩) fun _ _ z => False.elim z
theorem PSs.nox {st : List Stmt} {t : TS} (h : PSs X.nox st t) : PSs X st t := fun pins s σ H D I hw =>
  wpAny_mono (h pins s σ H D (I.wish _) hw) (fun _ _ q => q.unwish) fun _ _ z => False.elim z
end

/-! ### blocks and small statements -/
section
variable {X : Cx} {st : Stmt} {rest : List Stmt} {t u : TS} {e : Expr} {te : TE} {pos : Pos}
def tNext : TS := fun D σ H => D.nx σ H
def tSeq (t u : TS) : TS := fun D σ H => t { D with nx := u D } σ H
theorem pss_nil : PSs X [] tNext := fun _ _ σ H _ I h => wpAny_execs_nil ⟨σ, H, I, h⟩
theorem pss_cons (h1 : PS X st t) (h2 : PSs X rest u) : PSs X (st :: rest) (tSeq t u) := by
  intro pins s σ H D I h
  refine wpAny_execs_cons (thn (h1 pins s σ H { D with nx := u D } I h) fun f s1 q => ?_)
  cases f with
  | next =>
    obtain ⟨σ', H', I', q⟩ := q
    exact h2 pins s1 σ' H' D I' q
  | ret v => exact q
  | brk => exact q
  | cont => exact q
theorem pss_one (h1 : PS X st t) : PSs X [st] t := by
  intro pins s σ H D I h
  refine wpAny_execs_cons (thn (h1 pins s σ H D I h) fun f s1 q => ?_)
  cases f with
  | next => exact wpAny_execs_nil q
  | ret v => exact q
  | brk => exact q
  | cont => exact q
/-- in a def's body nothing is shown -/
theorem Inv.quiet {pins : List (Addr × Obj)} {σ : St} {H : Hp} {s : Shared} (I : Inv X pins σ H s) : interactive X.env = false := by simp [interactive, I.ok.kind]
/-- an expression whose value is dropped -/
def tDrop (te : TE) : TS := fun D σ H => te σ H fun _ H1 => D.nx σ H1
theorem ps_expr (he : PE X e te) (hs : swapsWith e none pos.line X.env = pure false := by rfl) : PS X (.Expr e pos) (tDrop te) := by
  intro pins s σ H D I h
  exact wpAny_Expr_any (thn (he pins s σ H _ I h) fun v s1 ⟨x, H1, I1, r1, q1⟩ => ⟨σ, H1, I1, q1⟩) I.quiet hs
def tRet (te : TE) : TS := fun D σ H => te σ H D.rt
theorem ps_ret (he : PE X e te) : PS X (.Return (some e) pos) (tRet te) := by
  intro pins s σ H D I h
  exact wpAny_Return_some (thn (he pins s σ H _ I h) fun v s1 ⟨x, H1, I1, r1, q1⟩ => ⟨x, σ, H1, I1, r1, q1⟩)
def tIfS (c : TT) (t u : TS) : TS := fun D σ H => c σ H fun b H1 => if b = true then t D σ H1 else u D σ H1
theorem ps_if {c : Expr} {a b : List Stmt} {tc : TT} (hc : PT X c tc) (ha : PSs X a t) (hb : PSs X b u) : PS X (.If c a b pos) (tIfS tc t u) := by
  intro pins s σ H D I h
  refine wpAny_If (thn (hc pins s σ H _ I h) fun d s1 ⟨H1, I1, q1⟩ => ?_)
  cases d with
  | true => exact ha pins s1 σ H1 D I1 q1
  | false => exact hb pins s1 σ H1 D I1 q1
end

/-! ### targets -/
abbrev TG := V → St → Hp → (St → Hp → Prop) → Prop
abbrev TGs := List V → St → Hp → (St → Hp → Prop) → Prop
def PG (X : Cx) (target : Expr) (t : TG) : Prop :=
  ∀ (pins : List (Addr × Obj)) (s : Shared) (σ : St) (H : Hp) (v : V) (u : Value) (Q : St → Hp → Prop), Inv X pins σ H s → RelV v u → t v σ H Q →
    wpAny (model X.prog X.w) X.A (assign target X.env u) (fun _ s' => ∃ σ' H', Inv X pins σ' H' s' ∧ Q σ' H') X.xe s
/-- several targets, one after another -/
def PGs (X : Cx) (ts : List Expr) (t : TGs) : Prop :=
  ∀ (pins : List (Addr × Obj)) (s : Shared) (σ : St) (H : Hp) (vs : List V) (us : List Value) (Q : St → Hp → Prop), Inv X pins σ H s → Vals vs us → t vs σ H Q →
    wpAny (model X.prog X.w) X.A (assignInOrder ((assignEach ts X.env).map (·.2)) us) (fun _ s' => ∃ σ' H', Inv X pins σ' H' s' ∧ Q σ' H') X.xe s
section
variable {X : Cx} {pos : Pos}
def gName (i : Nat) : TG := fun v σ H Q => Q (σ.set i (some v)) H
theorem pg_name {i : Nat} {x : Str} (hN : X.N.Nodup) (hi : X.N[i]? = some x) (hx : Loc X.env.scope x) (hf : X.fn x = true ∨ X.env.scope.names.lookup x = some .local := by first | exact .inl rfl | exact .inr rfl | assumption) : PG X (.Name x pos) (gName i) := by
  intro pins s σ H v u Q I r h
  exact wpAny_assign_Name (store_ok I hN hi hx r (fun s' I' => ⟨_, H, I', h⟩) hf)
def gNil : TGs := fun vs σ H Q => vs = [] ∧ Q σ H
def gCons (t : TG) (u : TGs) : TGs := fun vs σ H Q => ∃ v r, vs = v :: r ∧ t v σ H fun σ' H' => u r σ' H' Q
theorem pgs_nil : PGs X [] gNil := by
  intro pins s σ H vs us Q I r h
  obtain ⟨e, h⟩ := h
  subst e
  cases r
  exact assignInOrder_nil ⟨σ, H, I, h⟩
theorem pgs_cons {e : Expr} {es : List Expr} {t : TG} {u : TGs} (h1 : PG X e t) (h2 : PGs X es u)
    (hs : (assignEach (e :: es) X.env).map (·.2) = assign e X.env :: (assignEach es X.env).map (·.2) := by rfl) : PGs X (e :: es) (gCons t u) := by
  intro pins s σ H vs us Q I r h
  obtain ⟨v, vr, e1, h⟩ := h
  subst e1
  cases r with
  | cons r rr =>
    rw [hs]
    refine assignInOrder_cons (thn (h1 pins s σ H _ _ _ I r h) fun _ s1 ⟨σ1, H1, I1, q1⟩ => ?_)
    exact h2 pins s1 σ1 H1 _ _ Q I1 rr q1
/-- (a, b, ..) = a tuple of that length -/
def gTup (K : PySem.W.Frag) (n : Nat) (t : TGs) : TG := fun v σ H Q => ∃ a xs, v = .ref a ∧ SqT K H a xs ∧ xs.length = n ∧ t xs σ H Q
theorem pg_tup {es : List Expr} {k : Nat} {t : TGs} {n : Nat} (hc : X.calm = true) (h : PGs X es t)
    (hn : (assignEach es X.env).length = n := by rfl) (hst : (assignEach es X.env).findIdx? (·.1) = none := by rfl) : PG X (.Tuple es k pos) (gTup X.K n t) := by
  intro pins s σ H v u Q I r hw
  obtain ⟨a, xs, e1, hq, hl, hw⟩ := hw
  subst e1
  cases r
  obtain ⟨its, rv, ht, hz⟩ := I.tuple hq
  refine assign_Tuple_tuple (I.ok.hd hc) ht (by simp [hn, ← hl, rv.length]) hst fun h' hx => ?_
  have I1 : Inv X pins σ H { s with heap := h' } := I.kept (t' := s.toks) fun b o e => hx b o (Nat.ne_of_lt (Heap.lt_size e)) e
  exact h pins _ σ H xs _ Q I1 (by simpa using rv) hw
/-- target = value -/
def tAsg (te : TE) (g : TG) : TS := fun D σ H => te σ H fun x H1 => g x σ H1 D.nx
/-- name = value -/
theorem ps_set {i : Nat} {x : Str} {e : Expr} {te : TE} {pos' : Pos} (hN : X.N.Nodup) (hi : X.N[i]? = some x) (hx : Loc X.env.scope x) (he : PE X e te) (hs : swapsWith e (some (.Name x pos')) pos.line X.env = pure false := by rfl) (hf : X.fn x = true ∨ X.env.scope.names.lookup x = some .local := by first | exact .inl rfl | exact .inr rfl | assumption) :
    PS X (.Assign [.Name x pos'] e pos) (tAsg te (gName i)) := by
  intro pins s σ H D I h
  refine wpAny_Assign_Name (thn (he pins s σ H _ I h) fun v s1 ⟨y, H1, I1, r1, q1⟩ => ?_) hs
  exact store_ok I1 hN hi hx r1 (fun s2 I2 => ⟨_, H1, I2, q1⟩) hf
end

/-! ### while -/
section
variable {X : Cx} {pos : Pos}
/-- the invariant W with its measure -/
def tWhile (c : TT) (tb : TS) : TS := fun D σ H => ∃ W : Nat → St → Hp → Prop, (∃ m, W m σ H) ∧ ∀ m σ H, W m σ H →
  c σ H fun b H1 => if b = true then ∃ N : St → Hp → Prop, (∀ σ' H', N σ' H' → ∃ m', m' < m ∧ W m' σ' H') ∧ tb { D with nx := N, ct := N, bk := D.nx } σ H1 else D.nx σ H1
theorem ps_while {c : Expr} {body : List Stmt} {tc : TT} {tb : TS} (hp : PassesOwn (model X.prog X.w) X.A X.env X.xe) (hc : PT X c tc) (hb : PSs X body tb) : PS X (.While c body [] pos) (tWhile tc tb) := by
  intro pins s σ H D I h
  obtain ⟨W, ⟨m0, w0⟩, turn⟩ := h
  refine wpAny_While (codeAny_whileLoop (fun n s' => ∃ σ' H', Inv X pins σ' H' s' ∧ W n σ' H') ?_ m0 ⟨σ, H, I, w0⟩)
  rintro n s1 ⟨σ1, H1, I1, w1⟩
  refine wpAny_passesOwn hp (thn (hc pins s1 σ1 H1 _ I1 (turn n σ1 H1 w1)) fun b s2 ⟨H2, I2, q2⟩ => ?_)
  cases b with
  | true =>
    obtain ⟨N, hN, q2⟩ := q2
    rw [if_pos rfl]
    refine wpAny_passesOwn hp (thn (hb pins s2 σ1 H2 _ I2 q2) fun f s3 q3 => ?_)
    cases f with
    | next =>
      obtain ⟨σ3, H3, I3, n3⟩ := q3
      obtain ⟨m', hm, w3⟩ := hN σ3 H3 n3
      exact ⟨m', hm, σ3, H3, I3, w3⟩
    | cont =>
      obtain ⟨σ3, H3, I3, n3⟩ := q3
      obtain ⟨m', hm, w3⟩ := hN σ3 H3 n3
      exact ⟨m', hm, σ3, H3, I3, w3⟩
    | brk => exact q3
    | ret v => exact q3
  | false =>
    rw [if_neg Bool.false_ne_true]
    exact wpAny_execs_nil ⟨σ1, H2, I2, q2⟩
end

/-! ### what a loop or a comprehension walks -/
/-- at turn i: it yields x (the heap may grow), or it stops -/
structure It where
  go : Nat → Hp → Prop
  yld : Nat → Hp → V → Hp → Prop
  stop : Nat → Hp → Prop
/-- the iterator's own objects may turn: they are not the frame's, not pinned, younger than the entry (or a comprehension's own) -/
def FpOk (X : Cx) (pins : List (Addr × Obj)) (H : Hp) (b : Addr) : Prop :=
  H b = none ∧ b ≠ X.env.locals ∧ b ∉ X.fs ∧ (b ∈ X.ex ∨ X.s_0.heap.objs.size ≤ b) ∧ (∀ x c, X.env.cells.lookup x = some c → c ≠ b) ∧ ∀ p ∈ X.pn ++ pins, p.1 ≠ b
theorem Inv.fpOk {X : Cx} {pins : List (Addr × Obj)} {σ : St} {H H' : Hp} {s : Shared} {b : Addr} (I : Inv X pins σ H s) (hb : s.heap.objs.size ≤ b) (hn : H' b = none) : FpOk X pins H' b := by
  refine ⟨hn, Nat.ne_of_gt (Nat.lt_of_lt_of_le I.lt hb), I.nofs hb, .inr (Nat.le_trans I.sz hb), fun x c e z => ?_, fun p hp z => ?_⟩
  · obtain ⟨v, q⟩ := I.cell x c e
    exact absurd (Nat.lt_of_lt_of_le q.lt (by rw [z]; exact hb)) (Nat.lt_irrefl _)
  · exact absurd (Nat.lt_of_lt_of_le (Heap.lt_size (I.pin p hp).1) (by rw [z]; exact hb)) (Nat.lt_irrefl _)
structure Turn (P : Program) (w : World) (K : PySem.W.Frag) (tg : Expr) (J : It) (fp : List Addr) (it : Addr) (tn : Nat → Heap → Prop) : Prop where
  mem : it ∈ fp
  obj : ∀ i h, tn i h → ∀ b ∈ fp, ∃ o, h.get? b = some o ∧ ∀ v, o.data ≠ .cell v
  keep : ∀ i h h', tn i h → (∀ b ∈ fp, ∀ o, h.get? b = some o → h'.get? b = some o) → tn i h'
  item : ∀ (X : Cx), X.prog = P → X.w = w → X.K = K → X.calm = true → ∀ (i : Nat) (pins : List (Addr × Obj)) (s : Shared) (σ : St) (H : Hp) (E : Value → Shared → Prop), Inv X pins σ H s → (∀ b ∈ fp, FpOk X pins H b) → tn i s.heap → J.go i H →
    wpAny (model P w) X.A (pyNext (.ref it)) (fun r s1 => ∃ u, r = some u ∧
      wpAny (model P w) X.A (letOwnedTupleGo tg (.ref it) u) (fun _ s2 => ∃ x H', Inv X pins σ H' s2 ∧ RelV x u ∧ J.yld i H x H' ∧ tn (i + 1) s2.heap ∧ ∀ b ∈ fp, H' b = none) E s1) E s
  done : ∀ (X : Cx), X.prog = P → X.w = w → X.K = K → X.calm = true → ∀ (i : Nat) (pins : List (Addr × Obj)) (s : Shared) (σ : St) (H : Hp) (E : Value → Shared → Prop), Inv X pins σ H s → (∀ b ∈ fp, FpOk X pins H b) → tn i s.heap → J.stop i H →
    wpAny (model P w) X.A (pyNext (.ref it)) (fun r s1 => r = none ∧ Inv X pins σ H s1) E s
  self : ∀ (A : Around) (i : Nat) (s : Shared) (Q : Value → Shared → Prop) (E : Value → Shared → Prop), tn i s.heap → Q (.ref it) s → wpAny (model P w) A (pyIter (.ref it)) Q E s
abbrev TI := St → Hp → (It → Hp → Prop) → Prop
/-- an iterator has come -/
def PIE (X : Cx) (pins : List (Addr × Obj)) (σ : St) (tg : Expr) (R : It → Hp → Prop) (itv : Value) (s2 : Shared) : Prop :=
  ∃ (it : Addr) (fp : List Addr) (tn : Nat → Heap → Prop) (J : It) (H' : Hp), itv = .ref it ∧ Inv X pins σ H' s2 ∧ Turn X.prog X.w X.K tg J fp it tn ∧ tn 0 s2.heap ∧ (∀ b ∈ fp, FpOk X pins H' b) ∧ R J H'
def PI (X : Cx) (tg iter : Expr) (wi : TI) : Prop :=
  ∀ (pins : List (Addr × Obj)) (s : Shared) (σ : St) (H : Hp) (R : It → Hp → Prop), Inv X pins σ H s → wi σ H R →
    wpAny (model X.prog X.w) X.A (eval iter X.env) (fun v s1 => wpAny (model X.prog X.w) X.A (pyIter v) (PIE X pins σ tg R) X.xe s1) X.xe s

/-- the step ahead of the store is nothing for an iterator that keeps no tuple -/
theorem go_of {M : Model} {A : Around} {E : Value → Shared → Prop} {s : Shared} {tg : Expr} {it : Addr} {u : Value} {o : Obj} {n : String} {vs : Array Value} {Q : Unit → Shared → Prop} (ho : s.heap.get? it = some o) (hc : o.cls = .type n) (hd : o.data = .fields vs)
    (hn : ["enumerate", "zip", "dict_itemiterator", "dict_reverseitemiterator", "odict_iterator", "itertools.zip_longest", "itertools.pairwise"].contains n = false) (hQ : Q () s) : wpAny M A (letOwnedTupleGo tg (.ref it) u) Q E s := by
  unfold letOwnedTupleGo
  cases tg <;> first
    | exact wpAny_pure hQ
    | (cases u <;> first
        | exact wpAny_pure hQ
        | (refine wpAny_bind (wpAny_load ho ?_)
           rw [hc, hd]
           show wpAny M A (if (["enumerate", "zip", "dict_itemiterator", "dict_reverseitemiterator", "odict_iterator", "itertools.zip_longest", "itertools.pairwise"].contains n && vs[0]? == some (rawInt _)) = true then _ else _) Q E s
           rw [if_neg (by intro h; rw [hn, Bool.false_and] at h; cases h)]
           exact wpAny_pure hQ))

/-- the list at a, as it stands at each turn (a loop may append to it) -/
def Itl (K : PySem.W.Frag) (a : Addr) : It :=
  ⟨fun i H => ∃ xs x, SqL K H a xs ∧ xs[i]? = some x, fun i H x H' => H' = H ∧ ∀ xs, SqL K H a xs → xs[i]? = some x, fun i H => ∃ xs, SqL K H a xs ∧ xs.length ≤ i⟩
def Itt (K : PySem.W.Frag) (a : Addr) : It :=
  ⟨fun i H => ∃ xs x, SqT K H a xs ∧ xs[i]? = some x, fun i H x H' => H' = H ∧ ∀ xs, SqT K H a xs → xs[i]? = some x, fun i H => ∃ xs, SqT K H a xs ∧ xs.length ≤ i⟩
theorem turn_list {P : Program} {w : World} {K : PySem.W.Frag} {tg : Expr} (a it : Addr) : Turn P w K tg (Itl K a) [it] it (fun i h => h.IsListIter it a i) where
  mem := by simp
  obj := fun i h st b hb => by
    have e : b = it := by simpa using hb
    subst e
    obtain ⟨o, e, c, d⟩ := st
    exact ⟨o, e, fun v z => by rw [d] at z; cases z⟩
  keep := fun i h h' st k => st.at fun o e => k it (by simp) o e
  item := by
    intro X hP hw hK hc i pins s σ H E I hf st hg
    subst hP hw hK
    obtain ⟨xs, x, hq, hx⟩ := hg
    obtain ⟨its, rv, p, hz⟩ := I.list hq
    obtain ⟨u, hu, ru⟩ := rv.get hx
    obtain ⟨f0, f1, f2, f3, f4, f5⟩ := hf it (by simp)
    refine wpAny_pyNext_list_item st p.isList (x := u) (by simpa using hu) fun h' st' sb => ?_
    have I1 : Inv X pins σ H { s with heap := h' } := I.turned (t' := s.toks) (fun b o hb e => (sb.2 b hb).trans e) f0 f1 f3 f4 f5
    obtain ⟨o, e, c, d⟩ := id st'
    exact ⟨u, rfl, go_of (s := { s with heap := h' }) e c d (by decide) ⟨x, H, I1, ru, ⟨rfl, fun ys hy => by rw [I.list_inj hy hq]; exact hx⟩, st', fun b hb => (hf b hb).1⟩⟩
  done := by
    intro X hP hw hK hc i pins s σ H E I hf st hg
    subst hP hw hK
    obtain ⟨xs, hq, hx⟩ := hg
    obtain ⟨its, rv, p, hz⟩ := I.list hq
    obtain ⟨f0, f1, f2, f3, f4, f5⟩ := hf it (by simp)
    have hl := rv.length
    exact wpAny_pyNext_list_end (I.ok.hd hc) st p.isList (by simp; omega) fun h' eb => ⟨rfl, I.turned (t' := s.toks) (fun b o hb e => eb b o hb e) f0 f1 f3 f4 f5⟩
  self := fun _ _ _ _ _ st h => wpAny_pyIter_listiter st h
theorem turn_tuple {P : Program} {w : World} {K : PySem.W.Frag} {tg : Expr} (a it : Addr) : Turn P w K tg (Itt K a) [it] it (fun i h => h.IsTupleIter it a i) where
  mem := by simp
  obj := fun i h st b hb => by
    have e : b = it := by simpa using hb
    subst e
    obtain ⟨o, e, c, d⟩ := st
    exact ⟨o, e, fun v z => by rw [d] at z; cases z⟩
  keep := fun i h h' st k => st.at fun o e => k it (by simp) o e
  item := by
    intro X hP hw hK hc i pins s σ H E I hf st hg
    subst hP hw hK
    obtain ⟨xs, x, hq, hx⟩ := hg
    obtain ⟨its, rv, p, hz⟩ := I.tuple hq
    obtain ⟨u, hu, ru⟩ := rv.get hx
    obtain ⟨f0, f1, f2, f3, f4, f5⟩ := hf it (by simp)
    refine wpAny_pyNext_tuple_item st (show s.heap.IsTuple a its.toArray from p) (x := u) (by simpa using hu) fun h' st' sb => ?_
    have I1 : Inv X pins σ H { s with heap := h' } := I.turned (t' := s.toks) (fun b o hb e => (sb.2 b hb).trans e) f0 f1 f3 f4 f5
    obtain ⟨o, e, c, d⟩ := id st'
    exact ⟨u, rfl, go_of (s := { s with heap := h' }) e c d (by decide) ⟨x, H, I1, ru, ⟨rfl, fun ys hy => by rw [I.tuple_inj hy hq]; exact hx⟩, st', fun b hb => (hf b hb).1⟩⟩
  done := by
    intro X hP hw hK hc i pins s σ H E I hf st hg
    subst hP hw hK
    obtain ⟨xs, hq, hx⟩ := hg
    obtain ⟨its, rv, p, hz⟩ := I.tuple hq
    obtain ⟨f0, f1, f2, f3, f4, f5⟩ := hf it (by simp)
    have hl := rv.length
    exact wpAny_pyNext_tuple_end (I.ok.hd hc) st (show s.heap.IsTuple a its.toArray from p) (by simp; omega) fun h' eb => ⟨rfl, I.turned (t' := s.toks) (fun b o hb e => eb b o hb e) f0 f1 f3 f4 f5⟩
  self := fun _ _ _ _ _ st h => wpAny_pyIter_tupleiter st h
end L2

namespace L2
open PySem PySem.Spec PyProof.Rows
section
variable {X : Cx} {tg : Expr}
def iList (K : PySem.W.Frag) (tl : TE) : TI := fun σ H R => tl σ H fun x H1 => ∃ a, x = .ref a ∧ (∃ xs, SqL K H1 a xs) ∧ R (Itl K a) H1
def iTup (K : PySem.W.Frag) (tl : TE) : TI := fun σ H R => tl σ H fun x H1 => ∃ a, x = .ref a ∧ (∃ xs, SqT K H1 a xs) ∧ R (Itt K a) H1
theorem pi_list {l : Expr} {tl : TE} (hl : PE X l tl) : PI X tg l (iList X.K tl) := by
  intro pins s σ H R I h
  refine thn (hl pins s σ H _ I h) fun v s1 ⟨x, H1, I1, r1, q1⟩ => ?_
  obtain ⟨a, e, ⟨xs, hq⟩, q⟩ := q1
  subst e
  cases r1
  obtain ⟨its, rv, p, hz⟩ := I1.list hq
  refine wpAny_pyIter_list p.isList ?_
  refine ⟨s1.heap.objs.size, [s1.heap.objs.size], _, _, H1, rfl, I1.kept (t' := s1.toks) fun b o e => Heap.get?_push_of_some _ e, turn_list a _, ⟨_, Heap.get?_push_size _ rfl, rfl, rfl⟩, fun b hb => ?_, q⟩
  have e : b = s1.heap.objs.size := by simpa using hb
  subst e
  exact I1.fpOk (Nat.le_refl _) (I1.hok.fresh (Nat.le_refl _))
theorem pi_tup {l : Expr} {tl : TE} (hl : PE X l tl) : PI X tg l (iTup X.K tl) := by
  intro pins s σ H R I h
  refine thn (hl pins s σ H _ I h) fun v s1 ⟨x, H1, I1, r1, q1⟩ => ?_
  obtain ⟨a, e, ⟨xs, hq⟩, q⟩ := q1
  subst e
  cases r1
  obtain ⟨its, rv, p, hz⟩ := I1.tuple hq
  refine wpAny_pyIter_tuple (show s1.heap.IsTuple a its.toArray from p) ?_
  refine ⟨s1.heap.objs.size, [s1.heap.objs.size], _, _, H1, rfl, I1.kept (t' := s1.toks) fun b o e => Heap.get?_push_of_some _ e, turn_tuple a _, ⟨_, Heap.get?_push_size _ rfl, rfl, rfl⟩, fun b hb => ?_, q⟩
  have e : b = s1.heap.objs.size := by simpa using hb
  subst e
  exact I1.fpOk (Nat.le_refl _) (I1.hok.fresh (Nat.le_refl _))
/-! ### for -/
/-- W: the invariant by the turn and a measure; N: what the body is to reach -/
def tFor (wi : TI) (g : TG) (tb : TS) : TS := fun D σ H => wi σ H fun J H1 => ∃ W : Nat → Nat → St → Hp → Prop, (∃ m, W 0 m σ H1) ∧ ∀ i m σ H, W i m σ H →
  (J.stop i H ∧ D.nx σ H) ∨ (J.go i H ∧ ∃ N : St → Hp → Prop, (∀ σ' H', N σ' H' → ∃ m', m' < m ∧ W (i + 1) m' σ' H') ∧ ∀ x H', J.yld i H x H' → g x σ H' fun σ2 H2 => tb { D with nx := N, ct := N, bk := D.nx } σ2 H2)
/-- the records at fp as they stand -/
def pinsAt (fp : List Addr) (h : Heap) : List (Addr × Obj) := fp.filterMap fun b => (h.get? b).map fun o => (b, o)
theorem mem_pinsAt {fp : List Addr} {h : Heap} {b : Addr} {o : Obj} (hb : b ∈ fp) (e : h.get? b = some o) : (b, o) ∈ pinsAt fp h := List.mem_filterMap.mpr ⟨b, hb, by rw [e]; rfl⟩
theorem of_pinsAt {fp : List Addr} {h : Heap} {p : Addr × Obj} (hp : p ∈ pinsAt fp h) : p.1 ∈ fp ∧ h.get? p.1 = some p.2 := by
  obtain ⟨b, hb, e⟩ := List.mem_filterMap.mp hp
  cases q : h.get? b with
  | none => rw [q] at e; cases e
  | some o =>
    rw [q] at e
    have e' : (b, o) = p := Option.some.inj e
    subst e'
    exact ⟨hb, q⟩
theorem Inv.pinned {pins : List (Addr × Obj)} {σ : St} {H : Hp} {s : Shared} {fp : List Addr} (I : Inv X pins σ H s) (hf : ∀ b ∈ fp, FpOk X pins H b) (ho : ∀ b ∈ fp, ∃ o, s.heap.get? b = some o ∧ ∀ v, o.data ≠ .cell v) : Inv X (pins ++ pinsAt fp s.heap) σ H s :=
  I.pins_of fun p hp => (List.mem_append.mp hp).elim (fun z => I.pin p (List.mem_append_right _ z)) fun z => by
    obtain ⟨hb, e⟩ := of_pinsAt z
    obtain ⟨f0, f1, f2, _⟩ := hf p.1 hb
    obtain ⟨o, e', d⟩ := ho p.1 hb
    rw [e] at e'; cases e'
    exact ⟨e, f0, f1, f2, d⟩
theorem Inv.unpinned {pins pl : List (Addr × Obj)} {σ : St} {H : Hp} {s : Shared} (I : Inv X (pins ++ pl) σ H s) : Inv X pins σ H s := I.pins_of fun p hp => I.pin p (List.mem_append_right _ (List.mem_append_left _ hp))
theorem ps_for {iter : Expr} {body : List Stmt} {wi : TI} {g : TG} {tb : TS} {pos : Pos} (hp : PassesOwn (model X.prog X.w) X.A X.env X.xe) (hc : X.calm = true) (hi : PI X tg iter wi) (hg : PG X tg g) (hb : PSs X body tb)
    (hs : ∀ x, foldedSetIterable iter X.env x = pure x := by intro _; rfl) : PS X (.For tg iter body [] pos) (tFor wi g tb) := by
  intro pins s σ H D I h
  refine wpAny_For (thn (hi pins s σ H _ I h) fun v s1 h1 => thn h1 fun itv s2 h2 => ?_) hs
  obtain ⟨it, fp, tn, J, H2, e, I2, T, st2, f2, W, ⟨m0, w0⟩, turn⟩ := h2
  subst e
  -- what stays true of the iterator's objects through the loop
  have stat : ∀ {H' : Hp}, (∀ b ∈ fp, H' b = none) → ∀ b ∈ fp, FpOk X pins H' b := fun hn b hb => ⟨hn b hb, (f2 b hb).2⟩
  refine codeAny_forLoop_any (fun n s' => ∃ i σ' H', Inv X pins σ' H' s' ∧ tn i s'.heap ∧ (∀ b ∈ fp, H' b = none) ∧ W i n σ' H') ?_ m0 ⟨0, σ, H2, I2, st2, fun b hb => (f2 b hb).1, w0⟩
  rintro n s3 ⟨i, σ3, H3, I3, st3, fr3, w3⟩
  rcases turn i n σ3 H3 w3 with ⟨stop, qn⟩ | ⟨go, N, hN, step⟩
  · refine wpAny_passesOwn hp (thn (T.done X rfl rfl rfl hc i pins s3 σ3 H3 X.xe I3 (stat fr3) st3 stop) fun r s4 ⟨hr, I4⟩ => ?_)
    subst hr
    exact wpAny_execs_nil ⟨σ3, H3, I4, qn⟩
  · refine wpAny_passesOwn hp (thn (T.item X rfl rfl rfl hc i pins s3 σ3 H3 X.xe I3 (stat fr3) st3 go) fun r s4 ⟨u, hr, h4⟩ => ?_)
    subst hr
    refine wpAny_passesOwn hp (thn h4 fun _ s5 ⟨x, H5, I5, r5, y5, st5, fr5⟩ => ?_)
    have I5' := I5.pinned (stat fr5) (T.obj _ _ st5)
    refine wpAny_passesOwn hp (thn (hg _ s5 σ3 H5 x u _ I5' r5 (step x H5 y5)) fun _ s6 ⟨σ6, H6, I6, q6⟩ => ?_)
    refine wpAny_passesOwn hp (thn (hb _ s6 σ6 H6 _ I6 q6) fun f s7 q7 => ?_)
    have again : ∀ {σ7 : St} {H7 : Hp}, Inv X (pins ++ pinsAt fp s5.heap) σ7 H7 s7 → N σ7 H7 → ∃ m, m < n ∧ ∃ i σ' H', Inv X pins σ' H' s7 ∧ tn i s7.heap ∧ (∀ b ∈ fp, H' b = none) ∧ W i m σ' H' := fun {σ7 H7} I7 n7 => by
      obtain ⟨m', hm, w7⟩ := hN σ7 H7 n7
      refine ⟨m', hm, i + 1, σ7, H7, I7.unpinned, T.keep _ _ _ st5 fun b hb o e => (I7.pin (b, o) (List.mem_append_right _ (List.mem_append_right _ (mem_pinsAt hb e)))).1, fun b hb => ?_, w7⟩
      obtain ⟨o, e, d⟩ := T.obj _ _ st5 b hb
      exact (I7.pin (b, o) (List.mem_append_right _ (List.mem_append_right _ (mem_pinsAt hb e)))).2.1
    cases f with
    | next => obtain ⟨σ7, H7, I7, n7⟩ := q7; exact again I7 n7
    | cont => obtain ⟨σ7, H7, I7, n7⟩ := q7; exact again I7 n7
    | brk => obtain ⟨σ7, H7, I7, q7⟩ := q7; exact ⟨σ7, H7, I7.unpinned, q7⟩
    | ret v => obtain ⟨x7, σ7, H7, I7, r7, q7⟩ := q7; exact ⟨x7, σ7, H7, I7.unpinned, r7, q7⟩
end

/-! ### the forms one uses -/
/-- over a list that the body leaves as it is -/
theorem for_list {K : PySem.W.Frag} {a : Addr} {xs : List V} {g : TG} {tb : TS} {D : Ends} {σ : St} {H : Hp} (Pv : Nat → St → Hp → Prop) (h0 : Pv 0 σ H) (hl : ∀ i σ H, i ≤ xs.length → Pv i σ H → SqL K H a xs)
    (hs : ∀ i x σ H, xs[i]? = some x → Pv i σ H → g x σ H fun σ2 H2 => tb { D with nx := Pv (i + 1), ct := Pv (i + 1), bk := D.nx } σ2 H2) (hd : ∀ σ H, Pv xs.length σ H → D.nx σ H) :
    ∃ W : Nat → Nat → St → Hp → Prop, (∃ m, W 0 m σ H) ∧ ∀ i m σ H, W i m σ H →
      ((Itl K a).stop i H ∧ D.nx σ H) ∨ ((Itl K a).go i H ∧ ∃ N : St → Hp → Prop, (∀ σ' H', N σ' H' → ∃ m', m' < m ∧ W (i + 1) m' σ' H') ∧ ∀ x H', (Itl K a).yld i H x H' → g x σ H' fun σ2 H2 => tb { D with nx := N, ct := N, bk := D.nx } σ2 H2) := by
  refine ⟨fun i m σ H => m = xs.length - i ∧ i ≤ xs.length ∧ Pv i σ H, ⟨xs.length, by simp, Nat.zero_le _, h0⟩, ?_⟩
  rintro i m σ H ⟨rfl, hi, p⟩
  have q := hl i σ H hi p
  by_cases hlt : i < xs.length
  · refine .inr ⟨⟨xs, xs[i], q, by simp [hlt]⟩, Pv (i + 1), fun σ' H' p' => ⟨xs.length - (i + 1), by omega, rfl, hlt, p'⟩, fun x H' y => ?_⟩
    obtain ⟨e, y⟩ := y
    subst e
    exact hs i x σ _ (y xs q) p
  · have e : i = xs.length := by omega
    subst e
    exact .inl ⟨⟨xs, q, Nat.le_refl _⟩, hd σ H p⟩
theorem for_tup {K : PySem.W.Frag} {a : Addr} {xs : List V} {g : TG} {tb : TS} {D : Ends} {σ : St} {H : Hp} (Pv : Nat → St → Hp → Prop) (h0 : Pv 0 σ H) (hl : ∀ i σ H, i ≤ xs.length → Pv i σ H → SqT K H a xs)
    (hs : ∀ i x σ H, xs[i]? = some x → Pv i σ H → g x σ H fun σ2 H2 => tb { D with nx := Pv (i + 1), ct := Pv (i + 1), bk := D.nx } σ2 H2) (hd : ∀ σ H, Pv xs.length σ H → D.nx σ H) :
    ∃ W : Nat → Nat → St → Hp → Prop, (∃ m, W 0 m σ H) ∧ ∀ i m σ H, W i m σ H →
      ((Itt K a).stop i H ∧ D.nx σ H) ∨ ((Itt K a).go i H ∧ ∃ N : St → Hp → Prop, (∀ σ' H', N σ' H' → ∃ m', m' < m ∧ W (i + 1) m' σ' H') ∧ ∀ x H', (Itt K a).yld i H x H' → g x σ H' fun σ2 H2 => tb { D with nx := N, ct := N, bk := D.nx } σ2 H2) := by
  refine ⟨fun i m σ H => m = xs.length - i ∧ i ≤ xs.length ∧ Pv i σ H, ⟨xs.length, by simp, Nat.zero_le _, h0⟩, ?_⟩
  rintro i m σ H ⟨rfl, hi, p⟩
  have q := hl i σ H hi p
  by_cases hlt : i < xs.length
  · refine .inr ⟨⟨xs, xs[i], q, by simp [hlt]⟩, Pv (i + 1), fun σ' H' p' => ⟨xs.length - (i + 1), by omega, rfl, hlt, p'⟩, fun x H' y => ?_⟩
    obtain ⟨e, y⟩ := y
    subst e
    exact hs i x σ _ (y xs q) p
  · have e : i = xs.length := by omega
    subst e
    exact .inl ⟨⟨xs, q, Nat.le_refl _⟩, hd σ H p⟩
end L2

namespace L2
open PySem PySem.Spec PyProof.Rows

abbrev R2 := V → V → Hp → VK → Prop
/-- a two-place operation on values: f is binaryOp op, inplaceOp op or compareOp op -/
def OpR (X : Cx) (f : Value → Value → Sem Value) (r : R2) : Prop :=
  ∀ (pins : List (Addr × Obj)) (s : Shared) (σ : St) (H : Hp) (x y : V) (v u : Value) (Q : VK), Inv X pins σ H s → RelV x v → RelV y u → r x y H Q →
    wpAny (model X.prog X.w) X.A (f v u) (EP X pins σ Q) X.xe s
/-- a call of a value that is known (a builtin, a type) with values -/
def CallR (X : Cx) (f : Value) (r : List V → Hp → VK → Prop) : Prop :=
  ∀ (pins : List (Addr × Obj)) (s : Shared) (σ : St) (H : Hp) (xs : List V) (us : List Value) (Q : VK), Inv X pins σ H s → Vals xs us → r xs H Q →
    wpAny (model X.prog X.w) X.A (call f us) (EP X pins σ Q) X.xe s
/-- a value's truth -/
def TruR (X : Cx) (r : V → Hp → (Bool → Hp → Prop) → Prop) : Prop :=
  ∀ (pins : List (Addr × Obj)) (s : Shared) (σ : St) (H : Hp) (x : V) (v : Value) (Q : Bool → Hp → Prop), Inv X pins σ H s → RelV x v → r x H Q →
    wpAny (model X.prog X.w) X.A (truthy v) (TP X pins σ Q) X.xe s

def tOp (r : R2) (ta tb : TE) : TE := fun σ H Q => ta σ H fun x H1 => tb σ H1 fun y H2 => r x y H2 Q
/-- ints in, under C, and a value out -/
def rI (C : Int → Int → Prop) (g : Int → Int → V) : R2 := fun x y H Q => ∃ i j, x = .int i ∧ y = .int j ∧ C i j ∧ Q (g i j) H
def rI0 (g : Int → Int → V) : R2 := fun x y H Q => ∃ i j, x = .int i ∧ y = .int j ∧ Q (g i j) H
section
variable {X : Cx} {a b c : Expr} {ta tb tc : TE} {pos : Pos}

theorem binT (ha : PE X a ta) (hb : PE X b tb) {pins : List (Addr × Obj)} {s : Shared} {σ : St} {H : Hp} {R : V → V → Hp → Prop} (I : Inv X pins σ H s)
    (h : ta σ H fun x H1 => tb σ H1 fun y H2 => R x y H2) {Q : Value → Shared → Prop} {f : Value → Value → Sem Value}
    (hf : ∀ v u s2 x y H2, Inv X pins σ H2 s2 → RelV x v → RelV y u → R x y H2 → wpAny (model X.prog X.w) X.A (f v u) Q X.xe s2) :
    wpAny (model X.prog X.w) X.A (eval a X.env) (fun v s₁ => wpAny (model X.prog X.w) X.A (eval b X.env) (fun u s₂ => wpAny (model X.prog X.w) X.A (f v u) Q X.xe s₂) X.xe s₁) X.xe s := by
  refine thn (ha pins s σ H _ I h) fun v s1 ⟨x, H1, I1, r1, q1⟩ => ?_
  refine thn (hb pins s1 σ H1 _ I1 q1) fun u s2 ⟨y, H2, I2, r2, q2⟩ => ?_
  exact hf v u s2 x y H2 I2 r1 r2 q2

theorem pe_op {op : Operator} {r : R2} (ho : OpR X (binaryOp op) r) (ha : PE X a ta) (hb : PE X b tb) : PE X (.BinOp a op b pos) (tOp r ta tb) := by
  intro pins s σ H Q I h
  exact wpAny_BinOp (binT ha hb I h fun v u s2 x y H2 I2 rx ry q => ho pins s2 σ H2 x y v u Q I2 rx ry q)
/-! ### ints -/
theorem opI {f : Value → Value → Sem Value} {C : Int → Int → Prop} {g : Int → Int → Int}
    (rule : ∀ (i j : Int) (t u : Tok) (s : Shared) (Q : Value → Shared → Prop) (E : Value → Shared → Prop), C i j → Q (.int (g i j) s.toks) { s with toks := s.toks + 1 } → wpAny (model X.prog X.w) X.A (f (.int i t) (.int j u)) Q E s) :
    OpR X f (rI C fun i j => .int (g i j)) := by
  intro pins s σ H x y v u Q I rx ry h
  obtain ⟨i, j, rfl, rfl, hc, q⟩ := h
  obtain ⟨t, rfl⟩ := rx
  obtain ⟨t', rfl⟩ := ry
  exact rule i j t t' s _ _ hc ⟨.int (g i j), H, I.tok _, ⟨_, rfl⟩, q⟩
theorem opI0 {f : Value → Value → Sem Value} {g : Int → Int → Int}
    (rule : ∀ (i j : Int) (t u : Tok) (s : Shared) (Q : Value → Shared → Prop) (E : Value → Shared → Prop), Q (.int (g i j) s.toks) { s with toks := s.toks + 1 } → wpAny (model X.prog X.w) X.A (f (.int i t) (.int j u)) Q E s) :
    OpR X f (rI0 fun i j => .int (g i j)) := by
  intro pins s σ H x y v u Q I rx ry h
  obtain ⟨i, j, rfl, rfl, q⟩ := h
  obtain ⟨t, rfl⟩ := rx
  obtain ⟨t', rfl⟩ := ry
  exact rule i j t t' s _ _ ⟨.int (g i j), H, I.tok _, ⟨_, rfl⟩, q⟩
theorem opB0 {f : Value → Value → Sem Value} {g : Int → Int → Bool}
    (rule : ∀ (i j : Int) (t u : Tok) (s : Shared) (Q : Value → Shared → Prop) (E : Value → Shared → Prop), Q (.bool (g i j)) s → wpAny (model X.prog X.w) X.A (f (.int i t) (.int j u)) Q E s) :
    OpR X f (rI0 fun i j => .bl (g i j)) := by
  intro pins s σ H x y v u Q I rx ry h
  obtain ⟨i, j, rfl, rfl, q⟩ := h
  obtain ⟨t, rfl⟩ := rx
  obtain ⟨t', rfl⟩ := ry
  exact rule i j t t' s _ _ ⟨.bl (g i j), H, I, rfl, q⟩

def CDiv (i j : Int) : Prop := 0 < j ∧ j < 1073741824
def CMul (i j : Int) : Prop := (-(2 ^ 64) < i ∧ i < 2 ^ 64) ∨ (-(2 ^ 64) < j ∧ j < 2 ^ 64)
theorem CMul.ok {i j : Int} (h : CMul i j) : IntMulOk i j := by
  rcases h with ⟨h1, h2⟩ | ⟨h1, h2⟩
  · exact .of_left (intBits_le_64 h1 h2)
  · exact .of_right (intBits_le_64 h1 h2)
theorem op_add : OpR X (binaryOp .Add) (rI0 fun i j => .int (i + j)) := opI0 fun _ _ _ _ _ _ _ q => add_int q
theorem op_sub : OpR X (binaryOp .Sub) (rI0 fun i j => .int (i - j)) := opI0 fun _ _ _ _ _ _ _ q => sub_int q
theorem op_mul : OpR X (binaryOp .Mult) (rI CMul fun i j => .int (i * j)) := opI fun _ _ _ _ _ _ _ hc q => mul_int q hc.ok
/-- // by a positive divisor -/
theorem op_fdiv : OpR X (binaryOp .FloorDiv) (rI CDiv fun i j => .int (i / j)) := opI fun i j _ _ _ _ _ hc q => by
  have h1 : (0 : Int) < j := hc.1
  have h2 : j < 1073741824 := hc.2
  exact floordiv_int (by omega) (by rw [Int.fdiv_eq_ediv_of_nonneg i (by omega)]; exact q) (.inl (PyProof.noPylong_small (by omega)))
/-! ### bools among ints: n += (a < b) -/
end

/-! ### comparisons -/
/-- the scalars that == tells apart as data does -/
def scal : V → V → Bool
  | .non, .non => true | .non, .int _ => true | .int _, .non => true | .non, .bl _ => true | .bl _, .non => true | .non, .str _ => true | .str _, .non => true
  | .int _, .int _ => true | .bl _, .bl _ => true | .str _, .str _ => true | .byt _, .byt _ => true
  | .int _, .str _ => true | .str _, .int _ => true | .bl _, .str _ => true | .str _, .bl _ => true
  | _, _ => false
def rEq : R2 := fun x y H Q => scal x y = true ∧ Q (.bl (decide (x = y))) H
def rNe : R2 := fun x y H Q => scal x y = true ∧ Q (.bl (!decide (x = y))) H

theorem dec_int {i j : Int} : decide (V.int i = V.int j) = (i == j) := by
  rw [Bool.eq_iff_iff]
  simp
theorem dec_bl {i j : Bool} : decide (V.bl i = V.bl j) = (i == j) := by
  rw [Bool.eq_iff_iff]
  simp
theorem dec_str {i j : Str} : decide (V.str i = V.str j) = (i == j) := by
  rw [Bool.eq_iff_iff]
  simp
theorem dec_byt {i j : Array UInt8} : decide (V.byt i = V.byt j) = (i.toList == j.toList) := by
  rw [Bool.eq_iff_iff]
  cases i
  cases j
  simp

section
variable {X : Cx} {a b c : Expr} {ta tb tc : TE} {pos : Pos}
theorem fin_bl {pins : List (Addr × Obj)} {σ : St} {H : Hp} {s : Shared} {Q : VK} {k k' : Bool} (I : Inv X pins σ H s) (q : Q (.bl k) H) (e : k = k') : EP X pins σ Q (.bool k') s := by
  subst e
  exact ⟨.bl k, H, I, rfl, q⟩
theorem op_eq : OpR X (compareOp .Eq) rEq := by
  intro pins s σ H x y v u Q I rx ry h
  obtain ⟨hs, q⟩ := h
  cases x with
  | non =>
    cases rx
    cases y with
    | non => cases ry; exact PySem.EqNone.eq_none_none (fin_bl I q (by simp))
    | bl j => cases ry; exact PySem.EqNone.eq_none_bool (fin_bl I q (by simp))
    | int j => obtain ⟨t', rfl⟩ := ry; exact PySem.EqNone.eq_none_int (fin_bl I q (by simp))
    | str j => obtain ⟨t', rfl⟩ := ry; exact PySem.EqNone.eq_none_str (fin_bl I q (by simp))
    | _ => exact absurd (show false = true from hs) Bool.false_ne_true
  | bl i =>
    cases rx
    cases y with
    | non => cases ry; exact PySem.EqNone.eq_bool_none (fin_bl I q (by simp))
    | bl j => cases ry; exact eq_bool (fin_bl I q dec_bl)
    | str j => obtain ⟨t', rfl⟩ := ry; exact PySem.EqMixed.eq_bool_str (fin_bl I q (by simp))
    | _ => exact absurd (show false = true from hs) Bool.false_ne_true
  | int i =>
    obtain ⟨t, rfl⟩ := rx
    cases y with
    | non => cases ry; exact PySem.EqNone.eq_int_none (fin_bl I q (by simp))
    | int j => obtain ⟨t', rfl⟩ := ry; exact eq_int (fin_bl I q dec_int)
    | str j => obtain ⟨t', rfl⟩ := ry; exact PySem.EqMixed.eq_int_str (fin_bl I q (by simp))
    | _ => exact absurd (show false = true from hs) Bool.false_ne_true
  | str i =>
    obtain ⟨t, rfl⟩ := rx
    cases y with
    | non => cases ry; exact PySem.EqNone.eq_str_none (fin_bl I q (by simp))
    | bl j => cases ry; exact PySem.EqMixed.eq_str_bool (fin_bl I q (by simp))
    | int j => obtain ⟨t', rfl⟩ := ry; exact PySem.EqMixed.eq_str_int (fin_bl I q (by simp))
    | str j => obtain ⟨t', rfl⟩ := ry; exact eq_str (fin_bl I q dec_str)
    | _ => exact absurd (show false = true from hs) Bool.false_ne_true
  | byt i =>
    obtain ⟨t, rfl⟩ := rx
    cases y with
    | byt j => obtain ⟨t', rfl⟩ := ry; exact PySem.W.eq_bytes (fin_bl I q dec_byt)
    | _ => exact absurd (show false = true from hs) Bool.false_ne_true
  | _ => cases y <;> exact absurd (show false = true from hs) Bool.false_ne_true
theorem op_ne : OpR X (compareOp .NotEq) rNe := by
  intro pins s σ H x y v u Q I rx ry h
  obtain ⟨hs, q⟩ := h
  cases x with
  | non =>
    cases rx
    cases y with
    | non => cases ry; exact PySem.EqNone.ne_none_none (fin_bl I q (by simp))
    | bl j => cases ry; exact PySem.EqNone.ne_none_bool (fin_bl I q (by simp))
    | int j => obtain ⟨t', rfl⟩ := ry; exact PySem.EqNone.ne_none_int (fin_bl I q (by simp))
    | str j => obtain ⟨t', rfl⟩ := ry; exact PySem.EqNone.ne_none_str (fin_bl I q (by simp))
    | _ => exact absurd (show false = true from hs) Bool.false_ne_true
  | bl i =>
    cases rx
    cases y with
    | non => cases ry; exact PySem.EqNone.ne_bool_none (fin_bl I q (by simp))
    | bl j => cases ry; exact ne_bool (fin_bl I q (congrArg not dec_bl))
    | str j => obtain ⟨t', rfl⟩ := ry; exact PySem.EqMixed.ne_bool_str (fin_bl I q (by simp))
    | _ => exact absurd (show false = true from hs) Bool.false_ne_true
  | int i =>
    obtain ⟨t, rfl⟩ := rx
    cases y with
    | non => cases ry; exact PySem.EqNone.ne_int_none (fin_bl I q (by simp))
    | int j => obtain ⟨t', rfl⟩ := ry; exact ne_int (fin_bl I q (congrArg not dec_int))
    | str j => obtain ⟨t', rfl⟩ := ry; exact PySem.EqMixed.ne_int_str (fin_bl I q (by simp))
    | _ => exact absurd (show false = true from hs) Bool.false_ne_true
  | str i =>
    obtain ⟨t, rfl⟩ := rx
    cases y with
    | non => cases ry; exact PySem.EqNone.ne_str_none (fin_bl I q (by simp))
    | bl j => cases ry; exact PySem.EqMixed.ne_str_bool (fin_bl I q (by simp))
    | int j => obtain ⟨t', rfl⟩ := ry; exact PySem.EqMixed.ne_str_int (fin_bl I q (by simp))
    | str j => obtain ⟨t', rfl⟩ := ry; exact ne_str (fin_bl I q (congrArg not dec_str))
    | _ => exact absurd (show false = true from hs) Bool.false_ne_true
  | byt i =>
    obtain ⟨t, rfl⟩ := rx
    cases y with
    | byt j => obtain ⟨t', rfl⟩ := ry; exact PySem.W.ne_bytes (fin_bl I q (congrArg not dec_byt))
    | _ => exact absurd (show false = true from hs) Bool.false_ne_true
  | _ => cases y <;> exact absurd (show false = true from hs) Bool.false_ne_true

theorem op_lt : OpR X (compareOp .Lt) (rI0 fun i j => .bl (decide (i < j))) := opB0 fun _ _ _ _ _ _ _ q => lt_int q
theorem op_le : OpR X (compareOp .LtE) (rI0 fun i j => .bl (decide (i ≤ j))) := opB0 fun _ _ _ _ _ _ _ q => le_int q
theorem op_ge : OpR X (compareOp .GtE) (rI0 fun i j => .bl (decide (j ≤ i))) := opB0 fun _ _ _ _ _ _ _ q => ge_int q
/-- two rules for one operation: by cases -/
theorem OpR.or {f : Value → Value → Sem Value} {r r' : R2} (h : OpR X f r) (h' : OpR X f r') : OpR X f (fun x y H Q => r x y H Q ∨ r' x y H Q) := by
  intro pins s σ H x y v u Q I rx ry q
  rcases q with q | q
  · exact h pins s σ H x y v u Q I rx ry q
  · exact h' pins s σ H x y v u Q I rx ry q

theorem nomark (b : Expr) {op : CmpOp} (h : op ≠ .In := by decide) (h2 : op ≠ .NotIn := by decide) : behindInMarks op b = false := by
  have e1 : (op == CmpOp.In) = false := by cases op <;> first | rfl | exact absurd rfl h
  have e2 : (op == CmpOp.NotIn) = false := by cases op <;> first | rfl | exact absurd rfl h2
  cases b <;> simp [behindInMarks, e1, e2]
/-- a comparison as a value; hm: nomark b, or (for in, not in) by with_unfolding_all rfl -/
theorem pe_cmpR {op : CmpOp} {r : R2} (ho : OpR X (compareOp op) r) (ha : PE X a ta) (hb : PE X b tb) (hm : behindInMarks op b = false) : PE X (.Compare a [op] [b] pos) (tOp r ta tb) := by
  intro pins s σ H Q I h
  exact wpAny_Compare1 (binT ha hb I h fun v u s2 x y H2 I2 rx ry q => ho pins s2 σ H2 x y v u Q I2 rx ry q) hm
/-- a reading of a value as a test -/
def tTest (t : TE) : TT := fun σ H Q => t σ H fun x H' => ∃ k, x = .bl k ∧ Q k H'
theorem pt_cmpR {op : CmpOp} {r : R2} (ho : OpR X (compareOp op) r) (ha : PE X a ta) (hb : PE X b tb) (hm : behindInMarks op b = false) : PT X (.Compare a [op] [b] pos) (tTest (tOp r ta tb)) := by
  intro pins s σ H Q I h
  refine wpAny_isTrue_Compare1 (thn (ha pins s σ H _ I h) fun v s1 ⟨x, H1, I1, r1, q1⟩ => thn (hb pins s1 σ H1 _ I1 q1) fun u s2 ⟨y, H2, I2, r2, q2⟩ =>
    thn (ho pins s2 σ H2 x y v u _ I2 r1 r2 q2) fun c s3 ⟨z, H3, I3, r3, k, e, q3⟩ => ?_) hm
  subst e
  cases r3
  exact wpAny_truthy_bool ⟨H3, I3, q3⟩
/-! ### truth -/
/-- a value's truth by the abstract heap -/
def TruV (K : PySem.W.Frag) (x : V) (H : Hp) (k : Bool) : Prop :=
  match x with
  | .non => k = false
  | .bl b => k = b
  | .int i => k = (i != 0)
  | .str y => y.length ≤ sizeLine ∧ k = ((y.length : Int) != 0)
  | .byt y => y.size ≤ sizeLine ∧ k = ((y.size : Int) != 0)
  | .ref p => (∃ xs, SqL K H p xs ∧ k = !xs.isEmpty) ∨ (∃ xs, SqT K H p xs ∧ k = !xs.isEmpty) ∨ ∃ kvs, H p = some (.dK kvs) ∧ k = !kvs.isEmpty
  | _ => False
theorem isEmpty_kv {κ : Type} {kvs : List (κ × V)} {vs : List (κ × Value)} (r : KV kvs vs) : (!vs.isEmpty) = !kvs.isEmpty := by
  cases r <;> rfl
theorem isEmpty_of {xs : List V} {its : List Value} (r : Vals xs its) : (!its.toArray.isEmpty) = !xs.isEmpty := by
  cases r <;> simp
theorem line63 : (sizeLine : Nat) < 2 ^ 63 := by rw [sizeLine_eq]; decide
theorem tru_ok : TruR X (fun x H Q => ∃ k, TruV X.K x H k ∧ Q k H) := by
  intro pins s σ H x v Q I rx h
  obtain ⟨k, e, q⟩ := h
  have hl := line63
  have hs : sizeLine = 16777216 := sizeLine_eq
  cases x with
  | non =>
    cases rx
    have e' : k = false := e
    subst e'
    exact truthy_none ⟨H, I, q⟩
  | bl b =>
    cases rx
    have e' : k = b := e
    subst e'
    exact wpAny_truthy_bool ⟨H, I, q⟩
  | int i =>
    obtain ⟨t, rfl⟩ := rx
    have e' : k = (i != 0) := e
    subst e'
    exact PySem.P.truthy_int ⟨H, I, q⟩
  | str y =>
    obtain ⟨t, rfl⟩ := rx
    obtain ⟨hy, e'⟩ : y.length ≤ sizeLine ∧ k = ((y.length : Int) != 0) := e
    subst e'
    exact PySem.P.truthy_str (by omega) ⟨H, I.tok _, q⟩
  | byt y =>
    obtain ⟨t, rfl⟩ := rx
    obtain ⟨hy, e'⟩ : y.size ≤ sizeLine ∧ k = ((y.size : Int) != 0) := e
    subst e'
    exact PySem.W.truthy_bytes (by omega) ⟨H, I.tok _, q⟩
  | ref p =>
    cases rx
    have e' : (∃ xs, SqL X.K H p xs ∧ k = !xs.isEmpty) ∨ (∃ xs, SqT X.K H p xs ∧ k = !xs.isEmpty) ∨ ∃ kvs, H p = some (.dK kvs) ∧ k = !kvs.isEmpty := e
    rcases e' with ⟨xs, hx, e'⟩ | ⟨xs, hx, e'⟩ | ⟨kvs, hx, e'⟩
    · subst e'
      obtain ⟨its, r, pl, hz⟩ := I.list hx
      have hlen := r.length
      exact wpAny_truthy_list pl.isList (by simp only [List.size_toArray]; omega) ⟨H, I.tok _, by rw [isEmpty_of r]; exact q⟩
    · subst e'
      obtain ⟨its, r, pl, hz⟩ := I.tuple hx
      have hlen := r.length
      exact truthy_tuple pl (by simp only [List.size_toArray]; omega) ⟨H, I.tok _, by rw [isEmpty_of r]; exact q⟩
    · subst e'
      obtain ⟨hz, hS, vs, r, m⟩ : kvs.length ≤ sizeLine ∧ (p == sysModules) = false ∧ ∃ vs, KV kvs vs ∧ s.heap.DictOf (mixKind X.prog X.w) p vs := I.hok p _ hx
      have hlen : kvs.length = vs.length := Paired.length r
      exact wpAny_truthy_dict hS m (by omega) ⟨H, I.tok _, by rw [isEmpty_kv r]; exact q⟩
  | _ => exact (show False from e).elim
/-- any expression whose test is its value's truth (a name, a call, a subscript, a field ..: he by fun _ => rfl) -/
theorem pt_truth (ha : PE X a ta) (he : ∀ whole, isTrue a X.env whole = (do let v ← whole; standAt a.pos; holding [v] (truthy v))) :
    PT X a (fun σ H Q => ta σ H fun x H' => ∃ k, TruV X.K x H' k ∧ Q k H') := by
  intro pins s σ H Q I h
  exact isTrue_plain (thn (ha pins s σ H _ I h) fun v s1 ⟨x, H1, I1, r1, q1⟩ => tru_ok pins s1 σ H1 x v Q I1 r1 q1) (he _)

/-! ### strs and bytes -/
theorem op_add_str : OpR X (binaryOp .Add) (fun x y H Q => ∃ i j, x = .str i ∧ y = .str j ∧ i.length + j.length ≤ sizeLine ∧ Q (.str (i ++ j)) H) := by
  intro pins s σ H x y v u Q I rx ry h
  obtain ⟨i, j, rfl, rfl, hz, q⟩ := h
  obtain ⟨t, rfl⟩ := rx
  obtain ⟨t', rfl⟩ := ry
  exact add_str (fun t' tk => ⟨.str (i ++ j), H, I.tok _, ⟨_, rfl⟩, q⟩) hz
/-! ### scalar builtins, by CallR -/
theorem vals1 {x : V} {us : List Value} (r : Vals [x] us) : ∃ u, us = [u] ∧ RelV x u := by
  cases r with
  | cons r1 r2 => cases r2; exact ⟨_, rfl, r1⟩
theorem vals2 {x y : V} {us : List Value} (r : Vals [x, y] us) : ∃ u w', us = [u, w'] ∧ RelV x u ∧ RelV y w' := by
  cases r with
  | cons r1 r2 =>
    cases r2 with
    | cons r3 r4 => cases r4; exact ⟨_, _, rfl, r1, r3⟩
theorem call_max2 (hc : X.calm = true) : CallR X (.builtin "max") (fun xs H Q => ∃ i j, xs = [.int i, .int j] ∧ Q (.int (if j > i then j else i)) H) := by
  intro pins s σ H xs us Q I r h
  obtain ⟨i, j, rfl, q⟩ := h
  obtain ⟨u, w', rfl, ⟨t, rfl⟩, ⟨t', rfl⟩⟩ := vals2 r
  refine max_two_ints (I.ok.hd hc) fun h' tk k => ⟨_, H, I.kept k, ?_, q⟩
  by_cases hj : j > i
  · rw [if_pos hj, if_pos hj]; exact ⟨_, rfl⟩
  · rw [if_neg hj, if_neg hj]; exact ⟨_, rfl⟩
theorem call_min2 (hc : X.calm = true) : CallR X (.builtin "min") (fun xs H Q => ∃ i j, xs = [.int i, .int j] ∧ Q (.int (if j < i then j else i)) H) := by
  intro pins s σ H xs us Q I r h
  obtain ⟨i, j, rfl, q⟩ := h
  obtain ⟨u, w', rfl, ⟨t, rfl⟩, ⟨t', rfl⟩⟩ := vals2 r
  refine min_two_ints (I.ok.hd hc) fun h' tk k => ⟨_, H, I.kept k, ?_, q⟩
  by_cases hj : j < i
  · rw [if_pos hj, if_pos hj]; exact ⟨_, rfl⟩
  · rw [if_neg hj, if_neg hj]; exact ⟨_, rfl⟩
theorem call_ord : CallR X (.builtin "ord") (fun xs H Q => ∃ x, xs = [.str x] ∧ x.length = 1 ∧ Q (.int (x.cps.getD 0 0 : Nat)) H) := by
  intro pins s σ H xs us Q I r h
  obtain ⟨x, rfl, hz, q⟩ := h
  obtain ⟨u, rfl, t, rfl⟩ := vals1 r
  exact ord_of_one hz ⟨.int _, H, I.tok _, ⟨_, rfl⟩, q⟩
end
end L2

namespace L2
open PySem PySem.Spec PyProof.Rows

/-! ### an instance, its attributes a map -/
structure ObjM (h : Heap) (x dx C : Addr) (mA : Str → Option Value) : Prop where
  obj : h.get? x = some (PySem.W.instObj C dx)
  ns : h.Ns1 dx mA
  ne : dx ≠ x

theorem lookIn_ns {h : Heap} {dx : Addr} {mA : Str → Option Value} (n : h.Ns1 dx mA) : ∃ od, h.get? dx = some od ∧ ∀ name, PySem.W.lookIn name od = some (mA name) := by
  obtain ⟨o, es, ep, ho, hd, hk, _, hm⟩ := n
  refine ⟨o, ho, fun name => ?_⟩
  have e := hm name
  unfold nsFind findBy at e
  rw [← Array.find?_toList] at e
  unfold PySem.W.lookIn
  rw [hd]
  dsimp only
  split
  · rename_i y q
    rw [q] at e
    exact congrArg some e
  · rename_i q
    rw [q] at e
    have a : es.toList.any (·.refKey) = false := by
      rw [List.any_eq_false]
      intro y hy
      obtain ⟨z, t, hkey⟩ := hk y (Array.mem_toList_iff.mp hy)
      simp [DictEntry.refKey, hkey]
    have a' : ¬ es.toList.any (·.refKey) = true := by rw [a]; exact Bool.false_ne_true
    rw [if_neg a']
    exact congrArg some e

theorem ObjM.look {h : Heap} {x dx C : Addr} {mA : Str → Option Value} (I : ObjM h x dx C mA) : ∃ od, PySem.W.InstAt h x (PySem.W.instObj C dx) C (some od) ∧ ∀ name, PySem.W.lookIn name od = some (mA name) :=
  let ⟨od, ho, hl⟩ := lookIn_ns I.ns
  ⟨od, ⟨I.obj, rfl, rfl, ho⟩, hl⟩

section
variable {prog : Program} {w : World} {A : Around} {E : Value → Shared → Prop} {s : Shared} {K : PySem.W.Frag} {x dx C f : Addr} {mA : Str → Option Value} {name : Str} {v : Value}

theorem get_map {expr : Bool} {Q : Value → Shared → Prop} (X : K.In s.heap) (I : ObjM s.heap x dx C mA) (hg : PySem.W.plainGet K C name = true) (hh : PySem.W.hasDictIn K C = true)
    (ha : PySem.W.findIn K (.ref C) name = some none) (hv : mA name = some v) (hv' : PySem.W.handedIn v = true) (h : Q v { s with toks := s.toks + 1 }) :
    wpAny (model prog w) A (getAttr (.ref x) name expr) Q E s := by
  obtain ⟨od, J, hl⟩ := I.look
  exact PySem.W.get_value X J (PySem.W.plainGet_of hg).1 (PySem.W.findObj_own hh ha rfl (by rw [hl, hv])) hv' h

theorem get_meth {pl : Sem Bool} {Q : Value × List Value → Shared → Prop} (X : K.In s.heap) (I : ObjM s.heap x dx C mA) (hg : PySem.W.plainGet K C name = true)
    (hf : PySem.W.findIn K (.ref C) name = some (some (.ref f))) (ht : PySem.W.isFn K (.ref f) = true) (hv : mA name = none) (h : Q (.ref f, [.ref x]) s) :
    wpAny (model prog w) A (getMethod (.ref x) name pl) Q E s := by
  obtain ⟨od, J, hl⟩ := I.look
  exact PySem.W.method_fn X J (PySem.W.plainGet_of hg).1 (PySem.W.plainGet_of hg).2 hf (beq_iff_eq.mp ht) (by show (PySem.W.lookIn name od).map (·.isSome) = some false; rw [hl, hv]; rfl) h

theorem set_map {ns : List Str} {Q : Unit → Shared → Prop} (X : K.In s.heap) (I : ObjM s.heap x dx C mA)
    (hs : PySem.W.findIn K (.ref C) "__setattr__" = some (some (.builtin "object.__setattr__"))) (hp : PySem.W.plainOver K C = true) (ht : PySem.W.takerIn K C name = some none) (hh : PySem.W.hasDictIn K C = true)
    (hw : PySem.Within mA ns) (hsz : ns.length ≤ sizeLine)
    (h : ∀ h', ObjM h' x dx C (fun y => if y = name then some v else mA y) → Heap.SameBut dx s.heap h' → Q () { s with heap := h', toks := s.toks + 2 }) :
    wpAny (model prog w) A (setAttr (.ref x) name v) Q E s := by
  obtain ⟨od, J, hl⟩ := I.look
  refine PySem.W.set_plain X J hs (PySem.W.osa_open (s := { s with toks := s.toks + 1 }) (r := none) X J hp ht fun b => ?_)
  obtain ⟨cd, hc, hd'⟩ := PySem.W.any_some hh
  have hx : s.heap.get? x = some ⟨.ref C, some dx, .plain, #[]⟩ := I.obj
  refine wpAny_bind (wpAny_pure (wpAny_bind (wpAny_bind (wpAny_loadPart hx (wpAny_bind (PySem.W.Looks.here (s := { s with toks := s.toks + 1 }) (PySem.W.looks_clsIn X hc) ?_))))))
  rw [hd']
  refine wpAny_pure (a := some dx) (wpAny_bind (wpAny_pure (wpAny_bind ?_)))
  refine wpAny_nsSet1 (s := { s with toks := s.toks + 1 }) I.ns fun h' hn2 hs2 => ?_
  obtain ⟨oD, esD, epD, hoD, hdD, hcD⟩ := hn2.count (PySem.Within.cons name v hw)
  refine wpAny_bind (wpAny_lookBehind hoD (by rw [hdD]; exact pastItsLine_dict (Nat.le_trans hcD (by rw [List.length_cons]; omega))) ?_)
  exact wpAny_pure (h _ ⟨(hs2.2 _ (Ne.symm I.ne)).trans I.obj, hn2, I.ne⟩ hs2)

/-- C(..): the dict at the heap's end, the instance behind it; then its __init__ -/
theorem make_map {R : Result → Shared → Prop} {vs : List Value} {kw : List (Str × Value)} (X : K.In s.heap) (hm : PySem.W.makesIn K C = true)
    (hi : PySem.W.findIn K (.ref C) "__init__" = some (some (.ref f))) (hf : PySem.W.typeIn K (.ref f) = some (.type "function"))
    (h : codeAny (model prog w) (A.under (.builtin "type.__call__" ⟨.ref C :: vs, kw⟩)) (.call (.ref f) ⟨.ref (s.heap.objs.size + 1) :: vs, kw⟩) (PySem.W.InitBack (s.heap.objs.size + 1) R)
      { s with heap := (s.heap.push PySem.W.emptyDict).push (PySem.W.instObj C s.heap.objs.size) }) :
    codeAny (model prog w) A (.call (.ref C) ⟨vs, kw⟩) R s := by
  obtain ⟨hh, g, d, t, os⟩ := s
  exact PySem.W.make_core (PySem.W.makes_of X hm) (PySem.W.looks_findIn X hi) (fun self => PySem.W.bind_fn X self hf) (.inl rfl) h
end

/-! ### the attributes as a list of pairs -/
def putF (f : Str) (v : V) : List (Str × V) → List (Str × V)
  | [] => [(f, v)]
  | (g, x) :: r => if g = f then (g, v) :: r else (g, x) :: putF f v r
theorem lookup_putF (f g : Str) (v : V) : ∀ fs : List (Str × V), (putF f v fs).lookup g = if g = f then some v else fs.lookup g
  | [] => by
    show List.lookup g [(f, v)] = _
    by_cases h : g = f
    · have hb : (g == f) = true := beq_iff_eq.mpr h
      simp only [List.lookup, hb, if_pos h]
    · have hb : (g == f) = false := beq_eq_false_iff_ne.mpr h
      simp only [List.lookup, hb, if_neg h]
  | (k, x) :: r => by
    have ih := lookup_putF f g v r
    rw [show putF f v ((k, x) :: r) = (if k = f then (k, v) :: r else (k, x) :: putF f v r) from rfl]
    by_cases hk : k = f
    · rw [if_pos hk]
      by_cases h : g = k
      · have hb : (g == k) = true := beq_iff_eq.mpr h
        simp only [List.lookup, hb, if_pos (h.trans hk)]
      · have hb : (g == k) = false := beq_eq_false_iff_ne.mpr h
        simp only [List.lookup, hb, if_neg (fun e : g = f => h (e.trans hk.symm))]
    · rw [if_neg hk]
      by_cases h : g = k
      · have hb : (g == k) = true := beq_iff_eq.mpr h
        simp only [List.lookup, hb, if_neg (fun e : g = f => hk (h.symm.trans e))]
      · have hb : (g == k) = false := beq_eq_false_iff_ne.mpr h
        simp only [List.lookup, hb]
        exact ih
theorem keys_putF (f : Str) (v : V) : ∀ fs : List (Str × V), f ∈ (putF f v fs).map (·.1) ∧ ∀ g, g ∈ fs.map (·.1) → g ∈ (putF f v fs).map (·.1)
  | [] => ⟨by simp [putF], fun g h => by simp at h⟩
  | (k, x) :: r => by
    obtain ⟨i1, i2⟩ := keys_putF f v r
    rw [show putF f v ((k, x) :: r) = (if k = f then (k, v) :: r else (k, x) :: putF f v r) from rfl]
    by_cases hk : k = f
    · rw [if_pos hk]
      subst hk
      exact ⟨by simp, fun g h => by simpa using h⟩
    · rw [if_neg hk]
      refine ⟨?_, fun g h => ?_⟩
      · rw [List.map_cons]
        exact List.mem_cons_of_mem _ i1
      · rw [List.map_cons] at h ⊢
        rcases List.mem_cons.mp h with e | e
        · exact List.mem_cons.mpr (.inl e)
        · exact List.mem_cons_of_mem _ (i2 g e)
theorem length_putF (f : Str) (v : V) : ∀ fs : List (Str × V), (putF f v fs).length ≤ fs.length + 1
  | [] => by simp [putF]
  | (k, x) :: r => by
    have ih := length_putF f v r
    rw [show putF f v ((k, x) :: r) = (if k = f then (k, v) :: r else (k, x) :: putF f v r) from rfl]
    by_cases hk : k = f
    · rw [if_pos hk, List.length_cons, List.length_cons]; omega
    · rw [if_neg hk, List.length_cons, List.length_cons]; omega

theorem RelO.some_of {v : V} {o : Option Value} (r : RelO (some v) o) : ∃ u, o = some u ∧ RelV v u := by
  cases o with
  | none => exact (show False from r).elim
  | some u => exact ⟨u, rfl, r⟩
theorem RelO.none_of {o : Option Value} (r : RelO none o) : o = none := by
  cases o with
  | none => rfl
  | some u => exact (show False from r).elim
theorem handed_of {v : V} {u : Value} (r : RelV v u) : PySem.W.handedIn u = true := by
  cases v with
  | non => cases (show u = Value.none from r); rfl
  | bl b => cases (show u = Value.bool b from r); rfl
  | int i => obtain ⟨t, e⟩ := (show ∃ t, u = Value.int i t from r); cases e; rfl
  | str x => obtain ⟨t, e⟩ := (show ∃ t, u = Value.str x t from r); cases e; rfl
  | byt b => obtain ⟨t, e⟩ := (show ∃ t, u = Value.bytes b t from r); cases e; rfl
  | flt b => obtain ⟨t, e⟩ := (show ∃ t, u = Value.float b t from r); cases e; rfl
  | ref a => cases (show u = Value.ref a from r); rfl
  | ty n => cases (show u = Value.type n from r); rfl

section
variable {P : Program} {w : World} {H H' : Hp} {h h' : Heap} {a C dx : Addr} {fs fs' : List (Str × V)}
theorem ins_get (hok : HOk P w H h) (e : H a = some (.ins C dx fs)) : ∃ mA, ObjM h a dx C mA ∧ (∀ f, RelO (fs.lookup f) (mA f)) ∧ PySem.Within mA (fs.map (·.1)) ∧ fs.length ≤ 1000 ∧ H dx = some (.own a) := by
  obtain ⟨d, z, ne, ob, mA, n, r, q⟩ := (show ObjOk P w H h a (.ins C dx fs) from hok a _ e)
  exact ⟨mA, ⟨ob, n, ne⟩, r, q, z, d⟩
end

/-! ### what of the text a class must have -/
structure Cls (K : PySem.W.Frag) (C : Addr) : Prop where
  pg : PySem.W.plainGet K C Str.empty = true
  hd : PySem.W.hasDictIn K C = true
  po : PySem.W.plainOver K C = true
  sa : PySem.W.findIn K (.ref C) "__setattr__" = some (some (.builtin "object.__setattr__"))
theorem Cls.get {K : PySem.W.Frag} {C : Addr} (c : Cls K C) (f : Str) : PySem.W.plainGet K C f = true := c.pg
/-- no class of it has the name -/
def NoAttr (K : PySem.W.Frag) (C : Addr) (f : Str) : Prop := PySem.W.findIn K (.ref C) f = some none
theorem NoAttr.taker {K : PySem.W.Frag} {C : Addr} {f : Str} (n : NoAttr K C f) : PySem.W.takerIn K C f = some none := by
  unfold PySem.W.takerIn
  rw [show PySem.W.findIn K (.ref C) f = some none from n]
  rfl
/-- a constant of the class -/
structure Con (K : PySem.W.Frag) (C : Addr) (f : Str) (v : V) (u : Value) : Prop where
  at_ : PySem.W.findIn K (.ref C) f = some (some u)
  rel : RelV v u
  get : PySem.W.specialIn K u "__get__" = some none
  cp : PySem.W.copiedNames.contains f = false
/-- a method: a plain def of the class or of one above it -/
structure Meth (K : PySem.W.Frag) (C : Addr) (m : Str) (f : Addr) : Prop where
  at_ : PySem.W.findIn K (.ref C) m = some (some (.ref f))
  fn : PySem.W.isFn K (.ref f) = true
  kp : PySem.W.keepIn K (.ref f) = true

section
variable {X : Cx} {pins : List (Addr × Obj)} {σ : St} {H : Hp} {s : Shared} {a C dx : Addr} {fs : List (Str × V)} {f : Str} {v : V} {A : Around} {E : Value → Shared → Prop}

theorem getattr_ok {b : Bool} {Q : Value → Shared → Prop} (I : Inv X pins σ H s) (e : H a = some (.ins C dx fs)) (c : Cls X.K C) (n : NoAttr X.K C f) (l : fs.lookup f = some v)
    (h : ∀ u s', Inv X pins σ H s' → RelV v u → Q u s') : wpAny (model X.prog X.w) A (getAttr (.ref a) f b) Q E s := by
  obtain ⟨mA, O, r, _, _, _⟩ := ins_get I.hok e
  obtain ⟨u, hu, ru⟩ := RelO.some_of (v := v) (o := mA f) (by rw [← l]; exact r f)
  exact get_map I.kIn O (c.get f) c.hd n hu (handed_of ru) (h u _ (I.tok _) ru)

theorem getmeth_ok {m : Str} {g : Addr} {pl : Sem Bool} {Q : Value × List Value → Shared → Prop} (I : Inv X pins σ H s) (e : H a = some (.ins C dx fs)) (c : Cls X.K C) (k : Meth X.K C m g) (l : fs.lookup m = none)
    (h : Q (.ref g, [.ref a]) s) : wpAny (model X.prog X.w) A (getMethod (.ref a) m pl) Q E s := by
  obtain ⟨mA, O, r, _, _, _⟩ := ins_get I.hok e
  have hn : mA m = none := RelO.none_of (by rw [← l]; exact r m)
  exact get_meth I.kIn O (c.get m) k.at_ k.fn hn h

theorem setattr_ok {y : V} {u : Value} {Q : Unit → Shared → Prop} (I : Inv X pins σ H s) (e : H a = some (.ins C dx fs)) (c : Cls X.K C) (n : NoAttr X.K C f) (hl : fs.length < 1000) (ry : RelV y u)
    (h : ∀ s', Inv X pins σ (upd H a (.ins C dx (putF f y fs))) s' → Q () s') : wpAny (model X.prog X.w) A (setAttr (.ref a) f u) Q E s := by
  obtain ⟨mA, O, r, wi, _, ho⟩ := ins_get I.hok e
  have hz : (fs.map (·.1)).length ≤ sizeLine := by rw [List.length_map, sizeLine_eq]; omega
  refine set_map I.kIn O c.sa c.po n.taker c.hd wi hz fun h' O' sb => h _ ?_
  have hd : ∃ o, h'.get? dx = some o := let ⟨o, _, _, e', _⟩ := O'.ns; ⟨o, e'⟩
  refine I.write (x := a) (e := dx) (by rw [e]; exact True.intro) (.inr ho) (fun b q hb z => (sb.2 b hb).trans z) hd ?_
  refine ⟨by rw [upd_ne O.ne]; exact ho, ?_, O.ne, O'.obj, _, O'.ns, fun g => ?_, fun g hg => ?_⟩
  · have := length_putF f y fs; omega
  · show RelO ((putF f y fs).lookup g) (if g = f then some u else mA g)
    rw [lookup_putF]
    by_cases q : g = f
    · rw [if_pos q, if_pos q]; exact ry
    · rw [if_neg q, if_neg q]; exact r g
  · by_cases q : g = f
    · rw [q]; exact (keys_putF f y fs).1
    · refine (keys_putF f y fs).2 g (wi g fun z => hg ?_)
      show (if g = f then some u else mA g) = none
      rw [if_neg q]; exact z

/-- a new instance, tracked, without attributes -/
theorem Inv.made (I : Inv X pins σ H s) : Inv X pins σ (upd (upd H s.heap.objs.size (.own (s.heap.objs.size + 1))) (s.heap.objs.size + 1) (.ins C s.heap.objs.size []))
    { s with heap := (s.heap.push PySem.W.emptyDict).push (PySem.W.instObj C s.heap.objs.size) } := by
  have e1 : (s.heap.push PySem.W.emptyDict).get? s.heap.objs.size = some PySem.W.emptyDict := Heap.get?_push_size s.heap rfl
  have e2 : ((s.heap.push PySem.W.emptyDict).push (PySem.W.instObj C s.heap.objs.size)).get? (s.heap.objs.size + 1) = some (PySem.W.instObj C s.heap.objs.size) := by
    have := Heap.get?_push_size (s.heap.push PySem.W.emptyDict) (o := PySem.W.instObj C s.heap.objs.size) rfl
    rwa [Heap.size_push] at this
  have e3 : (s.heap.push PySem.W.emptyDict).Ns s.heap.objs.size (fun _ => none) := ⟨PySem.W.emptyDict, #[], _, e1, rfl, (fun e he => absurd he (by simp)), fun _ => rfl⟩
  have I1 := I.laid (a := s.heap.objs.size) (o := .own (s.heap.objs.size + 1)) (h' := s.heap.push PySem.W.emptyDict) (t' := s.toks) (fun b u q => Heap.get?_push_of_some _ q) (Nat.le_refl _) ⟨_, e1⟩
  refine I1.laid (a := s.heap.objs.size + 1) (o := .ins C s.heap.objs.size []) (t' := s.toks) (fun b u q => Heap.get?_push_of_some _ q) (Nat.le_of_eq (Heap.size_push _ _)) ?_
  have ne : s.heap.objs.size ≠ s.heap.objs.size + 1 := Nat.ne_of_lt (Nat.lt_succ_self _)
  refine ⟨by rw [upd_ne ne, upd_same], Nat.zero_le _, ne, e2, fun _ => none, (Heap.Ns1.of_empty e3).at fun o q => Heap.get?_push_of_some _ q, fun _ => True.intro, fun y hy => absurd rfl hy⟩

/-- e.f where nothing but the object is asked: through attributeBase (super) and the last hold -/
theorem attr_of {prog : Program} {w : World} {env : Env} {e : Expr} {f : Str} {pos : Pos} {s : Shared} {Q : Value → Shared → Prop} (hb : attributeBase e f env (eval e env) = eval e env)
    (h : wpAny (model prog w) A (eval e env) (fun o s₁ => wpAny (model prog w) A (getAttr o f true) Q E s₁) E s) : wpAny (model prog w) A (eval (.Attribute e f pos) env) Q E s :=
  Attribute_any_ h (by rw [arm_eval_Attribute, hb])
end

/-! ### readings and rules -/
/-- e.f, an attribute of the instance -/
def tFld (K : PySem.W.Frag) (ta : TE) (f : Str) : TE := fun σ H Q => ta σ H fun x H1 => ∃ a C dx fs v, x = .ref a ∧ H1 a = some (.ins C dx fs) ∧ Cls K C ∧ NoAttr K C f ∧ fs.lookup f = some v ∧ Q v H1
/-- e.f = value -/
def sFld (K : PySem.W.Frag) (ta tv : TE) (f : Str) : TS := fun D σ H => tv σ H fun y H1 => ta σ H1 fun x H2 => ∃ a C dx fs, x = .ref a ∧ H2 a = some (.ins C dx fs) ∧ Cls K C ∧ NoAttr K C f ∧ fs.length < 1000 ∧
  D.nx σ (upd H2 a (.ins C dx (putF f y fs)))
/-- an augmented operator on two values -/
def InOp (X : Cx) (op : Operator) (rd : V → V → Hp → VK → Prop) : Prop :=
  ∀ (pins : List (Addr × Obj)) (s : Shared) (σ : St) (H : Hp) (x y : V) (u v : Value) (Q : VK), Inv X pins σ H s → RelV x u → RelV y v → rd x y H Q → wpAny (model X.prog X.w) X.A (inplaceOp op u v) (EP X pins σ Q) X.xe s
/-- e.f op= value -/
def sFldAug (K : PySem.W.Frag) (ta tv : TE) (rd : V → V → Hp → VK → Prop) (f : Str) : TS := fun D σ H => ta σ H fun x H1 => ∃ a C dx fs v, x = .ref a ∧ H1 a = some (.ins C dx fs) ∧ Cls K C ∧ NoAttr K C f ∧ fs.lookup f = some v ∧
  tv σ H1 fun y H2 => rd v y H2 fun z H3 => ∃ dx' fs', H3 a = some (.ins C dx' fs') ∧ fs'.length < 1000 ∧ D.nx σ (upd H3 a (.ins C dx' (putF f z fs')))

section
variable {X : Cx} {o e value : Expr} {f : Str} {pos pos' tpos : Pos} {ta tv : TE}
theorem pe_fld (he : PE X e ta) (hb : attributeBase e f X.env (eval e X.env) = eval e X.env) : PE X (.Attribute e f pos) (tFld X.K ta f) := by
  intro pins s σ H Q I h
  refine attr_of hb (thn (he pins s σ H _ I h) fun u s1 ⟨x, H1, I1, rx, a, C, dx, fs, v, ex, ea, c, n, l, q⟩ => ?_)
  subst ex
  obtain rfl : u = Value.ref a := rx
  exact getattr_ok I1 ea c n l fun u' s2 I2 ru => ⟨v, H1, I2, ru, q⟩
theorem ps_fld (ha : PE X o ta) (hv : PE X value tv) (hs : swapsWith value (some (.Attribute o f pos')) pos.line X.env = pure false) : PS X (.Assign [.Attribute o f pos'] value pos) (sFld X.K ta tv f) := by
  intro pins s σ H D I h
  refine plainObj_wpAny_Assign_Attribute (thn (hv pins s σ H _ I h) fun u s1 ⟨y, H1, I1, ry, q⟩ => thn (ha pins s1 σ H1 _ I1 q) fun ov s2 ⟨x, H2, I2, rx, a, C, dx, fs, ex, ea, c, n, l, q2⟩ => ?_) hs
  subst ex
  obtain rfl : ov = Value.ref a := rx
  exact setattr_ok I2 ea c n l ry fun s3 I3 => ⟨σ, _, I3, q2⟩
theorem ps_fldaug {op : Operator} {rd : V → V → Hp → VK → Prop} (ha : PE X o ta) (hv : PE X value tv) (hop : InOp X op rd) : PS X (.AugAssign (.Attribute o f tpos) op value pos) (sFldAug X.K ta tv rd f) := by
  intro pins s σ H D I h
  refine wpAny_AugAssign_AttributeAny (thn (ha pins s σ H _ I h) fun ov s1 ⟨x, H1, I1, rx, a, C, dx, fs, v, ex, ea, c, n, l, q⟩ => ?_)
  subst ex
  obtain rfl : ov = Value.ref a := rx
  refine getattr_ok I1 ea c n l fun u s2 I2 ru => thn (hv pins s2 σ H1 _ I2 q) fun w3 s3 ⟨y, H2, I3, ry, q3⟩ => thn (hop pins s3 σ H2 v y u w3 _ I3 ru ry q3) fun w4 s4 ⟨z, H3, I4, rz, dx', fs', ea', l', q4⟩ => ?_
  exact setattr_ok I4 ea' c n l' rz fun s5 I5 => ⟨σ, _, I5, q4⟩
def rAdd : V → V → Hp → VK → Prop := fun x y H Q => ∃ i j, x = .int i ∧ y = .int j ∧ Q (.int (i + j)) H
theorem in_add : InOp X .Add rAdd := by
  rintro pins s σ H x y u v Q I rx ry ⟨i, j, rfl, rfl, q⟩
  obtain ⟨t, rfl⟩ := (show ∃ t, u = Value.int i t from rx)
  obtain ⟨t', rfl⟩ := (show ∃ t', v = Value.int j t' from ry)
  exact PyProof.Rows.iadd_int ⟨.int (i + j), H, I.tok _, ⟨_, rfl⟩, q⟩
end

/-! ### isinstance -/
section
variable {X : Cx} {pins : List (Addr × Obj)} {σ : St} {H : Hp} {s : Shared} {A : Around} {E : Value → Shared → Prop} {Q : Value → Shared → Prop} {c : Value} {b : Bool}
/-- the type of a value, as the fragment's deciders take it; for an instance its class -/
inductive TyOf (K : PySem.W.Frag) (H : Hp) : V → Value → Prop where
  | non : TyOf K H .non (.type "NoneType")
  | bl (x : Bool) : TyOf K H (.bl x) (.type "bool")
  | int (i : Int) : TyOf K H (.int i) (.type "int")
  | str (x : Str) : TyOf K H (.str x) (.type "str")
  | flt (x : UInt64) : TyOf K H (.flt x) (.type "float")
  | lst {a : Addr} {xs : List V} (e : H a = some (.lst xs)) : TyOf K H (.ref a) (.type "list")
  | frz {a : Addr} {o : Obj} {xs : List V} (e : H a = some (.frz o (.lst xs))) : TyOf K H (.ref a) (.type "list")
  | tup {a : Addr} {xs : List V} (e : H a = some (.tup xs)) : TyOf K H (.ref a) (.type "tuple")
  | dK {a : Addr} {kvs : List (Key × V)} (e : H a = some (.dK kvs)) : TyOf K H (.ref a) (.type "dict")
  | dT {a : Addr} {kvs : List (List Key × V)} (e : H a = some (.dT kvs)) : TyOf K H (.ref a) (.type "dict")
  | ins {a C dx : Addr} {fs : List (Str × V)} (e : H a = some (.ins C dx fs)) (cl : Cls K C) (ha : PySem.W.findIn K (.ref C) "__class__" = some (some (.builtin "object.__class__")))
      (hn : PySem.W.specialIn K (.builtin "object.__class__") "__get__" = some (some (.builtin "getset_descriptor.__get__"))) (htk : PySem.W.takesIn K (.builtin "object.__class__") = some true)
      (hm : PySem.W.mroIn K C (.type "object") = some true) : TyOf K H (.ref a) (.ref C)
end
end L2

namespace L2
open PySem PySem.Spec PyProof.Rows

/-! ### room -/
structure Room (k : Nat) (A : Around) : Prop where
  hd : A.handled = none
  dp : A.depth + 3 * k + 5 < recursionLimit
  un : A.units + 16 * k + 200 < cLine
theorem Room.mono {j k : Nat} {A : Around} (r : Room k A) (h : j ≤ k) : Room j A := ⟨r.hd, by have := r.dp; omega, by have := r.un; omega⟩
theorem Room.deeper {k : Nat} {A : Around} (r : Room (k + 1) A) (env : Env) : Room k (A.deeper env) :=
  ⟨r.hd, by have := r.dp; show A.depth + 1 + 3 * k + 5 < _; omega, by have := r.un; show A.units + 3 + 16 * k + 200 < _; omega⟩
theorem Room.in1 {k : Nat} {A : Around} (r : Room (k + 1) A) : Room k A.in1 :=
  ⟨r.hd, by have := r.dp; show A.depth + 3 * k + 5 < _; omega, by have := r.un; show A.units + 1 + 16 * k + 200 < _; omega⟩
theorem make_depth {A : Around} {C : Addr} {us : List Value} {kw : List (Str × Value)} : (A.under (.builtin "type.__call__" ⟨.ref C :: us, kw⟩)).depth = A.depth + 1 := by
  first | rfl | simp [Around.under, Code.weight, Code.isCreation, Code.isGuard, Code.isCaller, Code.frames, Code.isFrame, guardIds]
theorem make_units {A : Around} {C : Addr} {us : List Value} {kw : List (Str × Value)} : (A.under (.builtin "type.__call__" ⟨.ref C :: us, kw⟩)).units = A.units + 1 := by
  first | rfl | simp [Around.under, Code.cUnits, Code.frames, Code.isFrame]
theorem Room.make {k : Nat} {A : Around} (r : Room (k + 1) A) (C : Addr) (us : List Value) (kw : List (Str × Value)) : Room k (A.under (.builtin "type.__call__" ⟨.ref C :: us, kw⟩)) :=
  ⟨r.hd, by have := r.dp; rw [make_depth]; omega, by have := r.un; rw [make_units]; omega⟩
theorem Room.depth {k : Nat} {A : Around} (r : Room k A) : A.depth < recursionLimit := by have := r.dp; omega
theorem Room.units {k : Nat} {A : Around} (r : Room k A) : A.units + 64 < cLine := by have := r.un; omega
/-! ### argument lists and displays -/
def tNil : TA := fun _ H Q => Q [] H
def tCons (ta : TE) (tr : TA) : TA := fun σ H Q => ta σ H fun x H1 => tr σ H1 fun xs H2 => Q (x :: xs) H2
section
variable {X : Cx} {e : Expr} {es : List Expr} {te : TE} {t : TA} {pos : Pos}
theorem pa_nil : PA X [] tNil := fun _ _ _ _ H Q I h => Calls.spliced_nil ⟨[], H, I, .nil, h⟩
theorem pa_cons (ha : PE X e te) (hr : PA X es t) (hs : starEach (e :: es) X.env = (false, eval e X.env) :: starEach es X.env := by rfl) : PA X (e :: es) (tCons te t) := by
  intro pos pins s σ H Q I h
  rw [hs]
  show wpAny _ _ (spliced ((false, eval e X.env) :: backTo pos (starEach es X.env))) _ _ s
  refine Calls.spliced_cons (thn (ha pins s σ H _ I h) fun u s1 ⟨x, H1, I1, r1, q1⟩ => ?_)
  exact thn (hr pos pins s1 σ H1 _ I1 q1) fun us s2 ⟨xs, H2, I2, r2, q2⟩ => ⟨x :: xs, H2, I2, .cons r1 r2, q2⟩

def tLst (t : TA) : TE := fun σ H Q => t σ H fun xs H1 => xs.length ≤ sizeLine ∧ ∀ p, H1 p = none → Q (.ref p) (upd H1 p (.lst xs))
theorem pe_lst (h : PA X es t) : PE X (.List es pos) (tLst t) := by
  intro pins s σ H Q I hq
  refine wpAny_List_spliced (thn (h pos pins s σ H _ I hq) fun us s1 ⟨xs, H1, I1, r, z, q⟩ => ⟨by rw [← r.length]; exact z, ?_⟩)
  have hf : H1 s1.heap.objs.size = none := I1.hok.fresh (Nat.le_refl _)
  refine ⟨.ref s1.heap.objs.size, upd H1 s1.heap.objs.size (.lst xs), I1.laid (t' := s1.toks) (fun b u e => Heap.get?_push_of_some _ e) (Nat.le_refl _) ?_, rfl, q _ hf⟩
  exact ⟨z, us, 0, r, Heap.get?_push_size _ rfl⟩
end

/-! ### what a def promises -/
/-- a def's promise: the bound arguments in the parameters' order, the heap, the wanted end, the wanted exception -/
abbrev Sp := List V → Hp → VK → XK → Prop
/-- how an exception lies behind a call (file 08 gives it): the callers' frames, abstract heap and state ahead of the call, the wish, the exception, the state -/
abbrev CXT := List Env → Hp → Shared → XK → Value → Shared → Prop

/-- the state at a call -/
structure Env0 (P : Program) (w : World) (K : PySem.W.Frag) (mg : Str → Option Value) (base : Heap) (A : Around) (outer : List Env) (s : Shared) (H : Hp) : Prop where
  frames : A.frames = some outer
  mod : Mod K mg base
  bs : ∀ b o, base.get? b = some o → s.heap.get? b = some o ∧ H b = none
  bsz : base.objs.size ≤ s.heap.objs.size
  funs : s.heap.FunFrames base outer
  frf : ∀ b ∈ frs outer, H b = none
  hok : HOk P w H s.heap
  bare : AllBare s.gens
/-- a call's end -/
def CE (outer : List Env) (P : Program) (w : World) (H : Hp) (s : Shared) (Q : VK) (u : Value) (s' : Shared) : Prop :=
  ∃ v H', s'.os = s.os ∧ AllBare s'.gens ∧ Un (frs outer) [] H H' s.heap s'.heap ∧ HOk P w H' s'.heap ∧ RelV v u ∧ Q v H'
def CR (CX : CXT) (outer : List Env) (P : Program) (w : World) (H : Hp) (s : Shared) (Q : VK) (E : XK) (r : Result) (s' : Shared) : Prop :=
  match r with
  | .ok (.ret u) => CE outer P w H s Q u s'
  | .ok _ => False
  | .error e => CX outer H s E e s'
structure FnOk (P : Program) (w : World) (K : PySem.W.Frag) (mg : Str → Option Value) (base : Heap) (CX : CXT) (k : Nat) (f : Addr) (fd : FuncData) (ps : List Str) (sp : Sp) : Prop where
  len : ∀ vs H Q E, sp vs H Q E → vs.length = ps.length
  run : ∀ (A : Around) (outer : List Env) (s : Shared) (H : Hp) (args : Args) (us : List Value) (vs : List V) (Q : VK) (E : XK), Room k A → Env0 P w K mg base A outer s H → BindsTo s fd args (ps.zip us) → Vals vs us → sp vs H Q E →
    codeAny (model P w) A (.call (.ref f) args) (CR CX outer P w H s Q E) s
theorem FnOk.mono {P : Program} {w : World} {K : PySem.W.Frag} {mg : Str → Option Value} {base : Heap} {CX : CXT} {j k : Nat} {f : Addr} {fd : FuncData} {ps : List Str} {sp : Sp} (F : FnOk P w K mg base CX j f fd ps sp) (h : j ≤ k) :
    FnOk P w K mg base CX k f fd ps sp := ⟨F.len, fun A outer s H args us vs Q E hr => F.run A outer s H args us vs Q E (hr.mono h)⟩
/-- a weaker promise -/
theorem FnOk.imp {P : Program} {w : World} {K : PySem.W.Frag} {mg : Str → Option Value} {base : Heap} {CX : CXT} {k : Nat} {f : Addr} {fd : FuncData} {ps : List Str} {sp sp' : Sp} (F : FnOk P w K mg base CX k f fd ps sp)
    (h : ∀ vs H Q E, sp' vs H Q E → sp vs H Q E) : FnOk P w K mg base CX k f fd ps sp' :=
  ⟨fun vs H Q E q => F.len vs H Q E (h _ _ _ _ q), fun A outer s H args us vs Q E hr he hb hv hs => F.run A outer s H args us vs Q E hr he hb hv (h _ _ _ _ hs)⟩

theorem Env0.make {P : Program} {w : World} {K : PySem.W.Frag} {mg : Str → Option Value} {base : Heap} {A : Around} {outer : List Env} {s : Shared} {H : Hp} (e : Env0 P w K mg base A outer s H) (C : Addr) (us : List Value) (kw : List (Str × Value)) :
    Env0 P w K mg base (A.under (.builtin "type.__call__" ⟨.ref C :: us, kw⟩)) outer s H := ⟨by first | exact e.frames | (simpa [Around.under, Code.envs, Code.isFrame, pushEnvs] using e.frames), e.mod, e.bs, e.bsz, e.funs, e.frf, e.hok, e.bare⟩
theorem Env0.in1 {P : Program} {w : World} {K : PySem.W.Frag} {mg : Str → Option Value} {base : Heap} {A : Around} {outer : List Env} {s : Shared} {H : Hp} (e : Env0 P w K mg base A outer s H) :
    Env0 P w K mg base A.in1 outer s H := ⟨e.frames, e.mod, e.bs, e.bsz, e.funs, e.frf, e.hok, e.bare⟩

section
variable {X : Cx} {pins : List (Addr × Obj)} {σ : St} {H : Hp} {s s' : Shared}
/-- from a body: what a callee wants -/
theorem Inv.env0 (I : Inv X pins σ H s) : Env0 X.prog X.w X.K X.mg X.base X.A X.stack s H :=
  ⟨I.ok.frames, I.ok.mod, I.bs, Nat.le_trans I.ok.bsz I.sz, I.stack, I.stkFree, I.hok, I.bare⟩
/-- behind a call -/
theorem Inv.after {Q : VK} {u : Value} (I : Inv X pins σ H s) (h : CE X.stack X.prog X.w H s Q u s') : EP X pins σ Q u s' := by
  obtain ⟨v, H', os, bare, un, hok, r, q⟩ := h
  obtain ⟨hh, g, d, t, os'⟩ := s'
  obtain rfl : os' = s.os := os
  exact ⟨v, H', I.call (h' := hh) (g' := g) (d' := d) (t' := t) (ch := []) un hok bare (fun b z => absurd z (by simp)), r, q⟩
end

/-! ### calls -/
/-- f(..): the written arguments, then the defaults dvs; E: what is wanted of an exception -/
def tCall (sp : Sp) (dvs : List V) (E : XK) (t : TA) : TE := fun σ H Q => t σ H fun vs H1 => sp (vs ++ dvs) H1 Q E
/-- o.m(..) of an instance of the class at C -/
def tMeth (C : Addr) (m : Str) (sp : Sp) (dvs : List V) (E : XK) (ta : TE) (t : TA) : TE := fun σ H Q => ta σ H fun x H1 => ∃ a dx fs, x = .ref a ∧ H1 a = some (.ins C dx fs) ∧ fs.lookup m = none ∧
  t σ H1 fun vs H2 => sp (x :: (vs ++ dvs)) H2 Q E
/-- C(..): a new instance and its dict, then __init__ -/
def tMake (C : Addr) (sp : Sp) (dvs : List V) (E : XK) (t : TA) : TE := fun σ H Q => t σ H fun vs H1 => ∀ x dx, H1 x = none → H1 dx = none → dx ≠ x →
  sp (.ref x :: (vs ++ dvs)) (upd (upd H1 dx (.own x)) x (.ins C dx [])) (fun v H2 => v = .non ∧ Q (.ref x) H2) E

/-- how the parameters are bound: us the positional arguments, kw the keywords' values by name, ds the defaults that fill up -/
def Binds (K : PySem.W.Frag) (fd : FuncData) (ps : List Str) (ds : List Value) : Prop :=
  ∀ (s : Shared) (us : List Value), K.In s.heap → (us ++ ds).length = ps.length → BindsTo s fd ⟨us, []⟩ (ps.zip (us ++ ds))
/-- every parameter is given -/
theorem Binds.all {K : PySem.W.Frag} {fd : FuncData} {ps : List Str} (h : ∀ us : List Value, us.length = ps.length → bindArgs fd ⟨us, []⟩ = pure (ps.zip us)) : Binds K fd ps [] := fun s us _ hl => by
  rw [List.append_nil] at hl ⊢
  exact .of_eq (h us hl)

/-- an exception of a callee reaches what this body wants of exceptions -/
def Passes (CX : CXT) (X : Cx) (E : XK) : Prop := ∀ (pins : List (Addr × Obj)) (σ : St) (H : Hp) (s : Shared) (e : Value) (s' : Shared), Inv X pins σ H s → CX X.stack H s E e s' → X.xe e s'

section
variable {X : Cx} {CX : CXT} {k : Nat} {f C : Addr} {fd : FuncData} {ps : List Str} {sp : Sp} {dvs : List V} {ds : List Value} {E : XK} {x m : Str} {p pos apos : Pos} {e o : Expr} {es : List Expr} {ta : TE} {t : TA}

/-- the callee runs -/
theorem run_fn {pins : List (Addr × Obj)} {σ : St} {H : Hp} {s : Shared} {Q : VK} {us : List Value} {vs : List V} (F : FnOk X.prog X.w X.K X.mg X.base CX k f fd ps sp) (hr : Room k X.A) (hb : Binds X.K fd ps ds) (hd : Vals dvs ds) (hx : Passes CX X E)
    (I : Inv X pins σ H s) (r : Vals vs us) (h : sp (vs ++ dvs) H Q E) : wpAny (model X.prog X.w) X.A (call (.ref f) us) (EP X pins σ Q) X.xe s := by
  have r2 : Vals (vs ++ dvs) (us ++ ds) := r.append hd
  have hl : (us ++ ds).length = ps.length := by rw [← r2.length]; exact F.len _ _ _ _ h
  refine wpAny_call (codeAny_mono (F.run X.A X.stack s H ⟨us, []⟩ (us ++ ds) (vs ++ dvs) Q E hr I.env0 (hb s us I.kIn hl) r2 h) fun r s' hq => ?_)
  cases r with
  | error e => exact hx pins σ H s e s' I hq
  | ok fl =>
    cases fl with
    | ret u => exact I.after hq
    | next => exact False.elim hq
    | brk => exact False.elim hq
    | cont => exact False.elim hq

theorem pe_call (F : FnOk X.prog X.w X.K X.mg X.base CX k f fd ps sp) (hr : Room k X.A) (hg : Gl X x) (hm : X.mg x = some (.ref f)) (hk : PySem.W.keepIn X.K (.ref f) = true) (hb : Binds X.K fd ps ds) (hd : Vals dvs ds) (hx : Passes CX X E)
    (ha : PA X (e :: es) t) (hdb : (x == ("__debug__" : Str)) = false := by decide) (he : starEach (e :: es) X.env = (false, eval e X.env) :: starEach es X.env := by rfl) (hpl : (backTo pos (starEach es X.env)).any (·.1) = false := by rfl) :
    PE X (.Call (.Name x p) (e :: es) [] pos) (tCall sp dvs E t) := by
  intro pins s σ H Q I h
  refine wpAny_Call_Name_kw (ld_glob I hg hm ?_ hdb)
  refine PySem.W.callWith_K (h₀ := X.base) I.ok.mod.kin hk (thn (ha pos pins s σ H _ I h) fun us s1 ⟨vs, H1, I1, r, q⟩ => ⟨I1.kIn, ?_⟩) he hpl
  exact run_fn F hr hb hd hx I1 r q
/-- o.m(e, ..) -/
theorem pe_meth {pl : Sem Bool} (he : PE X o ta) (c : Cls X.K C) (hm : Meth X.K C m f) (F : FnOk X.prog X.w X.K X.mg X.base CX k f fd ps sp) (hr : Room k X.A) (hb : Binds X.K fd ps ds) (hd : Vals dvs ds) (hx : Passes CX X E) (ha : PA X (e :: es) t)
    (hst : starEach (e :: es) X.env = (false, eval e X.env) :: starEach es X.env := by rfl) (hpl : (backTo pos (starEach es X.env)).any (·.1) = false := by rfl)
    (ht : eval (.Call (.Attribute o m apos) (e :: es) [] pos) X.env = (do
      let ov ← eval o X.env
      standAt apos.atName
      let (f, first) ← holding [ov] (getMethod ov m pl)
      callWith pos f first (backTo pos (starEach (e :: es) X.env)) (backToKw pos (keywordEach [] X.env))) := by rfl) :
    PE X (.Call (.Attribute o m apos) (e :: es) [] pos) (tMeth C m sp dvs E ta t) := by
  intro pins s σ H Q I h
  refine PySem.W.methodCall_KW (pl := pl) (thn (he pins s σ H _ I h) fun u s1 ⟨x, H1, I1, rx, a, dx, fs, ex, ea, l, q⟩ => ?_) ht
  subst ex
  obtain rfl : u = Value.ref a := rx
  refine getmeth_ok I1 ea c hm l ?_
  refine PySem.W.callWith_K (first := [.ref a]) (h₀ := X.base) I.ok.mod.kin hm.kp (thn (ha pos pins s1 σ H1 _ I1 q) fun us s2 ⟨vs, H2, I2, r, q2⟩ => ⟨I2.kIn, ?_⟩) hst hpl
  exact run_fn (us := .ref a :: us) (vs := .ref a :: vs) F hr hb hd hx I2 (.cons rfl r) q2
/-- o.m() -/
theorem pe_meth0 {pl : Sem Bool} (he : PE X o ta) (c : Cls X.K C) (hm : Meth X.K C m f) (F : FnOk X.prog X.w X.K X.mg X.base CX k f fd ps sp) (hr : Room k X.A) (hb : Binds X.K fd ps ds) (hd : Vals dvs ds) (hx : Passes CX X E)
    (ht : eval (.Call (.Attribute o m apos) [] [] pos) X.env = (do
      let ov ← eval o X.env
      standAt apos.atName
      let (f, first) ← holding [ov] (getMethod ov m pl)
      callWith pos f first (backTo pos (starEach [] X.env)) (backToKw pos (keywordEach [] X.env))) := by rfl) :
    PE X (.Call (.Attribute o m apos) [] [] pos) (tMeth C m sp dvs E ta tNil) := by
  intro pins s σ H Q I h
  refine PySem.W.methodCall_KW (pl := pl) (thn (he pins s σ H _ I h) fun u s1 ⟨x, H1, I1, rx, a, dx, fs, ex, ea, l, q⟩ => ?_) ht
  subst ex
  obtain rfl : u = Value.ref a := rx
  refine getmeth_ok I1 ea c hm l ?_
  exact PySem.W.callWith_K0 (first := [.ref a]) I1.kIn hm.kp (run_fn (us := [.ref a]) (vs := [.ref a]) F hr hb hd hx I1 (.cons rfl .nil) q)

/-- what a class must have to be made -/
structure Mk (K : PySem.W.Frag) (C f : Addr) : Prop where
  makes : PySem.W.makesIn K C = true
  init : PySem.W.findIn K (.ref C) "__init__" = some (some (.ref f))
  fn : PySem.W.isFn K (.ref f) = true
  kp : PySem.W.keepIn K (.ref C) = true

theorem run_make {pins : List (Addr × Obj)} {σ : St} {H : Hp} {s : Shared} {Q : VK} {us : List Value} {vs : List V} (M : Mk X.K C f) (F : FnOk X.prog X.w X.K X.mg X.base CX k f fd ps sp) (hr : Room (k + 1) X.A) (hb : Binds X.K fd ps ds) (hd : Vals dvs ds)
    (hx : Passes CX X E) (I : Inv X pins σ H s) (r : Vals vs us)
    (h : ∀ x dx, H x = none → H dx = none → dx ≠ x → sp (.ref x :: (vs ++ dvs)) (upd (upd H dx (.own x)) x (.ins C dx [])) (fun v H2 => v = .non ∧ Q (.ref x) H2) E) :
    wpAny (model X.prog X.w) X.A (call (.ref C) us) (EP X pins σ Q) X.xe s := by
  have hq := h (s.heap.objs.size + 1) s.heap.objs.size (I.hok.fresh (Nat.le_succ _)) (I.hok.fresh (Nat.le_refl _)) (Nat.ne_of_lt (Nat.lt_succ_self _))
  have I2 := Inv.made (C := C) I
  have r2 : Vals (V.ref (s.heap.objs.size + 1) :: (vs ++ dvs)) (Value.ref (s.heap.objs.size + 1) :: (us ++ ds)) := .cons rfl (r.append hd)
  have hl : (Value.ref (s.heap.objs.size + 1) :: us ++ ds).length = ps.length := by
    have e := r2.length
    rw [F.len _ _ _ _ hq] at e
    exact e.symm
  refine wpAny_call (make_map (f := f) I.kIn M.makes M.init (beq_iff_eq.mp M.fn) (codeAny_mono (F.run _ X.stack _ _ ⟨Value.ref (s.heap.objs.size + 1) :: us, []⟩ (Value.ref (s.heap.objs.size + 1) :: (us ++ ds)) _ _ E (hr.make C us [])
    (I2.env0.make C us []) (hb _ (Value.ref (s.heap.objs.size + 1) :: us) I2.kIn hl) r2 hq) fun r s' hq' => ?_))
  cases r with
  | error e => exact hx pins σ _ _ e s' I2 hq'
  | ok fl =>
    cases fl with
    | ret u =>
      obtain ⟨v, H', I3, rv, ev, q3⟩ := I2.after hq'
      subst ev
      exact ⟨rv, ⟨V.ref (s.heap.objs.size + 1), H', I3, rfl, q3⟩⟩
    | next => exact False.elim hq'
    | brk => exact False.elim hq'
    | cont => exact False.elim hq'
theorem pe_make (M : Mk X.K C f) (F : FnOk X.prog X.w X.K X.mg X.base CX k f fd ps sp) (hr : Room (k + 1) X.A) (hg : Gl X x) (hm : X.mg x = some (.ref C)) (hb : Binds X.K fd ps ds) (hd : Vals dvs ds) (hx : Passes CX X E)
    (ha : PA X (e :: es) t) (hdb : (x == ("__debug__" : Str)) = false := by decide) (he : starEach (e :: es) X.env = (false, eval e X.env) :: starEach es X.env := by rfl) (hpl : (backTo pos (starEach es X.env)).any (·.1) = false := by rfl) :
    PE X (.Call (.Name x p) (e :: es) [] pos) (tMake C sp dvs E t) := by
  intro pins s σ H Q I h
  refine wpAny_Call_Name_kw (ld_glob I hg hm ?_ hdb)
  refine PySem.W.callWith_K (h₀ := X.base) I.ok.mod.kin M.kp (thn (ha pos pins s σ H _ I h) fun us s1 ⟨vs, H1, I1, r, q⟩ => ⟨I1.kIn, ?_⟩) he hpl
  exact run_make M F hr hb hd hx I1 r q
theorem pe_make0 (M : Mk X.K C f) (F : FnOk X.prog X.w X.K X.mg X.base CX k f fd ps sp) (hr : Room (k + 1) X.A) (hg : Gl X x) (hm : X.mg x = some (.ref C)) (hb : Binds X.K fd ps ds) (hd : Vals dvs ds) (hx : Passes CX X E)
    (hdb : (x == ("__debug__" : Str)) = false := by decide) : PE X (.Call (.Name x p) [] [] pos) (tMake C sp dvs E tNil) := by
  intro pins s σ H Q I h
  refine wpAny_Call_Name_kw (ld_glob I hg hm ?_ hdb)
  exact PySem.W.callWith_K0 I.kIn M.kp (run_make (us := []) M F hr hb hd hx I .nil h)
end

/-! ### keywords -/
section
variable {X : Cx} {CX : CXT} {k : Nat} {f C : Addr} {fd : FuncData} {ps ks : List Str} {sp : Sp} {E : XK} {x m : Str} {p pos apos kpos : Pos} {e o : Expr} {es : List Expr} {kws : List Keyword} {te ta : TE} {t tk : TA} {nm : Option Str}
/-- how a call with keywords binds: g puts the positional values us and the keywords' values ws (names ks) in the parameters' order, defaults among them -/
structure KBinds (K : PySem.W.Frag) (fd : FuncData) (ps ks : List Str) (g : List Value → List Value → List Value) (gV : List V → List V → List V) : Prop where
  to : ∀ (s : Shared) (us ws : List Value), K.In s.heap → (g us ws).length = ps.length → BindsTo s fd ⟨us, ks.zip ws⟩ (ps.zip (g us ws))
  rel : ∀ {vs : List V} {us : List Value} {zs : List V} {ws : List Value}, Vals vs us → Vals zs ws → Vals (gV vs zs) (g us ws)
variable {g : List Value → List Value → List Value} {gV : List V → List V → List V}
end

/-! ### a def's body keeps its promise -/
/-- names: the parameters first -/
structure FnScope (N P : List Str) (sc : Scope) : Prop where
  kind : sc.kind = .function
  co : sc.isCoroutine = false
  gen : sc.isGenerator = false
  nd : N.Nodup
  pre : N.take P.length = P
  par : ∀ x ∈ P, sc.names.lookup x = some .local ∨ sc.names.lookup x = some .cell
  nofree : ∀ y ∈ sc.names, y.2 ≠ .free

theorem bindL_out {kindOf : Str → Option NameKind} {x : Str} : ∀ {binds : List (Str × Value)} {m : Str → Option Value}, (∀ v, (x, v) ∉ binds) → bindL kindOf binds m x = m x
  | [], _, _ => rfl
  | (n, v) :: r, m, h => by
    unfold bindL
    rw [bindL_out fun w hw => h w (List.mem_cons_of_mem _ hw)]
    split
    · have : x ≠ n := by rintro rfl; exact h v List.mem_cons_self
      simp [this]
    · rfl
theorem bindC_out {kindOf : Str → Option NameKind} {x : Str} : ∀ {binds : List (Str × Value)} {m : Str → Option Value}, (∀ v, (x, v) ∉ binds) → bindC kindOf binds m x = m x
  | [], _, _ => rfl
  | (n, v) :: r, m, h => by
    unfold bindC
    rw [bindC_out fun w hw => h w (List.mem_cons_of_mem _ hw)]
    split
    · rfl
    · have : x ≠ n := by rintro rfl; exact h v List.mem_cons_self
      simp [this]
theorem bindL_get {kindOf : Str → Option NameKind} {x : Str} {v : Value} : ∀ {P : List Str} {vs : List Value} {i : Nat} {m : Str → Option Value}, P.Nodup → P[i]? = some x → vs[i]? = some v → kindOf x = some .local →
    bindL kindOf (P.zip vs) m x = some v
  | [], _, _, _, _, h, _, _ => by simp at h
  | _ :: _, [], _, _, _, _, h, _ => by simp at h
  | p :: P, w :: vs, 0, m, nd, h1, h2, hk => by
    simp at h1 h2; subst h1; subst h2
    show bindL kindOf ((p, w) :: P.zip vs) m p = _
    unfold bindL
    rw [bindL_out fun v hv => (List.nodup_cons.mp nd).1 (List.of_mem_zip hv).1, if_pos hk]
    simp
  | p :: P, w :: vs, i + 1, m, nd, h1, h2, hk => by
    show bindL kindOf ((p, w) :: P.zip vs) m x = _
    unfold bindL
    exact bindL_get (i := i) (List.nodup_cons.mp nd).2 (by simpa using h1) (by simpa using h2) hk
theorem bindC_get {kindOf : Str → Option NameKind} {x : Str} {v : Value} : ∀ {P : List Str} {vs : List Value} {i : Nat} {m : Str → Option Value}, P.Nodup → P[i]? = some x → vs[i]? = some v → kindOf x ≠ some .local →
    bindC kindOf (P.zip vs) m x = some v
  | [], _, _, _, _, h, _, _ => by simp at h
  | _ :: _, [], _, _, _, _, h, _ => by simp at h
  | p :: P, w :: vs, 0, m, nd, h1, h2, hk => by
    simp at h1 h2; subst h1; subst h2
    show bindC kindOf ((p, w) :: P.zip vs) m p = _
    unfold bindC
    rw [bindC_out fun v hv => (List.nodup_cons.mp nd).1 (List.of_mem_zip hv).1, if_neg hk]
    simp
  | p :: P, w :: vs, i + 1, m, nd, h1, h2, hk => by
    show bindC kindOf ((p, w) :: P.zip vs) m x = _
    unfold bindC
    exact bindC_get (i := i) (List.nodup_cons.mp nd).2 (by simpa using h1) (by simpa using h2) hk

/-- the names' values at the entry -/
def start (N : List Str) (vs : List V) : St := vs.map some ++ List.replicate (N.length - vs.length) none

/-- the context of a def's body, at its entry; an exception leaves the frame, then lies as CX says -/
def cxOf (CX : CXT) (P : Program) (w : World) (K : PySem.W.Frag) (mg : Str → Option Value) (base : Heap) (N : List Str) (qual : Str) (scope : Scope) (f : Addr) (cd : Value) (A : Around) (outer : List Env) (s : Shared) (H : Hp) (E : XK) : Cx where
  prog := P
  w := w
  K := K
  mg := mg
  base := base
  A := A.deeper (envOfC qual scope s.heap.objs.size f cd)
  N := N
  s_0 := s
  H_0 := H
  env := envOfC qual scope s.heap.objs.size f cd
  outer := outer
  stack := envOfC qual scope s.heap.objs.size f cd :: outer
  ex := []
  calm := true
  fn := fun _ => true
  pn := []
  xe := fun e s' => wpAny (model P w) (A.deeper (envOfC qual scope s.heap.objs.size f cd)) (leaving (envOfC qual scope s.heap.objs.size f cd) e) (fun _ s'' => CX outer H s E e s'') (fun e' s'' => CX outer H s E e' s'') s'

theorem cell_has {sc : Scope} {n : Nat} {x : Str} (h : sc.names.lookup x = some .cell) : ∃ c, (cellsFrom n sc.names []).lookup x = some c := by
  have q := PySem.W.cellsFrom_some sc.names n [] (.inl h)
  exact Option.isSome_iff_exists.mp q

theorem inv_start {CX : CXT} {P : Program} {w : World} {K : PySem.W.Frag} {mg : Str → Option Value} {base : Heap} {N ps : List Str} {qual : Str} {scope : Scope} {f : Addr} {cd : Value} {A : Around} {outer : List Env} {s s1 : Shared} {H : Hp} {E : XK} {us : List Value} {vs : List V}
    (S : FnScope N ps scope) (hd : A.handled = none) (e0 : Env0 P w K mg base A outer s H) (hl : vs.length = ps.length) (r : Vals vs us)
    (x : InCallC s s.heap.objs.size (bindL (envOfC qual scope s.heap.objs.size f cd).kindOf (ps.zip us) fun _ => none) (cellsFrom (s.heap.objs.size + 1) scope.names []) (bindC (envOfC qual scope s.heap.objs.size f cd).kindOf (ps.zip us) fun _ => none) s1) :
    Inv (cxOf CX P w K mg base N qual scope f cd A outer s H E) [] (start N vs) H s1 := by
  have hpl : ps.length ≤ N.length := by have := congrArg List.length S.pre; rw [List.length_take] at this; omega
  obtain ⟨h1, tk, rfl, hk⟩ := x.done
  have noA : ∀ b : Addr, b ∉ (cxOf CX P w K mg base N qual scope f cd A outer s H E).ex := fun b z => absurd (show b ∈ ([] : List Addr) from z) (by simp)
  refine ⟨⟨e0.mod, S.kind, rfl, rfl, Nat.le_refl _, fun y z c h1 h2 => ?_, fun y hy => ?_, fun y c _ h => ?_, fun _ => hd, Around.frames_deeper e0.frames, .inr ⟨rfl, rfl⟩, fun b z => absurd z (noA b), e0.bs, e0.bsz, fun b _ _ => noA b, fun b z => absurd z (noA b), e0.funs, e0.frf⟩,
    rfl, e0.bare, Un.kept hk, ⟨_, x.toInCall.ns, fun i y v h1 h2 h3 => ?_⟩, fun y c h => ⟨_, x.cell y c h⟩, e0.hok.fresh (Nat.le_refl _), fun y c h => ?_, fun p hp => absurd (show p ∈ ([] : List (Addr × Obj)) from hp) (by simp), e0.hok.kept hk, ?_⟩
  · exact name_of_addr x.apart (PySem.mem_of_lookup h1) (PySem.mem_of_lookup h2)
  · have hy : scope.names.lookup y = some .cell ∨ scope.names.lookup y = some .free := hy
    rcases hy with hy | hy
    · exact cell_has hy
    · exact absurd rfl (S.nofree _ (PySem.mem_of_lookup hy))
  · exact Nat.le_of_lt (x.above y c (PySem.mem_of_lookup h))
  · have hi : i < vs.length := by
      unfold start at h2
      by_cases hi : i < vs.length
      · exact hi
      · rw [List.getElem?_append_right (by simpa using hi)] at h2
        rw [List.getElem?_replicate] at h2
        split at h2 <;> cases h2
    have ha : vs[i]? = some v := by
      unfold start at h2
      rw [List.getElem?_append_left (by simpa using hi), List.getElem?_map] at h2
      cases e : vs[i]? with
      | none => rw [e] at h2; cases h2
      | some a => rw [e] at h2; cases h2; rfl
    obtain ⟨u, hu, rv⟩ := r.get ha
    have hp : ps[i]? = some y := by
      rw [← S.pre, List.getElem?_take_of_lt (by omega)]; exact h1
    have ndP : ps.Nodup := by rw [← S.pre]; exact S.nd.sublist (List.take_sublist _ _)
    refine ⟨u, rv, ?_⟩
    rcases S.par y (List.mem_of_getElem? hp) with k | k
    · exact .inl ⟨k, bindL_get ndP hp hu k⟩
    · obtain ⟨c, e⟩ := cell_has (n := s.heap.objs.size + 1) k
      refine .inr ⟨.inl k, c, e, ?_⟩
      have q := x.cell y c e
      rw [bindC_get ndP hp hu (by show scope.names.lookup y ≠ _; rw [k]; decide)] at q
      exact q
  · exact e0.hok.fresh (Nat.le_of_lt (x.above y c (PySem.mem_of_lookup h)))
  · unfold start
    show _ = N.length
    rw [List.length_append, List.length_map, List.length_replicate]
    omega

/-- THE RULE: a def (or a method) of the text, by its body. The body's reading t is chosen for each entry; it is run at the parameters' values -/
theorem fn_of {CX : CXT} {P : Program} {w : World} {K : PySem.W.Frag} {mg : Str → Option Value} {base : Heap} {k : Nat} {f : Addr} {name qual : Str} {params : Arguments} {body : List Stmt} {scope : Scope} {dV kV doc pm cdv ct oc : Value} {an od : Option Addr}
    {osl : Array (Option Value)} {N ps : List Str} {sp : Sp} (lk : K.lookup f = some ⟨oc, od, .func (PySem.W.fnOf name qual params body scope dV kV doc pm an cdv ct), osl⟩) (hcd : PySem.W.codeIn K cdv qual = true) (S : FnScope N ps scope)
    (len : ∀ vs H Q E, sp vs H Q E → vs.length = ps.length)
    (hbody : ∀ (A : Around) (outer : List Env) (s : Shared) (H : Hp) (vs : List V) (Q : VK) (E : XK), Room k (A.deeper (envOfC qual scope s.heap.objs.size f cdv)) → sp vs H Q E →
      ∃ t, PSs (cxOf CX P w K mg base N qual scope f cdv A outer s H E) body t ∧ t { nx := fun _ H' => Q .non H', rt := Q } (start N vs) H) :
    FnOk P w K mg base CX (k + 1) f (PySem.W.fnOf name qual params body scope dV kV doc pm an cdv ct) ps sp := by
  refine ⟨len, fun A outer s H args us vs Q E hr e0 hb r hsp => ?_⟩
  have hl := len _ _ _ _ hsp
  have KX : K.In s.heap := e0.mod.kin.keeps fun b o e => (e0.bs b o e).1
  have lim : s.heap.NoLimit := e0.mod.nolimit.keeps fun b o e => (e0.bs b o e).1
  have hkind : ∀ y ∈ ps.zip us, scope.names.lookup y.1 = some .local ∨ (scope.names.lookup y.1 = some .cell ∧ ((cellsFrom (s.heap.objs.size + 1) scope.names []).lookup y.1).isSome = true) := fun ⟨n, v⟩ hy => by
    rcases S.par n (List.of_mem_zip hy).1 with q | q
    · exact .inl q
    · exact .inr ⟨q, PySem.W.cellsFrom_some _ _ _ (.inl q)⟩
  refine codeAny_call_function hr.depth (KX _ _ lk) rfl S.co S.gen rfl (PySem.W.codeRec_of KX hcd) (hb _ _ _ _ ?_)
  refine wpAny_newFunctionEnv_cells S.kind hkind fun env he s1 x => ?_
  subst he
  refine ⟨lim.keeps x.toInCall.keep, codeAny_func ?_⟩
  obtain ⟨t, ht, hq⟩ := hbody A outer s H vs Q E (hr.deeper _) hsp
  have I : Inv (cxOf CX P w K mg base N qual scope f cdv A outer s H E) [] (start N vs) H s1 := inv_start S hr.hd e0 hl r x
  refine wpAny_mono (ht [] s1 (start N vs) H _ I hq) (fun fl s' hs => ?_) fun e s' hs => hs
  have fin : ∀ {σ' : St} {H' : Hp} {v : V} {u : Value}, Inv (cxOf CX P w K mg base N qual scope f cdv A outer s H E) [] σ' H' s' → RelV v u → Q v H' → CE outer P w H s Q u s' :=
    fun {σ' H' v u} J rv q => ⟨v, H', J.os, J.bare, J.base, J.hok, rv, q⟩
  cases fl with
  | ret u =>
    obtain ⟨v, σ', H', J, rv, q⟩ := hs
    exact fin J rv q
  | next =>
    obtain ⟨σ', H', J, q⟩ := hs
    exact fin (v := V.non) (u := Value.none) J rfl q
  | brk =>
    obtain ⟨_, _, _, q⟩ := hs
    exact False.elim q
  | cont =>
    obtain ⟨_, _, _, q⟩ := hs
    exact False.elim q
end L2

namespace L2
open PySem PySem.Spec PyProof.Rows
section
variable {X : Cx} {x : Str} {p pos : Pos} {e : Expr} {es : List Expr} {t : TA} {id T : String} {r : List V → Hp → VK → Prop}

def tCB (r : List V → Hp → VK → Prop) (t : TA) : TE := fun σ H Q => t σ H fun vs H1 => r vs H1 Q
/-- f(e, ..), f a built-in function -/
theorem pe_callB (hc : CallR X (.builtin id) r) (hg : Gl X x) (hm : X.mg x = none) (hv : bootBuiltins x = some (.builtin id)) (ha : PA X (e :: es) t) (hn : x ≠ "__name__" := by decide) (hdb : (x == ("__debug__" : Str)) = false := by decide)
    (he : starEach (e :: es) X.env = (false, eval e X.env) :: starEach es X.env := by rfl) (hpl : (backTo pos (starEach es X.env)).any (·.1) = false := by rfl) : PE X (.Call (.Name x p) (e :: es) [] pos) (tCB r t) := by
  intro pins s σ H Q I h
  refine wpAny_Call_Name_kw (ld_blt I hg hm hv ?_ hn hdb)
  exact PyProof.Rows.callWith_builtin1 (thn (ha pos pins s σ H _ I h) fun us s1 ⟨vs, H1, I1, r1, q1⟩ => hc pins s1 σ H1 vs us Q I1 r1 q1) he hpl
/-- T(e, ..), T a built-in type -/
theorem pe_callTy (hc : CallR X (.type T) r) (hg : Gl X x) (hm : X.mg x = none) (hv : bootBuiltins x = some (.type T)) (ha : PA X (e :: es) t) (hn : x ≠ "__name__" := by decide) (hdb : (x == ("__debug__" : Str)) = false := by decide)
    (he : starEach (e :: es) X.env = (false, eval e X.env) :: starEach es X.env := by rfl) (hpl : (backTo pos (starEach es X.env)).any (·.1) = false := by rfl) : PE X (.Call (.Name x p) (e :: es) [] pos) (tCB r t) := by
  intro pins s σ H Q I h
  refine wpAny_Call_Name_kw (ld_blt I hg hm hv ?_ hn hdb)
  exact PyProof.Rows.callWith_type1 (thn (ha pos pins s σ H _ I h) fun us s1 ⟨vs, H1, I1, r1, q1⟩ => hc pins s1 σ H1 vs us Q I1 r1 q1) he hpl
end
end L2

namespace HT
open PySem PyProof.Rows

section
open PySem.SeqAt
open PySem.AutoSeq1 (wpAny_loadPart')
open PySem.MeetsSeq PySem.MeetsSeq2 PySem.MeetsSeq3

end

section
variable {prog : Program} {w : World} {A : Around} {E : Value → Shared → Prop} {s : Shared}

/-! ### t[a:b], not the whole -/
/-- a slice's bound as a place among n (d where it is left out) -/
def sIx (n d : Nat) : Option Int → Nat
  | none => d
  | some v => if v < 0 then (v + (n : Int)).toNat else min v.toNat n
theorem sIx_none (n d : Nat) : sIx n d none = d := rfl
theorem sIx_nat (n d k : Nat) : sIx n d (some (k : Int)) = min k n := by
  show (if (k : Int) < 0 then ((k : Int) + (n : Int)).toNat else min (k : Int).toNat n) = min k n
  rw [if_neg (by omega), Int.toNat_natCast]
end
end HT

namespace L2
open PySem PySem.Spec PyProof.Rows

/-! ### the parts of a slice -/
abbrev TO := St → Hp → (Option Int → Hp → Prop) → Prop
/-- a slice's part (left out, or an int) -/
def PO (X : Cx) (e : Option Expr) (t : TO) : Prop :=
  ∀ (pins : List (Addr × Obj)) (s : Shared) (σ : St) (H : Hp) (Q : Option Int → Hp → Prop), Inv X pins σ H s → t σ H Q →
    wpAny (model X.prog X.w) X.A (evalPart e X.env) (fun u s' => ∃ o H', Inv X pins σ H' s' ∧ IsPart u o ∧ Q o H') X.xe s
def tNoPart : TO := fun _ H Q => Q none H
def tPart (t : TE) : TO := fun σ H Q => t σ H fun x H1 => ∃ i, x = .int i ∧ Q (some i) H1

section
variable {X : Cx} {e : Expr} {te : TE} {lo hi : Option Expr} {tl th : TO} {pos p2 : Pos}

theorem po_none : PO X none tNoPart := by
  intro pins s σ H Q I h
  rw [evalPart_none]
  exact wpAny_pure ⟨none, H, I, .none, h⟩
theorem po_some (h : PE X e te) : PO X (some e) (tPart te) := by
  intro pins s σ H Q I hw
  rw [evalPart_some]
  refine thn (h pins s σ H _ I hw) fun u s1 ⟨x, H1, I1, r1, q1⟩ => ?_
  obtain ⟨i, rfl, q⟩ := q1
  obtain ⟨t, rfl⟩ := r1
  exact ⟨some i, H1, I1, .int i t, q⟩

/-- what a slice of a value is, by values: the slice object stands at sl -/
def SlR (X : Cx) (r : V → Option Int → Option Int → Hp → VK → Prop) : Prop :=
  ∀ (pins : List (Addr × Obj)) (s : Shared) (σ : St) (H : Hp) (x : V) (v vl vu : Value) (lo hi : Option Int) (sl : Addr) (Q : VK), Inv X pins σ H s → RelV x v → s.heap.IsSliceOf sl vl vu .none → IsPart vl lo → IsPart vu hi → r x lo hi H Q →
    ∃ T id, typeLookup (.type T) "__getitem__" = pure (some (.builtin id)) ∧ s.TypeIs v T ∧ wpAny (model X.prog X.w) X.A (getItem v (.ref sl)) (EP X pins σ Q) X.xe s
theorem SlR.or {r r' : V → Option Int → Option Int → Hp → VK → Prop} (h : SlR X r) (h' : SlR X r') : SlR X (fun x lo hi H Q => r x lo hi H Q ∨ r' x lo hi H Q) := by
  intro pins s σ H x v vl vu lo hi sl Q I rx hs pl pu q
  rcases q with q | q
  · exact h pins s σ H x v vl vu lo hi sl Q I rx hs pl pu q
  · exact h' pins s σ H x v vl vu lo hi sl Q I rx hs pl pu q
def tSl (r : V → Option Int → Option Int → Hp → VK → Prop) (te : TE) (tl th : TO) : TE := fun σ H Q => te σ H fun x H1 => tl σ H1 fun l H2 => th σ H2 fun u H3 => r x l u H3 Q
/-- a[lo:hi], any a -/
theorem pe_slice {r : V → Option Int → Option Int → Hp → VK → Prop} (hr : SlR X r) (he : PE X e te) (hl : PO X lo tl) (hu : PO X hi th) : PE X (.Subscript e (.Slice lo hi none p2) pos) (tSl r te tl th) := by
  intro pins s σ H Q I h
  refine Subscript_ (thn (he pins s σ H _ I h) fun v s1 ⟨x, H1, I1, r1, q1⟩ => ?_)
  refine wpAny_Slice (thn (hl pins s1 σ H1 _ I1 q1) fun vl s2 ⟨l, H2, I2, pl, q2⟩ => thn (hu pins s2 σ H2 _ I2 q2) fun vu s3 ⟨u, H3, I3, pu, q3⟩ => ?_)
  rw [evalPart_none]
  refine wpAny_pure ?_
  have I4 : Inv X pins σ H3 { s3 with heap := s3.heap.push { cls := .type "slice", data := .fields #[vl, vu, .none] } } := I3.kept (t' := s3.toks) fun b ob q => Heap.get?_push_of_some _ q
  obtain ⟨T, id, hT, ht, hg⟩ := hr pins { s3 with heap := s3.heap.push { cls := .type "slice", data := .fields #[vl, vu, .none] } } σ H3 x v vl vu l u s3.heap.objs.size Q I4 r1 (Heap.IsSliceOf.new ..) pl pu q3
  show wpAny (model X.prog X.w) X.A (subscriptTail e (.Slice lo hi none p2) v (.ref s3.heap.objs.size)) (EP X pins σ Q) X.xe { s3 with heap := s3.heap.push { cls := .type "slice", data := .fields #[vl, vu, .none] } }
  exact tail_any (ops := [.ref s3.heap.objs.size, v]) ht hT hg (by with_unfolding_all rfl)

/-- the items of xs[lo:hi] -/
def cutV (xs : List V) (lo hi : Option Int) : List V := (xs.drop (HT.sIx xs.length 0 lo)).take (HT.sIx xs.length xs.length hi - HT.sIx xs.length 0 lo)
theorem cutV_length (xs : List V) (lo hi : Option Int) : (cutV xs lo hi).length ≤ xs.length := by
  unfold cutV
  rw [List.length_take, List.length_drop]
  omega
/-! ### t < u, t + u -/
theorem Vals.nil_iff {xs : List V} {us : List Value} (r : Vals xs us) : us = [] ↔ xs = [] := by
  cases r with
  | nil => simp
  | cons _ _ => simp
end
end L2

namespace L2
open PySem PySem.Spec PyProof.Rows

/-! ### places -/
/-- the place that an index of any sign means -/
def ixN (n : Nat) (i : Int) : Option Nat := if 0 ≤ i then (if i < n then some i.toNat else none) else if -(n : Int) ≤ i then some (i + n).toNat else none
def atI {α : Type} (xs : List α) (i : Int) : Option α := (ixN xs.length i).bind fun j => xs[j]?
theorem ixN_seq {n : Nat} {i : Int} {j : Nat} (h : ixN n i = some j) : seqIndex? i n = some j ∧ j < n ∧ -(n : Int) ≤ i ∧ i < n := by
  unfold ixN at h
  by_cases h0 : 0 ≤ i
  · rw [if_pos h0] at h
    by_cases h1 : i < n
    · rw [if_pos h1] at h
      have e : i.toNat = j := Option.some.inj h
      exact ⟨by rw [seqIndex_of h0 h1, e], by omega, by omega, h1⟩
    · rw [if_neg h1] at h; cases h
  · rw [if_neg h0] at h
    by_cases h1 : -(n : Int) ≤ i
    · rw [if_pos h1] at h
      have e : (i + n).toNat = j := Option.some.inj h
      exact ⟨by rw [seqIndex_neg (by omega) h1, e], by omega, h1, by omega⟩
    · rw [if_neg h1] at h; cases h
theorem atI_get {α : Type} {xs : List α} {i : Int} {v : α} (h : atI xs i = some v) : ∃ j, seqIndex? i xs.length = some j ∧ xs[j]? = some v ∧ j < xs.length ∧ -(xs.length : Int) ≤ i ∧ i < xs.length := by
  unfold atI at h
  cases e : ixN xs.length i with
  | none => rw [e] at h; cases h
  | some j =>
    rw [e] at h
    obtain ⟨h1, h2, h3, h4⟩ := ixN_seq e
    exact ⟨j, h1, h, h2, h3, h4⟩
theorem atI_nat {α : Type} {xs : List α} {j : Nat} {v : α} (h : xs[j]? = some v) : atI xs (j : Int) = some v := by
  have hj : j < xs.length := (List.getElem?_eq_some_iff.mp h).1
  have e : ixN xs.length (j : Int) = some j := by
    unfold ixN
    rw [if_pos (by omega), if_pos (by omega)]; simp
  unfold atI; rw [e]; exact h
/-! ### what may be subscripted -/
/-- what stands as an index of a plain subscript -/
def PlainIx (b : Expr) : Prop := ∀ o i, subscripted b false o i = operate [o, i] (getItem o i)
/-- a subscript by values -/
def IxR (X : Cx) (r : R2) : Prop :=
  ∀ (value slice : Expr) (pins : List (Addr × Obj)) (s : Shared) (σ : St) (H : Hp) (x y : V) (v u : Value) (Q : VK), Inv X pins σ H s → RelV x v → RelV y u → r x y H Q →
    subscripted slice false v u = operate [v, u] (getItem v u) → wpAny (model X.prog X.w) X.A (subscriptTail value slice v u) (EP X pins σ Q) X.xe s
/-- a call of a builtin's method by values: the receiver, the arguments -/
def MtR (X : Cx) (id : String) (r : V → List V → Hp → VK → Prop) : Prop :=
  ∀ (pins : List (Addr × Obj)) (s : Shared) (σ : St) (H : Hp) (x : V) (xs : List V) (v : Value) (us : List Value) (Q : VK), Inv X pins σ H s → RelV x v → Vals xs us → r x xs H Q →
    wpAny (model X.prog X.w) X.A (call (.builtin id) (v :: us)) (EP X pins σ Q) X.xe s
section
variable {X : Cx} {a b : Expr} {ta tb : TE} {pos : Pos}
theorem IxR.or {r r' : R2} (h : IxR X r) (h' : IxR X r') : IxR X (fun x y H Q => r x y H Q ∨ r' x y H Q) := by
  intro value slice pins s σ H x y v u Q I rx ry q hs
  rcases q with q | q
  · exact h value slice pins s σ H x y v u Q I rx ry q hs
  · exact h' value slice pins s σ H x y v u Q I rx ry q hs
theorem MtR.or {id : String} {r r' : V → List V → Hp → VK → Prop} (h : MtR X id r) (h' : MtR X id r') : MtR X id (fun x xs H Q => r x xs H Q ∨ r' x xs H Q) := by
  intro pins s σ H x xs v us Q I rx rs q
  rcases q with q | q
  · exact h pins s σ H x xs v us Q I rx rs q
  · exact h' pins s σ H x xs v us Q I rx rs q
/-- a[b] -/
theorem pe_ix {r : R2} (hr : IxR X r) (ha : PE X a ta) (hb : PE X b tb) (hs : PlainIx b) : PE X (.Subscript a b pos) (tOp r ta tb) := by
  intro pins s σ H Q I h
  exact Subscript_ (binT ha hb I h fun v u s2 x y H2 I2 rx ry q => hr a b pins s2 σ H2 x y v u Q I2 rx ry q (hs _ _))

def rIxL (K : PySem.W.Frag) : R2 := fun x y H Q => ∃ p xs i v, x = .ref p ∧ y = .int i ∧ SqL K H p xs ∧ atI xs i = some v ∧ Q v H
theorem ix_list : IxR X (rIxL X.K) := by
  intro value slice pins s σ H x y v u Q I rx ry h hs
  obtain ⟨p, xs, i, z, rfl, rfl, hq, he, q⟩ := h
  cases rx
  obtain ⟨t, rfl⟩ := ry
  obtain ⟨its, r, pl, hz⟩ := I.list hq
  obtain ⟨j, h1, h2, h3, h4, h5⟩ := atI_get he
  obtain ⟨w, ew, rw'⟩ := r.get h2
  have hl := r.length
  have hn := line63
  have fin : EP X pins σ Q w s := ⟨z, H, I, rw', q⟩
  by_cases h0 : 0 ≤ i
  · have hj : i.toNat = j := by
      rw [seqIndex_of h0 h5] at h1
      exact Option.some.inj h1
    exact item_listR pl.isList h0 (by omega) (by rw [hj]; simpa using ew) fin hs
  · have hj : (i + (its.toArray.size : Int)).toNat = j := by
      rw [seqIndex_neg (by omega) h4] at h1
      rw [List.size_toArray, ← hl]
      exact Option.some.inj h1
    exact subscriptTail_builtinR (x := w) pl.isList.typeIs slot_list_getitem.lookup
      (wpAny_getItem_list_neg (Q := fun r s' => r = w ∧ EP X pins σ Q r s') pl.isList (by omega) (by rw [List.size_toArray] <;> omega) (by omega) (by rw [hj]; simpa using ew) ⟨rfl, fin⟩) hs
/-! ### xs[i] = v, any sign -/
theorem Inv.lst {pins : List (Addr × Obj)} {σ : St} {H : Hp} {s : Shared} {p : Addr} {xs : List V} (I : Inv X pins σ H s) (h : H p = some (.lst xs)) :
    ∃ (its : List Value) (n : Nat), Vals xs its ∧ s.heap.get? p = some { cls := .type "list", data := .seq its.toArray n } ∧ xs.length ≤ sizeLine := by
  obtain ⟨z, its, n, r, e⟩ := I.hok p _ h
  exact ⟨its, n, r, e, z⟩
/-! ### slices -/
theorem slice_bounds (lo hi : Option Int) (n : Nat) : (sliceBounds lo hi none n).1 = ((HT.sIx n 0 lo : Nat) : Int) ∧ (sliceBounds lo hi none n).2.1 = ((HT.sIx n n hi : Nat) : Int) ∧ (sliceBounds lo hi none n).2.2 = 1 := by
  refine ⟨?_, ?_, rfl⟩
  · cases lo with
    | none => simp [sliceBounds, HT.sIx]
    | some i =>
      simp only [sliceBounds, HT.sIx, Option.getD_none, show (1 : Int) > 0 by decide, if_true]
      by_cases h : i < 0
      · simp only [h, if_true] <;> omega
      · simp only [h, if_false] <;> omega
  · cases hi with
    | none => simp [sliceBounds, HT.sIx]
    | some i =>
      simp only [sliceBounds, HT.sIx, Option.getD_none, show (1 : Int) > 0 by decide, if_true]
      by_cases h : i < 0
      · simp only [h, if_true] <;> omega
      · simp only [h, if_false] <;> omega
theorem slicePick_cut (its : List Value) (lo hi : Option Int) : slicePick its.toArray lo hi none = ((its.drop (HT.sIx its.length 0 lo)).take (HT.sIx its.length its.length hi - HT.sIx its.length 0 lo)).toArray := by
  obtain ⟨h1, h2, h3⟩ := slice_bounds lo hi its.toArray.size
  unfold slicePick
  rw [h1, h2, h3]
  simp only [sliceRange_one, pick_run, List.size_toArray] <;> rfl
/-- xs[lo:hi] of a list: a new list -/
def rSlL (K : PySem.W.Frag) : V → Option Int → Option Int → Hp → VK → Prop := fun x lo hi H Q => ∃ a xs, x = .ref a ∧ SqL K H a xs ∧ ∀ p, H p = none → Q (.ref p) (upd H p (.lst (cutV xs lo hi)))
theorem sl_list : SlR X (rSlL X.K) := by
  intro pins s σ H x v vl vu lo hi sl Q I rx hs pl pu h
  obtain ⟨a, xs, rfl, hx, q⟩ := h
  cases rx
  obtain ⟨its, r, ht, hz⟩ := I.list hx
  have hlen := r.length
  refine ⟨"list", _, slot_list_getitem.lookup, ht.isList.typeIs, ?_⟩
  refine wpAny_getItem_list_slice ht.isList hs pl pu .none (by simp) ?_ (by rw [List.size_toArray] <;> omega)
  rw [slicePick_cut, ← hlen]
  refine ⟨.ref s.heap.objs.size, _, I.laid (t' := s.toks) (o := .lst (cutV xs lo hi)) (fun b ob q => Heap.get?_push_of_some _ q) (Nat.le_refl _) ?_, rfl, q _ (I.hok.fresh (Nat.le_refl _))⟩
  exact ⟨Nat.le_trans (cutV_length xs lo hi) hz, _, 0, (r.drop (HT.sIx xs.length 0 lo)).take (HT.sIx xs.length xs.length hi - HT.sIx xs.length 0 lo), Heap.get?_push_size _ rfl⟩

/-! ### in, not in: flat items -/
/-! ### len, list(x), tuple(x) of any list or tuple that is read -/
theorem call_len_seq : CallR X (.builtin "len") (fun xs H Q => ∃ p ys, xs = [.ref p] ∧ (SqL X.K H p ys ∨ SqT X.K H p ys) ∧ Q (.int ys.length) H) := by
  intro pins s σ H xs us Q I r h
  obtain ⟨p, ys, rfl, hq, q⟩ := h
  obtain ⟨u, rfl, rx⟩ := vals1 r
  cases rx
  have hn := line63
  rcases hq with hq | hq
  · obtain ⟨its, r', pl, hz⟩ := I.list hq
    have hlen := r'.length
    exact Calls.call_len_list pl.isList (by simp only [List.size_toArray] <;> omega) ⟨.int ys.length, H, I.tok _, ⟨s.toks + 1, by rw [List.size_toArray, hlen]⟩, q⟩
  · obtain ⟨its, r', pl, hz⟩ := I.tuple hq
    have hlen := r'.length
    exact len_tuple pl (by simp only [List.size_toArray] <;> omega) ⟨.int ys.length, H, I.tok _, ⟨s.toks + 1, by rw [List.size_toArray, hlen]⟩, q⟩
theorem CallR.or {f : Value} {r r' : List V → Hp → VK → Prop} (h : CallR X f r) (h' : CallR X f r') : CallR X f (fun xs H Q => r xs H Q ∨ r' xs H Q) := by
  intro pins s σ H xs us Q I rs q
  rcases q with q | q
  · exact h pins s σ H xs us Q I rs q
  · exact h' pins s σ H xs us Q I rs q
theorem call_list_of : CallR X (.type "list") (fun xs H Q => ∃ p ys, xs = [.ref p] ∧ (SqL X.K H p ys ∨ SqT X.K H p ys) ∧ ∀ l, H l = none → Q (.ref l) (upd H l (.lst ys))) := by
  intro pins s σ H xs us Q I r h
  obtain ⟨p, ys, rfl, hq, q⟩ := h
  obtain ⟨u, rfl, rx⟩ := vals1 r
  cases rx
  have fin : ∀ (its : List Value), Vals ys its → ys.length ≤ sizeLine → ∀ (h' : Heap) (c' : Nat), (∀ b o', s.heap.get? b = some o' → h'.get? b = some o') →
      h'.get? s.heap.objs.size = some { cls := .type "list", dict := none, data := .seq its.toArray c', slots := #[] } → EP X pins σ Q (.ref s.heap.objs.size) { s with heap := h' } := fun its r' hz h' c' kp e =>
    ⟨.ref s.heap.objs.size, _, I.laid (t' := s.toks) kp (Nat.le_refl _) (show ObjOk X.prog X.w _ h' _ (.lst ys) from ⟨hz, its, c', r', e⟩), rfl, q _ (I.hok.fresh (Nat.le_refl _))⟩
  rcases hq with hq | hq
  · obtain ⟨its, r', pl, hz⟩ := I.list hq
    have hlen := r'.length
    obtain ⟨o, ho, hc, n, hd⟩ := pl.isList
    exact call_list_seq p (.inl rfl) ho hc hd (fun h' c' kp e => fin its r' hz h' c' kp e) (by simp only [List.size_toArray] <;> omega)
  · obtain ⟨its, r', pl, hz⟩ := I.tuple hq
    have hlen := r'.length
    obtain ⟨o, ho, hc, n, hd⟩ := pl
    exact call_list_seq p (.inr rfl) ho hc hd (fun h' c' kp e => fin its r' hz h' c' kp e) (by simp only [List.size_toArray] <;> omega)
/-! ### the call of a builtin's method: o.m(..) -/
/-- the value is of that builtin type -/
def tyV (K : PySem.W.Frag) (T : String) (x : V) (H : Hp) : Prop := match x with
  | .str _ => T = "str"
  | .int _ => T = "int"
  | .ref p => (T = "list" ∧ ∃ xs, SqL K H p xs) ∨ (T = "tuple" ∧ ∃ o, K.lookup p = some o ∧ o.cls = .type "tuple" ∧ o.dict = none) ∨
      (T = "dict" ∧ ((∃ kvs, H p = some (.dK kvs)) ∨ ∃ kvs, H p = some (.dT kvs))) ∨ (T = "set" ∧ ∃ S n, H p = some (.set S n))
  | _ => False
theorem tyV_is {pins : List (Addr × Obj)} {σ : St} {H : Hp} {s : Shared} {T : String} {x : V} {v : Value} (I : Inv X pins σ H s) (r : RelV x v) (ty : tyV X.K T x H) :
    s.TypeIs v T ∧ ∀ a, v = .ref a → ∃ ob, s.heap.get? a = some ob ∧ ob.dict = none := by
  cases x with
  | str z =>
    obtain ⟨t, rfl⟩ := r
    cases (show T = "str" from ty)
    exact ⟨typeIs_str s z t, fun _ e => nomatch e⟩
  | int i =>
    obtain ⟨t, rfl⟩ := r
    cases (show T = "int" from ty)
    exact ⟨typeIs_int s i t, fun _ e => nomatch e⟩
  | ref p =>
    cases r
    rcases ty with ⟨rfl, xs, hq⟩ | ⟨rfl, o, hk, hc, hd⟩ | ⟨rfl, hk⟩ | ⟨rfl, S, n, hk⟩
    · obtain ⟨its, _, pl, _⟩ := I.list hq
      refine ⟨pl.isList.typeIs, fun a e => ?_⟩
      cases e
      obtain ⟨o, n, e, c, hd, _⟩ := pl
      exact ⟨o, e, hd⟩
    · refine ⟨⟨o, I.kIn p o hk, hc⟩, fun a e => ?_⟩
      cases e
      exact ⟨o, I.kIn _ o hk, hd⟩
    · have z : ∃ o, s.heap.get? p = some o ∧ o.ExactDict := by
        rcases hk with ⟨kvs, hk⟩ | ⟨kvs, hk⟩
        · obtain ⟨_, _, _, _, o, _, _, e, ex, _⟩ := I.hok p _ hk
          exact ⟨o, e, ex⟩
        · obtain ⟨_, _, _, _, o, _, _, e, ex, _⟩ := I.hok p _ hk
          exact ⟨o, e, ex⟩
      obtain ⟨o, e, ex⟩ := z
      refine ⟨⟨o, e, ex.1⟩, fun a e2 => ?_⟩
      cases e2
      exact ⟨o, e, ex.2.1⟩
    · obtain ⟨o, _, _, _, e, ex, _⟩ := I.hok p _ hk
      refine ⟨⟨o, e, ex.1⟩, fun a e2 => ?_⟩
      cases e2
      exact ⟨o, e, ex.2.1⟩
  | _ => exact False.elim ty
def tBM (K : PySem.W.Frag) (T : String) (r : V → List V → Hp → VK → Prop) (to : TE) (t : TA) : TE := fun σ H Q => to σ H fun x H1 => tyV K T x H1 ∧ t σ H1 fun xs H2 => r x xs H2 Q
variable {o e : Expr} {es : List Expr} {to : TE} {t : TA} {name : Str} {apos cpos : Pos} {T id : String} {r : V → List V → Hp → VK → Prop}
theorem pe_bm (pa : PlainAttrs T) (slot : Slot T name id) (hty : typeOf (.builtin id) = pure (.type "method_descriptor")) (hm : MtR X id r) (ho : PE X o to) (ha : PA X (e :: es) t)
    (hbase : attributeBase o name X.env (eval o X.env) = eval o X.env := by rfl)
    (hfew : ((backTo cpos (starEach (e :: es) X.env)).all (fun x => !x.1) && (backToKw cpos (keywordEach [] X.env)).all (fun x => x.1.isSome)
      && decide ((e :: es).length + ([] : List Keyword).length + (if ([] : List Keyword).isEmpty then 0 else 1) < 30)) = true := by rfl)
    (hline : (apos.endLine == cpos.line) = true := by rfl) (hs : starEach (e :: es) X.env = (false, eval e X.env) :: starEach es X.env := by rfl) (hplain : (backTo cpos (starEach es X.env)).any (·.1) = false := by rfl) :
    PE X (.Call (.Attribute o name apos) (e :: es) [] cpos) (tBM X.K T r to t) := by
  intro pins s σ H Q I h
  refine wpAny_Call_method_late hbase hfew hline rfl (thn (ho pins s σ H _ I h) fun v s1 ⟨x, H1, I1, r1, ty, q1⟩ => ?_)
  obtain ⟨h1, h2⟩ := tyV_is I1 r1 ty
  refine ⟨T, id, pa, slot, hty, h1, h2, ?_⟩
  have hA := ha cpos pins s1 σ H1 _ I1 q1
  rw [hs] at hA ⊢
  refine Calls.callWith_builtin (by show (false || (backTo cpos (starEach es X.env)).any (·.1)) = false; rw [hplain] <;> rfl) (Calls.evalArgs_plain ?_)
  exact thn hA fun us s2 ⟨vs, H2, I2, r2, q2⟩ => hm pins s2 σ H2 x vs v us Q I2 r1 r2 q2
/- xs.append(e), list.index on a module's tuple .. are MtR facts of 06m -/
end
end L2

namespace L2
open PySem PySem.Spec PyProof.Rows

def MtM (X : Cx) (id : String) (r : V → List V → Hp → VK → Prop) : Prop :=
  ∀ (pins : List (Addr × Obj)) (s : Shared) (σ : St) (H : Hp) (x : V) (xs : List V) (v : Value) (us : List Value) (Q : VK), Inv X pins σ H s → RelV x v → Vals xs us → r x xs H Q →
    wpAny (model X.prog X.w) X.A (call (.builtin id) (v :: us)) (EP X pins σ Q) X.xe s

/-! ### lists of values -/
theorem Vals.one : ∀ {x : V} {us : List Value}, Vals [x] us → ∃ u, us = [u] ∧ RelV x u
  | _, _, .cons r .nil => ⟨_, rfl, r⟩
theorem Vals.two : ∀ {x y : V} {us : List Value}, Vals [x, y] us → ∃ u v, us = [u, v] ∧ RelV x u ∧ RelV y v
  | _, _, _, .cons r (.cons q .nil) => ⟨_, _, rfl, r, q⟩
theorem Vals.zero : ∀ {us : List Value}, Vals [] us → us = []
  | _, .nil => rfl
section
variable {X : Cx} {pins : List (Addr × Obj)} {σ : St} {H : Hp} {s : Shared} {l b : Addr} {xs ys zs : List V}

/-! ### the two steps: a tracked list is rewritten, a new list is laid -/
theorem Inv.lset {its its' : List Value} {n : Nat} {f : Array Value → Array Value} {t' : Nat} (I : Inv X pins σ H s) (hH : H l = some (.lst xs))
    (e : s.heap.get? l = some { cls := .type "list", data := .seq its.toArray n }) (hf : f its.toArray = its'.toArray) (hv : Vals ys its') (hz : ys.length ≤ sizeLine) :
    Inv X pins σ (upd H l (.lst ys)) { s with heap := s.heap.update l (Obj.mapSeq f), toks := t' } := by
  have q := PySem.IsL.update e f
  rw [hf] at q
  refine I.write (x := l) (e := l) (by rw [hH]; exact trivial) (.inl rfl) (fun b' u hb hu => (Heap.get?_update_other s.heap (Obj.mapSeq f) (Ne.symm hb)).trans hu) ⟨_, q⟩ ?_
  exact ⟨hz, its', _, hv, q⟩
theorem Inv.lnew {its : List Value} {t' : Nat} (I : Inv X pins σ H s) (hv : Vals ys its) (hz : ys.length ≤ sizeLine) :
    Inv X pins σ (upd H s.heap.objs.size (.lst ys)) { s with heap := s.heap.push { cls := .type "list", data := .seq its.toArray }, toks := t' } :=
  I.laid (fun _ _ q => Heap.get?_push_of_some _ q) (Nat.le_refl _) ⟨hz, its, 0, hv, Heap.get?_push_size _ rfl⟩
theorem Inv.fresh (I : Inv X pins σ H s) : H s.heap.objs.size = none := I.hok.fresh (Nat.le_refl _)
theorem Inv.lstM (I : Inv X pins σ H s) (hH : H l = some (.lst xs)) : xs.length ≤ sizeLine ∧ ∃ (its : List Value) (n : Nat), Vals xs its ∧ xs.length = its.length ∧ s.heap.get? l = some { cls := .type "list", data := .seq its.toArray n } := by
  obtain ⟨z, its, n, r, e⟩ := I.hok l _ hH
  exact ⟨z, its, n, r, r.length, e⟩

theorem notLongL {n : Nat} (h : n ≤ sizeLine) : Builtin.List.listTooLong n = false := by
  unfold Builtin.List.listTooLong
  exact decide_eq_false (by omega)
end

section
variable {X : Cx}

/-! ### methods -/
def rAppend : V → List V → Hp → VK → Prop := fun x vs H Q => ∃ l xs y, x = .ref l ∧ vs = [y] ∧ H l = some (.lst xs) ∧ xs.length < sizeLine ∧ Q .non (upd H l (.lst (xs ++ [y])))
theorem mt_append : MtM X "list.append" rAppend := by
  intro pins s σ H x vs v us Q I rx rv h
  obtain ⟨l, xs, y, rfl, rfl, hH, hz, q⟩ := h
  cases rx
  obtain ⟨u, rfl, ru⟩ := rv.one
  obtain ⟨z, its, n, r, hl, e⟩ := I.lstM hH
  refine call_meets F.slot_list_append ⟨_, e, rfl⟩ F.entry_list_append (F.args_list_append_2 _ _) (PySem.list_append l its.toArray n u (by rw [List.size_toArray]; omega)) ⟨e, ?_⟩
  refine ⟨.non, _, I.lset (its' := its ++ [u]) hH e (by simp) (r.append (.cons ru .nil)) ?_, rfl, q⟩
  rw [List.length_append, List.length_singleton]
  omega

def rExtend : V → List V → Hp → VK → Prop := fun x vs H Q => ∃ l b xs zs, x = .ref l ∧ vs = [.ref b] ∧ H l = some (.lst xs) ∧ H b = some (.lst zs) ∧ xs.length + zs.length ≤ sizeLine ∧ Q .non (upd H l (.lst (xs ++ zs)))
theorem mt_extend : MtM X "list.extend" rExtend := by
  intro pins s σ H x vs v us Q I rx rv h
  obtain ⟨l, b, xs, zs, rfl, rfl, hH, hB, hz, q⟩ := h
  cases rx
  obtain ⟨u, rfl, ru⟩ := rv.one
  cases ru
  obtain ⟨z, its, n, r, hl, e⟩ := I.lstM hH
  obtain ⟨z2, its2, n2, r2, hl2, e2⟩ := I.lstM hB
  have hsz : its.toArray.size + its2.toArray.size ≤ sizeLine := by rw [List.size_toArray, List.size_toArray]; omega
  have hlong : ¬ (!its.toArray.isEmpty && Builtin.List.listTooLong (its.toArray.size + its2.toArray.size)) = true := by
    rw [notLongL hsz, Bool.and_false]
    exact Bool.false_ne_true
  refine call_meets F.slot_list_extend ⟨_, e, rfl⟩ F.entry_list_extend (F.args_list_extend_2 _ _)
    (AutoSeq1.list_extend_list_list_0 l its.toArray n b its2.toArray n2 hlong (by rw [List.size_toArray]; omega) (by omega)) ⟨e, e2, ?_⟩
  refine ⟨.non, _, I.lset (its' := its ++ its2) hH e (by simp) (r.append r2) ?_, rfl, q⟩
  rw [List.length_append]
  omega

/-! ### list + list, list += list, list * int -/
def rCat : R2 := fun x y H Q => ∃ l b xs zs, x = .ref l ∧ y = .ref b ∧ H l = some (.lst xs) ∧ H b = some (.lst zs) ∧ xs.length + zs.length ≤ sizeLine ∧ ∀ p, H p = none → Q (.ref p) (upd H p (.lst (xs ++ zs)))
theorem op_cat : OpR X (binaryOp .Add) rCat := by
  intro pins s σ H x y v u Q I rx ry h
  obtain ⟨l, b, xs, zs, rfl, rfl, hH, hB, hz, q⟩ := h
  cases rx
  cases ry
  obtain ⟨z, its, n, r, hl, e⟩ := I.lstM hH
  obtain ⟨z2, its2, n2, r2, hl2, e2⟩ := I.lstM hB
  refine PySem.P.add_list e e2 ?_ (by rw [List.size_toArray, List.size_toArray]; omega)
  have ea : its.toArray ++ its2.toArray = (its ++ its2).toArray := by simp
  rw [ea]
  exact ⟨.ref _, _, I.lnew (t' := s.toks) (r.append r2) (by rw [List.length_append]; omega), rfl, q _ I.fresh⟩
/-! ### del xs[i] -/
end

/-! ### xs[a:b] = ys -/
section
variable {prog : Program} {w : World} {A : Around} {E : Value → Shared → Prop} {s : Shared}
set_option maxRecDepth 100000 in
end

section
variable {X : Cx}
end
end L2

namespace L2
open PySem PySem.Spec PyProof.Rows

theorem Vals.ints : ∀ {ns : List Int} {us : List Value}, Vals (ns.map V.int) us → IntsAre us ns
  | [], us, h => by
    rw [List.map_nil] at h
    cases h
    exact IntsAre.nil
  | n :: ns, us, h => by
    rw [List.map_cons] at h
    cases h with
    | cons r t =>
      obtain ⟨k, rfl⟩ := r
      exact IntsAre.cons n k (Vals.ints t)
theorem Vals.strs : ∀ {xs : List Str} {us : List Value}, Vals (xs.map V.str) us → StrsAre us xs
  | [], us, h => by
    rw [List.map_nil] at h
    cases h
    exact StrsAre.nil
  | x :: xs, us, h => by
    rw [List.map_cons] at h
    cases h with
    | cons r t =>
      obtain ⟨k, rfl⟩ := r
      exact StrsAre.cons x k (Vals.strs t)
theorem Vals.bls : ∀ {bs : List Bool} {us : List Value}, Vals (bs.map V.bl) us → us = bs.map Value.bool
  | [], us, h => by
    rw [List.map_nil] at h
    cases h
    rfl
  | b :: bs, us, h => by
    rw [List.map_cons] at h
    cases h with
    | cons r t =>
      cases r
      rw [Vals.bls t, List.map_cons]
theorem Vals.ref1 {a : Addr} {us : List Value} (r : Vals [V.ref a] us) : us = [Value.ref a] := by
  cases r with
  | cons r t =>
    cases t
    cases r
    rfl
/-! ### the library's walks over a list of ints, kept objects alone -/
section
variable {prog : Program} {w : World} {A : Around} {E : Value → Shared → Prop} {s : Shared} {l : Addr} {its : List Value} {ns : List Int} {Q : Value → Shared → Prop}
theorem sum_raw (hh : A.handled = none) (hl : s.heap.IsList l its.toArray) (hi : IntsAre its ns)
    (h : ∀ h' tk t', (∀ b o, s.heap.get? b = some o → h'.get? b = some o) → Q (.int ns.sum t') { s with heap := h', toks := tk }) : wpAny (model prog w) A (call (.builtin "sum") [.ref l]) Q E s := by
  obtain ⟨xs, e⟩ := hi.allInts.items
  have hn : numsOf (intItems xs).toList = ns := by rw [← e]; exact hi.numsOf
  rw [nums_intItems] at hn
  rw [e] at hl
  refine PySem.sum_intListG hh hl fun h' tk t' hk => ?_
  have := h h' tk t' hk
  rw [preSum_eq, List.take_of_length_le (by simp), hn]; exact this
theorem max_raw (hh : A.handled = none) (hl : s.heap.IsList l its.toArray) (hi : IntsAre its ns) (hne : 0 < ns.length)
    (h : ∀ h' tk M t', (∀ b o, s.heap.get? b = some o → h'.get? b = some o) → M ∈ ns → (∀ a, a ∈ ns → a ≤ M) → Q (.int M t') { s with heap := h', toks := tk }) : wpAny (model prog w) A (call (.builtin "max") [.ref l]) Q E s := by
  obtain ⟨xs, e⟩ := hi.allInts.items
  have hn : numsOf (intItems xs).toList = ns := by rw [← e]; exact hi.numsOf
  rw [nums_intItems] at hn
  subst hn
  rw [e] at hl
  have hsz : 0 < xs.size := by simpa using hne
  refine PySem.max_intList hh hl hsz fun v h' tk hv hk => ?_
  obtain ⟨t, rfl⟩ := intItems_at hv
  obtain ⟨h1, h2⟩ := argBest_gt (numAt xs) (xs.size - 1)
  refine h h' tk _ t hk ?_ fun a ha => ?_
  · rw [numAt_eq]; exact PySem.getD_mem (by rw [List.length_map, Array.length_toList]; omega)
  · obtain ⟨j, hj, rfl⟩ := mem_getD ha
    rw [List.length_map, Array.length_toList] at hj
    rw [← numAt_eq]; exact h2 j (by omega)
theorem min_raw (hh : A.handled = none) (hl : s.heap.IsList l its.toArray) (hi : IntsAre its ns) (hne : 0 < ns.length)
    (h : ∀ h' tk M t', (∀ b o, s.heap.get? b = some o → h'.get? b = some o) → M ∈ ns → (∀ a, a ∈ ns → M ≤ a) → Q (.int M t') { s with heap := h', toks := tk }) : wpAny (model prog w) A (call (.builtin "min") [.ref l]) Q E s := by
  obtain ⟨xs, e⟩ := hi.allInts.items
  have hn : numsOf (intItems xs).toList = ns := by rw [← e]; exact hi.numsOf
  rw [nums_intItems] at hn
  subst hn
  rw [e] at hl
  have hsz : 0 < xs.size := by simpa using hne
  refine PySem.min_intList hh hl hsz fun v h' tk hv hk => ?_
  obtain ⟨t, rfl⟩ := intItems_at hv
  obtain ⟨h1, h2⟩ := argBest_lt (numAt xs) (xs.size - 1)
  refine h h' tk _ t hk ?_ fun a ha => ?_
  · rw [numAt_eq]; exact PySem.getD_mem (by rw [List.length_map, Array.length_toList]; omega)
  · obtain ⟨j, hj, rfl⟩ := mem_getD ha
    rw [List.length_map, Array.length_toList] at hj
    rw [← numAt_eq]; exact h2 j (by omega)
end

/-! ### the calls, by values (CallR of 03t; MtR of 06l) -/
section
variable {X : Cx}
/-- sum(xs) of a list of ints -/
def rSum (K : PySem.W.Frag) : List V → Hp → VK → Prop := fun vs H Q => ∃ (a : Addr) (ns : List Int), vs = [V.ref a] ∧ SqL K H a (ns.map V.int) ∧ Q (.int ns.sum) H
/-- max(xs), min(xs) of a list of ints -/
def rMax (K : PySem.W.Frag) : List V → Hp → VK → Prop := fun vs H Q => ∃ (a : Addr) (ns : List Int), vs = [V.ref a] ∧ SqL K H a (ns.map V.int) ∧ 0 < ns.length ∧ ∀ m, m ∈ ns → (∀ y, y ∈ ns → y ≤ m) → Q (.int m) H
def rMin (K : PySem.W.Frag) : List V → Hp → VK → Prop := fun vs H Q => ∃ (a : Addr) (ns : List Int), vs = [V.ref a] ∧ SqL K H a (ns.map V.int) ∧ 0 < ns.length ∧ ∀ m, m ∈ ns → (∀ y, y ∈ ns → m ≤ y) → Q (.int m) H
theorem cr_sum (hc : X.calm = true) : CallR X (.builtin "sum") (rSum X.K) := by
  intro pins s σ H vs us Q I r h
  obtain ⟨a, ns, rfl, hs, q⟩ := h
  obtain ⟨its, rv, hl, _⟩ := I.list hs
  rw [Vals.ref1 r]
  exact sum_raw (I.ok.hd hc) hl.isList rv.ints fun h' tk t' hk => ⟨.int _, H, I.kept hk, ⟨_, rfl⟩, q⟩
theorem cr_max (hc : X.calm = true) : CallR X (.builtin "max") (rMax X.K) := by
  intro pins s σ H vs us Q I r h
  obtain ⟨a, ns, rfl, hs, hne, q⟩ := h
  obtain ⟨its, rv, hl, _⟩ := I.list hs
  rw [Vals.ref1 r]
  exact max_raw (I.ok.hd hc) hl.isList rv.ints hne fun h' tk m t' hk h1 h2 => ⟨.int _, H, I.kept hk, ⟨_, rfl⟩, q m h1 h2⟩
theorem cr_min (hc : X.calm = true) : CallR X (.builtin "min") (rMin X.K) := by
  intro pins s σ H vs us Q I r h
  obtain ⟨a, ns, rfl, hs, hne, q⟩ := h
  obtain ⟨its, rv, hl, _⟩ := I.list hs
  rw [Vals.ref1 r]
  exact min_raw (I.ok.hd hc) hl.isList rv.ints hne fun h' tk m t' hk h1 h2 => ⟨.int _, H, I.kept hk, ⟨_, rfl⟩, q m h1 h2⟩

/-! sorted, sort (fewer than 64 items: the library's own bound) -/
end

/-! ### list.index, flat items -/
section
variable {X : Cx}
end

/-! ### type(x) of an own instance; is, is not of a module's class -/
section
variable {X : Cx}
end

/-! ### any(xs), all(xs) of a list of bools -/
theorem iter_any {prog : Program} {w : World} {A : Around} {E : Value → Shared → Prop} {s : Shared} {l : Addr} {items : Array Value} {Q : Value → Shared → Prop} (hl : s.heap.IsList l items)
    (h : ∀ s₂ : Shared, s₂ = { s with heap := s.heap.push { cls := .type "list_iterator", data := .fields #[.ref l, .int 0 0] } } →
      (s₂.heap.IsListIter s.heap.objs.size l 0 ∧ s₂.heap.IsList l items) → l ≠ s.heap.objs.size → Q (.ref s.heap.objs.size) s₂) : wpAny (model prog w) A (pyIter (.ref l)) Q E s := by
  have hlt : l < s.heap.objs.size := by obtain ⟨_, e, _⟩ := hl; exact Heap.lt_size e
  exact wpAny_pyIter_list hl (h _ rfl ⟨⟨_, Heap.get?_push_size _ rfl, rfl, rfl⟩, hl.push _⟩ (Nat.ne_of_lt hlt))
theorem truth_bools {prog : Program} {w : World} {A : Around} {bs : List Bool} {its : List Value} (e : its = bs.map Value.bool) :
    TruthOf prog w A (fun i v => its.toArray[i]? = some v) (fun i => bs.getD i false) := fun i v s Q E hv hq => by
  have hv' : its[i]? = some v := by simpa using hv
  rw [e, List.getElem?_map] at hv'
  obtain ⟨b, hb, rfl⟩ := Option.map_eq_some_iff.mp hv'
  have hg : bs.getD i false = b := by rw [List.getD_eq_getElem?_getD, hb] <;> rfl
  have hq' : Q (bs.getD i false) s := hq
  rw [hg] at hq'
  exact wpAny_truthy_bool hq'
theorem any_range : ∀ bs : List Bool, (List.range bs.length).any (fun i => bs.getD i false) = bs.any id
  | [] => rfl
  | b :: bs => by
    rw [List.length_cons, List.range_succ_eq_map, List.any_cons, List.any_map, List.any_cons, ← any_range bs]
    all_goals rfl
section
variable {X : Cx}
def rAny (K : PySem.W.Frag) : List V → Hp → VK → Prop := fun vs H Q => ∃ (a : Addr) (bs : List Bool), vs = [V.ref a] ∧ SqL K H a (bs.map V.bl) ∧ Q (.bl (bs.any id)) H
theorem cr_any (hc : X.calm = true) : CallR X (.builtin "any") (rAny X.K) := by
  intro pins s σ H vs us Q I r h
  obtain ⟨a, bs, rfl, hs, q⟩ := h
  obtain ⟨its, rv, hl, _⟩ := I.list hs
  rw [Vals.ref1 r]
  have hb := rv.bls
  refine call_any_walk (iter_any hl.isList fun s₂ e2 st hne => ?_)
  subst e2
  refine ⟨_, _, _, _, _, _, _, rfl, Walks.list (A := X.A.in1) (I.ok.hd hc) _ a hne its.toArray, st, truth_bools hb, fun h' tk hk => ?_⟩
  refine ⟨.bl _, H, I.kept fun b o eo => hk b o (fun hmem => ?_) (Heap.get?_push_of_some _ eo), ?_, q⟩
  · rcases List.mem_cons.mp hmem with e1 | hmem
    · exact absurd (e1 ▸ Heap.lt_size eo) (Nat.lt_irrefl _)
    · cases hmem
  · show Value.bool _ = Value.bool _
    rw [← any_range, hb, List.size_toArray, List.length_map]
end

/-! ### == and != of data at any depth: none, bools, ints, texts, lists, tuples -/
mutual
inductive Dp (K : PySem.W.Frag) (H : Hp) : V → PyData → Prop
  | non : Dp K H .non .none
  | bl (b : Bool) : Dp K H (.bl b) (.bool b)
  | int (i : Int) : Dp K H (.int i) (.int i)
  | str (x : Str) : Dp K H (.str x) (.str x)
  | lst {a : Addr} {xs : List V} {ds : List PyData} : SqL K H a xs → DpAll K H xs ds → Dp K H (.ref a) (.list ds)
  | tup {a : Addr} {xs : List V} {ds : List PyData} : SqT K H a xs → DpAll K H xs ds → Dp K H (.ref a) (.tuple ds)
inductive DpAll (K : PySem.W.Frag) (H : Hp) : List V → List PyData → Prop
  | nil : DpAll K H [] []
  | cons {v : V} {vs : List V} {d : PyData} {ds : List PyData} : Dp K H v d → DpAll K H vs ds → DpAll K H (v :: vs) (d :: ds)
end
section
variable {X : Cx} {pins : List (Addr × Obj)} {σ : St} {H : Hp} {s : Shared}
mutual
theorem Dp.reads (I : Inv X pins σ H s) : ∀ (d : PyData) (v : V) (u : Value), Dp X.K H v d → RelV v u → ∃ as, Reads s.heap u d as
  | .none, _, _, h, r => by
    cases h
    cases r
    exact ⟨_, Reads.none⟩
  | .bool b, _, _, h, r => by
    cases h
    cases r
    exact ⟨_, Reads.bool b⟩
  | .int i, _, _, h, r => by
    cases h
    obtain ⟨t, rfl⟩ := r
    exact ⟨_, Reads.int i t⟩
  | .str x, _, _, h, r => by
    cases h
    obtain ⟨t, rfl⟩ := r
    exact ⟨_, Reads.str x t⟩
  | .list ds, _, _, h, r => by
    cases h with
    | lst hs ha =>
      cases r
      obtain ⟨its, rv, ⟨o, n, ho, hc, _, hd⟩, _⟩ := I.list hs
      obtain ⟨as, hr⟩ := Dp.readsAll I ds _ its ha rv
      exact ⟨_, Reads.list ho hc hd hr⟩
  | .tuple ds, _, _, h, r => by
    cases h with
    | tup hs ha =>
      cases r
      obtain ⟨its, rv, ⟨o, ho, hc, n, hd⟩, _⟩ := I.tuple hs
      obtain ⟨as, hr⟩ := Dp.readsAll I ds _ its ha rv
      exact ⟨_, Reads.tuple ho hc hd hr⟩
  | .dict _, _, _, h, _ => by cases h
theorem Dp.readsAll (I : Inv X pins σ H s) : ∀ (ds : List PyData) (vs : List V) (us : List Value), DpAll X.K H vs ds → Vals vs us → ∃ as, ReadsAll s.heap us ds as
  | [], _, _, h, r => by
    cases h
    cases r
    exact ⟨_, ReadsAll.nil⟩
  | d :: ds, _, _, h, r => by
    cases h with
    | cons h1 h2 =>
      cases r with
      | cons r1 r2 =>
        obtain ⟨as, q1⟩ := Dp.reads I d _ _ h1 r1
        obtain ⟨bs, q2⟩ := Dp.readsAll I ds _ _ h2 r2
        exact ⟨_, ReadsAll.cons q1 q2⟩
end
end
section
variable {X : Cx}
end
end L2

namespace L2
open PySem PySem.Spec PyProof.Rows
abbrev CellAt (h : Heap) (c : Addr) (v : Option Value) : Prop := h.IsCell c v
def relS (scope sc : Scope) : Scope :=
  { scope with names := scope.names.map fun (n, k) => if (k == .free && sc.kind == .function && sc.names.lookup n == some .cell) then (n, .cell) else (n, k) }

def cloFrom (cells : List (Str × Addr)) : List (Str × NameKind) → List (Str × Addr) → List (Str × Addr)
  | [], acc => acc
  | (n, k) :: r, acc => if k == .free then cloFrom cells r ((n, (cells.lookup n).getD 0) :: acc) else cloFrom cells r acc

theorem closure_loop (env : Env) (f : Str × NameKind → List (Str × Addr) → Sem (ForInStep (List (Str × Addr))))
    (hf : ∀ n k c, f (n, k) c = if k == .free then (do let a ← cellOf env n; pure (.yield ((n, a) :: c))) else pure (.yield c)) :
    ∀ (names : List (Str × NameKind)) (acc : List (Str × Addr)), (∀ y ∈ names, y.2 = .free → ∃ c, env.cells.lookup y.1 = some c) → forIn names acc f = pure (cloFrom env.cells names acc)
  | [], acc, _ => by rw [List.forIn_nil]; rfl
  | (n, k) :: r, acc, h => by
    rw [List.forIn_cons, hf]
    have ih := fun acc => closure_loop env f hf r acc fun y hy => h y (List.mem_cons_of_mem _ hy)
    unfold cloFrom
    by_cases hk : (k == NameKind.free) = true
    · rw [if_pos hk, if_pos hk]
      obtain ⟨c, hc⟩ := h (n, k) List.mem_cons_self (by simpa using hk)
      have e : cellOf env n = pure c := by unfold cellOf; rw [hc]
      rw [e]
      have e2 : (env.cells.lookup n).getD 0 = c := by rw [hc]; rfl
      rw [e2]
      exact ih _
    · rw [if_neg hk, if_neg hk]
      exact ih _
theorem closure_ok {scope : Scope} {env : Env} (h : ∀ y ∈ scope.names, y.2 = .free → ∃ c, env.cells.lookup y.1 = some c) : closureFor scope env = pure (cloFrom env.cells scope.names []) := by
  simp only [closureFor]
  rw [closure_loop env _ (fun n k c => rfl) scope.names [] h]
  rfl

theorem mem_lookup {α : Type} : ∀ {l : List (Str × α)} {n : Str} {c : α}, (n, c) ∈ l → ∃ c', l.lookup n = some c'
  | (k, v) :: r, n, c, h => by
    rw [List.lookup_cons]
    cases hb : n == k with
    | true => exact ⟨_, rfl⟩
    | false =>
      rcases List.mem_cons.mp h with e | h
      · cases e; simp at hb
      · exact mem_lookup h

theorem cloFrom_mem {cells : List (Str × Addr)} : ∀ {names : List (Str × NameKind)} {acc : List (Str × Addr)} {n : Str} {c : Addr}, (n, c) ∈ cloFrom cells names acc → (n, c) ∈ acc ∨ ((n, .free) ∈ names ∧ c = (cells.lookup n).getD 0)
  | [], _, _, _, h => .inl h
  | (m, k) :: r, acc, n, c, h => by
    unfold cloFrom at h
    split at h
    · rename_i hk
      have hk : k = .free := by simpa using hk
      rcases cloFrom_mem h with h | ⟨h1, h2⟩
      · rcases List.mem_cons.mp h with e | h
        · cases e; exact .inr ⟨hk ▸ List.mem_cons_self, rfl⟩
        · exact .inl h
      · exact .inr ⟨List.mem_cons_of_mem _ h1, h2⟩
    · rcases cloFrom_mem h with h | ⟨h1, h2⟩
      · exact .inl h
      · exact .inr ⟨List.mem_cons_of_mem _ h1, h2⟩
theorem cloFrom_acc {cells : List (Str × Addr)} : ∀ {names : List (Str × NameKind)} {acc : List (Str × Addr)} {p : Str × Addr}, p ∈ acc → p ∈ cloFrom cells names acc
  | [], _, _, h => h
  | (m, k) :: r, acc, p, h => by
    unfold cloFrom
    split
    · exact cloFrom_acc (List.mem_cons_of_mem _ h)
    · exact cloFrom_acc h
theorem cloFrom_has {cells : List (Str × Addr)} : ∀ {names : List (Str × NameKind)} {acc : List (Str × Addr)} {n : Str}, (n, .free) ∈ names → (n, (cells.lookup n).getD 0) ∈ cloFrom cells names acc
  | (m, k) :: r, acc, n, h => by
    unfold cloFrom
    rcases List.mem_cons.mp h with e | h
    · cases e
      exact cloFrom_acc List.mem_cons_self
    · split
      · exact cloFrom_has h
      · exact cloFrom_has h

theorem cells_mem : ∀ {names : List (Str × NameKind)} {h : Heap} {acc : List (Str × Addr)} {x : Str} {c : Addr}, (x, c) ∈ cellsFrom h.objs.size names acc →
    (x, c) ∈ acc ∨ ((x, .cell) ∈ names ∧ h.objs.size ≤ c ∧ CellAt (pushCells h names) c none)
  | [], _, _, _, _, h => .inl h
  | (n, k) :: r, h, acc, x, c, hm => by
    unfold cellsFrom at hm
    unfold pushCells
    split at hm
    · rename_i hk
      rw [if_pos hk]
      have hk : k = .cell := by simpa using hk
      rw [← Heap.size_push h { cls := .type "cell", data := .cell none }] at hm
      rcases cells_mem hm with hm | ⟨h1, h2, h3⟩
      · rcases List.mem_cons.mp hm with e | hm
        · cases e
          exact .inr ⟨hk ▸ List.mem_cons_self, Nat.le_refl _, _, pushCells_keeps r _ _ _ (Heap.get?_push_size _ rfl), rfl⟩
        · exact .inl hm
      · rw [Heap.size_push] at h2
        exact .inr ⟨List.mem_cons_of_mem _ h1, Nat.le_of_succ_le h2, h3⟩
    · rename_i hk
      rw [if_neg hk]
      rcases cells_mem hm with hm | ⟨h1, h2, h3⟩
      · exact .inl hm
      · exact .inr ⟨List.mem_cons_of_mem _ h1, h2, h3⟩
theorem cells_acc : ∀ {names : List (Str × NameKind)} {n : Nat} {acc : List (Str × Addr)} {p : Str × Addr}, p ∈ acc → p ∈ cellsFrom n names acc
  | [], _, _, _, h => h
  | (m, k) :: r, n, acc, p, h => by
    unfold cellsFrom
    split
    · exact cells_acc (List.mem_cons_of_mem _ h)
    · exact cells_acc h
theorem cells_has : ∀ {names : List (Str × NameKind)} {n : Nat} {acc : List (Str × Addr)} {x : Str}, (x, .cell) ∈ names → ∃ c, (x, c) ∈ cellsFrom n names acc
  | (m, k) :: r, n, acc, x, h => by
    unfold cellsFrom
    rcases List.mem_cons.mp h with e | h
    · cases e
      exact ⟨n, cells_acc List.mem_cons_self⟩
    · split
      · exact cells_has h
      · exact cells_has h
theorem cells_inj : ∀ {names : List (Str × NameKind)} {h : Heap} {acc : List (Str × Addr)} {x y : Str} {c : Addr}, (∀ p ∈ acc, p.2 < h.objs.size) → (∀ x y c, (x, c) ∈ acc → (y, c) ∈ acc → x = y) →
    (x, c) ∈ cellsFrom h.objs.size names acc → (y, c) ∈ cellsFrom h.objs.size names acc → x = y
  | [], _, _, _, _, _, _, hi, h1, h2 => hi _ _ _ h1 h2
  | (n, k) :: r, h, acc, x, y, c, hl, hi, h1, h2 => by
    unfold cellsFrom at h1 h2
    split at h1
    · rename_i hk
      rw [if_pos hk] at h2
      rw [← Heap.size_push h { cls := .type "cell", data := .cell none }] at h1 h2
      refine cells_inj (h := h.push _) (fun p hp => ?_) (fun x y c a b => ?_) h1 h2
      · rw [Heap.size_push]
        rcases List.mem_cons.mp hp with rfl | hp
        · exact Nat.lt_succ_self _
        · exact Nat.lt_succ_of_lt (hl p hp)
      · rcases List.mem_cons.mp a with e | a <;> rcases List.mem_cons.mp b with e' | b
        · cases e; cases e'; rfl
        · cases e; exact absurd (hl _ b) (Nat.lt_irrefl _)
        · cases e'; exact absurd (hl _ a) (Nat.lt_irrefl _)
        · exact hi _ _ _ a b
    · rename_i hk
      rw [if_neg hk] at h2
      exact cells_inj hl hi h1 h2

theorem newEnv_comp {M : Model} {A : Around} {E : Value → Shared → Prop} {s : Shared} {scope : Scope} {globals : Addr} {closure : List (Str × Addr)} {qual : Str} {func : Option Addr} {code : Value} {around : Env} {builtins : Addr} {Q : Env → Shared → Prop}
    (h : Q (newEnv scope s.heap.objs.size globals (cellsFrom (s.heap.objs.size + 1) scope.names closure) qual func code (some around) builtins)
      { s with heap := pushCells (s.heap.push { cls := .type "dict", data := .dict #[] }) scope.names }) :
    wpAny M A (newFunctionEnv scope globals closure [] qual func code (some around) builtins) Q E s := by
  simp only [newFunctionEnv, Option.isSome_some, if_true]
  refine wpAny_bind (wpAny_alloc ?_)
  refine wpAny_bind (wpAny_layCells _ (fun n k c => rfl) scope.names closure _ _ ?_)
  rw [show ({ s with heap := s.heap.push { cls := .type "dict", data := .dict #[] } } : Shared).heap.objs.size = s.heap.objs.size + 1 from Heap.size_push ..]
  rw [List.forIn_nil]
  exact wpAny_bind (wpAny_pure (wpAny_pure h))

/-- every name of the written scope, in the scope that runs -/
theorem lookup_relS {sc : Scope} : ∀ {names : List (Str × NameKind)} {x : Str} {k : NameKind},
    (names.map fun (n, k) => if (k == NameKind.free && sc.kind == .function && sc.names.lookup n == some .cell) then (n, NameKind.cell) else (n, k)).lookup x = some k →
    ∃ k', names.lookup x = some k' ∧ (k = k' ∨ (k' = .free ∧ k = .cell))
  | [], _, _, h => by simp at h
  | (n, k₀) :: r, x, k, h => by
    have ih := @lookup_relS sc r x k
    have h' : List.lookup x ((if (k₀ == NameKind.free && sc.kind == .function && sc.names.lookup n == some .cell) = true then (n, NameKind.cell) else (n, k₀)) :: (r.map _)) = some k := h
    cases hx : x == n with
    | true =>
      simp only [List.lookup_cons, hx]
      by_cases hc : (k₀ == NameKind.free && sc.kind == .function && sc.names.lookup n == some .cell) = true
      · rw [if_pos hc] at h'
        simp only [List.lookup_cons, hx] at h'
        cases h'
        simp only [Bool.and_eq_true, beq_iff_eq] at hc
        exact ⟨k₀, rfl, .inr ⟨hc.1.1, rfl⟩⟩
      · rw [if_neg hc] at h'
        simp only [List.lookup_cons, hx] at h'
        cases h'
        exact ⟨_, rfl, .inl rfl⟩
    | false =>
      simp only [List.lookup_cons, hx]
      by_cases hc : (k₀ == NameKind.free && sc.kind == .function && sc.names.lookup n == some .cell) = true
      · rw [if_pos hc] at h'
        simp only [List.lookup_cons, hx] at h'
        exact ih h'
      · rw [if_neg hc] at h'
        simp only [List.lookup_cons, hx] at h'
        exact ih h'
/-- the names of a comprehension's block: its own (with their places in N), or captured -/
structure BlkOk (N : List Str) (sc scope : Scope) (own : List (Str × Nat)) : Prop where
  kind : scope.kind = .function
  uniq : ∀ y ∈ scope.names, scope.names.lookup y.1 = some y.2
  ix : ∀ p ∈ own, N[p.2]? = some p.1
  free : ∀ y ∈ scope.names, y.2 = .free → sc.names.lookup y.1 = some .cell ∨ sc.names.lookup y.1 = some .free
  own : ∀ y ∈ scope.names, y.2 = .local ∨ y.2 = .cell → y.1 ∈ own.map (·.1) ∨ y.1 ∉ N
/-- the slots of the block's own names forgotten -/
def wipe (σ : St) : List Nat → St
  | [] => σ
  | v :: vs => (wipe σ vs).set v none
theorem wipe_length (σ : St) : ∀ vs : List Nat, (wipe σ vs).length = σ.length
  | [] => rfl
  | v :: vs => by unfold wipe; rw [List.length_set, wipe_length σ vs]
theorem wipe_some {σ : St} {i : Nat} {x : V} : ∀ {vs : List Nat}, (wipe σ vs)[i]? = some (some x) → σ[i]? = some (some x) ∧ i ∉ vs
  | [], h => ⟨h, by simp⟩
  | v :: vs, h => by
    unfold wipe at h
    by_cases hi : v = i
    · subst hi
      by_cases hv : v < (wipe σ vs).length
      · rw [List.getElem?_set_self hv] at h; cases h
      · rw [List.getElem?_eq_none (by simpa using hv)] at h; cases h
    · rw [List.getElem?_set_ne hi] at h
      obtain ⟨h1, h2⟩ := wipe_some h
      exact ⟨h1, by simp only [List.mem_cons, not_or]; exact ⟨fun e => hi e.symm, h2⟩⟩

/-- the context of a block that starts at s, its iterator's objects at fp -/
abbrev Cx.blk (X : Cx) (s : Shared) (H : Hp) (scope : Scope) (cenv : Env) (fp : List Addr) : Cx := { X with s_0 := s, H_0 := H, env := cenv, outer := X.stack, ex := fp, fn := fun x => scope.names.lookup x == some .cell, pn := [], xe := fun _ _ => False }
section
variable {X : Cx} {pins : List (Addr × Obj)} {σ : St} {H : Hp} {s : Shared}
theorem block_start {scope : Scope} {own : List (Str × Nat)} {fp : List Addr} (I : Inv X pins σ H s) (ok : BlkOk X.N X.env.scope scope own) (hN : X.N.Nodup) (hfp : ∀ b ∈ fp, FpOk X pins H b ∧ b < s.heap.objs.size) :
    Inv (X.blk s H scope (compEnvC scope (cellsFrom (s.heap.objs.size + 1) scope.names (cloFrom X.env.cells scope.names [])) s.heap.objs.size X.env) fp) [] (wipe σ (own.map (·.2))) H { s with heap := pushCells (s.heap.push { cls := .type "dict", data := .dict #[] }) scope.names } := by
  have hfree : ∀ y ∈ scope.names, y.2 = .free → ∃ c, X.env.cells.lookup y.1 = some c := fun y hy e => by
    rcases ok.free y hy e with k | k
    · exact I.ok.has _ (.inl k)
    · exact I.ok.has _ (.inr k)
  generalize hcenv : compEnvC scope (cellsFrom (s.heap.objs.size + 1) scope.names (cloFrom X.env.cells scope.names [])) s.heap.objs.size X.env = cenv
  have kp : ∀ b o, s.heap.get? b = some o → (pushCells (s.heap.push { cls := .type "dict", data := .dict #[] }) scope.names).get? b = some o := fun b o e => pushCells_keeps _ _ _ _ (Heap.get?_push_of_some _ e)
  have hL : cenv.locals = s.heap.objs.size := by rw [← hcenv]; rfl
  have hcl : cenv.cells = cellsFrom (s.heap.objs.size + 1) scope.names (cloFrom X.env.cells scope.names []) := by rw [← hcenv]; rfl
  have hsc : cenv.scope = relS scope X.env.scope := by rw [← hcenv]; rfl
  rw [← Heap.size_push s.heap { cls := .type "dict", data := .dict #[] }] at hcl
  have cm : ∀ {y c}, (y, c) ∈ cloFrom X.env.cells scope.names [] → X.env.cells.lookup y = some c ∧ c < s.heap.objs.size := fun {y c} hm => by
    rcases cloFrom_mem hm with hm | ⟨h1, rfl⟩
    · cases hm
    · obtain ⟨c, hc⟩ := hfree _ h1 rfl
      rw [hc]
      obtain ⟨w, z⟩ := I.cell _ _ hc
      exact ⟨rfl, z.lt⟩
  have mem : ∀ {y c}, cenv.cells.lookup y = some c → (X.env.cells.lookup y = some c ∧ c < s.heap.objs.size) ∨ (s.heap.objs.size + 1 ≤ c ∧ CellAt (pushCells (s.heap.push { cls := .type "dict", data := .dict #[] }) scope.names) c none) := fun {y c} e => by
    rw [hcl] at e
    rcases cells_mem (PySem.mem_of_lookup e) with hm | ⟨_, h2, h3⟩
    · exact .inl (cm hm)
    · rw [Heap.size_push] at h2; exact .inr ⟨h2, h3⟩
  have look : ∀ {y}, scope.names.lookup y = some .free → ∃ c, cenv.cells.lookup y = some c ∧ X.env.cells.lookup y = some c := fun {y} hl => by
    have hy : (y, NameKind.free) ∈ scope.names := PySem.mem_of_lookup hl
    obtain ⟨c', e'⟩ := mem_lookup (cells_acc (names := scope.names) (n := (s.heap.push { cls := .type "dict", data := .dict #[] }).objs.size) (cloFrom_has (cells := X.env.cells) (acc := []) hy))
    rw [← hcl] at e'
    refine ⟨c', e', ?_⟩
    rw [hcl] at e'
    rcases cells_mem (PySem.mem_of_lookup e') with hm | ⟨h1, _, _⟩
    · exact (cm hm).1
    · have := ok.uniq _ h1
      rw [hl] at this; cases this
  have okB : (X.blk s H scope cenv fp).Ok := by
    refine ⟨I.ok.mod, by show cenv.scope.kind = _; rw [hsc]; exact ok.kind, by show cenv.globals = _; rw [← hcenv]; exact I.ok.glob, by show cenv.builtins = _; rw [← hcenv]; exact I.ok.blt, by show s.heap.objs.size ≤ cenv.locals; rw [hL]; exact Nat.le_refl _,
      fun y z c e1 e2 => ?_, fun y hy => ?_, fun y c z e => ?_, I.ok.hd, I.ok.frames, .inl rfl, fun b hb => ⟨?_, fun y c e z => ?_⟩, I.bs, Nat.le_trans I.ok.bsz I.sz, fun b o e hb => ?_, fun b hb z => ?_, I.stack, I.stkFree⟩
    · have e1 : cenv.cells.lookup y = some c := e1
      have e2 : cenv.cells.lookup z = some c := e2
      rw [hcl] at e1 e2
      refine cells_inj (fun p hp => ?_) (fun y z c a b => I.ok.inj y z c (cm a).1 (cm b).1) (PySem.mem_of_lookup e1) (PySem.mem_of_lookup e2)
      rw [Heap.size_push]
      exact Nat.lt_succ_of_lt (cm (y := p.1) (c := p.2) hp).2
    · show ∃ c, cenv.cells.lookup y = some c
      have key : ∀ k, cenv.kindOf y = some k → (k = .cell ∨ k = .free) → ∃ c, cenv.cells.lookup y = some c := fun k hk hk' => by
        unfold Env.kindOf at hk
        rw [hsc] at hk
        obtain ⟨k', e, r⟩ := lookup_relS hk
        have : k' = .cell ∨ k' = .free := by
          rcases r with rfl | ⟨rfl, _⟩
          · exact hk'
          · exact .inr rfl
        rcases this with rfl | rfl
        · obtain ⟨c, hm⟩ := cells_has (n := (s.heap.push { cls := .type "dict", data := .dict #[] }).objs.size) (acc := cloFrom X.env.cells scope.names []) (PySem.mem_of_lookup e)
          obtain ⟨c', e'⟩ := mem_lookup hm
          exact ⟨c', by rw [hcl]; exact e'⟩
        · obtain ⟨c, h1, _⟩ := look e
          exact ⟨c, h1⟩
      rcases hy with hy | hy
      · exact key _ hy (.inl rfl)
      · exact key _ hy (.inr rfl)
    · have z : (scope.names.lookup y == some NameKind.cell) = true := z
      have z : scope.names.lookup y = some .cell := by simpa using z
      have e : cenv.cells.lookup y = some c := e
      rw [hcl] at e
      rcases cells_mem (PySem.mem_of_lookup e) with hm | ⟨_, h2, _⟩
      · rcases cloFrom_mem hm with hm | ⟨h1, _⟩
        · cases hm
        · have q := ok.uniq _ h1
          rw [z] at q; cases q
      · rw [Heap.size_push] at h2
        exact Nat.le_of_succ_le h2
    · show b ≠ cenv.locals
      rw [hL]; exact Nat.ne_of_lt (hfp b hb).2
    · have e : cenv.cells.lookup y = some c := e
      rcases mem e with ⟨h1, _⟩ | ⟨h1, _⟩
      · exact (hfp b hb).1.2.2.2.2.1 y c h1 z
      · have h2 : s.heap.objs.size + 1 ≤ b := by rw [← z]; exact h1
        exact absurd (Nat.lt_of_lt_of_le (hfp b hb).2 (Nat.le_of_succ_le h2)) (Nat.lt_irrefl _)
    · rcases (hfp b hb).1.2.2.2.1 with z | z
      · exact I.ok.noex b o e z
      · exact absurd (Nat.lt_of_lt_of_le (Heap.lt_size e) (Nat.le_trans I.ok.bsz z)) (Nat.lt_irrefl _)
    · rcases List.mem_cons.mp (I.stkSub b z) with z | z
      · exact (hfp b hb).1.2.1 z
      · exact (hfp b hb).1.2.2.1 z
  refine ⟨okB, rfl, I.bare, Un.kept kp, ⟨fun _ => none, ?_, fun i y av e1 e2 e3 => ?_⟩, fun y c e => ?_, ?_, fun y c e => ?_, fun p hp => ?_, I.hok.kept kp, by rw [wipe_length]; exact I.len⟩
  · show Heap.Ns _ cenv.locals _
    rw [hL]
    exact Heap.Ns.keeps (Heap.Ns.new ..) fun b o e => pushCells_keeps _ _ _ _ e
  · obtain ⟨e2, hne⟩ := wipe_some e2
    have hfr : scope.names.lookup y = some .free ∧ (cenv.kindOf y = some .cell ∨ cenv.kindOf y = some .free) := by
      have key : ∀ k, cenv.scope.names.lookup y = some k → k = .local ∨ k = .cell ∨ k = .free → scope.names.lookup y = some .free ∧ (cenv.kindOf y = some .cell ∨ cenv.kindOf y = some .free) := fun k hk hk' => by
        have hk0 := hk
        rw [hsc] at hk
        obtain ⟨k', e, r⟩ := lookup_relS hk
        have no : ¬ (k' = .local ∨ k' = .cell) := fun hh => by
          rcases ok.own _ (PySem.mem_of_lookup e) hh with e' | e'
          · obtain ⟨p, hp, hpy⟩ := List.mem_map.mp e'
            have e3 := ok.ix p hp
            have : p.1 = y := hpy
            rw [this] at e3
            exact hne (List.mem_map.mpr ⟨p, hp, nodup_ix hN e3 e1⟩)
          · exact e' (List.mem_of_getElem? e1)
        rcases r with rfl | ⟨rfl, rfl⟩
        · rcases hk' with rfl | rfl | rfl
          · exact absurd (.inl rfl) no
          · exact absurd (.inr rfl) no
          · exact ⟨e, .inr hk0⟩
        · exact ⟨e, .inl hk0⟩
      have e3 : Vis cenv.scope y := e3
      rcases e3 with e3 | e3 | e3
      · exact key _ e3 (.inl rfl)
      · exact key _ e3 (.inr (.inl rfl))
      · exact key _ e3 (.inr (.inr rfl))
    obtain ⟨m, hn, hl⟩ := I.loc
    have hvis : Vis X.env.scope y := (ok.free _ (PySem.mem_of_lookup hfr.1) rfl).elim (fun k => .inr (.inl k)) (fun k => .inr (.inr k))
    obtain ⟨w, r, q⟩ := hl i y av e1 e2 hvis
    refine ⟨w, r, .inr ⟨hfr.2, ?_⟩⟩
    obtain ⟨c, h1, h2⟩ := look hfr.1
    rcases q with ⟨k, _⟩ | ⟨_, c', e', z⟩
    · have k : X.env.scope.names.lookup y = some .local := k
      rcases ok.free _ (PySem.mem_of_lookup hfr.1) rfl with k' | k' <;> rw [show X.env.scope.names.lookup y = _ from k'] at k <;> cases k
    · rw [h2] at e'; cases e'
      exact ⟨c, h1, z.keeps kp⟩
  · have e : cenv.cells.lookup y = some c := e
    rcases mem e with ⟨h1, _⟩ | ⟨_, z⟩
    · obtain ⟨w, z⟩ := I.cell y c h1
      exact ⟨w, z.keeps kp⟩
    · exact ⟨_, z⟩
  · show H cenv.locals = none
    rw [hL]; exact I.hok.fresh (Nat.le_refl _)
  · have e : cenv.cells.lookup y = some c := e
    rcases mem e with ⟨h1, _⟩ | ⟨h1, _⟩
    · exact I.freeC y c h1
    · exact I.hok.fresh (Nat.le_of_succ_le h1)
  · exact absurd (show p ∈ ([] : List (Addr × Obj)) ++ [] from hp) (by simp)

/-- an item appended to a tracked list -/
theorem app_ok {E : Value → Shared → Prop} {D : Addr} {xs : List V} {y : V} {v : Value} {Q : Value → Shared → Prop} (I : Inv X pins σ H s) (hD : H D = some (.lst xs)) (hz : xs.length < sizeLine) (r : RelV y v)
    (h : ∀ s', Inv X pins σ (upd H D (.lst (xs ++ [y]))) s' → Q .none s') : wpAny (model X.prog X.w) X.A (call (.builtin "list.append") [.ref D, v]) Q E s := by
  obtain ⟨hz', its, n, ri, e⟩ := I.hok D _ hD
  have hl := ri.length
  refine append_at (hsz := by rw [List.size_toArray]; omega) e fun h' sb ho' => ?_
  refine h { s with heap := h' } (I.write (t' := s.toks) (by rw [hD]; trivial) (.inl rfl) (fun b u hb q => (sb.2 b hb).trans q) ⟨_, ho'⟩ ⟨by rw [List.length_append]; exact hz, its ++ [v], n + 1, ri.append (.cons r .nil), ?_⟩)
  rw [ho']
  simp

/-- a clause's tests -/
def PTs (X : Cx) (ifs : List Expr) (t : TT) : Prop :=
  ∀ (pins : List (Addr × Obj)) (s : Shared) (σ : St) (H : Hp) (Q : Bool → Hp → Prop), Inv X pins σ H s → t σ H Q →
    wpAny (model X.prog X.w) X.A (forIn ifs true fun c r => if r = true then do let ok ← isTrue c X.env (eval c X.env); pure (ForInStep.yield ok) else pure (ForInStep.yield r)) (TP X pins σ Q) X.xe s
def tYes : TT := fun _ H Q => Q true H
theorem pts_nil : PTs X [] tYes := fun _ _ _ H _ I h => wpAny_tests_nil ⟨H, I, h⟩
theorem pts_one {c : Expr} {t : TT} (h : PT X c t) : PTs X [c] t := fun pins s σ H Q I hw => wpAny_tests_one (h pins s σ H Q I hw)
end

theorem thnF {α : Type} {t : Sem α} {Q Q' : α → Shared → Prop} {M : Model} {A : Around} {E : Value → Shared → Prop} {s : Shared} (h : wpAny M A t Q (fun _ _ => False) s) (hQ : ∀ a s, Q a s → Q' a s) : wpAny M A t Q' E s := wpAny_mono h hQ fun _ _ z => False.elim z

/-- the loop of a list comprehension's block, the target of any form (codeAny_compLoop_tests asks a target that no tuple goes to; statement and proof follow it, PyProof/CompMap.lean:41-61, with the step letOwnedTupleGo kept) -/
theorem compLoop_any {prog : Program} {w : World} {A : Around} {R : Result → Shared → Prop} {s : Shared} {elt target iter : Expr} {ifs : List Expr} {scope : Scope} {pos : Pos} {it acc : Value} {env : Env} (I : Nat → Shared → Prop)
    (turn : ∀ n s, I n s → wpAny (model prog w) A (pyNext it) (fun r s₁ => match r with
      | none => R (.ok .next) s₁
      | some v => wpAny (model prog w) A (letOwnedTupleGo target it v) (fun _ s₁' => wpAny (model prog w) A (assign target env v) (fun _ s₂ =>
          wpAny (model prog w) A (forIn ifs true fun c r => if r = true then do let ok ← isTrue c env (eval c env); pure (ForInStep.yield ok) else pure (ForInStep.yield r)) (fun ok s₃ =>
            if ok = true then wpAny (model prog w) A (eval elt env) (fun x s₄ =>
              wpAny (model prog w) A (call (.builtin "list.append") [acc, x]) (fun _ s₅ => ∃ m, m < n ∧ I m s₅) (notedBy (model prog w) A env fun e s' => R (.error e) s') s₄) (notedBy (model prog w) A env fun e s' => R (.error e) s') s₃
            else ∃ m, m < n ∧ I m s₃) (notedBy (model prog w) A env fun e s' => R (.error e) s') s₂) (notedBy (model prog w) A env fun e s' => R (.error e) s') s₁') (notedBy (model prog w) A env fun e s' => R (.error e) s') s₁) (notedBy (model prog w) A env fun e s' => R (.error e) s') s)
    (n : Nat) (h : I n s) :
    codeAny (model prog w) A (.compLoop (.ListComp elt [⟨target, iter, ifs, 0⟩] scope pos) 0 it acc env) R s := by
  refine codeAny_loop rfl I (fun n s hI => ?_) n h
  show wpAny _ A ((compTurn (.ListComp elt [⟨target, iter, ifs, 0⟩] scope pos) 0 it acc env).onRaise (fun x => do noteFrame x env; theTreesLotGoes x)) _ _ s
  refine wpAny_noted ?_
  rw [compTurn_list]
  refine wpAny_bind (wpAny_standAt (wpAny_bind (wpAny_mono (turn n s hI) (fun r s₁ h₁ => ?_) fun _ _ h' => h')))
  cases r with
  | none => exact wpAny_pure h₁
  | some v =>
    refine wpAny_bind (wpAny_mono h₁ (fun _ s₁' h₁' => ?_) fun _ _ h' => h')
    refine wpAny_bind (wpAny_mono h₁' (fun _ s₂ h₂ => wpAny_bind (wpAny_mono h₂ (fun ok s₃ h₃ => ?_) fun _ _ h' => h')) fun _ _ h' => h')
    cases ok with
    | false => exact wpAny_pure ⟨rfl, h₃⟩
    | true =>
      exact wpAny_bind (wpAny_bind (wpAny_mono h₃ (fun x s₄ h₄ => wpAny_bind (wpAny_mono h₄ (fun _ s₅ h₅ => wpAny_pure (wpAny_pure ⟨rfl, h₅⟩)) fun _ _ h' => h')) fun _ _ h' => h'))

section
variable {X : Cx}
/-- [elt for target in iter if ..]: D the new list; W by the turn and a measure, Nx what a turn is to reach -/
def tLc (wi : TI) (g : TG) (tt : TT) (te : TE) (vs : List Nat) : TE := fun σ H Q => wi σ H fun J H1 => ∀ D, H1 D = none → ∃ W : Nat → Nat → Hp → Prop, (∃ m, W 0 m (upd H1 D (.lst []))) ∧ ∀ i m H, W i m H →
  (J.stop i H ∧ Q (.ref D) H) ∨ (J.go i H ∧ ∃ Nx : Hp → Prop, (∀ H', Nx H' → ∃ m', m' < m ∧ W (i + 1) m' H') ∧ ∀ x H', J.yld i H x H' → g x (wipe σ vs) H' fun σ2 H2 => wipe σ2 vs = wipe σ vs ∧ tt σ2 H2 fun b H3 =>
    if b = true then te σ2 H3 fun y H4 => ∃ acc, H4 D = some (.lst acc) ∧ acc.length < sizeLine ∧ Nx (upd H4 D (.lst (acc ++ [y]))) else Nx H3)
theorem lc_core {pins : List (Addr × Obj)} {s : Shared} {σ : St} {H : Hp} {Q : VK} {elt tg iter : Expr} {ifs : List Expr} {scope : Scope} {own : List (Str × Nat)} {pos pos' : Pos} {wi : TI} {g : TG} {tt : TT} {te : TE} {use : Option (Value → Sem Unit)} {Qf : Value → Shared → Prop}
    (hc : X.calm = true) (hN : X.N.Nodup) (I : Inv X pins σ H s) (hi : PI X tg iter wi) (ok : BlkOk X.N X.env.scope scope own)
    (hg : ∀ (s : Shared) (H : Hp) (C : Addr) (cl : List (Str × Addr)) (fp : List Addr), PG (X.blk s H scope (compEnvC scope cl C X.env) fp) tg g) (ht : ∀ (s : Shared) (H : Hp) (C : Addr) (cl : List (Str × Addr)) (fp : List Addr), PTs (X.blk s H scope (compEnvC scope cl C X.env) fp) ifs tt)
    (he : ∀ (s : Shared) (H : Hp) (C : Addr) (cl : List (Str × Addr)) (fp : List Addr), PE (X.blk s H scope (compEnvC scope cl C X.env) fp) elt te) (hs : ∀ x, foldedSetIterable iter X.env x = pure x)
    (h : tLc wi g tt te (own.map (·.2)) σ H Q)
    (hRR : ∀ D C s' m H', Inv X pins σ H' s' → Q (.ref D) H' → s'.heap.Ns C m → FpOk X pins H' C → compPost (model X.prog X.w) X.A X.xe use Qf (.ref D) C (.ok .next) s') :
    wpAny (model X.prog X.w) X.A (comprehension (.ListComp elt [⟨tg, iter, ifs, 0⟩] scope pos) scope X.env pos' (newList []) false (eval iter X.env) use) Qf X.xe s := by
  have hfree : ∀ y ∈ scope.names, y.2 = .free → ∃ c, X.env.cells.lookup y.1 = some c := fun y hy e => by
    rcases ok.free y hy e with k | k
    · exact I.ok.has _ (.inl k)
    · exact I.ok.has _ (.inr k)
  refine wpAny_comprehension_free (use := use) rfl hs (closure_ok hfree) ok.kind (fun y hy e => by rw [ok.uniq y hy, e])
    (thn (hi pins s σ H _ I h) fun xv s1 hx => thn hx fun itv s2 h2 => ?_)
  obtain ⟨it, fp, tn, J, H2, e, I2, T, st2, f2, q⟩ := h2
  subst e
  refine wpAny_newObj_type (newEnv_comp ?_) (by show 0 ≤ sizeLine; decide)
  generalize hD : s2.heap.objs.size = D
  have hDn : H2 D = none := I2.hok.fresh (Nat.le_of_eq hD)
  obtain ⟨W, ⟨m0, w0⟩, turn⟩ := q D hDn
  -- the new list
  generalize hs3 : ({ s2 with heap := s2.heap.push { cls := .type "list", data := .seq ([] : List Value).toArray } } : Shared) = s3
  have I3 : Inv X pins σ (upd H2 D (.lst [])) s3 := by
    rw [← hs3]
    refine I2.laid (t' := s2.toks) (fun b o e => Heap.get?_push_of_some _ e) (Nat.le_of_eq hD) ⟨Nat.zero_le _, [], 0, .nil, ?_⟩
    rw [← hD]
    exact Heap.get?_push_size _ rfl
  have h3 : s3.heap = s2.heap.push { cls := .type "list", data := .seq ([] : List Value).toArray } := by rw [← hs3]
  have sz : ∀ b ∈ fp, b < s2.heap.objs.size := fun b hb => by
    obtain ⟨o, e, _⟩ := T.obj _ _ st2 b hb
    exact Heap.lt_size e
  have f3 : ∀ b ∈ fp, FpOk X pins (upd H2 D (.lst [])) b ∧ b < s3.heap.objs.size := fun b hb => by
    have hlt := sz b hb
    refine ⟨⟨?_, (f2 b hb).2⟩, by rw [h3, Heap.size_push]; exact Nat.lt_succ_of_lt hlt⟩
    rw [upd_ne (by rw [← hD]; exact Nat.ne_of_lt hlt)]
    exact (f2 b hb).1
  have st3 : tn 0 s3.heap := T.keep _ _ _ st2 fun b _ o e => by rw [h3]; exact Heap.get?_push_of_some _ e
  have I4 := block_start I3 ok hN f3
  have pg := hg s3 (upd H2 D (.lst [])) s3.heap.objs.size (cellsFrom (s3.heap.objs.size + 1) scope.names (cloFrom X.env.cells scope.names [])) fp
  have pt := ht s3 (upd H2 D (.lst [])) s3.heap.objs.size (cellsFrom (s3.heap.objs.size + 1) scope.names (cloFrom X.env.cells scope.names [])) fp
  have pe := he s3 (upd H2 D (.lst [])) s3.heap.objs.size (cellsFrom (s3.heap.objs.size + 1) scope.names (cloFrom X.env.cells scope.names [])) fp
  show codeAny _ _ (.compStart (.ListComp elt [⟨tg, iter, ifs, 0⟩] scope pos) 0 (.ref it) (.ref D) (compEnvC scope (cellsFrom (s3.heap.objs.size + 1) scope.names (cloFrom X.env.cells scope.names [])) s3.heap.objs.size X.env)) (compPost (model X.prog X.w) X.A X.xe use Qf (.ref D) s3.heap.objs.size) { s3 with heap := pushCells (s3.heap.push { cls := .type "dict", data := .dict #[] }) scope.names }
  have nfp : ∀ b ∈ fp, (upd H2 D (.lst [])) b = none := fun b hb => (f3 b hb).1.1
  generalize hce : compEnvC scope (cellsFrom (s3.heap.objs.size + 1) scope.names (cloFrom X.env.cells scope.names [])) s3.heap.objs.size X.env = ce at I4 pg pt pe ⊢
  have cL : ce.locals = s3.heap.objs.size := by subst hce; rfl
  generalize hH3 : upd H2 D (.lst []) = H3 at I3 I4 pg pt pe w0 nfp f3
  generalize hs4 : ({ s3 with heap := pushCells (s3.heap.push { cls := .type "dict", data := .dict #[] }) scope.names } : Shared) = s4 at I4 ⊢
  have st4 : tn 0 s4.heap := T.keep _ _ _ st3 fun b _ o e => by rw [← hs4]; exact pushCells_keeps _ _ _ _ (Heap.get?_push_of_some _ e)
  have stat : ∀ {σ' : St} {H' : Hp} {s' : Shared}, Inv (X.blk s3 H3 scope ce fp) [] σ' H' s' → (∀ b ∈ fp, H' b = none) → ∀ b ∈ fp, FpOk (X.blk s3 H3 scope ce fp) [] H' b := fun {σ' H' s'} I' hn b hb =>
    ⟨hn b hb, (I'.ok.exf b hb).1, I'.ok.exfs b hb, .inl hb, fun x c e => (I'.ok.exf b hb).2 x c e, fun p hp => absurd (show p ∈ ([] : List (Addr × Obj)) ++ [] from hp) (by simp)⟩
  have loop : codeAny (model X.prog X.w) X.A (.compLoop (.ListComp elt [⟨tg, iter, ifs, 0⟩] scope pos) 0 (.ref it) (.ref D) ce) (compPost (model X.prog X.w) X.A X.xe use Qf (.ref D) s3.heap.objs.size) s4 := by
    refine compLoop_any (fun n s' => ∃ i H', Inv (X.blk s3 H3 scope ce fp) [] (wipe σ (own.map (·.2))) H' s' ∧ tn i s'.heap ∧ (∀ b ∈ fp, H' b = none) ∧ W i n H') ?_ m0 ⟨0, H3, I4, st4, nfp, w0⟩
    rintro n s5 ⟨i, H5, I5, st5, n5, w5⟩
    rcases turn i n H5 w5 with ⟨stop, qq⟩ | ⟨go, Nx, hNx, step⟩
    · have td := T.done (X.blk s3 H3 scope ce fp) rfl rfl rfl hc i [] s5 _ H5 (fun _ _ => False) I5 (stat I5 n5) st5 stop
      refine thnF td fun r s6 ⟨hr, I6⟩ => ?_
      subst hr
      -- back in the def's context
      have I7 : Inv X pins σ H5 s6 := I3.call' (ch := fp) I6.os I6.base I6.hok I6.bare fun b hb => ⟨(f3 b hb).1.2.2.2.1, (f3 b hb).1.2.1, (f3 b hb).1.2.2.2.2.1, (f3 b hb).1.2.2.2.2.2⟩
      have nC : H5 s3.heap.objs.size = none := by
        have z : H5 ce.locals = none := I6.free
        rw [cL] at z
        exact z
      obtain ⟨m, hn, _⟩ := I6.loc
      have hn : s6.heap.Ns ce.locals m := hn
      rw [cL] at hn
      exact hRR D s3.heap.objs.size s6 m H5 I7 qq hn (I3.fpOk (Nat.le_refl _) nC)
    · have ti := T.item (X.blk s3 H3 scope ce fp) rfl rfl rfl hc i [] s5 _ H5 (fun _ _ => False) I5 (stat I5 n5) st5 go
      refine thnF ti fun r s6 ⟨u, hr, h6⟩ => ?_
      subst hr
      refine thnF h6 fun _ s7 ⟨x, H7, I7, r7, y7, st7, n7⟩ => ?_
      have I7' := I7.pinned (stat I7 n7) (T.obj _ _ st7)
      refine thnF (pg _ s7 _ H7 x u _ I7' r7 (step x H7 y7)) fun _ s8 ⟨σ8, H8, I8, hw8, q8⟩ => ?_
      refine thnF (pt _ s8 σ8 H8 _ I8 q8) fun b s9 ⟨H9, I9, q9⟩ => ?_
      -- the turn's end
      have fin : ∀ {s' : Shared} {H' : Hp}, Inv (X.blk s3 H3 scope ce fp) ([] ++ pinsAt fp s7.heap) σ8 H' s' → Nx H' → ∃ m, m < n ∧ ∃ i H', Inv (X.blk s3 H3 scope ce fp) [] (wipe σ (own.map (·.2))) H' s' ∧ tn i s'.heap ∧ (∀ b ∈ fp, H' b = none) ∧ W i m H' := fun {s' H'} I' nx => by
        obtain ⟨m', hm, w'⟩ := hNx H' nx
        have pin' : ∀ b ∈ fp, ∀ o, s7.heap.get? b = some o → s'.heap.get? b = some o ∧ H' b = none := fun b hb o e =>
          let z := I'.pin (b, o) (List.mem_append_right _ (List.mem_append_right _ (mem_pinsAt hb e)))
          ⟨z.1, z.2.1⟩
        have hl : (wipe σ (own.map (·.2))).length = σ8.length := by rw [← hw8, wipe_length]
        refine ⟨m', hm, i + 1, H', (I'.unpinned (pins := [])).weak hl (fun j v e => ?_), T.keep _ _ _ st7 fun b hb o e => (pin' b hb o e).1, fun b hb => ?_, w'⟩
        · rw [← hw8] at e
          exact (wipe_some e).1
        · obtain ⟨o, e, _⟩ := T.obj _ _ st7 b hb
          exact (pin' b hb o e).2
      cases b with
      | false =>
        simp only [Bool.false_eq_true, if_false] at q9 ⊢
        exact fin I9 q9
      | true =>
        simp only [if_true] at q9 ⊢
        refine thnF (pe _ s9 σ8 H9 _ I9 q9) fun z s10 ⟨yv, H10, I10, r10, acc, hD10, hz10, nx⟩ => ?_
        exact app_ok (X := X.blk s3 H3 scope ce fp) I10 hD10 hz10 r10 fun s11 I11 => fin I11 nx
  exact codeAny_compStart_list loop (T.self X.A 0 _ _ _ st4 loop)
/-- as a value -/
theorem pe_lc {elt tg iter : Expr} {ifs : List Expr} {scope : Scope} {own : List (Str × Nat)} {pos : Pos} {wi : TI} {g : TG} {tt : TT} {te : TE} (hc : X.calm = true) (hN : X.N.Nodup) (hi : PI X tg iter wi) (ok : BlkOk X.N X.env.scope scope own)
    (hg : ∀ (s : Shared) (H : Hp) (C : Addr) (cl : List (Str × Addr)) (fp : List Addr), PG (X.blk s H scope (compEnvC scope cl C X.env) fp) tg g) (ht : ∀ (s : Shared) (H : Hp) (C : Addr) (cl : List (Str × Addr)) (fp : List Addr), PTs (X.blk s H scope (compEnvC scope cl C X.env) fp) ifs tt)
    (he : ∀ (s : Shared) (H : Hp) (C : Addr) (cl : List (Str × Addr)) (fp : List Addr), PE (X.blk s H scope (compEnvC scope cl C X.env) fp) elt te) (hs : ∀ x, foldedSetIterable iter X.env x = pure x := by intro _; rfl) :
    PE X (.ListComp elt [⟨tg, iter, ifs, 0⟩] scope pos) (tLc wi g tt te (own.map (·.2))) := by
  intro pins s σ H Q I h
  rw [eval_ListComp]
  refine lc_core hc hN I hi ok hg ht he hs h fun D C s' m H' I' q hn f => ⟨m, hn, fun h'' sb => ?_⟩
  obtain ⟨f0, f1, f2, f3, f4, f5⟩ := f
  exact ⟨.ref D, H', I'.turned (t' := s'.toks) (fun b o hb e => (sb.2 b hb).trans e) f0 f1 f3 f4 f5, rfl, q⟩
end

/-! ### the forms one uses -/
/-- over a list that the block leaves as it is -/
theorem lc_list {K : PySem.W.Frag} {a : Addr} {xs : List V} {g : TG} {tt : TT} {te : TE} {vs : List Nat} {σ : St} {H1 : Hp} {D : Addr} {Qd : Hp → Prop} (Pv : Nat → Hp → Prop) (h0 : Pv 0 (upd H1 D (.lst []))) (hl : ∀ i H, i ≤ xs.length → Pv i H → SqL K H a xs)
    (hs : ∀ i x H, xs[i]? = some x → Pv i H → g x (wipe σ vs) H fun σ2 H2 => wipe σ2 vs = wipe σ vs ∧ tt σ2 H2 fun b H3 =>
      if b = true then te σ2 H3 fun y H4 => ∃ acc, H4 D = some (.lst acc) ∧ acc.length < sizeLine ∧ Pv (i + 1) (upd H4 D (.lst (acc ++ [y]))) else Pv (i + 1) H3) (hd : ∀ H, Pv xs.length H → Qd H) :
    ∃ W : Nat → Nat → Hp → Prop, (∃ m, W 0 m (upd H1 D (.lst []))) ∧ ∀ i m H, W i m H →
      ((Itl K a).stop i H ∧ Qd H) ∨ ((Itl K a).go i H ∧ ∃ Nx : Hp → Prop, (∀ H', Nx H' → ∃ m', m' < m ∧ W (i + 1) m' H') ∧ ∀ x H', (Itl K a).yld i H x H' → g x (wipe σ vs) H' fun σ2 H2 => wipe σ2 vs = wipe σ vs ∧ tt σ2 H2 fun b H3 =>
        if b = true then te σ2 H3 fun y H4 => ∃ acc, H4 D = some (.lst acc) ∧ acc.length < sizeLine ∧ Nx (upd H4 D (.lst (acc ++ [y]))) else Nx H3) := by
  refine ⟨fun i m H => m = xs.length - i ∧ i ≤ xs.length ∧ Pv i H, ⟨xs.length, by simp, Nat.zero_le _, h0⟩, ?_⟩
  rintro i m H ⟨rfl, hi, p⟩
  have q := hl i H hi p
  by_cases hlt : i < xs.length
  · refine .inr ⟨⟨xs, xs[i], q, by simp [hlt]⟩, Pv (i + 1), fun H' p' => ⟨xs.length - (i + 1), by omega, rfl, hlt, p'⟩, fun x H' y => ?_⟩
    obtain ⟨e, y⟩ := y
    subst e
    exact hs i x _ (y xs q) p
  · have e : i = xs.length := by omega
    subst e
    exact .inl ⟨⟨xs, q, Nat.le_refl _⟩, hd H p⟩
def blkC (N : List Str) (sc scope : Scope) (own : List (Str × Nat)) : Bool :=
  (match scope.kind with | .function => true | _ => false) && (scope.names.all fun y => decide (scope.names.lookup y.1 = some y.2)) && (own.all fun p => decide (N[p.2]? = some p.1)) &&
    (scope.names.all fun y => match y.2 with
      | .free => (match sc.names.lookup y.1 with | some .cell => true | some .free => true | _ => false)
      | .local => decide (y.1 ∈ own.map (·.1)) || decide (y.1 ∉ N)
      | .cell => decide (y.1 ∈ own.map (·.1)) || decide (y.1 ∉ N)
      | _ => true)
theorem blkOk_by {N : List Str} {sc scope : Scope} {own : List (Str × Nat)} (h : blkC N sc scope own = true) : BlkOk N sc scope own := by
  unfold blkC at h
  simp only [Bool.and_eq_true, List.all_eq_true, decide_eq_true_eq] at h
  obtain ⟨⟨⟨h1, h2⟩, h3⟩, h4⟩ := h
  refine ⟨?_, h2, h3, fun y hy e => ?_, fun y hy e => ?_⟩
  · split at h1
    · assumption
    · cases h1
  · have q := h4 y hy
    simp only [e] at q
    split at q <;> first | exact .inl (by assumption) | exact .inr (by assumption) | cases q
  · have q := h4 y hy
    rcases e with e | e <;> (simp only [e, Bool.or_eq_true, decide_eq_true_eq] at q; exact q)
end L2

namespace L2
open PySem PySem.Spec PyProof.Rows

section
variable {prog : Program} {w : World} {A : Around} {R : Result → Shared → Prop} {s : Shared} {elt t0 i0 t1 i1 : Expr} {ifs0 ifs1 : List Expr} {scope : Scope} {pos : Pos} {it acc : Value} {env : Env}
end

section
variable {X : Cx}
end
end L2

namespace L2
open PySem PySem.Spec PyProof.Rows

/-! ### lists of pairs as tables -/
section
variable {κ : Type} [DecidableEq κ]
def valV (kvs : List (κ × V)) (k : κ) : Option V := (kvs.find? fun kv => decide (kv.1 = k)).map (·.2)
/-- in its place, or at the end -/
def putK (kvs : List (κ × V)) (k : κ) (v : V) : List (κ × V) :=
  if (kvs.any fun kv => decide (kv.1 = k)) = true then kvs.map (fun kv => if kv.1 = k then (kv.1, v) else kv) else kvs ++ [(k, v)]
def dropK (kvs : List (κ × V)) (k : κ) : List (κ × V) := kvs.filter fun kv => decide (kv.1 ≠ k)

theorem valV_pos {p : κ × V} {r : List (κ × V)} {k : κ} (e : p.1 = k) : valV (p :: r) k = some p.2 := by simp [valV, List.find?_cons, e]
theorem valV_neg {p : κ × V} {r : List (κ × V)} {k : κ} (e : ¬ p.1 = k) : valV (p :: r) k = valV r k := by simp [valV, List.find?_cons, e]
theorem RelO.isSome_eq {o : Option V} {u : Option Value} (r : RelO o u) : o.isSome = u.isSome := by
  cases o with
  | none => cases u with
    | none => rfl
    | some _ => exact (show False from r).elim
  | some _ => cases u with
    | none => exact (show False from r).elim
    | some _ => rfl
theorem RelO.getD {o : Option V} {u : Option Value} {d : V} {d' : Value} (r : RelO o u) (rd : RelV d d') : RelV (o.getD d) (u.getD d') := by
  cases o with
  | none => cases u with
    | none => exact rd
    | some _ => exact (show False from r).elim
  | some _ => cases u with
    | none => exact (show False from r).elim
    | some _ => exact r

/-- raw tables of the same keys -/
theorem KV.val {kvs : List (κ × V)} {vs : List (κ × Value)} (r : KV kvs vs) (k : κ) : RelO (valV kvs k) (valueAt vs k) := by
  unfold KV at r
  induction r with
  | nil => exact True.intro
  | @cons p q ps qs h t ih =>
    obtain ⟨h1, h2⟩ := h
    by_cases e : p.1 = k
    · have e' : q.1 = k := h1.symm.trans e
      have b : valueAt (q :: qs) k = some q.2 := by simp [valueAt, List.find?_cons, e']
      rw [valV_pos e, b]; exact h2
    · have e' : ¬ q.1 = k := fun z => e (h1.trans z)
      have b : valueAt (q :: qs) k = valueAt qs k := by simp [valueAt, List.find?_cons, e']
      rw [valV_neg e, b]; exact ih
theorem KV.any {kvs : List (κ × V)} {vs : List (κ × Value)} (r : KV kvs vs) (k : κ) : (kvs.any fun kv => decide (kv.1 = k)) = vs.any fun kv => decide (kv.1 = k) := by
  unfold KV at r
  induction r with
  | nil => rfl
  | cons h t ih => rw [List.any_cons, List.any_cons, ih, h.1]
theorem KV.drop {kvs : List (κ × V)} {vs : List (κ × Value)} (r : KV kvs vs) (k : κ) : KV (dropK kvs k) (without vs k) := by
  unfold KV at r ⊢
  unfold dropK without
  induction r with
  | nil => exact .nil
  | @cons p q ps qs h t ih =>
    obtain ⟨h1, h2⟩ := h
    rw [List.filter_cons, List.filter_cons]
    by_cases e : p.1 = k
    · have a : ¬ decide (p.1 ≠ k) = true := by simp [e]
      have b : ¬ decide (q.1 ≠ k) = true := by simp [h1.symm.trans e]
      rw [if_neg a, if_neg b]; exact ih
    · have e' : ¬ q.1 = k := fun z => e (h1.trans z)
      have a : decide (p.1 ≠ k) = true := by simp [e]
      have b : decide (q.1 ≠ k) = true := by simp [e']
      rw [if_pos a, if_pos b]; exact .cons ⟨h1, h2⟩ ih
theorem KV.keys {kvs : List (κ × V)} {vs : List (κ × Value)} (r : KV kvs vs) : kvs.map (·.1) = vs.map (·.1) := by
  unfold KV at r
  induction r with
  | nil => rfl
  | cons h t ih => rw [List.map_cons, List.map_cons, ih, h.1]
theorem KV.length {kvs : List (κ × V)} {vs : List (κ × Value)} (r : KV kvs vs) : kvs.length = vs.length := Paired.length r
end


/-! ### a tracked dict, its keys ints and texts or tuples of these -/
theorem kV_is {P : Program} {w : World} {k : Key} {u : Value} (r : RelV (kV k) u) : (mixKind P w).is k u = true := by
  cases k with
  | inl i => obtain ⟨t, e⟩ := (show ∃ t, u = Value.int i t from r); subst e; exact mixKind_int P w i t
  | inr x => obtain ⟨t, e⟩ := (show ∃ t, u = Value.str x t from r); subst e; exact mixKind_str P w x t
/-- raw entries of a dict with tuple keys -/
abbrev KT (H : Hp) : List (List Key × V) → List (List Key × Addr × Value) → Prop := Paired fun p q => p.1 = q.1 ∧ H q.2.1 = some (.tup (p.1.map kV)) ∧ RelV p.2 q.2.2
theorem KT.val {H : Hp} {kvs : List (List Key × V)} {xs : List (List Key × Addr × Value)} (r : KT H kvs xs) (k : List Key) : RelO (valV kvs k) ((atKey xs k).map (·.2)) := by
  induction r with
  | nil => exact True.intro
  | @cons p q ps qs h t ih =>
    obtain ⟨h1, _, h2⟩ := h
    by_cases e : p.1 = k
    · have e' : q.1 = k := h1.symm.trans e
      have b : atKey (q :: qs) k = some q.2 := by simp [atKey, List.find?_cons, e']
      rw [valV_pos e, b]; exact h2
    · have e' : ¬ q.1 = k := fun z => e (h1.trans z)
      have b : atKey (q :: qs) k = atKey qs k := by simp [atKey, List.find?_cons, e']
      rw [valV_neg e, b]; exact ih
theorem KT.keeps {H H' : Hp} {kvs : List (List Key × V)} {xs : List (List Key × Addr × Value)} (r : KT H kvs xs) (ht : ∀ b ys, H b = some (.tup ys) → H' b = some (.tup ys)) : KT H' kvs xs :=
  Paired.mapP r fun _ _ z => ⟨z.1, ht _ _ z.2.1, z.2.2⟩

section
variable {P : Program} {w : World} {H : Hp} {h : Heap} {a : Addr}
end

/-- what the dict at a holds at the key y -/
def DGet (H : Hp) (a : Addr) (y : V) (r : Option V) : Prop :=
  (∃ kvs k, Rd H a (.dK kvs) ∧ y = kV k ∧ r = valV kvs k) ∨ ∃ kvs k b, Rd H a (.dT kvs) ∧ y = .ref b ∧ H b = some (.tup (k.map kV)) ∧ r = valV kvs k
/-- the heap behind a[y] = v -/
def DPut (H : Hp) (a : Addr) (y v : V) (H' : Hp) : Prop :=
  (∃ kvs k, H a = some (.dK kvs) ∧ y = kV k ∧ kvs.length < sizeLine ∧ H' = upd H a (.dK (putK kvs k v))) ∨
  ∃ kvs k b, H a = some (.dT kvs) ∧ y = .ref b ∧ H b = some (.tup (k.map kV)) ∧ kvs.length < sizeLine ∧ H' = upd H a (.dT (putK kvs k v))
theorem DGet.k {H : Hp} {a : Addr} {kvs : List (Key × V)} {k : Key} (e : H a = some (.dK kvs)) : DGet H a (kV k) (valV kvs k) := .inl ⟨kvs, k, .inl e, rfl, rfl⟩
theorem DGet.t {H : Hp} {a b : Addr} {kvs : List (List Key × V)} {k : List Key} (e : H a = some (.dT kvs)) (eb : H b = some (.tup (k.map kV))) : DGet H a (.ref b) (valV kvs k) := .inr ⟨kvs, k, b, .inl e, rfl, eb, rfl⟩
theorem DPut.k {H : Hp} {a : Addr} {kvs : List (Key × V)} {k : Key} {v : V} (e : H a = some (.dK kvs)) (hl : kvs.length < sizeLine) : DPut H a (kV k) v (upd H a (.dK (putK kvs k v))) := .inl ⟨kvs, k, e, rfl, hl, rfl⟩
theorem DPut.t {H : Hp} {a b : Addr} {kvs : List (List Key × V)} {k : List Key} {v : V} (e : H a = some (.dT kvs)) (eb : H b = some (.tup (k.map kV))) (hl : kvs.length < sizeLine) :
    DPut H a (.ref b) v (upd H a (.dT (putK kvs k v))) := .inr ⟨kvs, k, b, e, rfl, eb, hl, rfl⟩


section
variable {X : Cx} {pins : List (Addr × Obj)} {σ : St} {H : Hp} {s : Shared} {a : Addr} {y v : V} {u r : Value} {o : Option V} {A : Around} {E : Value → Shared → Prop}

end

section
variable {X : Cx} {pins : List (Addr × Obj)} {σ : St} {H : Hp} {s : Shared} {a : Addr} {kvs : List (Key × V)} {k : Key} {u : Value} {A : Around} {E : Value → Shared → Prop}
end


/-! ### readings and rules -/
/-- the element of a subscription, not a slice -/
def NoSl (i : Expr) : Prop := ∀ ov iv, subscripted i false ov iv = operate [ov, iv] (getItem ov iv)
theorem subD_of {prog : Program} {w : World} {A : Around} {E : Value → Shared → Prop} {s : Shared} {env : Env} {value slice : Expr} {pos : Pos} {T id : String} {Q : Value → Shared → Prop}
    (hl : typeLookup (.type T) "__getitem__" = pure (some (.builtin id))) (hs : NoSl slice)
    (h : wpAny (model prog w) A (eval value env) (fun o s₁ => wpAny (model prog w) A (eval slice env) (fun i s₂ => s₂.TypeIs o T ∧ wpAny (model prog w) A (getItem o i) Q E s₂) E s₁) E s) :
    wpAny (model prog w) A (eval (.Subscript value slice pos) env) Q E s := by
  refine Subscript_ (wpAny_mono h (fun o s₁ h₁ => wpAny_mono h₁ (fun i s₂ h₂ => ?_) fun _ _ x => x) fun _ _ x => x)
  obtain ⟨hT, h₂⟩ := h₂
  unfold subscriptTail
  refine wpAny_bind ?_
  rw [getitemInPython_of_ne hT.not_modules]
  refine wpAny_bind (wpAny_specialOf hT hl ?_)
  have fin : wpAny (model prog w) A (subscripted slice false o i) (fun r s₃ => wpAny (model prog w) A (letTemporaryGo value o r >>= fun _ => pure r) Q E s₃) E s₂ := by
    rw [hs o i]
    exact wpAny_operating (wpAny_mono h₂ (fun r s₃ h₃ => wpAny_bind (wpAny_letTemporaryGo (wpAny_pure h₃))) fun _ _ x => x)
  first
    | exact wpAny_pure (wpAny_bind fin)
    | exact wpAny_bind (wpAny_pure (wpAny_bind fin))
    | exact wpAny_bind fin

section
variable {X : Cx} {o i e value : Expr} {pos pos' tpos : Pos} {td ty tv : TE}
end


/-! ### displays -/
section
variable {X : Cx} {pos : Pos}
end

/-! ### methods -/
/-- a method call o.m(e) of a built-in, with one argument: what must be seen of the text -/
structure M1 (X : Cx) (o : Expr) (m : Str) (apos : Pos) (e : Expr) (cpos : Pos) : Prop where
  base : attributeBase o m X.env (eval o X.env) = eval o X.env
  few : ((backTo cpos (starEach [e] X.env)).all (fun x => !x.1) && (backToKw cpos (keywordEach [] X.env)).all (fun x => x.1.isSome)
    && decide (([e] : List Expr).length + ([] : List Keyword).length + (if ([] : List Keyword).isEmpty then 0 else 1) < 30)) = true
  line : (apos.endLine == cpos.line) = true
  trees : backTo cpos (starEach [e] X.env) = [(false, eval e X.env)]
structure M2 (X : Cx) (o : Expr) (m : Str) (apos : Pos) (e f : Expr) (cpos : Pos) : Prop where
  base : attributeBase o m X.env (eval o X.env) = eval o X.env
  few : ((backTo cpos (starEach [e, f] X.env)).all (fun x => !x.1) && (backToKw cpos (keywordEach [] X.env)).all (fun x => x.1.isSome)
    && decide (([e, f] : List Expr).length + ([] : List Keyword).length + (if ([] : List Keyword).isEmpty then 0 else 1) < 30)) = true
  line : (apos.endLine == cpos.line) = true
  trees : backTo cpos (starEach [e, f] X.env) = [(false, eval e X.env), (false, eval f X.env)]

section
variable {X : Cx} {pins : List (Addr × Obj)} {σ : St} {H : Hp} {s : Shared} {a : Addr} {y d : V} {u r : Value} {o : Option V} {A : Around} {E : Value → Shared → Prop}
end

section
variable {X : Cx} {o e f : Expr} {apos cpos : Pos} {td ty tx : TE}
end

/-! ### dict(d): a copy -/
section
variable {X : Cx} {pins : List (Addr × Obj)} {σ : St} {H : Hp} {s : Shared} {a : Addr} {kvs : List (Key × V)} {A : Around} {E : Value → Shared → Prop}
end


section
variable {X : Cx} {pins : List (Addr × Obj)} {σ : St} {H : Hp} {s : Shared} {a : Addr} {y : V} {u : Value} {A : Around} {E : Value → Shared → Prop}
end
end L2

namespace L2
open PySem PySem.Spec PyProof.Rows

section
variable {prog : Program} {w : World} {A : Around} {E : Value → Shared → Prop}
end

section
variable {X : Cx}
theorem refs_at : ∀ {ps : List Addr} {us : List Value}, Vals (ps.map V.ref) us → us = ps.map Value.ref
  | [], us, r => by
    rw [List.map_nil] at r
    cases r
    rfl
  | p :: ps, us, r => by
    rw [List.map_cons] at r
    cases r with
    | cons h t =>
      cases h
      rw [List.map_cons, ← refs_at t]
end
end L2

namespace L2
open PySem PySem.Spec PyProof.Rows

section
variable {X : Cx} {pins : List (Addr × Obj)} {σ : St} {H : Hp} {s : Shared} {h' : Heap}
/-- .. and one new object is laid -/
theorem Inv.turnedNew {t' : Nat} {ch : List Addr} {T : Addr} {ob : HO} (I : Inv X pins σ H s) (k : ∀ b o, b ∉ ch → s.heap.get? b = some o → h'.get? b = some o) (hf : ∀ b ∈ ch, FpOk X pins H b) (hT : s.heap.objs.size ≤ T)
    (new : ObjOk X.prog X.w (upd H T ob) h' T ob) : Inv X pins σ (upd H T ob) { s with heap := h', toks := t' } := by
  have hn : H T = none := I.hok.fresh hT
  have nit : ∀ b u, H b = some u → b ∉ ch := fun b u e z => by
    have q := (hf b z).1
    rw [q] at e; cases e
  refine I.step (g' := s.gens) (d' := s.drawn) (ch := ch) (fun b hb => ⟨(hf b hb).2.2.2.1, (hf b hb).2.1, (hf b hb).2.2.2.2.1, (hf b hb).2.2.2.2.2⟩) (fun b o _ _ hc e _ => k b o hc e) (fun b o _ _ hc e _ => ⟨o.slots, k b o hc e⟩)
    (fun b o _ e n => ?_) (fun b o hc e => ⟨o, k b o hc e⟩) (fun b xs e => ?_) (fun b o u e => ?_) (fun b ps e => ⟨#[], ?_⟩) (fun m hm => ?_) (fun b u e => ?_) I.bare
  · rw [upd_ne (Nat.ne_of_lt (Nat.lt_of_lt_of_le (Heap.lt_size e) hT))]; exact n
  · rw [upd_ne (ne_of_none e hn)]; exact e
  · rw [upd_ne (ne_of_none e hn)]; exact e
  · rw [upd_ne (ne_of_none e hn), e]; simp
  · obtain ⟨o, es, ep, ho, r⟩ := hm
    exact ⟨o, es, ep, k _ o (fun z => (hf _ z).2.1 rfl) ho, r⟩
  · by_cases hb : b = T
    · subst hb
      rw [upd_same] at e
      cases e
      exact new
    · rw [upd_ne hb] at e
      refine (I.hok b u e).stay (fun c v hc q => k c v ?_ q) (fun c q => by rw [upd_ne (ne_of_none q hn)]; exact q) fun c xs q => by rw [upd_ne (ne_of_none q hn)]; exact q
      rcases hc with z | z
      · rw [z]; exact nit b u e
      · exact nit c _ z

/-! ### locking a thing while a statement runs -/
theorem Inv.lock {d : Addr} {u : HO} (I : Inv X pins σ H s) (h : H d = some u) (mu : Mut (some u)) : ∃ od, Inv X pins σ (upd H d (.frz od u)) s := by
  have x := I.hok d u h
  have ex : ∃ od, s.heap.get? d = some od := by
    cases u with
    | lst xs => obtain ⟨_, _, _, _, e⟩ := x; exact ⟨_, e⟩
    | dK kvs => obtain ⟨_, _, _, _, o, _, _, e, _⟩ := x; exact ⟨o, e⟩
    | dT kvs => obtain ⟨_, _, _, _, o, _, _, e, _⟩ := x; exact ⟨o, e⟩
    | set S n => obtain ⟨o, _, _, _, e, _⟩ := x; exact ⟨o, e⟩
    | ins C dx fs => obtain ⟨_, _, _, e, _⟩ := x; exact ⟨_, e⟩
    | ext φ => obtain ⟨_, ⟨_, e⟩, _⟩ := x; exact ⟨_, e⟩
    | _ => exact False.elim mu
  obtain ⟨od, e⟩ := ex
  have new : ObjOk X.prog X.w (upd H d (.frz od u)) s.heap d (.frz od u) := by
    refine ⟨e, x.stay (fun b v _ q => q) (fun b q => ?_) fun b xs q => ?_⟩
    · rw [upd_ne (fun z => by rw [z, h] at q; cases q; exact mu)]; exact q
    · rw [upd_ne (fun z => by rw [z, h] at q; cases q; exact mu)]; exact q
  exact ⟨od, I.write (x := d) (e := d) (t' := s.toks) (h' := s.heap) (by rw [h]; exact mu) (.inl rfl) (fun b v _ q => q) ⟨od, e⟩ new⟩
theorem Inv.nofrz {d : Addr} {u : HO} (I : Inv X pins σ H s) (h : H d = some u) (mu : Mut (some u)) : ∀ o' u', X.H_0 d ≠ some (.frz o' u') := fun o' u' e => by
  have q := I.base.frzs d o' u' e
  rw [h] at q
  cases q
  exact mu
theorem Inv.unlock {d : Addr} {od : Obj} {u : HO} (I : Inv X pins σ H s) (h : H d = some (.frz od u)) (hn : ∀ o' u', X.H_0 d ≠ some (.frz o' u')) : Inv X pins σ (upd H d u) s := by
  have neH : ∀ b o, H b = some o → (∀ o' u', o ≠ .frz o' u') → b ≠ d := fun b o e hne z => by
    rw [z, h] at e
    cases e
    exact hne _ _ rfl
  have neN : ∀ b, H b = none → b ≠ d := fun b e z => by rw [z, h] at e; cases e
  refine ⟨I.ok, I.os, I.bare, ⟨I.base.keep, I.base.slot, fun b o e n hx => ?_, I.base.there, fun b xs e => ?_, fun b o x e => ?_, fun b ps e => ?_⟩, I.loc, I.cell, ?_, fun x c e => ?_, fun p hp => ?_, fun b o e => ?_, I.len⟩
  · rw [upd_ne (neN b (I.base.free b o e n hx))]; exact I.base.free b o e n hx
  · have q := I.base.tups b xs e
    rw [upd_ne (neH b _ q (fun _ _ z => nomatch z))]; exact q
  · have q := I.base.frzs b o x e
    rw [upd_ne (fun z => by rw [z] at e; exact hn _ _ e)]; exact q
  · obtain ⟨m, q⟩ := I.base.tbls b ps e
    exact ⟨m, by rw [upd_ne (neH b _ q (fun _ _ z => nomatch z))]; exact q⟩
  · rw [upd_ne (neN _ I.free)]; exact I.free
  · rw [upd_ne (neN c (I.freeC x c e))]; exact I.freeC x c e
  · obtain ⟨e, n, r⟩ := I.pin p hp
    exact ⟨e, by rw [upd_ne (neN _ n)]; exact n, r⟩
  · by_cases hb : b = d
    · rw [hb, upd_same] at e
      cases e
      rw [hb]
      obtain ⟨_, x⟩ := I.hok d _ h
      exact x.stay (fun c v _ q => q) (fun c q => by rw [upd_ne (neH c _ q (fun _ _ z => nomatch z))]; exact q) fun c xs q => by rw [upd_ne (neH c _ q (fun _ _ z => nomatch z))]; exact q
    · rw [upd_ne hb] at e
      exact (I.hok b o e).stay (fun c v _ q => q) (fun c q => by rw [upd_ne (neH c _ q (fun _ _ z => nomatch z))]; exact q) fun c xs q => by rw [upd_ne (neH c _ q (fun _ _ z => nomatch z))]; exact q
end
/-- the statement runs while the thing at d is locked (read, not written); d and what stands there are the reading's choice -/
def tLock (t : TS) : TS := fun D σ H => ∃ d u, H d = some u ∧ Mut (some u) ∧ ∀ od, t ⟨fun σ' H' => H' d = some (.frz od u) ∧ D.nx σ' (upd H' d u), fun v H' => H' d = some (.frz od u) ∧ D.rt v (upd H' d u), fun σ' H' => H' d = some (.frz od u) ∧ D.bk σ' (upd H' d u), fun σ' H' => H' d = some (.frz od u) ∧ D.ct σ' (upd H' d u)⟩ σ (upd H d (.frz od u))
section
variable {X : Cx}
theorem ps_lock {st : Stmt} {t : TS} (h : PS X st t) : PS X st (tLock t) := by
  intro pins s σ H D I hw
  obtain ⟨d, u, hd, mu, hw⟩ := hw
  obtain ⟨od, I1⟩ := I.lock hd mu
  refine thn (h pins s σ _ _ I1 (hw od)) fun f s1 q => ?_
  cases f with
  | next => obtain ⟨σ', H', I2, e, q⟩ := q; exact ⟨σ', _, I2.unlock e (I.nofrz hd mu), q⟩
  | brk => obtain ⟨σ', H', I2, e, q⟩ := q; exact ⟨σ', _, I2.unlock e (I.nofrz hd mu), q⟩
  | cont => obtain ⟨σ', H', I2, e, q⟩ := q; exact ⟨σ', _, I2.unlock e (I.nofrz hd mu), q⟩
  | ret v => obtain ⟨x, σ', H', I2, r, e, q⟩ := q; exact ⟨x, σ', _, I2.unlock e (I.nofrz hd mu), r, q⟩
/-! ### one iterator just laid -/
end

/-! ### range with a step -/
section
variable {X : Cx} {tg : Expr}
end
/-! ### reversed(list) -/
section
variable {X : Cx} {tg : Expr}
end

/-! ### a str -/
/-! ### a dict's keys: any dict's entries -/
section
variable {prog : Program} {w : World} {A : Around} {E : Value → Shared → Prop} {s : Shared}
end

/-! ### a locked dict -/
section
variable {X : Cx} {pins : List (Addr × Obj)} {σ : St} {H : Hp} {s : Shared} {d : Addr} {o : Obj}
end

section
variable {P : Program} {w : World} {K : PySem.W.Frag} {tg : Expr} {d : Addr} {o : Obj} {es : Array DictEntry} {ep : Nat}
end

/-! ### for k in d, d.keys(), d.values(), d.items() -/
section
variable {X : Cx} {tg e : Expr} {td : TE} {apos cpos : Pos}
end

/-! ### enumerate(list) -/
/-- the list at a as it stands at each turn, each item in a new pair -/
def Ite (K : PySem.W.Frag) (a : Addr) : It :=
  ⟨fun i H => ∃ (xs : List V) (x : V), SqL K H a xs ∧ xs[i]? = some x, fun i H v H' => ∃ T x, v = .ref T ∧ H T = none ∧ H' = upd H T (.tup [.int (i : Nat), x]) ∧ ∀ xs, SqL K H a xs → xs[i]? = some x, fun i H => ∃ xs : List V, SqL K H a xs ∧ xs.length ≤ i⟩
theorem turn_enum {P : Program} {w : World} {K : PySem.W.Frag} {elts : List Expr} {kk : Nat} {tpos : Pos} (a e it : Addr) :
    Turn P w K (.Tuple elts kk tpos) (Ite K a) [e, it] e (fun i h => (∃ old, IsEnum h e it ((i : Nat) : Int) old) ∧ h.IsListIter it a i ∧ e ≠ it) where
  mem := by simp
  obj := fun i h st b hb => by
    obtain ⟨⟨old, he⟩, ⟨o, ho, hc, hd⟩, _⟩ := st
    have e' : b = e ∨ b = it := by simpa using hb
    rcases e' with z | z
    · rw [z]; exact ⟨_, he, fun v q => nomatch q⟩
    · rw [z]; exact ⟨o, ho, fun v q => by rw [hd] at q; cases q⟩
  keep := fun i h h' st k => let ⟨⟨old, he⟩, hi, hne⟩ := st; ⟨⟨old, k e (by simp) _ he⟩, hi.at fun o q => k it (by simp) o q, hne⟩
  item := by
    intro X hP hw hK hc i pins s σ H E I hf st hg
    subst hP hw hK
    obtain ⟨⟨old, he⟩, hit, hne⟩ := st
    obtain ⟨xs, x, hq, hx⟩ := hg
    obtain ⟨its, rv, p, hz⟩ := I.list hq
    obtain ⟨u, hu, ru⟩ := rv.get hx
    have hel : e < s.heap.objs.size := Heap.lt_size he
    have hil : it < s.heap.objs.size := by obtain ⟨_, q, _⟩ := hit; exact Heap.lt_size q
    refine wpAny_pyNext_enum_item he hit p.isList (x := u) (by simpa using hu) hne fun h' ho hit' hT hsz hk => ?_
    refine ⟨_, rfl, wpAny_letOwnedTupleGo_enum (s := { s with heap := h', toks := s.toks + 1 }) ho fun h'' he' sb => ?_⟩
    have hT2 : h''.get? s.heap.objs.size = some { cls := .type "tuple", data := .seq #[.int i s.toks, u] } := (sb.2 _ (Nat.ne_of_gt hel)).trans hT
    have new : ObjOk X.prog X.w (upd H s.heap.objs.size (.tup [.int (i : Nat), x])) h'' s.heap.objs.size (.tup [.int (i : Nat), x]) :=
      ⟨by show 2 ≤ sizeLine; decide, [.int i s.toks, u], .cons ⟨_, rfl⟩ (.cons ru .nil), ⟨_, hT2, rfl, _, rfl⟩⟩
    have I1 : Inv X pins σ (upd H s.heap.objs.size (.tup [.int (i : Nat), x])) { s with heap := h'', toks := s.toks + 1 } :=
      I.turnedNew (ch := [e, it]) (fun b ob hb q => (sb.2 b (fun z => hb (by simp [z]))).trans (hk b ob (fun z => hb (by simp [z])) (fun z => hb (by simp [z])) q)) hf (Nat.le_refl _) new
    refine ⟨.ref s.heap.objs.size, _, I1, rfl, ⟨_, x, rfl, I.hok.fresh (Nat.le_refl _), rfl, fun ys hy => by rw [I.list_inj hy hq]; exact hx⟩, ⟨⟨u, ?_⟩, hit'.at fun o q => (sb.2 it (Ne.symm hne)).trans q, hne⟩, fun b hb => ?_⟩
    · have e1 : ((i + 1 : Nat) : Int) = (i : Int) + 1 := by omega
      rw [e1]; exact he'
    · have hb' : b < s.heap.objs.size := by
        have e' : b = e ∨ b = it := by simpa using hb
        rcases e' with z | z
        · rw [z]; exact hel
        · rw [z]; exact hil
      rw [upd_ne (Nat.ne_of_lt hb')]
      exact (hf b hb).1
  done := by
    intro X hP hw hK hc i pins s σ H E I hf st hg
    subst hP hw hK
    obtain ⟨⟨old, he⟩, hit, hne⟩ := st
    obtain ⟨xs, hq, hx⟩ := hg
    obtain ⟨its, rv, p, hz⟩ := I.list hq
    obtain ⟨f0, f1, f2, f3, f4, f5⟩ := hf it (by simp)
    have hl := rv.length
    exact wpAny_pyNext_enum_end (I.ok.hd hc) he hit p.isList (by simp; omega) fun h' eb => ⟨rfl, I.turned (t' := s.toks) (fun b o hb q => eb b o hb q) f0 f1 f3 f4 f5⟩
  self := fun A i s Q E st h => let ⟨⟨_, he⟩, _⟩ := st; wpAny_pyIter_enum he h
def iEnum (K : PySem.W.Frag) (ta : TA) : TI := fun σ H R => ta σ H fun vs H1 => ∃ a xs, vs = [.ref a] ∧ SqL K H1 a xs ∧ R (Ite K a) H1
theorem pi_enum {X : Cx} {e : Expr} {ta : TA} {p pos tpos : Pos} {elts : List Expr} {kk : Nat} (hg : Gl X "enumerate") (hm : X.mg "enumerate" = none) (ha : PA X [e] ta) (hs : starEach [e] X.env = [(false, eval e X.env)] := by rfl) :
    PI X (.Tuple elts kk tpos) (.Call (.Name "enumerate" p) [e] [] pos) (iEnum X.K ta) := by
  intro pins s σ H R I h
  refine Call_ (ld_blt I hg hm boot_enumerate (PyProof.Rows.callWith_type1 (thn (ha pos pins s σ H _ I h) fun us s1 ⟨vs, H1, I1, r1, q1⟩ => ?_) hs rfl))
  obtain ⟨a, xs, ex, hq, q⟩ := q1
  subst ex
  cases r1 with
  | cons r rr =>
    cases rr
    cases r
    obtain ⟨its, rv, p', hz⟩ := I1.list hq
    refine call_enumerate_list p'.isList fun h' he hit hsz hk => wpAny_pyIter_enum he ?_
    have I2 : Inv X pins σ H1 { s1 with heap := h' } := I1.kept (t' := s1.toks) hk
    refine ⟨s1.heap.objs.size + 1, [s1.heap.objs.size + 1, s1.heap.objs.size], _, _, H1, rfl, I2, turn_enum a (s1.heap.objs.size + 1) s1.heap.objs.size, ⟨⟨.none, he⟩, hit, Nat.succ_ne_self _⟩, fun b hb => ?_, q⟩
    have e' : b = s1.heap.objs.size + 1 ∨ b = s1.heap.objs.size := by simpa using hb
    have hle : s1.heap.objs.size ≤ b := by
      rcases e' with z | z
      · rw [z]; exact Nat.le_add_right _ _
      · rw [z]; exact Nat.le_refl _
    exact I1.fpOk hle (I1.hok.fresh hle)
/-! ### zip(list, list) -/
end L2

section 
namespace Bits
open PySem PyProof.Rows

end Bits
end 

section 
namespace TL
open PySem PySem.Builtin PySem.Builtin.Str PySem.StrLaws

abbrev tl (x : Str) : List Nat := x.cps.toList
/-! ### the list functions -/
/-- S stands at the head of l -/
def pre (S l : List Nat) : Bool := l.take S.length == S
/-- l cut at each S from the left; k signs are still to be passed over -/
def spl (S : List Nat) : Nat → List Nat → List Nat → List (List Nat)
  | _, acc, [] => [acc]
  | 0, acc, c :: r => if pre S (c :: r) = true then acc :: spl S (S.length - 1) [] r else spl S 0 (acc ++ [c]) r
  | k + 1, acc, _ :: r => spl S k acc r
/-- what stands before the first S, and behind it -/
def par (S : List Nat) : List Nat → List Nat → Option (List Nat × List Nat)
  | _, [] => none
  | acc, c :: r => if pre S (c :: r) = true then some (acc, (c :: r).drop S.length) else par S (acc ++ [c]) r

/-! ### the model's split and partition are these -/
/-! ### computing spl and par -/
/-! ### digits -/
/-! ### words: x.split() -/
end TL
end 

namespace L2
open PySem PySem.Spec PyProof.Rows

section
variable {X : Cx} {pins : List (Addr × Obj)} {σ : St} {H : Hp} {s : Shared} {Q : VK}
end

section
variable {X : Cx}

/-! ### of a text alone -/
/-! ### of a text and a text -/
end

section
variable {X : Cx} {o e : Expr} {to te : TE}
end
end L2

namespace L2
open PySem PySem.Spec PyProof.Rows

section
variable {X : Cx}
end

/-! ### slices of a text -/
theorem IsPart.raw {v : Value} {o : Option Int} (p : IsPart v o) : ∃ l : Option (Int × Tok), v = partValue l ∧ l.map (·.1) = o := by
  cases p with
  | none => exact ⟨none, rfl, rfl⟩
  | int i t => exact ⟨some (i, t), rfl, rfl⟩

end L2

namespace Att
open PySem PySem.W PySem.Calls PyProof.Rows

/-! ### the script -/
/-! ### the attachment: holds_open's last premise (the goal 'hc' behind k_head) from a wpAny of the law's body -/
/-! ### rules over ANY heap (no ledger) from facts about the written part K: the library's own take a ledger (News) for what they write -/
section
variable {prog : Program} {w : World} {A : Around} {E : Value → Shared → Prop} {s : Shared} {K : Frag}

/-! the whole heap as the ledger: makes every rule that writes through a ledger a rule over any heap -/
def noObjs (h : Heap) : Heap := { h with objs := #[] }
theorem noObjs_get (h : Heap) (b : Addr) : (noObjs h).get? b = none := by
  cases e : (noObjs h).get? b with
  | none => rfl
  | some o => exact absurd (Heap.lt_size e) (Nat.not_lt_zero _)
def ledger (h : Heap) (L d : Addr) : List (Addr × Obj) := (List.range h.objs.size).filterMap fun a => if a = L ∨ a = d then none else (h.get? a).map fun o => (a, o)
theorem fr_all {h : Heap} {L : Addr} {m : Str → Option Value} (n : h.Ns L m) : Fr (noObjs h) L h m :=
  ⟨n, fun b o e => (by rw [noObjs_get] at e; cases e), Nat.zero_le _⟩
end
end Att

namespace L2
open PySem PySem.Spec PyProof.Rows

end L2

namespace L2
open PySem PySem.Spec PyProof.Rows

end L2


/-! SHORT WORDS over the layer: a def of the text, its body, what a loop and a test want. -/
namespace L2
open PySem PySem.Spec PyProof.Rows

/-! ### the text by places -/
/-- the j-th statement of a class's body -/
def inClass (s : Stmt) (j : Nat) : Stmt := match s with
  | .ClassDef _ _ _ body _ _ _ _ _ _ _ => body.getD j (.Pass ⟨0, 0, 0, 0⟩)
  | _ => .Pass ⟨0, 0, 0, 0⟩
def defArgs (s : Stmt) : Arguments := match s with
  | .FunctionDef _ a _ _ _ _ _ _ _ _ => a
  | _ => { posonlyargs := [], args := [], vararg := none, kwonlyargs := [], kw_defaults := [], kwarg := none, defaults := [] }
def defBody (s : Stmt) : List Stmt := match s with
  | .FunctionDef _ _ b _ _ _ _ _ _ _ => b
  | _ => []
def defScope (s : Stmt) : Scope := match s with
  | .FunctionDef _ _ _ _ _ _ sc _ _ _ => sc
  | _ => { kind := .function, names := [], isGenerator := false, isCoroutine := false }

/-! ### no exception leaves a def -/
abbrev CX0 : CXT := fun _ _ _ _ _ _ => False
abbrev E0 : XK := fun _ _ _ => False
theorem pass0 {X : Cx} : Passes CX0 X E0 := fun _ _ _ _ _ _ _ h => h.elim

/-! ### a def (or method) of the text as it stands behind the top -/
structure Fun (K : PySem.W.Frag) (x qual : Str) (st : Stmt) (f : Addr) (fd : FuncData) : Prop where
  ex : ∃ (oc : Value) (od : Option Addr) (kV doc pm : Value) (an : Option Addr) (cdv ct : Value) (osl : Array (Option Value)),
    fd = PySem.W.fnOf x qual (defArgs st) (defBody st) (defScope st) .none kV doc pm an cdv ct ∧ K.lookup f = some ⟨oc, od, .func fd, osl⟩ ∧ PySem.W.codeIn K cdv qual = true
  kp : PySem.W.keepIn K (.ref f) = true
section
variable {P : Program} {w : World} {K : PySem.W.Frag} {mg : Str → Option Value} {base : Heap}
/-- THE RULE for a def: its body as a term of rules, and the reading of that term -/
theorem Fun.ok {x qual : Str} {st : Stmt} {f : Addr} {fd : FuncData} {N ps : List Str} {k : Nat} {sp : Sp} (F : Fun K x qual st f fd) (S : FnScope N ps (defScope st)) (len : ∀ vs H Q E, sp vs H Q E → vs.length = ps.length)
    (hbody : ∀ (cdv : Value) (A : Around) (outer : List Env) (s : Shared) (H : Hp) (vs : List V) (Q : VK) (E : XK), Room k (A.deeper (envOfC qual (defScope st) s.heap.objs.size f cdv)) → sp vs H Q E →
      ∃ t, PSs (cxOf CX0 P w K mg base N qual (defScope st) f cdv A outer s H E).nox (defBody st) t ∧ t { nx := fun _ H' => Q .non H', rt := Q } (start N vs) H) : FnOk P w K mg base CX0 (k + 1) f fd ps sp := by
  obtain ⟨oc, od, kV, doc, pm, an, cdv, ct, osl, rfl, lk, hcd⟩ := F.ex
  refine fn_of lk hcd S len fun A outer s H vs Q E hr hsp => ?_
  obtain ⟨t, h, q⟩ := hbody cdv A outer s H vs Q E hr hsp
  exact ⟨t, h.nox, q⟩
/-- how its arguments bind (no defaults): h is «fun _ _ _ _ _ _ us hl => match us, hl with | [_, _], _ => rfl», one _ a parameter -/
theorem Fun.binds {x qual : Str} {st : Stmt} {f : Addr} {fd : FuncData} {ps : List Str} (F : Fun K x qual st f fd)
    (h : ∀ (kV doc pm : Value) (an : Option Addr) (cdv ct : Value) (us : List Value), us.length = ps.length → bindArgs (PySem.W.fnOf x qual (defArgs st) (defBody st) (defScope st) .none kV doc pm an cdv ct) ⟨us, []⟩ = pure (ps.zip us)) : Binds K fd ps [] := by
  obtain ⟨oc, od, kV, doc, pm, an, cdv, ct, osl, rfl, lk, hcd⟩ := F.ex
  exact .all (h kV doc pm an cdv ct)
theorem fun_mk {x qual : Str} {st : Stmt} {f : Addr} {oc : Value} {od an : Option Addr} {osl : Array (Option Value)} {kV doc pm cdv ct : Value} (l : K.lookup f = some ⟨oc, od, .func (PySem.W.fnOf x qual (defArgs st) (defBody st) (defScope st) .none kV doc pm an cdv ct), osl⟩)
    (c : PySem.W.codeIn K cdv qual = true) (k : PySem.W.keepIn K (.ref f) = true) : Fun K x qual st f (PySem.W.fnOf x qual (defArgs st) (defBody st) (defScope st) .none kV doc pm an cdv ct) := ⟨⟨oc, od, kV, doc, pm, an, cdv, ct, osl, rfl, l, c⟩, k⟩
end
/-! ### expressions in short: the name that stands in the i-th slot -/
section
variable {X : Cx}
theorem pv (i : Nat) {x : Str} {pos : Pos} (hN : X.N[i]? = some x := by rfl) (hv : Vis X.env.scope x := by first | exact Or.inl rfl | exact Or.inr (Or.inl rfl) | exact Or.inr (Or.inr rfl)) (hd : (x == ("__debug__" : Str)) = false := by decide)
    (hcd : (x == ("__classdict__" : Str)) = false := by decide) : PE X (.Name x pos) (tVar i) := pe_var hN hv hd hcd
end

/-! ### tests -/
theorem iteF {A B : Prop} (h : B) : if false = true then A else B := by
  rw [if_neg Bool.false_ne_true]
  exact h
theorem iteT {A B : Prop} (h : A) : if true = true then A else B := by
  rw [if_pos rfl]
  exact h
theorem ite2 {c A B : Prop} [Decidable c] (h1 : c → A) (h2 : ¬ c → B) : if c then A else B := by
  by_cases h : c
  · rw [if_pos h]
    exact h1 h
  · rw [if_neg h]
    exact h2 h
/-! ### heaps -/
/-- all that was tracked is as it was -/
def Same (H H' : Hp) : Prop := ∀ b o, H b = some o → H' b = some o
theorem Same.refl (H : Hp) : Same H H := fun _ _ h => h
theorem Same.trans {H H1 H2 : Hp} (a : Same H H1) (b : Same H1 H2) : Same H H2 := fun c o h => b c o (a c o h)
theorem Same.free {H H' : Hp} (e : Same H H') {l : Addr} (h : H' l = Option.none) : H l = Option.none := by
  cases q : H l with
  | none => rfl
  | some o =>
    rw [e l o q] at h
    cases h
theorem Same.seq {K : PySem.W.Frag} {H H' : Hp} {a : Addr} {xs : List V} (e : Same H H') (h : SqL K H a xs) : SqL K H' a xs := by
  rcases h with (h | ⟨o, h⟩) | h
  · exact .inl (.inl (e _ _ h))
  · exact .inl (.inr ⟨o, e _ _ h⟩)
  · exact .inr h

/-! ### a dict's pairs: keys that differ -/
section
variable {κ : Type} [DecidableEq κ]
end
/-! ### lists -/
theorem at_of {xs : List V} {z : Int} {j : Nat} {v : V} (e : z = (j : Int)) (h : xs[j]? = some v) : atI xs z = some v := by
  rw [e]
  exact atI_nat h
/-- a new instance and its __init__ leave all that was tracked as it was -/
theorem Same.made {H H1 : Hp} {x dx C : Addr} (nx : H x = Option.none) (nd : H dx = Option.none) (k : ∀ b o, (upd (upd H dx (.own x)) x (.ins C dx [])) b = some o → b ≠ x → H1 b = some o) : Same H H1 := fun b o e =>
  k b o (by rw [upd_ne (ne_of_none e nx), upd_ne (ne_of_none e nd)]; exact e) (ne_of_none e nx)
end L2
section
set_option Elab.async false
set_option linter.all false
set_option maxRecDepth 100000
set_option maxHeartbeats 2000000
namespace L2
open PySem PySem.Spec PyProof.Rows
open PySem.W (WData Codec OpenSpec Well WellAll ReadsW ReadsAllW)
/-! ### an answer as data -/
mutual
/-- x stands for the datum d, lists and tuples all the way -/
inductive Dw (K : PySem.W.Frag) (H : Hp) : V → WData → Prop
  | non : Dw K H .non .none
  | bl (b : Bool) : Dw K H (.bl b) (.bool b)
  | int (i : Int) : Dw K H (.int i) (.int i)
  | str (x : Str) : Dw K H (.str x) (.str x)
  | byt (b : Array UInt8) : Dw K H (.byt b) (.bytes b.toList)
  | lst {a : Addr} {xs : List V} {ds : List WData} : SqL K H a xs → DwAll K H xs ds → Dw K H (.ref a) (.list ds)
  | tup {a : Addr} {xs : List V} {ds : List WData} : SqT K H a xs → DwAll K H xs ds → Dw K H (.ref a) (.tuple ds)
inductive DwAll (K : PySem.W.Frag) (H : Hp) : List V → List WData → Prop
  | nil : DwAll K H [] []
  | cons {v : V} {vs : List V} {d : WData} {ds : List WData} : Dw K H v d → DwAll K H vs ds → DwAll K H (v :: vs) (d :: ds)
end
theorem dw_ints {K : PySem.W.Frag} {H : Hp} : ∀ ns : List Int, DwAll K H (ns.map V.int) (ns.map WData.int)
  | [] => .nil
  | n :: r => .cons (.int n) (dw_ints r)
theorem ints_dw {K : PySem.W.Frag} {H : Hp} : ∀ (ns : List Int) (xs : List V), DwAll K H xs (ns.map WData.int) → xs = ns.map V.int
  | [], xs, h => by
    cases h
    rfl
  | n :: r, xs, h => by
    cases h with
    | cons h1 h2 =>
      cases h1
      rw [ints_dw r _ h2] <;> rfl
section
variable {P : Program} {w : World} {K : PySem.W.Frag} {H : Hp} {h : Heap} {R : PySem.W.WRecords} {cl : Str → Option Addr}
theorem sqL_at {a : Addr} {xs : List V} (hok : HOk P w H h) (KX : K.In h) (q : SqL K H a xs) : ∃ (its : List Value) (o : Obj) (n : Nat), Vals xs its ∧ h.get? a = some o ∧ o.cls = .type "list" ∧ o.data = .seq its.toArray n := by
  rcases q with q | ⟨o, its, n, e, hc, _, hd, _, hv⟩
  · obtain ⟨_, its, n, hv, e⟩ := (show ObjOk P w H h a (.lst xs) from q.ok hok)
    exact ⟨its, _, n, hv, e, rfl, rfl⟩
  · exact ⟨its.toList, o, n, hv, KX _ _ e, hc, by simp [hd]⟩
theorem sqT_at {a : Addr} {xs : List V} (hok : HOk P w H h) (KX : K.In h) (q : SqT K H a xs) : ∃ (its : List Value) (o : Obj) (n : Nat), Vals xs its ∧ h.get? a = some o ∧ o.cls = .type "tuple" ∧ o.data = .seq its.toArray n := by
  rcases q with q | ⟨o, its, n, e, hc, hd, _, hv⟩
  · obtain ⟨_, its, hv, o, e, hc, n, hd⟩ := (show ObjOk P w H h a (.tup xs) from q.ok hok)
    exact ⟨its, o, n, hv, e, hc, hd⟩
  · exact ⟨its.toList, o, n, hv, KX _ _ e, hc, by simp [hd]⟩
mutual
theorem Dw.reads (hok : HOk P w H h) (KX : K.In h) : ∀ (d : WData) (v : V) (u : Value), Dw K H v d → RelV v u → ∃ as, ReadsW R cl h u d as
  | .none, _, _, x, r => by
    cases x
    cases r
    exact ⟨_, ReadsW.none⟩
  | .bool b, _, _, x, r => by
    cases x
    cases r
    exact ⟨_, ReadsW.bool b⟩
  | .int i, _, _, x, r => by
    cases x
    obtain ⟨t, rfl⟩ := r
    exact ⟨_, ReadsW.int i t⟩
  | .str s, _, _, x, r => by
    cases x
    obtain ⟨t, rfl⟩ := r
    exact ⟨_, ReadsW.str s t⟩
  | .bytes b, _, _, x, r => by
    cases x
    obtain ⟨t, rfl⟩ := r
    exact ⟨_, ReadsW.bytes _ t⟩
  | .list ds, _, _, x, r => by
    cases x with
    | lst hs ha =>
      cases r
      obtain ⟨its, o, n, rv, ho, hc, hd⟩ := sqL_at hok KX hs
      obtain ⟨as, hr⟩ := Dw.readsAll hok KX ds _ its ha rv
      exact ⟨_, ReadsW.list ho hc hd hr⟩
  | .tuple ds, _, _, x, r => by
    cases x with
    | tup hs ha =>
      cases r
      obtain ⟨its, o, n, rv, ho, hc, hd⟩ := sqT_at hok KX hs
      obtain ⟨as, hr⟩ := Dw.readsAll hok KX ds _ its ha rv
      exact ⟨_, ReadsW.tuple ho hc hd hr⟩
  | .float _, _, _, x, _ => by cases x
  | .dict _, _, _, x, _ => by cases x
  | .bytearray _, _, _, x, _ => by cases x
  | .set _, _, _, x, _ => by cases x
  | .frozenset _, _, _, x, _ => by cases x
  | .obj _ _, _, _, x, _ => by cases x
theorem Dw.readsAll (hok : HOk P w H h) (KX : K.In h) : ∀ (ds : List WData) (vs : List V) (us : List Value), DwAll K H vs ds → Vals vs us → ∃ as, ReadsAllW R cl h us ds as
  | [], _, _, x, r => by
    cases x
    cases r
    exact ⟨_, ReadsAllW.nil⟩
  | d :: ds, _, _, x, r => by
    cases x with
    | cons h1 h2 =>
      cases r with
      | cons r1 r2 =>
        obtain ⟨as, q1⟩ := Dw.reads hok KX d _ _ h1 r1
        obtain ⟨bs, q2⟩ := Dw.readsAll hok KX ds _ _ h2 r2
        exact ⟨_, ReadsAllW.cons q1 q2⟩
end
end
/-! ### the arguments -/
mutual
/-- data that a codec tells -/
def plW : WData → Bool
  | .none => true
  | .bool _ => true
  | .int _ => true
  | .str _ => true
  | .bytes _ => true
  | .list xs => plWs xs
  | .tuple xs => plWs xs
  | _ => false
def plWs : List WData → Bool
  | [] => true
  | x :: r => plW x && plWs r
end
theorem plWs_map {α : Type} {f : α → WData} (h : ∀ a, plW (f a) = true) : ∀ l : List α, plWs (l.map f) = true
  | [] => rfl
  | x :: r => by
    show (plW (f x) && plWs (r.map f)) = true
    rw [h x, plWs_map h r] <;> rfl
theorem pl_enc : ∀ (c : Codec) (a : c.denote), plW (c.enc a) = true
  | .unit, _ => rfl
  | .bool, _ => rfl
  | .int _ _, _ => rfl
  | .nat _ _, _ => rfl
  | .u8, _ => rfl
  | .bytes _ _, _ => rfl
  | .text _ _ _ _, _ => rfl
  | .list _ _ c, a => plWs_map (fun x => pl_enc c x) a
  | .pair c d, a => by
    show (plW (c.enc a.1) && (plW (d.enc a.2) && true)) = true
    rw [pl_enc c a.1, pl_enc d a.2] <;> rfl
  | .triple c d e, a => by
    show (plW (c.enc a.1) && (plW (d.enc a.2.1) && (plW (e.enc a.2.2) && true))) = true
    rw [pl_enc c a.1, pl_enc d a.2.1, pl_enc e a.2.2] <;> rfl
  | .option c, none => rfl
  | .option c, some x => pl_enc c x
theorem pl_encAll : ∀ (cs : List Codec) (a : Codec.denoteAll cs), plWs (Codec.encAll cs a) = true
  | [], _ => rfl
  | c :: cs, a => by
    show (plW (c.enc a.1) && plWs (Codec.encAll cs a.2)) = true
    rw [pl_enc c a.1, pl_encAll cs a.2] <;> rfl
theorem weight_mem : ∀ {xs : List WData} {d : WData}, d ∈ xs → d.weight ≤ WData.weightAll xs
  | [], d, h => absurd h (by simp)
  | x :: r, d, h => by
    show d.weight ≤ x.weight + 1 + WData.weightAll r
    rcases List.mem_cons.mp h with e | m
    · rw [e]
      omega
    · have z := weight_mem m
      omega
def toV : Value → V
  | .none => .non
  | .bool b => .bl b
  | .int i _ => .int i
  | .str x _ => .str x
  | .bytes b _ => .byt b
  | .ref a => .ref a
  | _ => .non
/-- a value of the arguments, its objects among A -/
def OkU (A : List Addr) : Value → Prop
  | .none => True
  | .bool _ => True
  | .int _ _ => True
  | .str _ _ => True
  | .bytes _ _ => True
  | .ref a => a ∈ A
  | _ => False
theorem OkU.mono {A B : List Addr} (h : ∀ a ∈ A, a ∈ B) : ∀ {u : Value}, OkU A u → OkU B u := fun {u} x => by
  cases u with
  | ref a => exact h a x
  | none => trivial
  | bool b => trivial
  | int i t => trivial
  | str s t => trivial
  | bytes b t => trivial
  | _ => exact False.elim x
theorem relV_toV {A : List Addr} {u : Value} (x : OkU A u) : RelV (toV u) u := by
  cases u with
  | ref a => rfl
  | none => rfl
  | bool b => rfl
  | int i t => exact ⟨t, rfl⟩
  | str s t => exact ⟨t, rfl⟩
  | bytes b t => exact ⟨t, rfl⟩
  | _ => exact False.elim x
theorem vals_toV {A : List Addr} : ∀ {vs : List Value}, (∀ u ∈ vs, OkU A u) → Vals (vs.map toV) vs
  | [], _ => .nil
  | u :: r, h => .cons (relV_toV (h u (List.mem_cons_self ..))) (vals_toV fun x hx => h x (List.mem_cons_of_mem _ hx))
/-- an object of the arguments -/
def ArgOb (h : Heap) (A : List Addr) (a : Addr) : Prop := ∃ vs : List Value, vs.length ≤ sizeLine ∧ (∀ u ∈ vs, OkU A u) ∧
  (h.get? a = some { cls := .type "list", data := .seq vs.toArray } ∨ h.get? a = some { cls := .type "tuple", data := .seq vs.toArray })
theorem ArgOb.mono {h : Heap} {A B : List Addr} {a : Addr} (k : ∀ a ∈ A, a ∈ B) (x : ArgOb h A a) : ArgOb h B a := by
  obtain ⟨vs, h1, h2, h3⟩ := x
  exact ⟨vs, h1, fun u hu => (h2 u hu).mono k, h3⟩
theorem wellAll_len {P : Params} {h : Heap} : ∀ {vs : List Value} {ds : List WData}, WellAll P h vs ds → vs.length = ds.length
  | _, _, .nil => rfl
  | _, _, .cons _ b => by
    show _ + 1 = _ + 1
    rw [wellAll_len b]
theorem well_list {P : Params} {h : Heap} {v : Value} {ds : List WData} (x : Well P h v (.list ds)) : ∃ (a : Addr) (vs : List Value), v = .ref a ∧ h.get? a = some { cls := .type "list", data := .seq vs.toArray } ∧ WellAll P h vs ds := by
  cases x with
  | list ho hall => exact ⟨_, _, rfl, ho, hall⟩
theorem well_tuple {P : Params} {h : Heap} {v : Value} {ds : List WData} (x : Well P h v (.tuple ds)) : ∃ (a : Addr) (vs : List Value), v = .ref a ∧ h.get? a = some { cls := .type "tuple", data := .seq vs.toArray } ∧ WellAll P h vs ds := by
  cases x with
  | tuple ho hall => exact ⟨_, _, rfl, ho, hall⟩
theorem well_cons {P : Params} {h : Heap} {us : List Value} {d : WData} {ds : List WData} (x : WellAll P h us (d :: ds)) : ∃ (v : Value) (vs : List Value), us = v :: vs ∧ Well P h v d ∧ WellAll P h vs ds := by
  cases x with
  | cons a b => exact ⟨_, _, rfl, a, b⟩
theorem line_of {n : Nat} (h : n ≤ 1048576) : n ≤ sizeLine := Nat.le_trans h (by decide)
section
variable {P : Params} {h : Heap}
mutual
theorem area_one : ∀ (d : WData) (v : Value), Well P h v d → plW d = true → d.weight ≤ 1048576 → ∃ A : List Addr, OkU A v ∧ ∀ a ∈ A, ArgOb h A a
  | .none, _, x, _, _ => by
    cases x
    exact ⟨[], trivial, fun a m => absurd m (by simp)⟩
  | .bool b, _, x, _, _ => by
    cases x
    exact ⟨[], trivial, fun a m => absurd m (by simp)⟩
  | .int i, _, x, _, _ => by
    cases x
    exact ⟨[], trivial, fun a m => absurd m (by simp)⟩
  | .str s, _, x, _, _ => by
    cases x
    exact ⟨[], trivial, fun a m => absurd m (by simp)⟩
  | .bytes b, _, x, _, _ => by
    cases x
    exact ⟨[], trivial, fun a m => absurd m (by simp)⟩
  | .list ds, _, x, p, z => by
    obtain ⟨a, vs, rfl, ho, hall⟩ := well_list x
    have z2 : WData.weightAll ds ≤ 1048576 := z
    obtain ⟨A, h1, h2⟩ := area_all ds _ hall p fun d hd => Nat.le_trans (weight_mem hd) z2
    have k : ∀ b ∈ A, b ∈ a :: A := fun b hb => List.mem_cons_of_mem _ hb
    refine ⟨a :: A, List.mem_cons_self .., fun b hb => ?_⟩
    rcases List.mem_cons.mp hb with e | m
    · rw [e]
      exact ⟨vs, line_of (by rw [wellAll_len hall]; exact Nat.le_trans (PySem.W.length_le_weightAllW ds) z2), fun u hu => (h1 u hu).mono k, .inl ho⟩
    · exact (h2 b m).mono k
  | .tuple ds, _, x, p, z => by
    obtain ⟨a, vs, rfl, ho, hall⟩ := well_tuple x
    have z2 : WData.weightAll ds ≤ 1048576 := z
    obtain ⟨A, h1, h2⟩ := area_all ds _ hall p fun d hd => Nat.le_trans (weight_mem hd) z2
    have k : ∀ b ∈ A, b ∈ a :: A := fun b hb => List.mem_cons_of_mem _ hb
    refine ⟨a :: A, List.mem_cons_self .., fun b hb => ?_⟩
    rcases List.mem_cons.mp hb with e | m
    · rw [e]
      exact ⟨vs, line_of (by rw [wellAll_len hall]; exact Nat.le_trans (PySem.W.length_le_weightAllW ds) z2), fun u hu => (h1 u hu).mono k, .inr ho⟩
    · exact (h2 b m).mono k
  | .float _, _, _, p, _ => Bool.noConfusion (show false = true from p)
  | .dict _, _, _, p, _ => Bool.noConfusion (show false = true from p)
  | .bytearray _, _, _, p, _ => Bool.noConfusion (show false = true from p)
  | .set _, _, _, p, _ => Bool.noConfusion (show false = true from p)
  | .frozenset _, _, _, p, _ => Bool.noConfusion (show false = true from p)
  | .obj _ _, _, _, p, _ => Bool.noConfusion (show false = true from p)
theorem area_all : ∀ (ds : List WData) (vs : List Value), WellAll P h vs ds → plWs ds = true → (∀ d ∈ ds, d.weight ≤ 1048576) → ∃ A : List Addr, (∀ u ∈ vs, OkU A u) ∧ ∀ a ∈ A, ArgOb h A a
  | [], _, x, _, _ => by
    cases x
    exact ⟨[], fun u m => absurd m (by simp), fun a m => absurd m (by simp)⟩
  | d :: ds, _, x, p, z => by
    obtain ⟨v, vs, rfl, x1, x2⟩ := well_cons x
    have q : plW d = true ∧ plWs ds = true := Bool.and_eq_true_iff.mp p
    obtain ⟨A, a1, a2⟩ := area_one d v x1 q.1 (z d (List.mem_cons_self ..))
    obtain ⟨B, b1, b2⟩ := area_all ds vs x2 q.2 fun e he => z e (List.mem_cons_of_mem _ he)
    have kA : ∀ b ∈ A, b ∈ A ++ B := fun b hb => List.mem_append.mpr (.inl hb)
    have kB : ∀ b ∈ B, b ∈ A ++ B := fun b hb => List.mem_append.mpr (.inr hb)
    refine ⟨A ++ B, fun u hu => ?_, fun b hb => ?_⟩
    · rcases List.mem_cons.mp hu with e | m
      · rw [e]
        exact a1.mono kA
      · exact (b1 u m).mono kB
    · rcases List.mem_append.mp hb with m | m
      · exact (a2 b m).mono kA
      · exact (b2 b m).mono kB
end
end
/-- what is tracked of an argument's object -/
def hoOf (o : Obj) : Option HO := match o.data with
  | .seq vs _ => if (o.cls == Value.type "list") = true then some (.frz o (.lst (vs.toList.map toV))) else some (.frz o (.tup (vs.toList.map toV)))
  | _ => none
def argH (K : PySem.W.Frag) (h : Heap) (A : List Addr) : Hp := fun b => if b ∈ A then (if (K.lookup b).isNone = true then (h.get? b).bind hoOf else none) else none
/-- nothing is tracked but what is known to the object -/
def OnlyF (H : Hp) : Prop := ∀ b, H b = none ∨ ∃ o u, H b = some (.frz o u)
theorem hoOf_lst (vs : List Value) : hoOf { cls := .type "list", data := .seq vs.toArray } = some (.frz { cls := .type "list", data := .seq vs.toArray } (.lst (vs.map toV))) := by
  show (if (Value.type "list" == Value.type "list") = true then some (HO.frz { cls := .type "list", data := .seq vs.toArray } (.lst (vs.toArray.toList.map toV))) else some (HO.frz { cls := .type "list", data := .seq vs.toArray } (.tup (vs.toArray.toList.map toV)))) = _
  rw [if_pos (beq_self_eq_true _)]
theorem hoOf_tup (vs : List Value) : hoOf { cls := .type "tuple", data := .seq vs.toArray } = some (.frz { cls := .type "tuple", data := .seq vs.toArray } (.tup (vs.map toV))) := by
  show (if (Value.type "tuple" == Value.type "list") = true then some (HO.frz { cls := .type "tuple", data := .seq vs.toArray } (.lst (vs.toArray.toList.map toV))) else some (HO.frz { cls := .type "tuple", data := .seq vs.toArray } (.tup (vs.toArray.toList.map toV)))) = _
  rw [if_neg (by decide)]
section
variable {P : Program} {w : World} {K : PySem.W.Frag} {h : Heap} {A : List Addr}
theorem argH_at {b : Addr} {o : Obj} (hb : b ∈ A) (hk : K.lookup b = none) (e : h.get? b = some o) : argH K h A b = hoOf o := by
  unfold argH
  rw [if_pos hb, hk, if_pos (show (none : Option Obj).isNone = true from rfl), e] <;> rfl
theorem of_argH {b : Addr} {u : HO} (q : argH K h A b = some u) : b ∈ A ∧ K.lookup b = none := by
  unfold argH at q
  by_cases hb : b ∈ A
  · rw [if_pos hb] at q
    cases hk : K.lookup b with
    | none => exact ⟨hb, rfl⟩
    | some o =>
      rw [hk, if_neg (by simp)] at q
      cases q
  · rw [if_neg hb] at q
    cases q
/-- what stands tracked -/
theorem argH_is (ar : ∀ a ∈ A, ArgOb h A a) {b : Addr} {u : HO} (q : argH K h A b = some u) : K.lookup b = none ∧ ∃ vs : List Value, vs.length ≤ sizeLine ∧ (∀ u ∈ vs, OkU A u) ∧
    ((h.get? b = some { cls := .type "list", data := .seq vs.toArray } ∧ u = .frz { cls := .type "list", data := .seq vs.toArray } (.lst (vs.map toV))) ∨
     (h.get? b = some { cls := .type "tuple", data := .seq vs.toArray } ∧ u = .frz { cls := .type "tuple", data := .seq vs.toArray } (.tup (vs.map toV)))) := by
  obtain ⟨hb, hk⟩ := of_argH q
  obtain ⟨vs, h1, h2, h3⟩ := ar b hb
  refine ⟨hk, vs, h1, h2, ?_⟩
  rcases h3 with e | e
  · rw [argH_at hb hk e, hoOf_lst] at q
    exact .inl ⟨e, (Option.some.inj q).symm⟩
  · rw [argH_at hb hk e, hoOf_tup] at q
    exact .inr ⟨e, (Option.some.inj q).symm⟩
theorem argH_only (ar : ∀ a ∈ A, ArgOb h A a) : OnlyF (argH K h A) := fun b => by
  cases q : argH K h A b with
  | none => exact .inl rfl
  | some u =>
    obtain ⟨_, vs, _, _, ⟨_, e⟩ | ⟨_, e⟩⟩ := argH_is ar q
    · exact .inr ⟨_, _, by rw [e]⟩
    · exact .inr ⟨_, _, by rw [e]⟩
theorem argH_ok (ar : ∀ a ∈ A, ArgOb h A a) : HOk P w (argH K h A) h := fun b u q => by
  obtain ⟨_, vs, h1, h2, ⟨e, rfl⟩ | ⟨e, rfl⟩⟩ := argH_is ar q
  · exact ⟨e, by rw [List.length_map]; exact h1, vs, _, vals_toV h2, e⟩
  · exact ⟨e, by rw [List.length_map]; exact h1, vs, vals_toV h2, _, e, rfl, _, rfl⟩
theorem seq_inj {c c' : Value} {vs us : List Value} (e : (some { cls := c, data := .seq vs.toArray } : Option Obj) = some { cls := c', data := .seq us.toArray }) : c = c' ∧ vs = us := by
  have e1 := Option.some.inj e
  have e2 : c = c' := congrArg Obj.cls e1
  have e3 : Data.seq vs.toArray = Data.seq us.toArray := congrArg Obj.data e1
  injection e3 with e4
  refine ⟨e2, ?_⟩
  have e5 := congrArg Array.toList e4
  simpa using e5
/-- a list argument -/
theorem argL (KX : K.In h) (ar : ∀ a ∈ A, ArgOb h A a) {a : Addr} {vs : List Value} (ha : a ∈ A) (e : h.get? a = some { cls := .type "list", data := .seq vs.toArray }) : (∀ u ∈ vs, OkU A u) ∧ SqL K (argH K h A) a (vs.map toV) := by
  obtain ⟨us, h1, h2, h3⟩ := ar a ha
  have hu : us = vs := by
    rcases h3 with q | q
    · rw [e] at q
      exact (seq_inj q).2.symm
    · rw [e] at q
      exact absurd (Value.type.inj (seq_inj q).1) (by decide)
  subst hu
  refine ⟨h2, ?_⟩
  cases hk : K.lookup a with
  | none => exact .inl (.inr ⟨_, by rw [argH_at ha hk e, hoOf_lst]⟩)
  | some o =>
    have e2 := KX a o hk
    rw [e] at e2
    obtain rfl := Option.some.inj e2
    exact .inr ⟨_, us.toArray, _, hk, rfl, rfl, rfl, by rw [List.size_toArray]; exact h1, by simpa using vals_toV h2⟩
theorem argT (KX : K.In h) (ar : ∀ a ∈ A, ArgOb h A a) {a : Addr} {vs : List Value} (ha : a ∈ A) (e : h.get? a = some { cls := .type "tuple", data := .seq vs.toArray }) : (∀ u ∈ vs, OkU A u) ∧ SqT K (argH K h A) a (vs.map toV) := by
  obtain ⟨us, h1, h2, h3⟩ := ar a ha
  have hu : us = vs := by
    rcases h3 with q | q
    · rw [e] at q
      exact absurd (Value.type.inj (seq_inj q).1) (by decide)
    · rw [e] at q
      exact (seq_inj q).2.symm
  subst hu
  refine ⟨h2, ?_⟩
  cases hk : K.lookup a with
  | none => exact .inl (.inr ⟨_, by rw [argH_at ha hk e, hoOf_tup]⟩)
  | some o =>
    have e2 := KX a o hk
    rw [e] at e2
    obtain rfl := Option.some.inj e2
    exact .inr ⟨_, us.toArray, _, hk, rfl, rfl, by rw [List.size_toArray]; exact h1, by simpa using vals_toV h2⟩
mutual
theorem dw_one {Pm : Params} (KX : K.In h) (ar : ∀ a ∈ A, ArgOb h A a) : ∀ (d : WData) (v : Value), Well Pm h v d → plW d = true → OkU A v → Dw K (argH K h A) (toV v) d
  | .none, _, x, _, _ => by
    cases x
    exact .non
  | .bool b, _, x, _, _ => by
    cases x
    exact .bl b
  | .int i, _, x, _, _ => by
    cases x
    exact .int i
  | .str s, _, x, _, _ => by
    cases x
    exact .str s
  | .bytes b, _, x, _, _ => by
    cases x
    have z := Dw.byt (K := K) (H := argH K h A) b.toArray
    exact z
  | .list ds, _, x, p, hu => by
    obtain ⟨a, vs, rfl, ho, hall⟩ := well_list x
    obtain ⟨h2, hs⟩ := argL KX ar hu ho
    exact .lst hs (dw_all KX ar ds _ hall p h2)
  | .tuple ds, _, x, p, hu => by
    obtain ⟨a, vs, rfl, ho, hall⟩ := well_tuple x
    obtain ⟨h2, hs⟩ := argT KX ar hu ho
    exact .tup hs (dw_all KX ar ds _ hall p h2)
  | .float _, _, _, p, _ => Bool.noConfusion (show false = true from p)
  | .dict _, _, _, p, _ => Bool.noConfusion (show false = true from p)
  | .bytearray _, _, _, p, _ => Bool.noConfusion (show false = true from p)
  | .set _, _, _, p, _ => Bool.noConfusion (show false = true from p)
  | .frozenset _, _, _, p, _ => Bool.noConfusion (show false = true from p)
  | .obj _ _, _, _, p, _ => Bool.noConfusion (show false = true from p)
theorem dw_all {Pm : Params} (KX : K.In h) (ar : ∀ a ∈ A, ArgOb h A a) : ∀ (ds : List WData) (vs : List Value), WellAll Pm h vs ds → plWs ds = true → (∀ u ∈ vs, OkU A u) → DwAll K (argH K h A) (vs.map toV) ds
  | [], _, x, _, _ => by
    cases x
    exact .nil
  | d :: ds, _, x, p, hu => by
    obtain ⟨v, vs, rfl, x1, x2⟩ := well_cons x
    have q : plW d = true ∧ plWs ds = true := Bool.and_eq_true_iff.mp p
    exact .cons (dw_one KX ar d v x1 q.1 (hu _ (List.mem_cons_self ..))) (dw_all KX ar ds vs x2 q.2 fun u m => hu u (List.mem_cons_of_mem _ m))
end
end
/-! ### the call -/
theorem spec_call {P : Program} {w : World} {K : PySem.W.Frag} {mg mb : Str → Option Value} {CX : CXT} {k : Nat} {fa : Addr} {fd : FuncData} {ps : List Str} {sp : Sp} {s₁ : Shared} {vals : List Value} {ds : List WData} {R : PySem.W.WRecords} {cl : Str → Option Addr} {d0 : WData}
    (KX : K.In s₁.heap) (hns : s₁.heap.Ns mainGlobals mg) (hb : s₁.heap.Ns builtinsNs mb) (hbb : ∀ x : Str, x ≠ "__name__" → mb x = bootBuiltins x) (hlim : s₁.heap.NoLimit) (hg : s₁.gens = #[])
    (hwl : WellAll w.params s₁.heap vals ds) (hpl : plWs ds = true) (hwt : ∀ d ∈ ds, d.weight ≤ 1048576) (hr : Room k callerA)
    (F : ∀ base : Heap, K.In base → base.Ns mainGlobals mg → FnOk P w K mg base CX k fa fd ps sp) (hbind : ∀ (s : Shared) (us : List Value), us.length = ps.length → BindsTo s fd ⟨us, []⟩ (ps.zip us)) (hlen : ds.length = ps.length)
    (hsp : ∀ (H : Hp) (xs : List V), OnlyF H → DwAll K H xs ds → sp xs H (fun v H' => Dw K H' v d0) fun _ _ _ => False)
    (hCX : ∀ H e s', CX [] H s₁ (fun _ _ _ => False) e s' → False) :
    codeAny (model P w) callerA (.call (.ref fa) ⟨vals, []⟩) (fun r s' => ∃ u as, r = .ok (.ret u) ∧ ReadsW R cl s'.heap u d0 as ∧ OldK s₁.heap s'.heap ∧ s'.os = s₁.os ∧ AllBare s'.gens) s₁ := by
  obtain ⟨A, ho, ar⟩ := area_all ds vals hwl hpl hwt
  have hO : OnlyF (argH K s₁.heap A) := argH_only ar
  have hok : HOk P w (argH K s₁.heap A) s₁.heap := argH_ok ar
  have hS := dw_all KX ar ds vals hwl hpl ho
  have hV := vals_toV ho
  have hK : ∀ b u, argH K s₁.heap A b = some u → K.lookup b = none := fun b u q => (argH_is ar q).1
  have noA : ∀ {b : Addr} {o : Obj} {es : Array DictEntry} {ep : Nat}, s₁.heap.get? b = some o → o.data = .dict es ep → argH K s₁.heap A b = none := fun {b o es ep} e d => by
    cases q : argH K s₁.heap A b with
    | none => rfl
    | some u =>
      obtain ⟨_, vs, _, _, ⟨e2, _⟩ | ⟨e2, _⟩⟩ := argH_is ar q
      · rw [e2] at e
        cases e
        have d' : Data.seq vs.toArray _ = Data.dict es ep := d
        cases d'
      · rw [e2] at e
        cases e
        have d' : Data.seq vs.toArray _ = Data.dict es ep := d
        cases d'
  generalize argH K s₁.heap A = H at hO hok hS hK noA
  have base_of : ∀ {b : Addr} {o : Obj}, s₁.heap.get? b = some o → H b = none → (hidT s₁.heap H).get? b = some o := fun e n => hidT_get e n
  have nsK : ∀ {b : Addr} {m : Str → Option Value}, s₁.heap.Ns b m → (hidT s₁.heap H).Ns b m := fun {b m} ⟨o, es, ep, e, d, r⟩ => ⟨o, es, ep, base_of e (noA e d), d, r⟩
  have nK : ∀ b o, K.lookup b = some o → H b = none := fun b o e => by
    cases q : H b with
    | none => rfl
    | some u =>
      rw [hK b u q] at e
      cases e
  have hKb : K.In (hidT s₁.heap H) := fun b o e => base_of (KX b o e) (nK b o e)
  have hM : Mod K mg (hidT s₁.heap H) := ⟨hKb, nsK hns, ⟨mb, nsK hb, hbb⟩, let ⟨mc, h1, h2⟩ := hlim; ⟨mc, nsK h1, h2⟩⟩
  have e0 : Env0 P w K mg (hidT s₁.heap H) callerA [] s₁ H := ⟨rfl, hM, fun b o e => of_hidT e, Nat.le_of_eq (hidT_size _ _), trivial, fun b hb => absurd (show b ∈ ([] : List Addr) from hb) (by simp), hok, .of_eq hg⟩
  have hl : vals.length = ps.length := by rw [wellAll_len hwl]; exact hlen
  refine codeAny_mono ((F _ hKb (nsK hns)).run callerA [] s₁ H ⟨vals, []⟩ vals (vals.map toV) _ _ hr e0 (hbind s₁ vals hl) hV (hsp H _ hO hS)) fun r s' x => ?_
  cases r with
  | error e => exact (hCX H e s' x).elim
  | ok fl =>
    cases fl with
    | next => exact False.elim x
    | brk => exact False.elim x
    | cont => exact False.elim x
    | ret u =>
      obtain ⟨v, H', os, bare, un, hok', r', q⟩ := x
      have kept : ∀ b o, s₁.heap.get? b = some o → s'.heap.get? b = some o := fun b o e => by
        cases q2 : H b with
        | none => exact un.keep b o e q2 (by intro z; exact absurd (show b ∈ ([] : List Addr) from z) (by simp)) (by simp)
        | some u2 =>
          rcases hO b with z | ⟨ob, u3, z⟩
          · rw [q2] at z
            cases z
          · have z2 := un.frzs b ob _ z
            obtain ⟨e1, _⟩ := hok b _ z
            obtain ⟨e2, _⟩ := hok' b _ z2
            rw [e] at e1
            cases e1
            exact e2
      have KX' : K.In s'.heap := fun b o e => kept b o (KX b o e)
      obtain ⟨as, hrd⟩ := Dw.reads (R := R) (cl := cl) hok' KX' d0 v u q r'
      exact ⟨u, as, rfl, hrd, OldK.of_keep kept, os, bare⟩
/-! ### the row -/
theorem layable_weight {ds : List WData} (h : WData.layableAll ds = true) : ∀ d ∈ ds, d.weight ≤ 1048576 := fun d hd =>
  (PySem.W.layableW_iff.mp (List.all_eq_true.mp h d hd)).2.2
theorem encAll_len : ∀ (cs : List Codec) (a : Codec.denoteAll cs), (Codec.encAll cs a).length = cs.length
  | [], _ => rfl
  | c :: cs, a => by
    show (Codec.encAll cs a.2).length + 1 = cs.length + 1
    rw [encAll_len cs a.2]
/-- the goal that k_headS leaves (case hc), from the promise of the row's def: whatever the arguments that the codecs let and the row asks for, the def gives what stands for enc (f ..) -/
theorem walk_spec {r : OpenSpec} {k : Nat} {q : Program} {loose : List Str} {XP : (Str → Option Value) → Heap → Prop} {YP : World → Heap → Prop} {d : DefRec} {K : Params → PySem.W.Frag} {CX : World → CXT} {ps : List Str} {sp : World → Sp}
    (hwell : r.wellSaid = true) (hdf : d.params.defaults = []) (hlen : r.args.length = ps.length) (hr : Room k callerA)
    (hY : ∀ (w : World) (h : Heap), YP w h → (K w.params).In h)
    (F : ∀ (w : World) (mg : Str → Option Value) (fa : Addr) (h : Heap), YP w h → (K w.params).In h → h.Ns mainGlobals mg → mg d.name = some (.ref fa) →
      ∃ fd : FuncData, (∀ (s : Shared) (us : List Value), us.length = ps.length → BindsTo s fd ⟨us, []⟩ (ps.zip us)) ∧
        ∀ base : Heap, (K w.params).In base → base.Ns mainGlobals mg → FnOk r.prog w (K w.params) mg base (CX w) k fa fd ps (sp w))
    (hsp : ∀ (w : World) (H : Hp) (xs : List V) (a : Codec.denoteAll r.args), OnlyF H → Codec.withinAll r.args a = true → Codec.app r.args r.asked a = true → DwAll (K w.params) H xs (Codec.encAll r.args a) →
      sp w xs H (fun v H' => Dw (K w.params) H' v (r.ret.enc (Codec.app r.args r.f a))) fun _ _ _ => False)
    (hCX : ∀ (w : World) (H : Hp) (s : Shared) (e : Value) (s' : Shared), CX w [] H s (fun _ _ _ => False) e s' → False) :
    PySem.W.WalkOS q loose XP YP r d [] (fun f vs => PySem.call f vs) := by
  intro w s_0 s₁ mg mb G Y fa o pm cd doc dV kV ho hd hcd hD hmg hg args vals as hpre hlay hrd hwl hlo
  obtain ⟨a, e1, e2⟩ := PySem.W.os_pre_some hpre
  obtain ⟨e3, hwi⟩ := Codec.encAll_of_decAll r.args args a e1
  subst e3
  have KX := hY w _ Y
  obtain ⟨fd, hb, hF⟩ := F w mg fa _ Y KX G.T.g hmg
  refine PySem.W.enter_call (codeAny_mono (spec_call (R := []) (cl := classAt s_0.heap) (d0 := r.ret.enc (Codec.app r.args r.f a)) KX G.T.g G.T.b G.T.builtins G.T.nolimit hg hwl (pl_encAll _ _) (layable_weight hlay) hr hF hb (by rw [encAll_len]; exact hlen)
    (fun H xs hO hS => hsp w H xs a hO hwi e2 hS) fun H e s' => hCX w H s₁ e s') fun r' s' hq => ?_)
  obtain ⟨u, as', rfl, h1, h2, h3, h4⟩ := hq
  exact ⟨.inl ⟨u, _, as', rfl, fun _ => rfl, h1, (OpenSpec.post_iff hwell hwi _ _).mpr rfl, fun z => Bool.noConfusion (show false = true from z)⟩, h2, h3, h4⟩
/-- the same where the promise hangs on the written part alone -/
theorem walk_specK {r : OpenSpec} {k : Nat} {q : Program} {loose : List Str} {XP : (Str → Option Value) → Heap → Prop} {YP : World → Heap → Prop} {d : DefRec} {K : Params → PySem.W.Frag} {CX : CXT} {ps : List Str} {sp : PySem.W.Frag → Sp}
    (hwell : r.wellSaid = true) (hdf : d.params.defaults = []) (hlen : r.args.length = ps.length) (hr : Room k callerA)
    (hY : ∀ (w : World) (h : Heap), YP w h → (K w.params).In h)
    (F : ∀ (w : World) (mg : Str → Option Value) (fa : Addr) (h : Heap), YP w h → (K w.params).In h → h.Ns mainGlobals mg → mg d.name = some (.ref fa) →
      ∃ fd : FuncData, (∀ (s : Shared) (us : List Value), us.length = ps.length → BindsTo s fd ⟨us, []⟩ (ps.zip us)) ∧
        ∀ base : Heap, (K w.params).In base → base.Ns mainGlobals mg → FnOk r.prog w (K w.params) mg base CX k fa fd ps (sp (K w.params)))
    (hsp : ∀ (K : PySem.W.Frag) (H : Hp) (xs : List V) (a : Codec.denoteAll r.args), OnlyF H → Codec.withinAll r.args a = true → Codec.app r.args r.asked a = true → DwAll K H xs (Codec.encAll r.args a) →
      sp K xs H (fun v H' => Dw K H' v (r.ret.enc (Codec.app r.args r.f a))) fun _ _ _ => False)
    (hCX : ∀ (H : Hp) (s : Shared) (e : Value) (s' : Shared), CX [] H s (fun _ _ _ => False) e s' → False) :
    PySem.W.WalkOS q loose XP YP r d [] (fun f vs => PySem.call f vs) :=
  walk_spec (K := K) (CX := fun _ => CX) (sp := fun w => sp (K w.params)) hwell hdf hlen hr hY F (fun w H xs a h1 h2 h3 h4 => hsp (K w.params) H xs a h1 h2 h3 h4) fun _ H s e s' => hCX H s e s'
end L2
end

namespace Hk
open Kh315 (Abs)
open Kh315Neutral (step asked1)

abbrev S := Option Abs

/-! ## Reading the calls -/
def flat (l : List Int) : Option (List (List (List Int))) := PyFlat.calls PyKh315.shape l.length l

theorem whole_id (c : List (List Int)) : PyKh315.whole c = c := by
  unfold PyKh315.whole
  split <;> rfl
theorem whole_map (cs : List (List (List Int))) : cs.map PyKh315.whole = cs := by
  induction cs with
  | nil => rfl
  | cons c cs ih => rw [List.map_cons, whole_id, ih]
theorem calls_flat (l : List Int) : PyKh315.calls l = flat l := by
  unfold PyKh315.calls flat
  cases h : PyFlat.calls PyKh315.shape l.length l with
  | none => rfl
  | some cs => simp only [whole_map]

/-- how many numbers stand behind a call's own -/
def need (p : Int) : Option Nat := if p = 0 then some 3 else if p = 1 ∨ p = 2 ∨ p = 3 then some 1 else if p = 4 ∨ p = 5 then some 0 else none
theorem shape_need (p : Int) : PyKh315.shape p = (need p).map fun n => (n, 0) := by
  unfold PyKh315.shape need
  by_cases h0 : p = 0
  · simp [h0]
  by_cases h1 : p = 1
  · simp [h1]
  by_cases h2 : p = 2
  · simp [h2]
  by_cases h3 : p = 3
  · simp [h3]
  by_cases h4 : p = 4
  · simp [h4]
  by_cases h5 : p = 5
  · simp [h5]
  simp [h0, h1, h2, h3, h4, h5]
theorem call_need (p : Int) (r : List Int) : PyFlat.call PyKh315.shape (p :: r) =
    match need p with
    | none => none
    | some n => if r.length < n then none else some ([p :: r.take n], r.drop n) := by
  simp only [PyFlat.call]
  rw [shape_need]
  cases need p with
  | none => rfl
  | some n => simp [PyFlat.rows]
theorem calls_fuel : ∀ (f g : Nat) (l : List Int), l.length ≤ f → l.length ≤ g → PyFlat.calls PyKh315.shape f l = PyFlat.calls PyKh315.shape g l
  | f, g, [], _, _ => by cases f <;> cases g <;> rfl
  | 0, _, _ :: _, h, _ => by simp at h
  | _, 0, _ :: _, _, h => by simp at h
  | f + 1, g + 1, p :: r, hf, hg => by
    unfold PyFlat.calls
    rw [call_need]
    cases need p with
    | none => rfl
    | some n =>
      by_cases k : r.length < n
      · simp [k]
      · simp only [k, if_false]
        have hl : (r.drop n).length ≤ r.length := by simp
        simp at hf hg
        rw [calls_fuel f g (r.drop n) (by omega) (by omega)]
theorem flat_nil : flat [] = some [] := rfl
theorem flat_cons {p : Int} {r : List Int} {cs : List (List (List Int))} (h : flat (p :: r) = some cs) :
    ∃ n cs', need p = some n ∧ n ≤ r.length ∧ flat (r.drop n) = some cs' ∧ cs = [p :: r.take n] :: cs' := by
  unfold flat at h
  rw [List.length_cons] at h
  unfold PyFlat.calls at h
  rw [call_need] at h
  cases hn : need p with
  | none => rw [hn] at h; simp at h
  | some n =>
    rw [hn] at h
    by_cases k : r.length < n
    · simp [k] at h
    · simp only [k, if_false] at h
      rw [calls_fuel r.length (r.drop n).length (r.drop n) (by simp) (Nat.le_refl _)] at h
      cases hc : PyFlat.calls PyKh315.shape (r.drop n).length (r.drop n) with
      | none => rw [hc] at h; simp at h
      | some cs' =>
        rw [hc] at h
        simp at h
        exact ⟨n, cs', rfl, by omega, hc, h.symm⟩

def Num (x : Int) : Prop := 0 ≤ x ∧ x < 4294967296
/-- the calls that may be asked where s stands -/
inductive OkC (s : S) : List Int → Prop
  | begin_ (a b e : Int) (ha : Num a) (hb : Num b) (he : Num e) : OkC s [0, a, b, e]
  | down (ab : Abs) (hs : s = some ab) (t : Int) (h : Num t) : OkC s [1, t]
  | up (ab : Abs) (hs : s = some ab) (t : Int) (h : Num t) : OkC s [2, t]
  | at_ (ab : Abs) (hs : s = some ab) (t : Int) (h : Num t) : OkC s [3, t]
  | read (ab : Abs) (hs : s = some ab) : OkC s [4]
  | units (ab : Abs) (hs : s = some ab) : OkC s [5]

abbrev turnF : Bool × S → List (List Int) → Bool × S := fun x c => (x.1 && (x.2.isSome || (c.getD 0 []).headD 9 == 0), (step x.2 c).1)
theorem turn_false : ∀ (cs : List (List (List Int))) (s : S), (cs.foldl turnF (false, s)).1 = false
  | [], _ => rfl
  | c :: cs, s => by
    rw [List.foldl_cons]
    exact turn_false cs _
/-- what is still to be asked is asked rightly -/
def Go (s : S) (n : Nat) (l : List Int) : Prop := ∃ cs, flat l = some cs ∧ cs.length ≤ n ∧ cs.all asked1 = true ∧ (cs.foldl turnF (true, s)).1 = true
/-- what is due of what is still to be asked -/
def due (s : S) (l : List Int) : List Int := match flat l with
  | none => []
  | some cs => PyFlat.told (PyFlat.played step s cs)
theorem due_nil (s : S) : due s [] = [] := rfl
theorem natural_num {z : Int} (h : Kh315Neutral.natural z 32 = true) : Num z := by
  unfold Kh315Neutral.natural at h
  simp at h
  unfold Num
  omega
theorem okC_of {s : S} {c : List Int} (h1 : asked1 [c] = true) (h2 : (s.isSome || (c.headD 9 == 0)) = true) : OkC s c := by
  unfold asked1 at h1
  have some_of : (c.headD 9 == 0) = false → ∃ ab, s = some ab := fun h => by
    rw [h, Bool.or_false] at h2
    exact Option.isSome_iff_exists.mp h2
  split at h1
  · rename_i a b e hc
    cases hc
    simp at h1
    exact .begin_ a b e (natural_num h1.1) (natural_num h1.2.1) (natural_num h1.2.2)
  · rename_i t hc
    cases hc
    obtain ⟨ab, hs⟩ := some_of rfl
    exact .down ab hs t (natural_num h1)
  · rename_i t hc
    cases hc
    obtain ⟨ab, hs⟩ := some_of rfl
    exact .up ab hs t (natural_num h1)
  · rename_i t hc
    cases hc
    obtain ⟨ab, hs⟩ := some_of rfl
    exact .at_ ab hs t (natural_num h1)
  · rename_i hc
    cases hc
    obtain ⟨ab, hs⟩ := some_of rfl
    exact .read ab hs
  · rename_i hc
    cases hc
    obtain ⟨ab, hs⟩ := some_of rfl
    exact .units ab hs
  · cases h1
theorem Go.next {s : S} {n : Nat} {p : Int} {r : List Int} (h : Go s n (p :: r)) :
    ∃ (c t : List Int) (m k : Nat), p :: r = c ++ t ∧ need p = some k ∧ c.length = k + 1 ∧ k ≤ r.length ∧ t = r.drop k ∧ c = p :: r.take k ∧ n = m + 1 ∧ OkC s c ∧ Go (step s [c]).1 m t ∧
      due s (p :: r) = ((step s [c]).2.length : Int) :: (step s [c]).2 ++ due (step s [c]).1 t := by
  obtain ⟨cs, h1, h2, h3, h4⟩ := h
  obtain ⟨k, cs', e1, e2, e3, rfl⟩ := flat_cons h1
  rw [List.length_cons] at h2
  rw [List.all_cons, Bool.and_eq_true] at h3
  have e4 : ([p :: r.take k] :: cs').foldl turnF (true, s) = cs'.foldl turnF ((s.isSome || ((p :: r.take k).headD 9 == 0)), (step s [p :: r.take k]).1) := by
    rw [List.foldl_cons]
    rfl
  rw [e4] at h4
  have h5 : (s.isSome || ((p :: r.take k).headD 9 == 0)) = true := by
    cases q : (s.isSome || ((p :: r.take k).headD 9 == 0)) with
    | true => rfl
    | false => rw [q, turn_false] at h4; cases h4
  rw [h5] at h4
  refine ⟨p :: r.take k, r.drop k, n - 1, k, by simp, e1, by simp; omega, e2, rfl, rfl, by omega, okC_of h3.1 h5, ⟨cs', e3, by omega, h3.2, h4⟩, ?_⟩
  unfold due
  rw [h1, e3]
  show PyFlat.told (_ :: _) = _
  unfold PyFlat.told
  rw [List.flatMap_cons]
theorem go_start {l : List Int} (h : PyKh315.answers_asked l = true) : Go none 1100 l := by
  unfold PyKh315.answers_asked at h
  rw [calls_flat] at h
  cases hf : flat l with
  | none => rw [hf] at h; cases h
  | some cs =>
    rw [hf] at h
    simp only [Bool.and_eq_true] at h
    unfold Kh315Neutral.asked at h
    simp only [Bool.and_eq_true, decide_eq_true_eq] at h
    exact ⟨cs, hf, h.2.1.1, h.2.1.2, h.2.2⟩
theorem due_start (l : List Int) : PyKh315.answers l = due none l := by
  unfold PyKh315.answers due
  rw [calls_flat]
  rfl
end Hk

namespace Hk
open Kh315 (Abs)

/-! ## The units -/
/-- which of 1, 3, 7 a length is, the n-th (from 0) -/
def kind (u e n x : Nat) : Nat := if n % 2 = 0 then Kh314.mark u e x else Kh314.gap u e x
theorem told_snoc (u e : Nat) : ∀ (m : Bool) (l : List Nat) (x : Nat), Kh314.told u e m (l ++ [x]) = Kh314.told u e m l ++ [if (if m then l.length % 2 = 0 else l.length % 2 = 1) then Kh314.mark u e x else Kh314.gap u e x]
  | m, [], x => by cases m <;> rfl
  | m, y :: l, x => by
    show _ :: Kh314.told u e (!m) (l ++ [x]) = _ :: (Kh314.told u e (!m) l ++ _)
    rw [told_snoc u e (!m) l x]
    congr 3
    cases m
    · have q : (l.length + 1) % 2 = 1 ↔ l.length % 2 = 0 := by omega
      simp only [Bool.not_false, if_true, List.length_cons, Bool.false_eq_true, if_false, q]
    · have q : (l.length + 1) % 2 = 0 ↔ l.length % 2 = 1 := by omega
      simp only [Bool.not_true, if_true, List.length_cons, Bool.false_eq_true, if_false, q]
theorem told_snoc_t (u e : Nat) (l : List Nat) (x : Nat) : Kh314.told u e true (l ++ [x]) = Kh314.told u e true l ++ [kind u e l.length x] := told_snoc u e true l x
theorem told_length (u e : Nat) : ∀ (m : Bool) (l : List Nat), (Kh314.told u e m l).length = l.length
  | _, [] => rfl
  | m, _ :: l => by
    show (Kh314.told u e (!m) l).length + 1 = l.length + 1
    rw [told_length u e (!m) l]
theorem fits_nil (u e : Nat) : Kh314.fits u e [] = true := rfl
theorem fits_snoc (u e : Nat) (l : List Nat) (x : Nat) : Kh314.fits u e (l ++ [x]) = (Kh314.fits u e l && kind u e l.length x != 0) := by
  unfold Kh314.fits
  rw [told_snoc_t, List.all_append]
  simp
/-- the units of the range that the lengths fit -/
def range (lo hi : Nat) : List Nat := (List.range (hi + 1 - lo)).map fun i => lo + i
def fitting (a : Abs) : List Nat := (range a.lo a.hi).filter fun u => Kh314.fits u a.e a.lens
theorem units_fitting (a : Abs) : a.units = (fitting a).filter fun u => !a.down || decide (a.lasted ≤ 3 * u + a.e) := by
  unfold Abs.units fitting range
  rw [List.filter_filter]
  congr 1
  funext u
  exact Bool.and_comm _ _
theorem units_up {a : Abs} (h : a.down = false) : a.units = fitting a := by
  rw [units_fitting, h]
  exact List.filter_eq_self.mpr (fun _ _ => rfl)
theorem units_down {a : Abs} (h : a.down = true) : a.units = (fitting a).filter fun u => decide (a.lasted ≤ 3 * u + a.e) := by
  rw [units_fitting, h]
  rfl
theorem fitting_snoc {a b : Abs} {x : Nat} (h1 : b.lo = a.lo) (h2 : b.hi = a.hi) (h3 : b.e = a.e) (h4 : b.lens = a.lens ++ [x]) :
    fitting b = (fitting a).filter fun u => kind u a.e a.lens.length x != 0 := by
  unfold fitting
  rw [h1, h2, h3, h4, List.filter_filter]
  congr 1
  funext u
  rw [fits_snoc]
  exact Bool.and_comm _ _
theorem fitting_same {a b : Abs} (h1 : b.lo = a.lo) (h2 : b.hi = a.hi) (h3 : b.e = a.e) (h4 : b.lens = a.lens) : fitting b = fitting a := by
  unfold fitting
  rw [h1, h2, h3, h4]
theorem fitting_begun (lo hi e : Nat) : fitting (Kh315.begun lo hi e) = range lo hi := by
  unfold fitting Kh315.begun
  exact List.filter_eq_self.mpr (fun _ _ => rfl)
theorem mem_range {lo hi u : Nat} : u ∈ range lo hi ↔ lo ≤ u ∧ u ≤ hi := by
  unfold range
  rw [List.mem_map]
  constructor
  · rintro ⟨i, h, rfl⟩
    have := List.mem_range.mp h
    omega
  · intro h
    exact ⟨u - lo, List.mem_range.mpr (by omega), by omega⟩
theorem range_length (lo hi : Nat) : (range lo hi).length = hi + 1 - lo := by unfold range; simp
theorem fitting_mem {a : Abs} {u : Nat} (h : u ∈ fitting a) : a.lo ≤ u ∧ u ≤ a.hi := mem_range.mp (List.mem_filter.mp h).1
theorem fitting_length (a : Abs) : (fitting a).length ≤ a.hi + 1 - a.lo := by
  rw [← range_length]
  exact List.length_filter_le _ _
theorem units_length (a : Abs) : a.units.length ≤ a.hi + 1 - a.lo := by
  rw [units_fitting]
  exact Nat.le_trans (List.length_filter_le _ _) (fitting_length a)
/-- in Python's numbers -/
theorem mark_ne (u e x : Nat) : (Kh314.mark u e x != 0) = (decide (((((x : Int) - (u : Int)).natAbs : Nat) : Int) ≤ (e : Int)) || decide (((((x : Int) - 3 * (u : Int)).natAbs : Nat) : Int) ≤ (e : Int))) := by
  unfold Kh314.mark
  rw [Bool.eq_iff_iff, Bool.or_eq_true, decide_eq_true_eq, decide_eq_true_eq, bne_iff_ne]
  split
  · simp only [ne_eq, Nat.succ_ne_zero, not_false_eq_true, true_iff]; omega
  · split
    · simp only [ne_eq, Nat.succ_ne_zero, not_false_eq_true, true_iff]; omega
    · simp only [ne_eq, not_true_eq_false, false_iff]; omega
theorem gap_ne (u e x : Nat) : (Kh314.gap u e x != 0) = (decide (((((x : Int) - (u : Int)).natAbs : Nat) : Int) ≤ (e : Int)) || (decide (((((x : Int) - 3 * (u : Int)).natAbs : Nat) : Int) ≤ (e : Int)) || decide (7 * (u : Int) - (e : Int) ≤ (x : Int)))) := by
  unfold Kh314.gap
  rw [Bool.eq_iff_iff, Bool.or_eq_true, Bool.or_eq_true, decide_eq_true_eq, decide_eq_true_eq, decide_eq_true_eq, bne_iff_ne]
  split
  · simp only [ne_eq, Nat.succ_ne_zero, not_false_eq_true, true_iff]; omega
  · split
    · simp only [ne_eq, Nat.succ_ne_zero, not_false_eq_true, true_iff]; omega
    · split
      · simp only [ne_eq, Nat.succ_ne_zero, not_false_eq_true, true_iff]; omega
      · simp only [ne_eq, not_true_eq_false, false_iff]; omega

/-! ## What holds of a state -/
structure Ok (a : Abs) : Prop where
  lo1 : 1 ≤ a.lo
  lohi : a.lo ≤ a.hi
  hi4 : a.hi ≤ 4096
  elo : a.e < a.lo
  now31 : a.now < 2147483648
  lastnow : ∀ t, a.last = some t → t ≤ a.now
  fresh : a.last = none → a.lens = [] ∧ a.down = false
  par : ∀ t, a.last = some t → (a.down = true ↔ a.lens.length % 2 = 0)
  len : a.lens.length ≤ 1024
  lens : ∀ x ∈ a.lens, 1 ≤ x ∧ x ≤ 1000000
theorem Ok.begun {lo hi e : Nat} (h : Kh315.okRange lo hi e = true) : Ok (Kh315.begun lo hi e) := by
  unfold Kh315.okRange at h
  simp only [Bool.and_eq_true, decide_eq_true_eq] at h
  refine ⟨h.1, h.2.1, h.2.2.1, h.2.2.2, ?_, ?_, ?_, ?_, ?_, ?_⟩
  · show (0 : Nat) < _; decide
  · intro t ht; cases ht
  · intro _; exact ⟨rfl, rfl⟩
  · intro t ht; cases ht
  · exact Nat.zero_le _
  · intro x hx; cases hx
theorem late_false {a : Abs} {t : Nat} (h : Kh315.late a t = false) : a.now ≤ t ∧ t < 2147483648 := by
  unfold Kh315.late at h
  rw [Bool.or_eq_false_iff, decide_eq_false_iff_not, decide_eq_false_iff_not] at h
  omega
theorem Ok.goes {a : Abs} {d : Bool} {t : Nat} (ok : Ok a) (h1 : Kh315.late a t = false) (h2 : Kh315.close a (!d) t = false) (h3 : a.down = !d) (h4 : a.lens.length < 1024) : Ok (Kh315.goes a d t) := by
  obtain ⟨l1, l2⟩ := late_false h1
  have h2' : ∀ s, a.last = some s → s < t := fun s hs => by
    unfold Kh315.close at h2
    rw [h3, hs] at h2
    simp at h2
    exact h2
  refine ⟨ok.lo1, ok.lohi, ok.hi4, ok.elo, l2, ?_, ?_, ?_, ?_, ?_⟩
  · intro s hs
    have : t = s := Option.some.inj hs
    subst this
    exact Nat.le_refl _
  · intro hs; cases hs
  · intro s _
    show (d = true ↔ (match a.last with
      | some s => a.lens ++ [if 1000000 < t - s then 1000000 else t - s]
      | none => a.lens).length % 2 = 0)
    cases hl : a.last with
    | none =>
      obtain ⟨f1, f2⟩ := ok.fresh hl
      rw [f1]
      rw [f2] at h3
      cases d
      · cases h3
      · simp
    | some s0 =>
      have hp := ok.par s0 hl
      rw [h3] at hp
      simp only [List.length_append, List.length_cons, List.length_nil]
      cases d
      · simp at hp
        simp
        omega
      · simp at hp
        simp
        omega
  · show (match a.last with
      | some s => a.lens ++ [if 1000000 < t - s then 1000000 else t - s]
      | none => a.lens).length ≤ 1024
    cases hl : a.last with
    | none => exact ok.len
    | some s0 => simp only [List.length_append, List.length_cons, List.length_nil]; omega
  · show ∀ x ∈ (match a.last with
      | some s => a.lens ++ [if 1000000 < t - s then 1000000 else t - s]
      | none => a.lens), 1 ≤ x ∧ x ≤ 1000000
    cases hl : a.last with
    | none => exact ok.lens
    | some s0 =>
      intro x hx
      have hs := h2' s0 hl
      rw [List.mem_append] at hx
      rcases hx with hx | hx
      · exact ok.lens x hx
      · rw [List.mem_singleton] at hx
        subst hx
        split <;> omega
theorem Ok.at_ {a : Abs} {t : Nat} (ok : Ok a) (h : Kh315.late a t = false) : Ok { a with now := t } := by
  obtain ⟨l1, l2⟩ := late_false h
  exact ⟨ok.lo1, ok.lohi, ok.hi4, ok.elo, l2, fun s hs => Nat.le_trans (ok.lastnow s hs) l1, ok.fresh, ok.par, ok.len, ok.lens⟩
theorem Ok.step {a : Abs} (ok : Ok a) (c : Kh315.Call) : Ok (Kh315.step a c).1 := by
  cases c with
  | begin_ lo hi e =>
    show Ok (if Kh315.okRange lo hi e then (Kh315.begun lo hi e, Kh315.say 0) else (a, Kh315.say (-22))).1
    split
    · rename_i h; exact Ok.begun h
    · exact ok
  | down t =>
    show Ok (if Kh315.late a t || Kh315.close a false t then (a, Kh315.say (-22)) else if a.down then (a, Kh315.say (-16)) else if 1024 ≤ a.lens.length then (a, Kh315.say (-28)) else (Kh315.goes a true t, Kh315.say ((Kh315.goes a true t).units.length : Nat))).1
    split
    · exact ok
    · rename_i h
      split
      · exact ok
      · rename_i h2
        split
        · exact ok
        · simp only [Bool.or_eq_true, not_or, Bool.not_eq_true] at h
          exact ok.goes h.1 h.2 (by simpa using h2) (by omega)
  | up t =>
    show Ok (if Kh315.late a t || Kh315.close a true t then (a, Kh315.say (-22)) else if !a.down then (a, Kh315.say (-16)) else if 1024 ≤ a.lens.length then (a, Kh315.say (-28)) else (Kh315.goes a false t, Kh315.say ((Kh315.goes a false t).units.length : Nat))).1
    split
    · exact ok
    · rename_i h
      split
      · exact ok
      · rename_i h2
        split
        · exact ok
        · simp only [Bool.or_eq_true, not_or, Bool.not_eq_true] at h
          exact ok.goes h.1 h.2 (by simpa using h2) (by omega)
  | at_ t =>
    show Ok (if Kh315.late a t then (a, Kh315.say (-22)) else ({ a with now := t }, Kh315.say (({ a with now := t } : Abs).units.length : Nat))).1
    split
    · exact ok
    · rename_i h; exact ok.at_ (by simpa using h)
  | read => exact ok
  | units => exact ok
end Hk

namespace Hk
open Kh315 (Abs)
open Kh315 (common spell letter)

/-! ## Spelling, from the left -/
/-- the letters so far and the marks of the one that goes on, behind one length more (a mark if b) -/
def spell1 (b : Bool) (x : List Nat × List Nat) (k : Nat) : List Nat × List Nat :=
  if b then (x.1, x.2 ++ [k]) else if k = 1 then x else if k = 3 then (x.1 ++ [letter x.2], []) else (x.1 ++ [letter x.2, 32], [])
/-- the same over a list, b telling whether the first is a mark -/
def spells : Bool → List Nat × List Nat → List Nat → List Nat × List Nat
  | _, x, [] => x
  | b, x, k :: r => spells (!b) (spell1 b x k) r
theorem spells_pre : ∀ (l : List Nat) (b : Bool) (o m : List Nat), spells b (o, m) l = (o ++ (spell b m l).1, (spell b m l).2)
  | [], b, o, m => by cases b <;> simp [spells, spell]
  | k :: r, true, o, m => by
    show spells false (o, m ++ [k]) r = (o ++ (spell false (m ++ [k]) r).1, (spell false (m ++ [k]) r).2)
    exact spells_pre r false o (m ++ [k])
  | k :: r, false, o, m => by
    show spells true (spell1 false (o, m) k) r = _
    unfold spell1
    by_cases h1 : k = 1
    · have e : spell false m (k :: r) = spell true m r := by simp [spell, h1]
      simp only [Bool.false_eq_true, if_false, h1, if_true]
      rw [spells_pre r true o m]
      subst h1
      rw [e]
    · by_cases h3 : k = 3
      · have e : spell false m (k :: r) = (letter m :: (spell true [] r).1, (spell true [] r).2) := by simp [spell, h3]
        rw [if_neg Bool.false_ne_true, if_neg h1, if_pos h3]
        rw [e, spells_pre r true (o ++ [letter m]) []]
        simp
      · have e : spell false m (k :: r) = (letter m :: 32 :: (spell true [] r).1, (spell true [] r).2) := by simp [spell, h1, h3]
        simp only [Bool.false_eq_true, if_false, h1, h3]
        rw [e, spells_pre r true (o ++ [letter m, 32]) []]
        simp
theorem spell_spells (l : List Nat) : spell true [] l = spells true ([], []) l := by
  rw [spells_pre]
  simp
theorem spells_snoc : ∀ (l : List Nat) (b : Bool) (x : List Nat × List Nat) (k : Nat), spells b x (l ++ [k]) = spell1 (if l.length % 2 = 0 then b else !b) (spells b x l) k
  | [], b, x, k => by simp [spells]
  | j :: l, b, x, k => by
    show spells (!b) (spell1 b x j) (l ++ [k]) = spell1 _ (spells (!b) (spell1 b x j) l) k
    rw [spells_snoc l (!b) (spell1 b x j) k]
    congr 1
    rw [List.length_cons]
    by_cases h : l.length % 2 = 0
    · have h' : ¬ (l.length + 1) % 2 = 0 := by omega
      simp [h, h']
    · have h' : (l.length + 1) % 2 = 0 := by omega
      simp [h, h']
theorem spell_snoc (l : List Nat) (k : Nat) : spell true [] (l ++ [k]) = spell1 (decide (l.length % 2 = 0)) (spell true [] l) k := by
  rw [spell_spells, spell_spells, spells_snoc]
  by_cases h : l.length % 2 = 0 <;> simp [h]

/-! ## What stands first by all alike -/
theorem common_nil_left (y : List Nat) : common [] y = [] := by cases y <;> rfl
theorem common_nil_right (x : List Nat) : common x [] = [] := by cases x <;> rfl
theorem common_cons (a b : Nat) (x y : List Nat) : common (a :: x) (b :: y) = if a = b then a :: common x y else [] := rfl
theorem common_comm : ∀ x y : List Nat, common x y = common y x
  | [], y => by rw [common_nil_left, common_nil_right]
  | _ :: _, [] => rfl
  | a :: x, b :: y => by
    rw [common_cons, common_cons, common_comm x y]
    by_cases h : a = b
    · subst h; rfl
    · rw [if_neg h, if_neg (fun e => h e.symm)]
theorem common_assoc : ∀ x y z : List Nat, common (common x y) z = common x (common y z)
  | [], y, z => by rw [common_nil_left, common_nil_left, common_nil_left]
  | _ :: _, [], z => by rw [common_nil_right, common_nil_left, common_nil_right]
  | _ :: _, _ :: _, [] => by rw [common_nil_right, common_nil_right, common_nil_right]
  | a :: x, b :: y, c :: z => by
    rw [common_cons a b, common_cons b c]
    by_cases h : a = b
    · subst h
      rw [if_pos rfl, common_cons]
      by_cases h2 : a = c
      · subst h2
        rw [if_pos rfl, if_pos rfl, common_cons, if_pos rfl, common_assoc x y z]
      · rw [if_neg h2, if_neg h2, common_nil_right]
    · rw [if_neg h, common_nil_left]
      by_cases h2 : b = c
      · subst h2
        rw [if_pos rfl, common_cons, if_neg h]
      · rw [if_neg h2, common_nil_right]
theorem common_self : ∀ x : List Nat, common x x = x
  | [] => rfl
  | a :: x => by rw [common_cons, if_pos rfl, common_self x]
theorem common_length_le : ∀ x y : List Nat, (common x y).length ≤ x.length
  | [], y => by rw [common_nil_left]; exact Nat.zero_le _
  | _ :: _, [] => Nat.zero_le _
  | a :: x, b :: y => by
    rw [common_cons]
    split
    · simp only [List.length_cons]; have := common_length_le x y; omega
    · exact Nat.zero_le _
/-- it's a first part of x -/
theorem common_take : ∀ x y : List Nat, common x y = x.take (common x y).length
  | [], y => by rw [common_nil_left]; rfl
  | _ :: _, [] => by rw [common_nil_right]; rfl
  | a :: x, b :: y => by
    rw [common_cons]
    split
    · rw [List.length_cons, List.take_succ_cons, ← common_take x y]
    · rfl
/-- place by place: the first n agree -/
theorem common_get : ∀ (x y : List Nat) (n : Nat), (∀ (i : Nat), i < n → ∃ v, x[i]? = some v ∧ y[i]? = some v) → (n = x.length ∨ n = y.length ∨ ∃ u v, x[n]? = some u ∧ y[n]? = some v ∧ u ≠ v) → common x y = x.take n
  | [], y, n, h, _ => by rw [common_nil_left]; simp
  | a :: x, [], n, h, _ => by
    rw [common_nil_right]
    cases n with
    | zero => rfl
    | succ n =>
      obtain ⟨v, _, h2⟩ := h 0 (Nat.succ_pos _)
      simp at h2
  | a :: x, b :: y, 0, h, e => by
    rcases e with e | e | ⟨u, v, e1, e2, e3⟩
    · simp at e
    · simp at e
    · simp at e1 e2
      subst e1; subst e2
      rw [common_cons, if_neg e3]
      rfl
  | a :: x, b :: y, n + 1, h, e => by
    obtain ⟨v, h1, h2⟩ := h 0 (Nat.succ_pos _)
    simp at h1 h2
    subst h1; subst h2
    rw [common_cons, if_pos rfl, List.take_succ_cons]
    rw [common_get x y n (fun i hi => by simpa using h (i + 1) (by omega)) (by simpa using e)]
theorem all_cons (a : Abs) (u : Nat) : ∀ (r : List Nat), r ≠ [] → Kh315.all a (u :: r) = common (a.by_ u) (Kh315.all a r)
  | [], h => absurd rfl h
  | _ :: _, _ => rfl
/-- from the left -/
theorem all_foldl (a : Abs) : ∀ (r : List Nat) (u : Nat), Kh315.all a (u :: r) = r.foldl (fun x v => common x (a.by_ v)) (a.by_ u)
  | [], u => rfl
  | v :: r, u => by
    rw [all_cons a u (v :: r) (by simp), all_foldl a r v, List.foldl_cons]
    have h : ∀ (r : List Nat) (x y : List Nat), common x (r.foldl (fun x v => common x (a.by_ v)) y) = r.foldl (fun x v => common x (a.by_ v)) (common x y) := by
      intro r
      induction r with
      | nil => intro x y; rfl
      | cons w r ih => intro x y; rw [List.foldl_cons, List.foldl_cons, ih, common_assoc]
    exact h r _ _
/-- it suffices to look at any list of units with the same texts -/
theorem all_const {a : Abs} {t : List Nat} : ∀ (us : List Nat), us ≠ [] → (∀ u ∈ us, a.by_ u = t) → Kh315.all a us = t
  | [], h, _ => absurd rfl h
  | [u], _, h => h u (List.mem_singleton.mpr rfl)
  | u :: v :: r, _, h => by
    rw [all_cons a u (v :: r) (by simp), all_const (v :: r) (by simp) fun w hw => h w (List.mem_cons_of_mem _ hw), h u (List.mem_cons_self ..), common_self]
/-- an order of pieces -/
theorem all_append (a : Abs) : ∀ (x y : List Nat), x ≠ [] → y ≠ [] → Kh315.all a (x ++ y) = common (Kh315.all a x) (Kh315.all a y)
  | [], _, h, _ => absurd rfl h
  | [u], y, _, hy => all_cons a u y hy
  | u :: v :: r, y, _, hy => by
    show Kh315.all a (u :: ((v :: r) ++ y)) = _
    rw [all_cons a u ((v :: r) ++ y) (by simp), all_append a (v :: r) y (by simp) hy, all_cons a u (v :: r) (by simp), common_assoc]

/-! ## By a unit, behind one length more -/
def spelt (a : Abs) (u : Nat) : List Nat × List Nat := spell true [] (Kh314.told u a.e true a.lens)
theorem spelt_nil {a : Abs} (u : Nat) (h : a.lens = []) : spelt a u = ([], []) := by unfold spelt; rw [h]; rfl
theorem spelt_snoc {a b : Abs} {x : Nat} (u : Nat) (h3 : b.e = a.e) (h4 : b.lens = a.lens ++ [x]) : spelt b u = spell1 (decide (a.lens.length % 2 = 0)) (spelt a u) (kind u a.e a.lens.length x) := by
  unfold spelt
  rw [h3, h4, told_snoc_t, spell_snoc, told_length]
theorem by_spelt (a : Abs) (u : Nat) : a.by_ u = if !a.down && (a.lens.length % 2 == 1 && decide (u + a.e < a.lasted)) then (spelt a u).1 ++ (if 3 * u + a.e < a.lasted then [letter (spelt a u).2, 32] else [letter (spelt a u).2]) else (spelt a u).1 := rfl
theorem by_down {a : Abs} (u : Nat) (h : a.down = true) : a.by_ u = (spelt a u).1 := by rw [by_spelt, h]; rfl
theorem spells_length : ∀ (l : List Nat) (b : Bool) (x : List Nat × List Nat), (spells b x l).1.length ≤ x.1.length + 2 * l.length
  | [], _, x => by simp [spells]
  | k :: r, b, x => by
    show (spells (!b) (spell1 b x k) r).1.length ≤ _
    refine Nat.le_trans (spells_length r _ _) ?_
    have : (spell1 b x k).1.length ≤ x.1.length + 2 := by
      unfold spell1
      split
      · exact Nat.le_add_right _ _
      · split
        · exact Nat.le_add_right _ _
        · split <;> simp
    simp only [List.length_cons]
    omega
theorem spelt_length (a : Abs) (u : Nat) : (spelt a u).1.length ≤ 2 * a.lens.length := by
  unfold spelt
  rw [spell_spells]
  have h := spells_length (Kh314.told u a.e true a.lens) true ([], [])
  rw [told_length] at h
  simpa using h
theorem by_length (a : Abs) (u : Nat) : (a.by_ u).length ≤ 2 * a.lens.length + 2 := by
  rw [by_spelt]
  have h := spelt_length a u
  split
  · rw [List.length_append]
    split <;> simp <;> omega
  · omega
theorem letter_byte (m : List Nat) : letter m ≤ 90 := by
  unfold letter
  cases h : Kh315.find m Kh314.table 0 with
  | none => decide
  | some i =>
    have hf : ∀ (l : List (List Nat)) (k j : Nat), Kh315.find m l k = some j → j < k + l.length := by
      intro l
      induction l with
      | nil => intro k j h; cases h
      | cons x l ih =>
        intro k j h
        unfold Kh315.find at h
        split at h
        · have := Option.some.inj h; simp only [List.length_cons]; omega
        · have := ih (k + 1) j h; simp only [List.length_cons]; omega
    have h36 := hf _ _ _ h
    have e : Kh314.table.length = 36 := by decide
    rw [e] at h36
    show (if i < 26 then 65 + i else 48 + (i - 26)) ≤ 90
    split <;> omega
end Hk

namespace Hk
open Kh315 (Abs)
/-! ## The calls, as the program asks them -/
/-- before the first begin that answers 0 -/
def a0 : Abs := ⟨1, 0, 0, [], false, none, 0⟩
theorem fitting_a0 : fitting a0 = [] := rfl
/-- the number that refuses to turn the key at t, or 0 -/
def refuse (a : Abs) (d : Bool) (t : Int) : Int :=
  if t < (a.now : Int) ∨ 2147483648 ≤ t then -22 else if a.down = d then -16 else if a.last.isSome = true ∧ t ≤ ((a.last.getD 0 : Nat) : Int) then -22 else if 1024 ≤ a.lens.length then -28 else 0
/-- one of down, up -/
def turnC (d : Bool) (t : Nat) : Kh315.Call := if d then .down t else .up t
theorem step_turn (a : Abs) (d : Bool) (t : Nat) : Kh315.step a (turnC d t) =
    if Kh315.late a t || Kh315.close a (!d) t then (a, Kh315.say (-22)) else if a.down = d then (a, Kh315.say (-16)) else if 1024 ≤ a.lens.length then (a, Kh315.say (-28)) else (Kh315.goes a d t, Kh315.say ((Kh315.goes a d t).units.length : Nat)) := by
  cases d
  · show (if Kh315.late a t || Kh315.close a true t then (a, Kh315.say (-22)) else if !a.down then (a, Kh315.say (-16)) else if 1024 ≤ a.lens.length then (a, Kh315.say (-28)) else (Kh315.goes a false t, Kh315.say ((Kh315.goes a false t).units.length : Nat))) = _
    simp only [Bool.not_false, Bool.not_eq_eq_eq_not, Bool.not_true]
  · rfl
theorem late_iff (a : Abs) (t : Nat) : Kh315.late a t = true ↔ ((t : Int) < (a.now : Int) ∨ 2147483648 ≤ (t : Int)) := by
  unfold Kh315.late
  rw [Bool.or_eq_true, decide_eq_true_eq, decide_eq_true_eq]
  omega
theorem close_iff (a : Abs) (d : Bool) (t : Nat) : Kh315.close a (!d) t = true ↔ (a.down ≠ d ∧ (a.last.isSome = true ∧ (t : Int) ≤ ((a.last.getD 0 : Nat) : Int))) := by
  unfold Kh315.close
  rw [Bool.and_eq_true]
  cases h : a.last with
  | none => simp
  | some s =>
    simp only [Option.isSome_some, Option.getD_some, decide_eq_true_eq, true_and, beq_iff_eq]
    constructor
    · rintro ⟨h1, h2⟩
      refine ⟨?_, by omega⟩
      rw [h1]
      cases d <;> decide
    · rintro ⟨h1, h2⟩
      refine ⟨?_, by omega⟩
      cases d <;> cases hd : a.down <;> simp_all
theorem refuse_no {a : Abs} {d : Bool} {t : Nat} (h : refuse a d t ≠ 0) : Kh315.step a (turnC d t) = (a, Kh315.say (refuse a d t)) := by
  rw [step_turn]
  unfold refuse at h ⊢
  by_cases h1 : (t : Int) < (a.now : Int) ∨ 2147483648 ≤ (t : Int)
  · rw [if_pos h1]
    rw [if_pos (by rw [Bool.or_eq_true]; exact .inl ((late_iff a t).mpr h1))]
  · rw [if_neg h1] at h ⊢
    have l1 : Kh315.late a t = false := by
      cases q : Kh315.late a t with
      | false => rfl
      | true => exact absurd ((late_iff a t).mp q) h1
    rw [l1, Bool.false_or]
    by_cases h2 : a.down = d
    · rw [if_pos h2]
      have c1 : Kh315.close a (!d) t = false := by
        cases q : Kh315.close a (!d) t with
        | false => rfl
        | true => exact absurd h2 ((close_iff a d t).mp q).1
      rw [c1, if_neg Bool.false_ne_true, if_pos h2]
    · rw [if_neg h2] at h
      by_cases h3 : a.last.isSome = true ∧ (t : Int) ≤ ((a.last.getD 0 : Nat) : Int)
      · rw [if_pos ((close_iff a d t).mpr ⟨h2, h3⟩), if_neg h2, if_pos h3]
      · rw [if_neg h3] at h
        have c1 : Kh315.close a (!d) t = false := by
          cases q : Kh315.close a (!d) t with
          | false => rfl
          | true => exact absurd ((close_iff a d t).mp q).2 h3
        rw [c1, if_neg Bool.false_ne_true, if_neg h2, if_neg h2, if_neg h3]
        by_cases h4 : 1024 ≤ a.lens.length
        · rw [if_pos h4, if_pos h4]
        · rw [if_neg h4] at h
          exact absurd rfl h
theorem refuse_go {a : Abs} {d : Bool} {t : Nat} (h : refuse a d t = 0) : Kh315.late a t = false ∧ Kh315.close a (!d) t = false ∧ a.down = (!d) ∧ a.lens.length < 1024 ∧
    Kh315.step a (turnC d t) = (Kh315.goes a d t, Kh315.say ((Kh315.goes a d t).units.length : Nat)) := by
  rw [step_turn]
  unfold refuse at h
  by_cases h1 : (t : Int) < (a.now : Int) ∨ 2147483648 ≤ (t : Int)
  · rw [if_pos h1] at h; cases h
  · rw [if_neg h1] at h
    have l1 : Kh315.late a t = false := by
      cases q : Kh315.late a t with
      | false => rfl
      | true => exact absurd ((late_iff a t).mp q) h1
    by_cases h2 : a.down = d
    · rw [if_pos h2] at h; cases h
    · rw [if_neg h2] at h
      by_cases h3 : a.last.isSome = true ∧ (t : Int) ≤ ((a.last.getD 0 : Nat) : Int)
      · rw [if_pos h3] at h; cases h
      · rw [if_neg h3] at h
        have c1 : Kh315.close a (!d) t = false := by
          cases q : Kh315.close a (!d) t with
          | false => rfl
          | true => exact absurd ((close_iff a d t).mp q).2 h3
        by_cases h4 : 1024 ≤ a.lens.length
        · rw [if_pos h4] at h; cases h
        · refine ⟨l1, c1, ?_, by omega, ?_⟩
          · cases d <;> cases hd : a.down <;> simp_all
          · rw [l1, c1, if_neg (by simp), if_neg h2, if_neg h4]
theorem refuse_one (a : Abs) (d : Bool) (t : Int) : refuse a d t = -22 ∨ refuse a d t = -16 ∨ refuse a d t = -28 ∨ refuse a d t = 0 := by
  unfold refuse
  split
  · exact .inl rfl
  · split
    · exact .inr (.inl rfl)
    · split
      · exact .inl rfl
      · split
        · exact .inr (.inr (.inl rfl))
        · exact .inr (.inr (.inr rfl))
/-- the length that is over at t -/
def over (a : Abs) (t : Nat) : Nat := if 1000000 < t - a.last.getD 0 then 1000000 else t - a.last.getD 0
theorem goes_lens {a : Abs} {d : Bool} {t : Nat} (h : a.last.isSome = true) : (Kh315.goes a d t).lens = a.lens ++ [over a t] := by
  obtain ⟨s, hs⟩ := Option.isSome_iff_exists.mp h
  unfold over
  rw [hs]
  show (match a.last with
    | some s => a.lens ++ [if 1000000 < t - s then 1000000 else t - s]
    | none => a.lens) = _
  rw [hs]
  rfl
theorem goes_first {a : Abs} {d : Bool} {t : Nat} (h : a.last = none) : (Kh315.goes a d t).lens = a.lens := by
  show (match a.last with
    | some s => a.lens ++ [if 1000000 < t - s then 1000000 else t - s]
    | none => a.lens) = _
  rw [h]
theorem over_int {a : Abs} {t : Nat} (h : a.last.getD 0 ≤ t) : ((over a t : Nat) : Int) = if (1000000 : Int) < (t : Int) - ((a.last.getD 0 : Nat) : Int) then 1000000 else (t : Int) - ((a.last.getD 0 : Nat) : Int) := by
  unfold over
  split <;> split <;> omega
/-- not refused: the tick lies behind the last turn -/
theorem refuse_last {a : Abs} {d : Bool} {t : Nat} (ok : Ok a) (h : refuse a d t = 0) : a.last.getD 0 ≤ t := by
  obtain ⟨h1, h2, _⟩ := refuse_go h
  obtain ⟨l1, _⟩ := late_false h1
  cases q : a.last with
  | none => exact Nat.zero_le _
  | some s => exact Nat.le_trans (ok.lastnow s q) l1
/-- the units that fit behind a turn -/
theorem fitting_goes {a : Abs} {d : Bool} {t : Nat} (h : a.last.isSome = true) : fitting (Kh315.goes a d t) = (fitting a).filter fun u => kind u a.e a.lens.length (over a t) != 0 :=
  fitting_snoc rfl rfl rfl (goes_lens h)
theorem fitting_first {a : Abs} {d : Bool} {t : Nat} (h : a.last = none) : fitting (Kh315.goes a d t) = fitting a :=
  fitting_same rfl rfl rfl (goes_first h)
/-- begin -/
theorem okRange_int (lo hi e : Nat) : Kh315.okRange lo hi e = (decide (1 ≤ (lo : Int)) && (decide ((lo : Int) ≤ (hi : Int)) && (decide ((hi : Int) ≤ 4096) && decide ((e : Int) < (lo : Int))))) := by
  unfold Kh315.okRange
  congr 1
  · simp only [decide_eq_decide]; omega
  · congr 1
    · simp only [decide_eq_decide]; omega
    · congr 1
      · simp only [decide_eq_decide]; omega
      · simp only [decide_eq_decide]; omega
end Hk

set_option linter.all false
namespace Hk
open Kh315 (Abs common letter)

/-! ## The readings -/
/-- its least and its greatest unit, the bytes of the letters that are over, the marks of the one that isn't -/
structure Rg where
  a : Int
  b : Int
  row : List Nat
  ms : List Nat

def leastU (l c e : Int) : Int := if c = 7 then 1 else (l - e + c - 1) / c
def greatU (l c e : Int) : Int := (l + e) / c
def countNow (g u e : Int) : Int := if g ≤ u + e then 1 else if g ≤ 3 * u + e then 3 else 7
def mx (i j : Int) : Int := if j > i then j else i
def mn (i j : Int) : Int := if j < i then j else i
def Rg.within (r : Rg) (x y : Int) : Rg := ⟨mx r.a x, mn r.b y, r.row, r.ms⟩
def Rg.so (r : Rg) (l c e : Int) : Rg := r.within (leastU l c e) (greatU l c e)
def Rg.mark (r : Rg) (c : Int) : Rg := ⟨r.a, r.b, r.row, r.ms ++ [if c = 1 then 1 else 3]⟩
def behind (row ms : List Nat) (c : Int) : List Nat := if c = 1 then row else if c = 3 then row ++ [letter ms] else (row ++ [letter ms]) ++ [32]
def Rg.gap (r : Rg) (c : Int) : Rg := ⟨r.a, r.b, behind r.row r.ms c, if c = 1 then r.ms else []⟩
def Rg.rowIn (r : Rg) (g e : Int) : List Nat := behind r.row r.ms (countNow g r.b e)
def Rg.many (r : Rg) : Int := r.b - r.a + 1
def withUnits (rs : List Rg) : List Rg := rs.filter fun r => decide (r.a ≤ r.b)
def marked (rs : List Rg) (l e : Int) : List Rg := rs.flatMap fun r => [(r.so l 1 e).mark 1, (r.so l 3 e).mark 3]
def gapped (rs : List Rg) (l e : Int) : List Rg := rs.flatMap fun r => [(r.so l 1 e).gap 1, (r.so l 3 e).gap 3, (r.so l 7 e).gap 7]
def heldR (rs : List Rg) (l e : Int) : List Rg := rs.map fun r => r.within (leastU l 3 e) r.b

def Rg.has (r : Rg) (u : Nat) : Prop := r.a ≤ (u : Int) ∧ (u : Int) ≤ r.b
def apart (r s : Rg) : Prop := ∀ u : Nat, r.has u → s.has u → False
structure Rds (a : Abs) (rs : List Rg) : Prop where
  ne : ∀ r ∈ rs, r.a ≤ r.b
  inr : ∀ r ∈ rs, (a.lo : Int) ≤ r.a ∧ r.b ≤ (a.hi : Int)
  may : ∀ u, a.lo ≤ u → u ≤ a.hi → (a.mayBe u = true ↔ ∃ r ∈ rs, r.has u)
  txt : ∀ r ∈ rs, ∀ u, r.has u → spelt a u = (r.row, r.ms)
  m13 : ∀ r ∈ rs, ∀ k ∈ r.ms, k = 1 ∨ k = 3
  dis : rs.Pairwise apart

theorem has_within {r : Rg} {x y : Int} {u : Nat} : (r.within x y).has u ↔ r.has u ∧ x ≤ (u : Int) ∧ (u : Int) ≤ y := by
  unfold Rg.has Rg.within mx mn
  simp only
  split <;> split <;> omega
theorem has_so1 {r : Rg} {x e u : Nat} : (r.so x 1 e).has u ↔ r.has u ∧ (u ≤ x + e ∧ x ≤ u + e) := by
  unfold Rg.so
  rw [has_within]
  unfold leastU greatU
  rw [if_neg (by decide)]
  refine and_congr_right fun _ => ?_
  omega
theorem has_so3 {r : Rg} {x e u : Nat} : (r.so x 3 e).has u ↔ r.has u ∧ (3 * u ≤ x + e ∧ x ≤ 3 * u + e) := by
  unfold Rg.so
  rw [has_within]
  unfold leastU greatU
  rw [if_neg (by decide)]
  refine and_congr_right fun _ => ?_
  omega
theorem has_so7 {r : Rg} {x e u : Nat} (h : 1 ≤ r.a) : (r.so x 7 e).has u ↔ r.has u ∧ 7 * u ≤ x + e := by
  unfold Rg.so
  rw [has_within]
  unfold leastU greatU
  rw [if_pos rfl]
  constructor
  · rintro ⟨h1, h2, h3⟩
    exact ⟨h1, by omega⟩
  · rintro ⟨h1, h2⟩
    have := h1.1
    exact ⟨h1, by omega, by omega⟩
theorem has_held {r : Rg} {x e u : Nat} : (r.within (leastU x 3 e) r.b).has u ↔ r.has u ∧ x ≤ 3 * u + e := by
  rw [has_within]
  unfold leastU
  rw [if_neg (by decide)]
  constructor
  · rintro ⟨h1, h2, h3⟩
    exact ⟨h1, by omega⟩
  · rintro ⟨h1, h2⟩
    exact ⟨h1, by omega, h1.2⟩
theorem has_mark {r : Rg} {c : Int} {u : Nat} : (r.mark c).has u ↔ r.has u := Iff.rfl
theorem has_gap {r : Rg} {c : Int} {u : Nat} : (r.gap c).has u ↔ r.has u := Iff.rfl
theorem has_ne {r : Rg} {u : Nat} (h : r.has u) : r.a ≤ r.b := Int.le_trans h.1 h.2
theorem within_in {r : Rg} {x y lo hi : Int} (h : lo ≤ r.a ∧ r.b ≤ hi) : lo ≤ (r.within x y).a ∧ (r.within x y).b ≤ hi := by
  unfold Rg.within mx mn
  simp only
  split <;> split <;> omega
theorem mem_wu {rs : List Rg} {r : Rg} : r ∈ withUnits rs ↔ r ∈ rs ∧ r.a ≤ r.b := by
  unfold withUnits
  rw [List.mem_filter, decide_eq_true_eq]
theorem wu_has {rs : List Rg} {u : Nat} : (∃ r ∈ withUnits rs, r.has u) ↔ ∃ r ∈ rs, r.has u := by
  constructor
  · rintro ⟨r, h, k⟩
    exact ⟨r, (mem_wu.mp h).1, k⟩
  · rintro ⟨r, h, k⟩
    exact ⟨r, mem_wu.mpr ⟨h, has_ne k⟩, k⟩

/-- what a longer state asks of the readings behind it, readings with no unit among them -/
theorem Rds.of_raw {a : Abs} {rs : List Rg} (inr : ∀ r ∈ rs, (a.lo : Int) ≤ r.a ∧ r.b ≤ (a.hi : Int))
    (may : ∀ u, a.lo ≤ u → u ≤ a.hi → (a.mayBe u = true ↔ ∃ r ∈ rs, r.has u)) (txt : ∀ r ∈ rs, ∀ u, r.has u → spelt a u = (r.row, r.ms)) (m13 : ∀ r ∈ rs, ∀ k ∈ r.ms, k = 1 ∨ k = 3) (dis : rs.Pairwise apart) : Rds a (withUnits rs) :=
  ⟨fun r h => (mem_wu.mp h).2, fun r h => inr r (mem_wu.mp h).1, fun u h1 h2 => (may u h1 h2).trans wu_has.symm, fun r h => txt r (mem_wu.mp h).1, fun r h => m13 r (mem_wu.mp h).1, dis.filter _⟩

theorem Rds.begun {lo hi e : Nat} (h : Kh315.okRange lo hi e = true) : Rds (Kh315.begun lo hi e) [⟨lo, hi, [], []⟩] := by
  have ok := Ok.begun h
  refine ⟨?_, ?_, ?_, ?_, ?_, List.pairwise_singleton _ _⟩
  · intro r hr
    rw [List.mem_singleton] at hr
    subst hr
    have := ok.lohi
    show ((lo : Nat) : Int) ≤ ((hi : Nat) : Int)
    have h2 : lo ≤ hi := this
    omega
  · intro r hr
    rw [List.mem_singleton] at hr
    subst hr
    exact ⟨Int.le_refl _, Int.le_refl _⟩
  · intro u h1 h2
    have e1 : (Kh315.begun lo hi e).mayBe u = true := rfl
    have h1' : lo ≤ u := h1
    have h2' : u ≤ hi := h2
    refine ⟨fun _ => ⟨_, List.mem_singleton.mpr rfl, ?_⟩, fun _ => e1⟩
    show ((lo : Nat) : Int) ≤ (u : Int) ∧ (u : Int) ≤ ((hi : Nat) : Int)
    omega
  · intro r hr u _
    rw [List.mem_singleton] at hr
    subst hr
    rfl
  · intro r hr k hk
    rw [List.mem_singleton] at hr
    subst hr
    cases hk

theorem mayBe_iff (a : Abs) (u : Nat) : a.mayBe u = true ↔ Kh314.fits u a.e a.lens = true ∧ (a.down = true → a.lasted ≤ 3 * u + a.e) := by
  unfold Abs.mayBe
  rw [Bool.and_eq_true, Bool.or_eq_true, decide_eq_true_eq]
  cases a.down <;> simp
theorem lasted_some {a : Abs} {s : Nat} (h : a.last = some s) : a.lasted = a.now - s := by
  unfold Abs.lasted
  rw [h]
theorem lasted_none {a : Abs} (h : a.last = none) : a.lasted = 0 := by
  unfold Abs.lasted
  rw [h]
theorem down_last {a : Abs} (ok : Ok a) (h : a.down = true) : ∃ s, a.last = some s := by
  cases q : a.last with
  | some s => exact ⟨s, rfl⟩
  | none =>
    have := (ok.fresh q).2
    rw [h] at this
    cases this
theorem even_down {a : Abs} (ok : Ok a) {s : Nat} (h : a.last = some s) (d : a.down = true) : a.lens.length % 2 = 0 := (ok.par s h).mp d
theorem odd_up {a : Abs} (ok : Ok a) {s : Nat} (h : a.last = some s) (d : a.down = false) : a.lens.length % 2 = 1 := by
  have := ok.par s h
  rw [d] at this
  simp at this
  exact this
theorem Rds.one {a : Abs} {rs : List Rg} (R : Rds a rs) (ok : Ok a) {r : Rg} (hr : r ∈ rs) : 1 ≤ r.a := by
  have h1 := (R.inr r hr).1
  have h2 := ok.lo1
  omega
theorem Rds.nat {a : Abs} {rs : List Rg} (R : Rds a rs) {r : Rg} (hr : r ∈ rs) {u : Nat} (h : r.has u) : a.lo ≤ u ∧ u ≤ a.hi := by
  have h1 := R.inr r hr
  have h2 := h.1
  have h3 := h.2
  omega
theorem kind_mark {u e n x : Nat} (h : n % 2 = 0) : kind u e n x = Kh314.mark u e x := by unfold kind; rw [if_pos h]
theorem kind_gap {u e n x : Nat} (h : n % 2 = 1) : kind u e n x = Kh314.gap u e x := by unfold kind; rw [if_neg (by omega)]
theorem mark_zero {u e x : Nat} : Kh314.mark u e x ≠ 0 ↔ (u ≤ x + e ∧ x ≤ u + e) ∨ (3 * u ≤ x + e ∧ x ≤ 3 * u + e) := by
  unfold Kh314.mark
  by_cases h1 : u ≤ x + e ∧ x ≤ u + e
  · simp [h1]
  · rw [if_neg h1]
    by_cases h3 : 3 * u ≤ x + e ∧ x ≤ 3 * u + e
    · simp [h3]
    · rw [if_neg h3]
      simp [h1, h3]
theorem gap_zero {u e x : Nat} : Kh314.gap u e x ≠ 0 ↔ (u ≤ x + e ∧ x ≤ u + e) ∨ (3 * u ≤ x + e ∧ x ≤ 3 * u + e) ∨ 7 * u ≤ x + e := by
  unfold Kh314.gap
  by_cases h1 : u ≤ x + e ∧ x ≤ u + e
  · simp [h1]
  · rw [if_neg h1]
    by_cases h3 : 3 * u ≤ x + e ∧ x ≤ 3 * u + e
    · simp [h3]
    · rw [if_neg h3]
      by_cases h7 : 7 * u ≤ x + e
      · simp [h7]
      · rw [if_neg h7]
        simp [h1, h3, h7]
/-- the key comes up: a mark is over -/
theorem Rds.up {a : Abs} {rs : List Rg} {t : Nat} (R : Rds a rs) (ok : Ok a) (hd : a.down = true) (ht : a.now ≤ t) : Rds (Kh315.goes a false t) (withUnits (marked rs ((over a t : Nat) : Int) a.e)) := by
  obtain ⟨s, hs⟩ := down_last ok hd
  have hev := even_down ok hs hd
  have hle := goes_lens (a := a) (d := false) (t := t) (by rw [hs]; rfl)
  have hsn := ok.lastnow s hs
  have hov : over a t = if 1000000 < t - s then 1000000 else t - s := by unfold over; rw [hs]; rfl
  have mem : ∀ r', r' ∈ marked rs ((over a t : Nat) : Int) a.e → ∃ r ∈ rs, r' = (r.so (over a t) 1 a.e).mark 1 ∨ r' = (r.so (over a t) 3 a.e).mark 3 := by
    intro r' h
    unfold marked at h
    rw [List.mem_flatMap] at h
    obtain ⟨r, h1, h2⟩ := h
    simp at h2
    exact ⟨r, h1, h2⟩
  have spl : ∀ u, spelt (Kh315.goes a false t) u = ((spelt a u).1, (spelt a u).2 ++ [Kh314.mark u a.e (over a t)]) := by
    intro u
    rw [spelt_snoc (a := a) (b := Kh315.goes a false t) u rfl hle, kind_mark hev]
    unfold spell1
    rw [if_pos (by simp [hev])]
  refine Rds.of_raw ?_ ?_ ?_ ?_ ?_
  · intro r' h
    obtain ⟨r, hr, rfl | rfl⟩ := mem r' h
    · exact within_in (R.inr r hr)
    · exact within_in (R.inr r hr)
  · intro u h1 h2
    rw [mayBe_iff]
    have e1 : (Kh315.goes a false t).down = false := rfl
    have e2 : (Kh315.goes a false t).e = a.e := rfl
    rw [e1, e2, hle, fits_snoc, kind_mark hev, Bool.and_eq_true, bne_iff_ne, mark_zero]
    have hm := (R.may u h1 h2)
    rw [mayBe_iff] at hm
    constructor
    · rintro ⟨⟨f1, f2⟩, _⟩
      have hx : over a t ≤ 3 * u + a.e := by rcases f2 with f2 | f2 <;> omega
      have h4 := ok.hi4
      have h5 := ok.elo
      have h6 := ok.lohi
      have h2' : u ≤ a.hi := h2
      have hl : a.lasted ≤ 3 * u + a.e := by
        rw [lasted_some hs]
        rw [hov] at hx
        split at hx <;> omega
      obtain ⟨r, hr, hu⟩ := hm.mp ⟨f1, fun _ => hl⟩
      rcases f2 with f2 | f2
      · exact ⟨(r.so (over a t) 1 a.e).mark 1, by unfold marked; exact List.mem_flatMap.mpr ⟨r, hr, by simp⟩, has_mark.mpr (has_so1.mpr ⟨hu, f2⟩)⟩
      · exact ⟨(r.so (over a t) 3 a.e).mark 3, by unfold marked; exact List.mem_flatMap.mpr ⟨r, hr, by simp⟩, has_mark.mpr (has_so3.mpr ⟨hu, f2⟩)⟩
    · rintro ⟨r', h, hu⟩
      obtain ⟨r, hr, rfl | rfl⟩ := mem r' h
      · obtain ⟨k1, k2⟩ := has_so1.mp (has_mark.mp hu)
        exact ⟨⟨(hm.mpr ⟨r, hr, k1⟩).1, .inl k2⟩, fun z => by cases z⟩
      · obtain ⟨k1, k2⟩ := has_so3.mp (has_mark.mp hu)
        exact ⟨⟨(hm.mpr ⟨r, hr, k1⟩).1, .inr k2⟩, fun z => by cases z⟩
  · intro r' h u hu
    rw [spl u]
    obtain ⟨r, hr, rfl | rfl⟩ := mem r' h
    · obtain ⟨k1, k2⟩ := has_so1.mp (has_mark.mp hu)
      rw [R.txt r hr u k1]
      have e : Kh314.mark u a.e (over a t) = 1 := by unfold Kh314.mark; rw [if_pos k2]
      rw [e]
      rfl
    · obtain ⟨k1, k2⟩ := has_so3.mp (has_mark.mp hu)
      rw [R.txt r hr u k1]
      have hn := R.nat hr k1
      have h5 := ok.elo
      have e : Kh314.mark u a.e (over a t) = 3 := by unfold Kh314.mark; rw [if_neg (by omega), if_pos k2]
      rw [e]
      rfl
  · intro r' h k hk
    obtain ⟨r, hr, rfl | rfl⟩ := mem r' h
    · have hk' : k ∈ r.ms ++ [1] := hk
      rw [List.mem_append, List.mem_singleton] at hk'
      rcases hk' with z | z
      · exact R.m13 r hr k z
      · exact .inl z
    · have hk' : k ∈ r.ms ++ [3] := hk
      rw [List.mem_append, List.mem_singleton] at hk'
      rcases hk' with z | z
      · exact R.m13 r hr k z
      · exact .inr z
  · unfold marked
    rw [List.pairwise_flatMap]
    have sub : ∀ r ∈ rs, ∀ x ∈ [(r.so (over a t) 1 a.e).mark 1, (r.so (over a t) 3 a.e).mark 3], ∀ u : Nat, x.has u → r.has u := by
      intro r hr x hx u hu
      simp at hx
      rcases hx with rfl | rfl
      · exact (has_so1.mp (has_mark.mp hu)).1
      · exact (has_so3.mp (has_mark.mp hu)).1
    refine ⟨fun r hr => ?_, ?_⟩
    · simp only [List.pairwise_cons, List.mem_cons, List.not_mem_nil, or_false, forall_eq, false_implies, implies_true, List.Pairwise.nil, and_true]
      intro u h1 h2
      obtain ⟨k1, k2⟩ := has_so1.mp (has_mark.mp h1)
      obtain ⟨_, k3⟩ := has_so3.mp (has_mark.mp h2)
      have hn := R.nat hr k1
      have h5 := ok.elo
      omega
    · refine R.dis.imp_of_mem ?_
      intro r r2 hr hr2 hd x hx y hy u h1 h2
      exact hd u (sub r hr x hx u h1) (sub r2 hr2 y hy u h2)
/-- the key goes down again: a gap is over -/
theorem Rds.down {a : Abs} {rs : List Rg} {t s : Nat} (R : Rds a rs) (ok : Ok a) (hd : a.down = false) (hs : a.last = some s) : Rds (Kh315.goes a true t) (withUnits (gapped rs ((over a t : Nat) : Int) a.e)) := by
  have hod := odd_up ok hs hd
  have hle := goes_lens (a := a) (d := true) (t := t) (by rw [hs]; rfl)
  have mem : ∀ r', r' ∈ gapped rs ((over a t : Nat) : Int) a.e → ∃ r ∈ rs, r' = (r.so (over a t) 1 a.e).gap 1 ∨ r' = (r.so (over a t) 3 a.e).gap 3 ∨ r' = (r.so (over a t) 7 a.e).gap 7 := by
    intro r' h
    unfold gapped at h
    rw [List.mem_flatMap] at h
    obtain ⟨r, h1, h2⟩ := h
    simp at h2
    exact ⟨r, h1, h2⟩
  have spl : ∀ u, spelt (Kh315.goes a true t) u = spell1 false (spelt a u) (Kh314.gap u a.e (over a t)) := by
    intro u
    rw [spelt_snoc (a := a) (b := Kh315.goes a true t) u rfl hle, kind_gap hod]
    have e : decide (a.lens.length % 2 = 0) = false := by simp; omega
    rw [e]
  refine Rds.of_raw ?_ ?_ ?_ ?_ ?_
  · intro r' h
    obtain ⟨r, hr, rfl | rfl | rfl⟩ := mem r' h
    · exact within_in (R.inr r hr)
    · exact within_in (R.inr r hr)
    · exact within_in (R.inr r hr)
  · intro u h1 h2
    rw [mayBe_iff]
    have e2 : (Kh315.goes a true t).e = a.e := rfl
    have e3 : (Kh315.goes a true t).lasted = 0 := by rw [lasted_some (s := t) rfl]; exact Nat.sub_self t
    rw [e2, e3, hle, fits_snoc, kind_gap hod, Bool.and_eq_true, bne_iff_ne, gap_zero]
    have hm := (R.may u h1 h2)
    rw [mayBe_iff, hd] at hm
    constructor
    · rintro ⟨⟨f1, f2⟩, _⟩
      obtain ⟨r, hr, hu⟩ := hm.mp ⟨f1, fun z => by cases z⟩
      rcases f2 with f2 | f2 | f2
      · exact ⟨(r.so (over a t) 1 a.e).gap 1, by unfold gapped; exact List.mem_flatMap.mpr ⟨r, hr, by simp⟩, has_gap.mpr (has_so1.mpr ⟨hu, f2⟩)⟩
      · exact ⟨(r.so (over a t) 3 a.e).gap 3, by unfold gapped; exact List.mem_flatMap.mpr ⟨r, hr, by simp⟩, has_gap.mpr (has_so3.mpr ⟨hu, f2⟩)⟩
      · exact ⟨(r.so (over a t) 7 a.e).gap 7, by unfold gapped; exact List.mem_flatMap.mpr ⟨r, hr, by simp⟩, has_gap.mpr ((has_so7 (R.one ok hr)).mpr ⟨hu, f2⟩)⟩
    · rintro ⟨r', h, hu⟩
      obtain ⟨r, hr, rfl | rfl | rfl⟩ := mem r' h
      · obtain ⟨k1, k2⟩ := has_so1.mp (has_gap.mp hu)
        exact ⟨⟨(hm.mpr ⟨r, hr, k1⟩).1, .inl k2⟩, fun _ => Nat.zero_le _⟩
      · obtain ⟨k1, k2⟩ := has_so3.mp (has_gap.mp hu)
        exact ⟨⟨(hm.mpr ⟨r, hr, k1⟩).1, .inr (.inl k2)⟩, fun _ => Nat.zero_le _⟩
      · obtain ⟨k1, k2⟩ := (has_so7 (R.one ok hr)).mp (has_gap.mp hu)
        exact ⟨⟨(hm.mpr ⟨r, hr, k1⟩).1, .inr (.inr k2)⟩, fun _ => Nat.zero_le _⟩
  · intro r' h u hu
    rw [spl u]
    obtain ⟨r, hr, rfl | rfl | rfl⟩ := mem r' h
    · obtain ⟨k1, k2⟩ := has_so1.mp (has_gap.mp hu)
      rw [R.txt r hr u k1]
      have e : Kh314.gap u a.e (over a t) = 1 := by unfold Kh314.gap; rw [if_pos k2]
      rw [e]
      rfl
    · obtain ⟨k1, k2⟩ := has_so3.mp (has_gap.mp hu)
      rw [R.txt r hr u k1]
      have hn := R.nat hr k1
      have h5 := ok.elo
      have e : Kh314.gap u a.e (over a t) = 3 := by unfold Kh314.gap; rw [if_neg (by omega), if_pos k2]
      rw [e]
      rfl
    · obtain ⟨k1, k2⟩ := (has_so7 (R.one ok hr)).mp (has_gap.mp hu)
      rw [R.txt r hr u k1]
      have hn := R.nat hr k1
      have h5 := ok.elo
      have e : Kh314.gap u a.e (over a t) = 7 := by unfold Kh314.gap; rw [if_neg (by omega), if_neg (by omega), if_pos k2]
      rw [e]
      show (r.row ++ [letter r.ms, 32], ([] : List Nat)) = ((r.row ++ [letter r.ms]) ++ [32], [])
      rw [List.append_assoc]
      rfl
  · intro r' h k hk
    obtain ⟨r, hr, rfl | rfl | rfl⟩ := mem r' h
    · exact R.m13 r hr k hk
    · have hk' : k ∈ ([] : List Nat) := hk
      cases hk'
    · have hk' : k ∈ ([] : List Nat) := hk
      cases hk'
  · unfold gapped
    rw [List.pairwise_flatMap]
    have sub : ∀ r ∈ rs, ∀ x ∈ [(r.so (over a t) 1 a.e).gap 1, (r.so (over a t) 3 a.e).gap 3, (r.so (over a t) 7 a.e).gap 7], ∀ u : Nat, x.has u → r.has u := by
      intro r hr x hx u hu
      simp at hx
      rcases hx with rfl | rfl | rfl
      · exact (has_so1.mp (has_gap.mp hu)).1
      · exact (has_so3.mp (has_gap.mp hu)).1
      · exact ((has_so7 (R.one ok hr)).mp (has_gap.mp hu)).1
    refine ⟨fun r hr => ?_, ?_⟩
    · have h5 := ok.elo
      refine List.pairwise_cons.mpr ⟨?_, List.pairwise_cons.mpr ⟨?_, List.pairwise_singleton _ _⟩⟩
      · intro y hy u h1 h2
        obtain ⟨k1, k2⟩ := has_so1.mp (has_gap.mp h1)
        have hn := R.nat hr k1
        simp at hy
        rcases hy with rfl | rfl
        · obtain ⟨_, k3⟩ := has_so3.mp (has_gap.mp h2)
          omega
        · obtain ⟨_, k3⟩ := (has_so7 (R.one ok hr)).mp (has_gap.mp h2)
          omega
      · intro y hy u h1 h2
        obtain ⟨k1, k2⟩ := has_so3.mp (has_gap.mp h1)
        have hn := R.nat hr k1
        simp at hy
        subst hy
        obtain ⟨_, k3⟩ := (has_so7 (R.one ok hr)).mp (has_gap.mp h2)
        omega
    · refine R.dis.imp_of_mem ?_
      intro r r2 hr hr2 hd x hx y hy u h1 h2
      exact hd u (sub r hr x hx u h1) (sub r2 hr2 y hy u h2)
/-- the same readings where the units that may be and the lengths are the same -/
theorem Rds.same {a b : Abs} {rs : List Rg} (R : Rds a rs) (h1 : b.lo = a.lo) (h2 : b.hi = a.hi) (h3 : b.e = a.e) (h4 : b.lens = a.lens) (h5 : ∀ u, a.lo ≤ u → u ≤ a.hi → b.mayBe u = a.mayBe u) : Rds b rs := by
  refine ⟨R.ne, ?_, ?_, ?_, R.m13, R.dis⟩
  · rw [h1, h2]; exact R.inr
  · intro u k1 k2
    rw [h1] at k1
    rw [h2] at k2
    rw [h5 u k1 k2]
    exact R.may u k1 k2
  · intro r hr u hu
    have : spelt b u = spelt a u := by unfold spelt; rw [h3, h4]
    rw [this]
    exact R.txt r hr u hu
/-- the key goes down for the first time -/
theorem Rds.first {a : Abs} {rs : List Rg} {t : Nat} (R : Rds a rs) (ok : Ok a) (hs : a.last = none) : Rds (Kh315.goes a true t) rs := by
  obtain ⟨f1, f2⟩ := ok.fresh hs
  refine R.same rfl rfl rfl (goes_first hs) fun u _ _ => ?_
  rw [Bool.eq_iff_iff, mayBe_iff, mayBe_iff]
  have e2 : (Kh315.goes a true t).e = a.e := rfl
  have e3 : (Kh315.goes a true t).lasted = 0 := by rw [lasted_some (s := t) rfl]; exact Nat.sub_self t
  rw [e2, e3, goes_first hs, f2]
  simp
/-- now is told, the key is up -/
theorem Rds.atUp {a : Abs} {rs : List Rg} {t : Nat} (R : Rds a rs) (hd : a.down = false) : Rds { a with now := t } rs := by
  refine R.same rfl rfl rfl rfl fun u _ _ => ?_
  rw [Bool.eq_iff_iff, mayBe_iff, mayBe_iff]
  show _ ∧ (a.down = true → _) ↔ _
  rw [hd]
  simp
/-- now is told, the key is down -/
theorem Rds.atDown {a : Abs} {rs : List Rg} {t s : Nat} (R : Rds a rs) (hd : a.down = true) (hs : a.last = some s) (ht : a.now ≤ t) : Rds { a with now := t } (withUnits (heldR rs ((t - s : Nat) : Int) a.e)) := by
  have mem : ∀ r', r' ∈ heldR rs ((t - s : Nat) : Int) a.e → ∃ r ∈ rs, r' = r.within (leastU ((t - s : Nat) : Int) 3 a.e) r.b := by
    intro r' h
    unfold heldR at h
    rw [List.mem_map] at h
    obtain ⟨r, h1, h2⟩ := h
    exact ⟨r, h1, h2.symm⟩
  refine Rds.of_raw ?_ ?_ ?_ ?_ ?_
  · intro r' h
    obtain ⟨r, hr, rfl⟩ := mem r' h
    exact within_in (R.inr r hr)
  · intro u h1 h2
    have hm := (R.may u h1 h2)
    rw [mayBe_iff, hd, lasted_some hs] at hm
    rw [mayBe_iff]
    have e3 : ({ a with now := t } : Abs).lasted = t - s := lasted_some hs
    rw [e3]
    show Kh314.fits u a.e a.lens = true ∧ (a.down = true → t - s ≤ 3 * u + a.e) ↔ _
    rw [hd]
    constructor
    · rintro ⟨f1, f2⟩
      have f2 := f2 rfl
      obtain ⟨r, hr, hu⟩ := hm.mp ⟨f1, fun _ => by omega⟩
      exact ⟨_, by unfold heldR; exact List.mem_map.mpr ⟨r, hr, rfl⟩, has_held.mpr ⟨hu, f2⟩⟩
    · rintro ⟨r', h, hu⟩
      obtain ⟨r, hr, rfl⟩ := mem r' h
      obtain ⟨k1, k2⟩ := has_held.mp hu
      exact ⟨(hm.mpr ⟨r, hr, k1⟩).1, fun _ => k2⟩
  · intro r' h u hu
    obtain ⟨r, hr, rfl⟩ := mem r' h
    exact R.txt r hr u (has_held.mp hu).1
  · intro r' h k hk
    obtain ⟨r, hr, rfl⟩ := mem r' h
    exact R.m13 r hr k hk
  · unfold heldR
    rw [List.pairwise_map]
    refine R.dis.imp ?_
    intro r r2 hd u h1 h2
    exact hd u (has_held.mp h1).1 (has_held.mp h2).1
end Hk

set_option linter.all false
namespace Hk
open Kh315 (Abs common letter)

/-! ## How many units, the least, the greatest -/
def hasB (r : Rg) (u : Nat) : Bool := decide (r.a ≤ (u : Int)) && decide ((u : Int) ≤ r.b)
theorem hasB_iff {r : Rg} {u : Nat} : hasB r u = true ↔ r.has u := by
  unfold hasB Rg.has
  rw [Bool.and_eq_true, decide_eq_true_eq, decide_eq_true_eq]
theorem filter_or {p q : Nat → Bool} : ∀ (l : List Nat), (∀ x ∈ l, p x = true → q x = true → False) → (l.filter fun x => p x || q x).length = (l.filter p).length + (l.filter q).length
  | [], _ => rfl
  | x :: l, h => by
    have ih := filter_or (p := p) (q := q) l fun y hy => h y (List.mem_cons_of_mem _ hy)
    have hx := h x (List.mem_cons_self ..)
    rw [List.filter_cons, List.filter_cons, List.filter_cons]
    cases hp : p x <;> cases hq : q x
    · simpa using ih
    · simp at ih ⊢; omega
    · simp at ih ⊢; omega
    · exact (hx hp hq).elim
theorem range_between (lo A B : Nat) (h : lo ≤ A) (h2 : A ≤ B + 1) : ∀ n : Nat, (((List.range n).map fun i => lo + i).filter fun u => decide (A ≤ u) && decide (u ≤ B)).length = min (B + 1) (lo + n) - A
  | 0 => by simp; omega
  | n + 1 => by
    rw [List.range_succ, List.map_append, List.filter_append, List.length_append, range_between lo A B h h2 n]
    by_cases k : A ≤ lo + n ∧ lo + n ≤ B
    · simp [k]; omega
    · have e : (decide (A ≤ lo + n) && decide (lo + n ≤ B)) = false := by
        simp; omega
      simp [e]; omega
theorem filter_one {lo hi : Nat} {r : Rg} (h1 : (lo : Int) ≤ r.a) (h2 : r.a ≤ r.b) (h3 : r.b ≤ (hi : Int)) : (((range lo hi).filter (hasB r)).length : Int) = r.many := by
  have e : hasB r = fun u : Nat => decide (r.a.toNat ≤ u) && decide (u ≤ r.b.toNat) := by
    funext u
    unfold hasB
    rw [Bool.eq_iff_iff, Bool.and_eq_true, Bool.and_eq_true, decide_eq_true_eq, decide_eq_true_eq, decide_eq_true_eq, decide_eq_true_eq]
    omega
  rw [e]
  unfold range Rg.many
  rw [range_between lo r.a.toNat r.b.toNat (by omega) (by omega)]
  omega
theorem filter_any {lo hi : Nat} : ∀ (rs : List Rg), (∀ r ∈ rs, r.a ≤ r.b) → (∀ r ∈ rs, (lo : Int) ≤ r.a ∧ r.b ≤ (hi : Int)) → rs.Pairwise apart → (((range lo hi).filter fun u => rs.any fun r => hasB r u).length : Int) = (rs.map Rg.many).sum
  | [], _, _, _ => by simp
  | r :: rs, h1, h2, h3 => by
    obtain ⟨p1, p2⟩ := List.pairwise_cons.mp h3
    have ih := filter_any (lo := lo) (hi := hi) rs (fun s hs => h1 s (List.mem_cons_of_mem _ hs)) (fun s hs => h2 s (List.mem_cons_of_mem _ hs)) p2
    have e : (fun u => (r :: rs).any fun r => hasB r u) = fun u => hasB r u || rs.any fun r => hasB r u := by
      funext u
      exact List.any_cons
    rw [e, filter_or (p := hasB r) (q := fun u => rs.any fun r => hasB r u), Int.natCast_add, ih]
    · rw [List.map_cons, List.sum_cons]
      rw [filter_one (h2 r (List.mem_cons_self ..)).1 (h1 r (List.mem_cons_self ..)) (h2 r (List.mem_cons_self ..)).2]
    · intro u _ k1 k2
      rw [List.any_eq_true] at k2
      obtain ⟨s, hs, k2⟩ := k2
      exact p1 s hs u (hasB_iff.mp k1) (hasB_iff.mp k2)
theorem units_eq {a : Abs} {rs : List Rg} (R : Rds a rs) : a.units = (range a.lo a.hi).filter fun u => rs.any fun r => hasB r u := by
  unfold Abs.units
  refine List.filter_congr ?_
  intro u hu
  obtain ⟨h1, h2⟩ := mem_range.mp (show u ∈ range a.lo a.hi from hu)
  rw [Bool.eq_iff_iff, R.may u h1 h2, List.any_eq_true]
  constructor
  · rintro ⟨r, hr, k⟩; exact ⟨r, hr, hasB_iff.mpr k⟩
  · rintro ⟨r, hr, k⟩; exact ⟨r, hr, hasB_iff.mp k⟩
theorem Rds.count {a : Abs} {rs : List Rg} (R : Rds a rs) : ((a.units.length : Nat) : Int) = (rs.map Rg.many).sum := by
  rw [units_eq R]
  exact filter_any rs R.ne R.inr R.dis
theorem Rds.mem {a : Abs} {rs : List Rg} (R : Rds a rs) {u : Nat} : u ∈ a.units ↔ ∃ r ∈ rs, r.has u := by
  rw [units_eq R, List.mem_filter, List.any_eq_true]
  constructor
  · rintro ⟨_, r, hr, k⟩; exact ⟨r, hr, hasB_iff.mp k⟩
  · rintro ⟨r, hr, k⟩
    exact ⟨mem_range.mpr (R.nat hr k), r, hr, hasB_iff.mpr k⟩
theorem sum_ge : ∀ (rs : List Rg), (∀ r ∈ rs, r.a ≤ r.b) → (rs.length : Int) ≤ (rs.map Rg.many).sum
  | [], _ => by simp
  | r :: rs, h => by
    have ih := sum_ge rs fun s hs => h s (List.mem_cons_of_mem _ hs)
    have h1 := h r (List.mem_cons_self ..)
    rw [List.map_cons, List.sum_cons, List.length_cons]
    unfold Rg.many at ih ⊢
    omega
theorem Rds.few {a : Abs} {rs : List Rg} (R : Rds a rs) (ok : Ok a) : rs.length ≤ 4096 := by
  have h1 := sum_ge rs R.ne
  rw [← R.count] at h1
  have h2 := units_length a
  have h3 := ok.hi4
  have h4 := ok.lo1
  omega
theorem Rds.nil_iff {a : Abs} {rs : List Rg} (R : Rds a rs) : a.units = [] ↔ rs = [] := by
  constructor
  · intro h
    have h1 := sum_ge rs R.ne
    rw [← R.count, h] at h1
    simp at h1
    cases rs with
    | nil => rfl
    | cons r rs => simp at h1
  · intro h
    subst h
    have := R.count
    simp at this
    exact this
theorem units_sorted (a : Abs) : a.units.Pairwise (· < ·) := by
  unfold Abs.units
  refine List.Pairwise.filter _ ?_
  rw [List.pairwise_map]
  refine List.Pairwise.imp ?_ List.pairwise_lt_range
  intro x y h
  omega
theorem head_is {l : List Nat} {m : Nat} (hs : l.Pairwise (· < ·)) (hm : m ∈ l) (hl : ∀ y ∈ l, m ≤ y) : l.headD 0 = m := by
  cases l with
  | nil => cases hm
  | cons x l =>
    have h1 := hl x (List.mem_cons_self ..)
    rcases List.mem_cons.mp hm with e | e
    · exact e.symm
    · have := (List.pairwise_cons.mp hs).1 m e
      omega
theorem last_is : ∀ {l : List Nat} {m : Nat}, l.Pairwise (· < ·) → m ∈ l → (∀ y ∈ l, y ≤ m) → l.getLastD 0 = m
  | [], _, _, h, _ => by cases h
  | [x], m, _, h, _ => by
    have : m = x := by simpa using h
    subst this
    rfl
  | x :: y :: l, m, hs, hm, hl => by
    obtain ⟨p1, p2⟩ := List.pairwise_cons.mp hs
    have hm' : m ∈ y :: l := by
      rcases List.mem_cons.mp hm with e | e
      · have := p1 y (List.mem_cons_self ..)
        have := hl y (List.mem_cons_of_mem _ (List.mem_cons_self ..))
        omega
      · exact e
    have := last_is p2 hm' fun z hz => hl z (List.mem_cons_of_mem _ hz)
    simpa using this
theorem Rds.least {a : Abs} {rs : List Rg} (R : Rds a rs) {m : Int} (h1 : m ∈ rs.map Rg.a) (h2 : ∀ y ∈ rs.map Rg.a, m ≤ y) : ((a.units.headD 0 : Nat) : Int) = m := by
  obtain ⟨r, hr, rfl⟩ := List.mem_map.mp h1
  have k1 := R.inr r hr
  have k2 := R.ne r hr
  have hu : r.has r.a.toNat := by unfold Rg.has; omega
  rw [head_is (m := r.a.toNat) (units_sorted a) (R.mem.mpr ⟨r, hr, hu⟩) fun y hy => ?_]
  · omega
  · obtain ⟨s, hs, k⟩ := R.mem.mp hy
    have := h2 s.a (List.mem_map.mpr ⟨s, hs, rfl⟩)
    have := k.1
    omega
theorem Rds.greatest {a : Abs} {rs : List Rg} (R : Rds a rs) {m : Int} (h1 : m ∈ rs.map Rg.b) (h2 : ∀ y ∈ rs.map Rg.b, y ≤ m) : ((a.units.getLastD 0 : Nat) : Int) = m := by
  obtain ⟨r, hr, rfl⟩ := List.mem_map.mp h1
  have k1 := R.inr r hr
  have k2 := R.ne r hr
  have hu : r.has r.b.toNat := by unfold Rg.has; omega
  rw [last_is (m := r.b.toNat) (units_sorted a) (R.mem.mpr ⟨r, hr, hu⟩) fun y hy => ?_]
  · omega
  · obtain ⟨s, hs, k⟩ := R.mem.mp hy
    have := h2 s.b (List.mem_map.mpr ⟨s, hs, rfl⟩)
    have := k.2
    omega

/-! ## What is told -/
theorem pre_common : ∀ (q x y : List Nat), q <+: common x y ↔ q <+: x ∧ q <+: y
  | [], x, y => by simp
  | c :: q, [], y => by rw [common_nil_left]; simp
  | c :: q, a :: x, [] => by rw [common_nil_right]; simp
  | c :: q, a :: x, b :: y => by
    rw [common_cons]
    by_cases h : a = b
    · subst h
      rw [if_pos rfl, List.cons_prefix_cons, List.cons_prefix_cons, List.cons_prefix_cons, pre_common q x y]
      constructor
      · rintro ⟨h1, h2, h3⟩; exact ⟨⟨h1, h2⟩, h1, h3⟩
      · rintro ⟨⟨h1, h2⟩, _, h3⟩; exact ⟨h1, h2, h3⟩
    · rw [if_neg h, List.cons_prefix_cons, List.cons_prefix_cons]
      constructor
      · intro z; simp at z
      · rintro ⟨⟨h1, _⟩, h2, _⟩
        exact absurd (h1.symm.trans h2) h
theorem pre_all (a : Abs) (q : List Nat) : ∀ (us : List Nat), us ≠ [] → (q <+: Kh315.all a us ↔ ∀ u ∈ us, q <+: a.by_ u)
  | [], h => absurd rfl h
  | [u], _ => by
    show q <+: a.by_ u ↔ _
    simp
  | u :: v :: r, _ => by
    rw [all_cons a u (v :: r) (by simp), pre_common, pre_all a q (v :: r) (by simp)]
    simp
theorem pre_eq {x y : List Nat} (h : ∀ q, q <+: x ↔ q <+: y) : x = y := by
  have h1 := (h x).mp (List.prefix_refl x)
  have h2 := (h y).mpr (List.prefix_refl y)
  exact List.IsPrefix.eq_of_length h1 (Nat.le_antisymm h1.length_le h2.length_le)
/-- how long the gap has lasted that goes on; 0 if there is none -/
def gapNow (a : Abs) : Int := if a.down = true ∨ ¬ a.last.isSome = true then 0 else (a.now : Int) - ((a.last.getD 0 : Nat) : Int)
theorem gapNow_none {a : Abs} (h : a.down = true ∨ a.last = none) : gapNow a = 0 := by
  unfold gapNow
  rw [if_pos]
  rcases h with h | h
  · exact .inl h
  · exact .inr (by rw [h]; simp)
theorem gapNow_some {a : Abs} {s : Nat} (h1 : a.down = false) (h2 : a.last = some s) : gapNow a = (a.now : Int) - (s : Int) := by
  unfold gapNow
  rw [if_neg, h2]
  · rfl
  · rw [h1, h2]; simp
theorem by_behind {a : Abs} (ok : Ok a) (u : Nat) : a.by_ u = behind (spelt a u).1 (spelt a u).2 (countNow (gapNow a) u a.e) := by
  have e : countNow 0 (u : Int) (a.e : Int) = 1 := by unfold countNow; rw [if_pos (by omega)]
  by_cases hd : a.down = true
  · rw [gapNow_none (.inl hd), e, by_down u hd]
    rfl
  · have hd' : a.down = false := by simpa using hd
    cases hs : a.last with
    | none =>
      rw [gapNow_none (.inr hs), e, by_spelt, lasted_none hs]
      simp [behind]
    | some s =>
      have hod := odd_up ok hs hd'
      have hl := ok.lastnow s hs
      rw [gapNow_some hd' hs, by_spelt, lasted_some hs, hd']
      simp only [Bool.not_false, Bool.true_and, hod, beq_self_eq_true, decide_eq_true_eq]
      unfold countNow behind
      by_cases h1 : u + a.e < a.now - s
      · rw [if_pos h1, if_neg (show ¬ (a.now : Int) - (s : Int) ≤ (u : Int) + (a.e : Int) by omega)]
        by_cases h3 : 3 * u + a.e < a.now - s
        · rw [if_pos h3, if_neg (show ¬ (a.now : Int) - (s : Int) ≤ 3 * (u : Int) + (a.e : Int) by omega)]
          simp
        · rw [if_neg h3, if_pos (show (a.now : Int) - (s : Int) ≤ 3 * (u : Int) + (a.e : Int) by omega)]
          simp
      · rw [if_neg h1, if_pos (show (a.now : Int) - (s : Int) ≤ (u : Int) + (a.e : Int) by omega), if_pos rfl]
theorem behind_pre (row ms : List Nat) (g e : Int) {u v : Int} (hu : 0 ≤ u) (h : u ≤ v) : behind row ms (countNow g v e) <+: behind row ms (countNow g u e) := by
  have p1 : behind row ms 1 <+: behind row ms 3 := ⟨[letter ms], rfl⟩
  have p2 : behind row ms 3 <+: behind row ms 7 := ⟨[32], rfl⟩
  unfold countNow
  by_cases h1 : g ≤ u + e
  · rw [if_pos h1, if_pos (show g ≤ v + e by omega)]
    exact List.prefix_refl _
  · rw [if_neg h1]
    by_cases h2 : g ≤ v + e
    · rw [if_pos h2]
      by_cases h3 : g ≤ 3 * u + e
      · rw [if_pos h3]; exact p1
      · rw [if_neg h3]; exact p1.trans p2
    · rw [if_neg h2]
      by_cases h3 : g ≤ 3 * u + e
      · rw [if_pos h3, if_pos (show g ≤ 3 * v + e by omega)]
        exact List.prefix_refl _
      · rw [if_neg h3]
        by_cases h4 : g ≤ 3 * v + e
        · rw [if_pos h4]; exact p2
        · rw [if_neg h4]; exact List.prefix_refl _
theorem Rds.text {a : Abs} {rs : List Rg} (R : Rds a rs) (ok : Ok a) (hne : rs ≠ []) {p : List Nat} (hp : ∀ q, q <+: p ↔ ∀ r ∈ rs, q <+: r.rowIn (gapNow a) a.e) : a.text = p := by
  refine pre_eq fun q => ?_
  unfold Abs.text
  rw [pre_all a q a.units (fun h => hne (R.nil_iff.mp h)), hp]
  constructor
  · intro h r hr
    have k1 := R.inr r hr
    have k2 := R.ne r hr
    have hu : r.has r.b.toNat := by unfold Rg.has; omega
    have := h r.b.toNat (R.mem.mpr ⟨r, hr, hu⟩)
    rw [by_behind ok, R.txt r hr _ hu] at this
    have e : ((r.b.toNat : Nat) : Int) = r.b := by omega
    rw [e] at this
    exact this
  · intro h u hu
    obtain ⟨r, hr, k⟩ := R.mem.mp hu
    rw [by_behind ok, R.txt r hr u k]
    exact (h r hr).trans (behind_pre _ _ _ _ (by omega) k.2)
/-- the program's way: a shortest row, cut where some row differs from it -/
theorem pre_short {rows : List (List Nat)} {x : List Nat} {k : Nat} (hx : x ∈ rows) (hk : k ≤ x.length) (h1 : ∀ i, i < k → ∀ y ∈ rows, y[i]? = x[i]?) (h2 : k = x.length ∨ ∃ y ∈ rows, y[k]? ≠ x[k]?) (q : List Nat) :
    q <+: x.take k ↔ ∀ y ∈ rows, q <+: y := by
  constructor
  · intro h y hy
    have e : x.take k <+: y := by
      rw [List.prefix_iff_eq_take]
      have hl : (x.take k).length = k := by rw [List.length_take]; omega
      rw [hl]
      refine List.ext_getElem? fun i => ?_
      by_cases hi : i < k
      · rw [List.getElem?_take_of_lt hi, List.getElem?_take_of_lt hi, h1 i hi y hy]
      · rw [List.getElem?_eq_none (by rw [List.length_take]; omega), List.getElem?_eq_none (by rw [List.length_take]; omega)]
    exact h.trans e
  · intro h
    have hx' := h x hx
    have hl : q.length ≤ k := by
      rcases h2 with e | ⟨y, hy, hn⟩
      · rw [e]; exact hx'.length_le
      · by_cases c : q.length ≤ k
        · exact c
        · exfalso
          have g : ∀ z : List Nat, q <+: z → z[k]? = q[k]? := by
            rintro z ⟨w, rfl⟩
            exact List.getElem?_append_left (by omega)
          have g1 := (g x hx').symm
          have g2 := (g y (h y hy)).symm
          exact hn (g2.symm.trans g1)
    rw [List.prefix_iff_eq_take] at hx' ⊢
    rw [List.take_take, Nat.min_eq_left hl]
    exact hx'

/-! ## Bounds -/
theorem spells_marks : ∀ (l : List Nat) (b : Bool) (x : List Nat × List Nat), (spells b x l).2.length ≤ x.2.length + l.length
  | [], _, x => by simp [spells]
  | k :: r, b, x => by
    show (spells (!b) (spell1 b x k) r).2.length ≤ _
    refine Nat.le_trans (spells_marks r _ _) ?_
    have : (spell1 b x k).2.length ≤ x.2.length + 1 := by
      unfold spell1
      split
      · simp
      · split
        · omega
        · split <;> simp
    simp only [List.length_cons]
    omega
theorem spelt_marks (a : Abs) (u : Nat) : (spelt a u).2.length ≤ a.lens.length := by
  unfold spelt
  rw [spell_spells]
  have h := spells_marks (Kh314.told u a.e true a.lens) true ([], [])
  rw [told_length] at h
  simpa using h
theorem Rds.short {a : Abs} {rs : List Rg} (R : Rds a rs) (ok : Ok a) {r : Rg} (hr : r ∈ rs) : r.row.length ≤ 2048 ∧ r.ms.length ≤ 1024 := by
  have k1 := R.inr r hr
  have k2 := R.ne r hr
  have hu : r.has r.b.toNat := by unfold Rg.has; omega
  have e := R.txt r hr _ hu
  have h1 := spelt_length a r.b.toNat
  have h2 := spelt_marks a r.b.toNat
  rw [e] at h1 h2
  have h3 := ok.len
  simp only at h1 h2
  omega
theorem behind_length (row ms : List Nat) (c : Int) : (behind row ms c).length ≤ row.length + 2 := by
  unfold behind
  split
  · omega
  · split <;> simp
theorem Rds.bounds {a : Abs} {rs : List Rg} (R : Rds a rs) (ok : Ok a) {r : Rg} (hr : r ∈ rs) : 1 ≤ r.a ∧ r.a ≤ r.b ∧ r.b ≤ 4096 := by
  have k1 := R.inr r hr
  have k2 := R.ne r hr
  have k3 := R.one ok hr
  have k4 := ok.hi4
  omega

/-! ## Letters by the program's table -/
/-- the signs of marks -/
def signs (m : List Nat) : List Nat := m.map fun k => if k = 1 then 46 else 45
theorem signs_inj : ∀ {x y : List Nat}, (∀ k ∈ x, k = 1 ∨ k = 3) → (∀ k ∈ y, k = 1 ∨ k = 3) → signs x = signs y → x = y
  | [], [], _, _, _ => rfl
  | [], _ :: _, _, _, h => by simp [signs] at h
  | _ :: _, [], _, _, h => by simp [signs] at h
  | a :: x, b :: y, h1, h2, h => by
    simp only [signs, List.map_cons, List.cons.injEq] at h
    have ih := signs_inj (fun k hk => h1 k (List.mem_cons_of_mem _ hk)) (fun k hk => h2 k (List.mem_cons_of_mem _ hk)) h.2
    have e1 := h1 a (List.mem_cons_self ..)
    have e2 := h2 b (List.mem_cons_self ..)
    rw [ih]
    rcases e1 with rfl | rfl <;> rcases e2 with rfl | rfl <;> simp_all
theorem table13 : ∀ x ∈ Kh314.table, ∀ k ∈ x, k = 1 ∨ k = 3 := by decide
def byteAt (i : Nat) : Nat := if i < 26 then 65 + i else 48 + (i - 26)
/-- the table from its i-th row on, by signs, with the bytes -/
def tabFrom : List (List Nat) → Nat → List (List Nat × Nat)
  | [], _ => []
  | x :: l, i => (signs x, byteAt i) :: tabFrom l (i + 1)
theorem find_tab {m : List Nat} (hm : ∀ k ∈ m, k = 1 ∨ k = 3) : ∀ (l : List (List Nat)) (i : Nat), (∀ x ∈ l, ∀ k ∈ x, k = 1 ∨ k = 3) →
    (Kh315.find m l i).map byteAt = ((tabFrom l i).find? fun p => decide (p.1 = signs m)).map (·.2)
  | [], _, _ => rfl
  | x :: l, i, h => by
    have hx := h x (List.mem_cons_self ..)
    show (if x = m then some i else Kh315.find m l (i + 1)).map byteAt = (((signs x, byteAt i) :: tabFrom l (i + 1)).find? fun p => decide (p.1 = signs m)).map (·.2)
    by_cases e : x = m
    · subst e
      rw [if_pos rfl, List.find?_cons_of_pos (by simp)]
      rfl
    · rw [if_neg e, List.find?_cons_of_neg (by simp; exact fun z => e (signs_inj hx hm z))]
      exact find_tab hm l (i + 1) fun y hy => h y (List.mem_cons_of_mem _ hy)
theorem letter_tab {m : List Nat} (hm : ∀ k ∈ m, k = 1 ∨ k = 3) : letter m = (((tabFrom Kh314.table 0).find? fun p => decide (p.1 = signs m)).map (·.2)).getD 42 := by
  rw [← find_tab hm Kh314.table 0 table13]
  unfold Kh315.letter
  cases Kh315.find m Kh314.table 0 with
  | none => rfl
  | some i => rfl
end Hk

set_option Elab.async false
set_option linter.all false
set_option maxRecDepth 100000
/-! Own rules over the layer: dicts of the module, min by length, enumerate. -/
namespace L2
open PySem PySem.Spec PyProof.Rows Att
theorem bt_len : bootBuiltins "len" = some (.builtin "len") := by decide +kernel
theorem bt_min : bootBuiltins "min" = some (.builtin "min") := by decide +kernel
theorem bt_max : bootBuiltins "max" = some (.builtin "max") := by decide +kernel
theorem bt_sum : bootBuiltins "sum" = some (.builtin "sum") := by decide +kernel
theorem bt_any : bootBuiltins "any" = some (.builtin "any") := by decide +kernel
theorem bt_ord : bootBuiltins "ord" = some (.builtin "ord") := by decide +kernel
theorem bt_list : bootBuiltins "list" = some (.type "list") := by decide +kernel

/-- a dict of the module, its keys ints and texts -/
def DkK (K : PySem.W.Frag) (w : World) (a : Addr) (kvs : List (Key × V)) : Prop :=
  (a == sysModules) = false ∧ (kvs.map (·.1)).Nodup ∧ ∃ (o : Obj) (es : Array DictEntry) (ep : Nat), K.lookup a = some o ∧ o.ExactDict ∧ o.data = .dict es ep ∧
    Paired (fun (e : DictEntry) (kv : Key × V) => keyIs kv.1 e.key = true ∧ e.hash = keyH w kv.1 ∧ RelV kv.2 e.val) es.toList kvs
theorem dkK_pairs {P : Program} {w : World} : ∀ {es : List DictEntry} {kvs : List (Key × V)}, Paired (fun (e : DictEntry) (kv : Key × V) => keyIs kv.1 e.key = true ∧ e.hash = keyH w kv.1 ∧ RelV kv.2 e.val) es kvs →
    ∃ vs : List (Key × Value), KV kvs vs ∧ Pairs (mixKind P w) es vs ∧ vs.map (·.1) = kvs.map (·.1) ∧ ∀ e ∈ es, ∃ k, keyIs k e.key = true ∧ e.hash = keyH w k
  | _, _, .nil => ⟨[], .nil, .nil, rfl, fun _ h => by cases h⟩
  | e :: es, kv :: kvs, .cons ⟨h1, h2, h3⟩ t => by
    obtain ⟨vs, a, b, c, d⟩ := dkK_pairs (P := P) t
    refine ⟨(kv.1, e.val) :: vs, .cons ⟨rfl, h3⟩ a, .cons h1 rfl b, by rw [List.map_cons, List.map_cons, c], fun e' he => ?_⟩
    rcases List.mem_cons.mp he with q | q
    · subst q; exact ⟨kv.1, h1, h2⟩
    · exact d e' q
section
variable {X : Cx} {pins : List (Addr × Obj)} {σ : St} {H : Hp} {s : Shared} {a : Addr} {kvs : List (Key × V)} {k : Key} {v d : V} {u r : Value} {A : Around} {E : Value → Shared → Prop}
theorem DkK.dict (I : Inv X pins σ H s) (d : DkK X.K X.w a kvs) : ∃ vs, KV kvs vs ∧ s.heap.DictOf (mixKind X.prog X.w) a vs := by
  obtain ⟨_, nd, o, es, ep, e1, e2, e3, e4⟩ := d
  obtain ⟨vs, a1, b1, c1, d1⟩ := dkK_pairs (P := X.prog) e4
  exact ⟨vs, a1, o, es, ep, I.kIn _ _ e1, e2, e3, fun e he => d1 e (by simpa using he), b1, by rw [c1]; exact nd⟩
theorem dK_getItem {Q : Value → Shared → Prop} (I : Inv X pins σ H s) (g : DkK X.K X.w a kvs) (l : valV kvs k = some v) (ry : RelV (kV k) u) (h : ∀ w' s', Inv X pins σ H s' → RelV v w' → Q w' s') :
    wpAny (model X.prog X.w) A (getItem (.ref a) u) Q E s := by
  obtain ⟨vs, rel, dd⟩ := g.dict I
  obtain ⟨w', hw, rw'⟩ := RelO.some_of (v := v) (o := valueAt vs k) (by rw [← l]; exact rel.val k)
  exact wpAny_getItem_of (kV_is ry) dd.mapOf hw (h w' _ (I.tok _) rw')
theorem dK_get2 {Q : Value → Shared → Prop} (I : Inv X pins σ H s) (g : DkK X.K X.w a kvs) (ry : RelV (kV k) u) (rd : RelV d r) (h : ∀ w' s', Inv X pins σ H s' → RelV ((valV kvs k).getD d) w' → Q w' s') :
    wpAny (model X.prog X.w) A (call (.builtin "dict.get") [.ref a, u, r]) Q E s := by
  obtain ⟨vs, rel, dd⟩ := g.dict I
  exact call_meetsIn PySem.F.slot_dict_get dd.typeIs PySem.F.entry_dict_get (PySem.F.args_dict_get_3 _ _ _) (meets_dict_get_default (mixKind X.prog X.w) a (kV_is ry) g.1 r) ⟨_, dd.mapOf, h _ _ (I.tok _) ((rel.val k).getD rd)⟩
theorem dK_in {Q : Value → Shared → Prop} (I : Inv X pins σ H s) (g : DkK X.K X.w a kvs) (ry : RelV (kV k) u) (h : ∀ s', Inv X pins σ H s' → Q (.bool (valV kvs k).isSome) s') :
    wpAny (model X.prog X.w) A (compareOp .In u (.ref a)) Q E s := by
  obtain ⟨vs, rel, dd⟩ := g.dict I
  refine wpAny_in_of (kV_is ry) g.1 dd.mapOf ?_
  rw [← (rel.val k).isSome_eq]
  exact h _ (I.tok _)
end
/-- d[y], d a dict of the module -/
def tDGetK (K : PySem.W.Frag) (w : World) (td ty : TE) : TE := fun σ H Q => td σ H fun x H1 => ty σ H1 fun y H2 => ∃ a kvs k v, x = .ref a ∧ DkK K w a kvs ∧ y = kV k ∧ valV kvs k = some v ∧ Q v H2
/-- d.get(y, z) -/
def tDGet2K (K : PySem.W.Frag) (w : World) (td ty tx : TE) : TE := fun σ H Q => td σ H fun x H1 => ∃ a kvs, x = .ref a ∧ DkK K w a kvs ∧ ty σ H1 fun y H2 => tx σ H2 fun z H3 => ∃ k, y = kV k ∧ Q ((valV kvs k).getD z) H3
/-- y in d -/
def tDInK (K : PySem.W.Frag) (w : World) (ty td : TE) : TE := fun σ H Q => ty σ H fun y H1 => td σ H1 fun x H2 => ∃ a kvs k, x = .ref a ∧ DkK K w a kvs ∧ y = kV k ∧ Q (.bl (valV kvs k).isSome) H2
section
variable {X : Cx} {o i e f : Expr} {pos apos cpos : Pos} {td ty tx : TE}
theorem pe_dgetK (ho : PE X o td) (hi : PE X i ty) (hs : NoSl i) : PE X (.Subscript o i pos) (tDGetK X.K X.w td ty) := by
  intro pins s σ H Q I h
  refine subD_of PySem.F.slot_dict_getitem.lookup hs (thn (ho pins s σ H _ I h) fun u s1 ⟨x, H1, I1, rx, q1⟩ => thn (hi pins s1 σ H1 _ I1 q1) fun iv s2 ⟨y, H2, I2, ry, a, kvs, k, v, ex, g, ey, l, q2⟩ => ?_)
  subst ex ey
  obtain rfl : u = Value.ref a := rx
  obtain ⟨vs, _, dd⟩ := g.dict I2
  exact ⟨dd.typeIs, dK_getItem I2 g l ry fun w' s3 I3 rw' => ⟨v, H2, I3, rw', q2⟩⟩
theorem pe_dget2K (ho : PE X o td) (he : PE X e ty) (hf : PE X f tx) (m : M2 X o "get" apos e f cpos) : PE X (.Call (.Attribute o "get" apos) [e, f] [] cpos) (tDGet2K X.K X.w td ty tx) := by
  intro pins s σ H Q I h
  refine wpAny_Call_method m.base m.few m.line PySem.F.plainAttrs_dict PySem.F.slot_dict_get PySem.F.type_dict_get (thn (ho pins s σ H _ I h) fun u s1 ⟨x, H1, I1, rx, a, kvs, ex, d, q1⟩ => ?_)
  subst ex
  obtain rfl : u = Value.ref a := rx
  obtain ⟨vs, _, dd⟩ := d.dict I1
  refine ⟨dd.typeIs, dd.mapOf.noDict, ?_⟩
  rw [m.trees]
  refine Calls.callWith_builtin rfl (Calls.evalArgs_plain (Calls.spliced_cons (thn (he pins s1 σ H1 _ I1 q1) fun iv s2 ⟨y, H2, I2, ry, q2⟩ =>
    Calls.spliced_cons (thn (hf pins s2 σ H2 _ I2 q2) fun fv s3 ⟨z, H3, I3, rz, k, ey, q3⟩ => Calls.spliced_nil ?_))))
  subst ey
  exact dK_get2 I3 d ry rz fun w' s4 I4 rw' => ⟨_, H3, I4, rw', q3⟩
theorem pc_dinK (hi : PE X i ty) (ho : PE X o td) : PC X .In i o (tDInK X.K X.w ty td) := by
  intro pins s σ H Q I h
  refine thn (hi pins s σ H _ I h) fun iv s1 ⟨y, H1, I1, ry, q1⟩ => thn (ho pins s1 σ H1 _ I1 q1) fun u s2 ⟨x, H2, I2, rx, a, kvs, k, ex, g, ey, q2⟩ => ?_
  subst ex ey
  obtain rfl : u = Value.ref a := rx
  exact dK_in I2 g ry fun s3 I3 => ⟨.bl _, H2, I3, rfl, q2⟩
end
/-! min(rows, key=len) -/
/-- the first of the shortest lists -/
def rMinLen (K : PySem.W.Frag) : List V → Hp → VK → Prop := fun vs H Q => ∃ (a : Addr) (ps : List Addr) (yss : List (List V)), vs = [V.ref a] ∧ SqL K H a (ps.map V.ref) ∧ ps.length = yss.length ∧
  (∀ (i : Nat) p ys, ps[i]? = some p → yss[i]? = some ys → SqL K H p ys) ∧ 0 < ps.length ∧ ∀ (i : Nat) p ys, ps[i]? = some p → yss[i]? = some ys → (∀ zs ∈ yss, ys.length ≤ zs.length) → Q (.ref p) H
section
variable {X : Cx} {pins : List (Addr × Obj)} {σ : St} {H : Hp} {s : Shared}
theorem isList_ne {h : Heap} {l L : Addr} {its : Array Value} {m : Str → Option Value} (x : h.IsList l its) (n : h.Ns L m) : l ≠ L := by
  intro e
  subst e
  obtain ⟨o, ho, _, k, hd⟩ := x
  obtain ⟨o', es, ep, ho', hd', _⟩ := n
  rw [ho] at ho'
  cases ho'
  rw [hd] at hd'
  cases hd'
theorem min_len (hc : X.calm = true) {vs : List V} {us : List Value} {Q : VK} (I : Inv X pins σ H s) (r : Vals vs us) (h : rMinLen X.K vs H Q) :
    wpAny (model X.prog X.w) X.A (call (.builtin "min") us [(Str.ofString "key", .builtin "len")]) (EP X pins σ Q) X.xe s := by
  obtain ⟨a, ps, yss, rfl, hs, hlen, hrow, hne, q⟩ := h
  obtain ⟨its, rv, hl, _⟩ := I.list hs
  rw [Vals.ref1 r]
  have e := refs_at rv
  subst e
  obtain ⟨m, hn, _⟩ := id I.loc
  have hnl := isList_ne hl.isList hn
  have keepL : ∀ {l : Addr} {its : Array Value}, s.heap.IsList l its → ∀ h, News (noObjs s.heap) X.env.locals h (allNews (noObjs s.heap) s.heap X.env.locals) → h.IsList l its := fun {l its} x h N => by
    have ne := isList_ne x hn
    obtain ⟨o, ho, r⟩ := x
    exact ⟨o, (N (l, o) (mem_allNews ne (noObjs_get _ _) ho)).1, r⟩
  refine PyProof.Rows.kmb_min (h₀ := noObjs s.heap) (L := X.env.locals) (m := m) (news := allNews (noObjs s.heap) s.heap X.env.locals) (vs := ps.map Value.ref) (kid := "len") (fun i => (((yss[i]?).getD []).length : Int)) (I.ok.hd hc)
    (fr_all hn) news_all (fun h _ N => keepL hl.isList h N) (by rw [List.length_map]; exact hne) (fun i v hv h tk own F N => ?_) (fun i v h' tk' hv hb F N => ?_)
  · rw [List.getElem?_map] at hv
    cases hp : ps[i]? with
    | none => rw [hp] at hv; cases hv
    | some p =>
      rw [hp] at hv
      have hv := Option.some.inj hv
      subst hv
      have hi : i < yss.length := by rw [← hlen]; exact (List.getElem?_eq_some_iff.mp hp).1
      have hy : yss[i]? = some yss[i] := List.getElem?_eq_getElem hi
      obtain ⟨its2, rv2, hl2, hz2⟩ := I.list (hrow i p yss[i] hp hy)
      have hlen2 := rv2.length
      have hn63 := line63
      have N' : News (noObjs s.heap) X.env.locals h (allNews (noObjs s.heap) s.heap X.env.locals) := fun p hp => N p (List.mem_append_left _ hp)
      have e2 : ((yss[i]?).getD []).length = its2.toArray.size := by rw [hy, List.size_toArray, ← hlen2]; rfl
      refine Calls.call_len_list (keepL hl2.isList h N') (by rw [← e2, hy]; simp only [Option.getD_some]; omega) ?_
      refine ⟨h, _, tk + 1, rfl, ?_, F, N⟩
      rw [e2]
  · rw [List.getElem?_map] at hv
    cases hp : ps[i]? with
    | none => rw [hp] at hv; cases hv
    | some p =>
      rw [hp] at hv
      have hv := Option.some.inj hv
      subst hv
      have hi : i < yss.length := by rw [← hlen]; exact (List.getElem?_eq_some_iff.mp hp).1
      have hy : yss[i]? = some yss[i] := List.getElem?_eq_getElem hi
      have kp : ∀ b o, b ≠ X.env.locals → s.heap.get? b = some o → h'.get? b = some o := fun b o nb e => (N (b, o) (mem_allNews nb (noObjs_get _ _) e)).1
      obtain ⟨oL, _, _, hoL, _⟩ := F.ns
      refine ⟨.ref p, H, I.step (g' := s.gens) (t' := tk') (d' := s.drawn) (ch := []) (fun _ z => nomatch z) (fun b o nb _ _ e _ => kp b o nb e) (fun b o nb _ _ e _ => ⟨o.slots, kp b o nb e⟩) (fun _ _ _ _ n => n) (fun b o _ e => ?_) (fun _ _ e => e) (fun _ _ _ e => e) (fun b ps e => ⟨#[], by rw [e]; simp⟩) (fun m' hm' => ?_) (fun b u e => ?_) I.bare, rfl,
        q i p yss[i] hp hy fun zs hz => ?_⟩
      · by_cases nb : b = X.env.locals
        · subst nb; exact ⟨oL, hoL⟩
        · exact ⟨o, kp b o nb e⟩
      · rw [hm'.eq_nsMap, ← hn.eq_nsMap]
        exact F.ns
      · refine (I.hok b u e).stay (fun c v hc q => kp c v ?_ q) (fun _ q => q) fun _ _ q => q
        rintro rfl
        rcases hc with z | z
        · rw [← z, I.free] at e; cases e
        · rw [I.free] at z; cases z
      · obtain ⟨j, hj, ej⟩ := List.getElem_of_mem hz
        have hb1 := (hb j (by rw [List.length_map, hlen]; exact hj)).1
        have hyj : yss[j]? = some zs := by rw [← ej]; exact List.getElem?_eq_getElem hj
        simp only [hy, hyj, Option.getD_some] at hb1
        omega
theorem pe_minlen {e : Expr} {t : TA} {p p2 pos kp : Pos} (hc : X.calm = true) (hg : Gl X "min") (hm : X.mg "min" = none) (hg2 : Gl X "len") (hm2 : X.mg "len" = none) (ha : PA X [e] t)
    (he : backTo pos (starEach [e] X.env) = (false, eval e X.env) :: backTo pos (starEach [] X.env) := by rfl) (hpl : (backTo pos (starEach [e] X.env)).any (·.1) = false := by rfl) :
    PE X (.Call (.Name "min" p) [e] [⟨some "key", .Name "len" p2, kp⟩] pos) (tCB (rMinLen X.K) t) := by
  intro pins s σ H Q I h
  refine wpAny_Call_Name_kw (ld_blt I hg hm bt_min ?_ (by decide) (by decide))
  refine PyProof.Rows.callWith_kw (thn (ha pos pins s σ H _ I h) fun us s1 ⟨vs, H1, I1, r1, q1⟩ => ?_) he hpl
  refine PyProof.Rows.kws_cons (ld_blt I1 hg2 hm2 bt_len (PyProof.Rows.kws_nil ?_) (by decide) (by decide))
  exact min_len hc I1 r1 q1
end
/-! within a comprehension's block: the written part by its own name -/
theorem pe_fldB {X : Cx} {K : PySem.W.Frag} {e : Expr} {f : Str} {pos : Pos} {ta : TE} (hK : X.K = K) (he : PE X e ta) (hb : attributeBase e f X.env (eval e X.env) = eval e X.env) : PE X (.Attribute e f pos) (tFld K ta f) := by
  subst hK
  exact pe_fld he hb
theorem ix_listB {X : Cx} {K : PySem.W.Frag} (hK : X.K = K) : IxR X (rIxL K) := by
  subst hK
  exact ix_list
/-! for i, x in enumerate(list) -/
theorem for_enum {K : PySem.W.Frag} {a : Addr} {xs : List V} {g : TG} {tb : TS} {D : Ends} {σ : St} {H : Hp} (Pv : Nat → St → Hp → Prop) (h0 : Pv 0 σ H) (hl : ∀ i σ H, i ≤ xs.length → Pv i σ H → SqL K H a xs)
    (hs : ∀ i x T σ H, xs[i]? = some x → Pv i σ H → H T = none → g (.ref T) σ (upd H T (.tup [.int (i : Nat), x])) fun σ2 H2 => tb { D with nx := Pv (i + 1), ct := Pv (i + 1), bk := D.nx } σ2 H2) (hd : ∀ σ H, Pv xs.length σ H → D.nx σ H) :
    ∃ W : Nat → Nat → St → Hp → Prop, (∃ m, W 0 m σ H) ∧ ∀ i m σ H, W i m σ H →
      ((Ite K a).stop i H ∧ D.nx σ H) ∨ ((Ite K a).go i H ∧ ∃ N : St → Hp → Prop, (∀ σ' H', N σ' H' → ∃ m', m' < m ∧ W (i + 1) m' σ' H') ∧ ∀ x H', (Ite K a).yld i H x H' → g x σ H' fun σ2 H2 => tb { D with nx := N, ct := N, bk := D.nx } σ2 H2) := by
  refine ⟨fun i m σ H => m = xs.length - i ∧ i ≤ xs.length ∧ Pv i σ H, ⟨xs.length, by simp, Nat.zero_le _, h0⟩, ?_⟩
  rintro i m σ H ⟨rfl, hi, p⟩
  have q := hl i σ H hi p
  by_cases hlt : i < xs.length
  · refine .inr ⟨⟨xs, xs[i], q, by simp [hlt]⟩, Pv (i + 1), fun σ' H' p' => ⟨xs.length - (i + 1), by omega, rfl, hlt, p'⟩, fun v H' y => ?_⟩
    obtain ⟨T, x, e1, hT, e2, y⟩ := y
    subst e1 e2
    exact hs i x T σ _ (y xs q) p hT
  · have e : i = xs.length := by omega
    subst e
    exact .inl ⟨⟨xs, q, Nat.le_refl _⟩, hd σ H p⟩
end L2

set_option Elab.async false
set_option linter.all false
set_option maxRecDepth 100000
set_option maxHeartbeats 2000000
namespace Hk
open PySem PySem.Spec PyProof.Rows L2
open PySem.W (Codec)
def top (i : Nat) : Stmt := PySem.Challenge.pw_handkey_s01_answers.main.body.getD i (.Pass ⟨0, 0, 0, 0⟩)
abbrev s_least_unit : Stmt := top 1
abbrev s_greatest_unit : Stmt := top 2
abbrev s_count_by_now : Stmt := top 3
abbrev s_letter_byte : Stmt := top 7
abbrev s_Reading_init : Stmt := inClass (top 11) 0
abbrev s_Reading_how_many : Stmt := inClass (top 11) 1
abbrev s_Reading_within : Stmt := inClass (top 11) 2
abbrev s_Reading_if_so_many : Stmt := inClass (top 11) 3
abbrev s_Reading_with_mark : Stmt := inClass (top 11) 4
abbrev s_Reading_with_gap : Stmt := inClass (top 11) 5
abbrev s_Reading_row_behind_gap : Stmt := inClass (top 11) 6
abbrev s_Reading_row_in_gap : Stmt := inClass (top 11) 7
abbrev s_with_units : Stmt := top 12
abbrev s_read_mark : Stmt := top 13
abbrev s_read_gap : Stmt := top 14
abbrev s_read_held_key : Stmt := top 15
abbrev s_common_beginning : Stmt := top 16
abbrev s_is_range : Stmt := top 26
abbrev s_Keying_init : Stmt := inClass (top 27) 0
abbrev s_Keying_restart : Stmt := inClass (top 27) 1
abbrev s_Keying_begin : Stmt := inClass (top 27) 2
abbrev s_Keying_down : Stmt := inClass (top 27) 3
abbrev s_Keying_up : Stmt := inClass (top 27) 4
abbrev s_Keying_at : Stmt := inClass (top 27) 5
abbrev s_Keying_read : Stmt := inClass (top 27) 6
abbrev s_Keying_units : Stmt := inClass (top 27) 7
abbrev s_Keying_is_wrong_tick : Stmt := inClass (top 27) 8
abbrev s_Keying_refusal_to_turn : Stmt := inClass (top 27) 9
abbrev s_Keying_end_length : Stmt := inClass (top 27) 10
abbrev s_Keying_turn : Stmt := inClass (top 27) 11
abbrev s_Keying_gap_that_goes_on : Stmt := inClass (top 27) 12
abbrev s_Keying_how_many_may_be : Stmt := inClass (top 27) 13
abbrev s_answer : Stmt := top 35
abbrev s_answers : Stmt := top 36
theorem sc_least_unit : FnScope ["length", "count", "slack"] ["length", "count", "slack"] (defScope s_least_unit) := ⟨rfl, rfl, rfl, by decide +kernel, rfl, by decide +kernel, by decide +kernel⟩
theorem sc_greatest_unit : FnScope ["length", "count", "slack"] ["length", "count", "slack"] (defScope s_greatest_unit) := ⟨rfl, rfl, rfl, by decide +kernel, rfl, by decide +kernel, by decide +kernel⟩
theorem sc_count_by_now : FnScope ["gap", "unit", "slack"] ["gap", "unit", "slack"] (defScope s_count_by_now) := ⟨rfl, rfl, rfl, by decide +kernel, rfl, by decide +kernel, by decide +kernel⟩
theorem sc_letter_byte : FnScope ["marks"] ["marks"] (defScope s_letter_byte) := ⟨rfl, rfl, rfl, by decide +kernel, rfl, by decide +kernel, by decide +kernel⟩
theorem sc_Reading_init : FnScope ["self", "least", "greatest", "row", "marks"] ["self", "least", "greatest", "row", "marks"] (defScope s_Reading_init) := ⟨rfl, rfl, rfl, by decide +kernel, rfl, by decide +kernel, by decide +kernel⟩
theorem sc_Reading_how_many : FnScope ["self"] ["self"] (defScope s_Reading_how_many) := ⟨rfl, rfl, rfl, by decide +kernel, rfl, by decide +kernel, by decide +kernel⟩
theorem sc_Reading_within : FnScope ["self", "least", "greatest"] ["self", "least", "greatest"] (defScope s_Reading_within) := ⟨rfl, rfl, rfl, by decide +kernel, rfl, by decide +kernel, by decide +kernel⟩
theorem sc_Reading_if_so_many : FnScope ["self", "length", "count", "slack"] ["self", "length", "count", "slack"] (defScope s_Reading_if_so_many) := ⟨rfl, rfl, rfl, by decide +kernel, rfl, by decide +kernel, by decide +kernel⟩
theorem sc_Reading_with_mark : FnScope ["self", "count", "sign"] ["self", "count"] (defScope s_Reading_with_mark) := ⟨rfl, rfl, rfl, by decide +kernel, rfl, by decide +kernel, by decide +kernel⟩
theorem sc_Reading_with_gap : FnScope ["self", "count", "marks"] ["self", "count"] (defScope s_Reading_with_gap) := ⟨rfl, rfl, rfl, by decide +kernel, rfl, by decide +kernel, by decide +kernel⟩
theorem sc_Reading_row_behind_gap : FnScope ["self", "count", "ended"] ["self", "count"] (defScope s_Reading_row_behind_gap) := ⟨rfl, rfl, rfl, by decide +kernel, rfl, by decide +kernel, by decide +kernel⟩
theorem sc_Reading_row_in_gap : FnScope ["self", "gap", "slack"] ["self", "gap", "slack"] (defScope s_Reading_row_in_gap) := ⟨rfl, rfl, rfl, by decide +kernel, rfl, by decide +kernel, by decide +kernel⟩
theorem sc_with_units : FnScope ["readings", "reading"] ["readings"] (defScope s_with_units) := ⟨rfl, rfl, rfl, by decide +kernel, rfl, by decide +kernel, by decide +kernel⟩
theorem sc_read_mark : FnScope ["readings", "length", "slack", "longer", "reading", "count"] ["readings", "length", "slack"] (defScope s_read_mark) := ⟨rfl, rfl, rfl, by decide +kernel, rfl, by decide +kernel, by decide +kernel⟩
theorem sc_read_gap : FnScope ["readings", "length", "slack", "longer", "reading", "count"] ["readings", "length", "slack"] (defScope s_read_gap) := ⟨rfl, rfl, rfl, by decide +kernel, rfl, by decide +kernel, by decide +kernel⟩
theorem sc_read_held_key : FnScope ["readings", "held", "slack", "least", "reading"] ["readings", "held", "slack"] (defScope s_read_held_key) := ⟨rfl, rfl, rfl, by decide +kernel, rfl, by decide +kernel, by decide +kernel⟩
theorem sc_common_beginning : FnScope ["rows", "shortest", "place", "byte", "row"] ["rows"] (defScope s_common_beginning) := ⟨rfl, rfl, rfl, by decide +kernel, rfl, by decide +kernel, by decide +kernel⟩
theorem sc_is_range : FnScope ["lo", "hi", "slack"] ["lo", "hi", "slack"] (defScope s_is_range) := ⟨rfl, rfl, rfl, by decide +kernel, rfl, by decide +kernel, by decide +kernel⟩
theorem sc_Keying_init : FnScope ["self"] ["self"] (defScope s_Keying_init) := ⟨rfl, rfl, rfl, by decide +kernel, rfl, by decide +kernel, by decide +kernel⟩
theorem sc_Keying_restart : FnScope ["self", "readings", "slack"] ["self", "readings", "slack"] (defScope s_Keying_restart) := ⟨rfl, rfl, rfl, by decide +kernel, rfl, by decide +kernel, by decide +kernel⟩
theorem sc_Keying_begin : FnScope ["self", "lo", "hi", "slack"] ["self", "lo", "hi", "slack"] (defScope s_Keying_begin) := ⟨rfl, rfl, rfl, by decide +kernel, rfl, by decide +kernel, by decide +kernel⟩
theorem sc_Keying_down : FnScope ["self", "t", "refusal"] ["self", "t"] (defScope s_Keying_down) := ⟨rfl, rfl, rfl, by decide +kernel, rfl, by decide +kernel, by decide +kernel⟩
theorem sc_Keying_up : FnScope ["self", "t", "refusal"] ["self", "t"] (defScope s_Keying_up) := ⟨rfl, rfl, rfl, by decide +kernel, rfl, by decide +kernel, by decide +kernel⟩
theorem sc_Keying_at : FnScope ["self", "t"] ["self", "t"] (defScope s_Keying_at) := ⟨rfl, rfl, rfl, by decide +kernel, rfl, by decide +kernel, by decide +kernel⟩
theorem sc_Keying_read : FnScope ["self", "gap", "told", "reading"] ["self"] (defScope s_Keying_read) := ⟨rfl, rfl, rfl, by decide +kernel, rfl, by decide +kernel, by decide +kernel⟩
theorem sc_Keying_units : FnScope ["self", "least", "greatest", "reading"] ["self"] (defScope s_Keying_units) := ⟨rfl, rfl, rfl, by decide +kernel, rfl, by decide +kernel, by decide +kernel⟩
theorem sc_Keying_is_wrong_tick : FnScope ["self", "t"] ["self", "t"] (defScope s_Keying_is_wrong_tick) := ⟨rfl, rfl, rfl, by decide +kernel, rfl, by decide +kernel, by decide +kernel⟩
theorem sc_Keying_refusal_to_turn : FnScope ["self", "t", "to_down"] ["self", "t", "to_down"] (defScope s_Keying_refusal_to_turn) := ⟨rfl, rfl, rfl, by decide +kernel, rfl, by decide +kernel, by decide +kernel⟩
theorem sc_Keying_end_length : FnScope ["self", "t"] ["self", "t"] (defScope s_Keying_end_length) := ⟨rfl, rfl, rfl, by decide +kernel, rfl, by decide +kernel, by decide +kernel⟩
theorem sc_Keying_turn : FnScope ["self", "t", "to_down"] ["self", "t", "to_down"] (defScope s_Keying_turn) := ⟨rfl, rfl, rfl, by decide +kernel, rfl, by decide +kernel, by decide +kernel⟩
theorem sc_Keying_gap_that_goes_on : FnScope ["self"] ["self"] (defScope s_Keying_gap_that_goes_on) := ⟨rfl, rfl, rfl, by decide +kernel, rfl, by decide +kernel, by decide +kernel⟩
theorem sc_Keying_how_many_may_be : FnScope ["self", "reading"] ["self"] (defScope s_Keying_how_many_may_be) := ⟨rfl, rfl, rfl, by decide +kernel, rfl, by decide +kernel, by decide +kernel⟩
theorem sc_answer : FnScope ["keying", "call", "numbers"] ["keying", "call", "numbers"] (defScope s_answer) := ⟨rfl, rfl, rfl, by decide +kernel, rfl, by decide +kernel, by decide +kernel⟩
theorem sc_answers : FnScope ["calls", "keying", "answered", "place", "call", "first", "told"] ["calls"] (defScope s_answers) := ⟨rfl, rfl, rfl, by decide +kernel, rfl, by decide +kernel, by decide +kernel⟩
/-- the addresses of what the top has made -/
structure Adr where
  c_Reading : Addr
  c_Keying : Addr
  f_least_unit : Addr
  d_least_unit : FuncData
  f_greatest_unit : Addr
  d_greatest_unit : FuncData
  f_count_by_now : Addr
  d_count_by_now : FuncData
  f_letter_byte : Addr
  d_letter_byte : FuncData
  f_Reading_init : Addr
  d_Reading_init : FuncData
  f_Reading_how_many : Addr
  d_Reading_how_many : FuncData
  f_Reading_within : Addr
  d_Reading_within : FuncData
  f_Reading_if_so_many : Addr
  d_Reading_if_so_many : FuncData
  f_Reading_with_mark : Addr
  d_Reading_with_mark : FuncData
  f_Reading_with_gap : Addr
  d_Reading_with_gap : FuncData
  f_Reading_row_behind_gap : Addr
  d_Reading_row_behind_gap : FuncData
  f_Reading_row_in_gap : Addr
  d_Reading_row_in_gap : FuncData
  f_with_units : Addr
  d_with_units : FuncData
  f_read_mark : Addr
  d_read_mark : FuncData
  f_read_gap : Addr
  d_read_gap : FuncData
  f_read_held_key : Addr
  d_read_held_key : FuncData
  f_common_beginning : Addr
  d_common_beginning : FuncData
  f_is_range : Addr
  d_is_range : FuncData
  f_Keying_init : Addr
  d_Keying_init : FuncData
  f_Keying_restart : Addr
  d_Keying_restart : FuncData
  f_Keying_begin : Addr
  d_Keying_begin : FuncData
  f_Keying_down : Addr
  d_Keying_down : FuncData
  f_Keying_up : Addr
  d_Keying_up : FuncData
  f_Keying_at : Addr
  d_Keying_at : FuncData
  f_Keying_read : Addr
  d_Keying_read : FuncData
  f_Keying_units : Addr
  d_Keying_units : FuncData
  f_Keying_is_wrong_tick : Addr
  d_Keying_is_wrong_tick : FuncData
  f_Keying_refusal_to_turn : Addr
  d_Keying_refusal_to_turn : FuncData
  f_Keying_end_length : Addr
  d_Keying_end_length : FuncData
  f_Keying_turn : Addr
  d_Keying_turn : FuncData
  f_Keying_gap_that_goes_on : Addr
  d_Keying_gap_that_goes_on : FuncData
  f_Keying_how_many_may_be : Addr
  d_Keying_how_many_may_be : FuncData
  f_answer : Addr
  d_answer : FuncData
  f_answers : Addr
  d_answers : FuncData
  a_GAP_COUNTS : Addr
  a_LETTERS : Addr
  a_MARK_COUNTS : Addr
  a_NUMBERS_BEHIND : Addr
/-- what is read off the top -/
structure Txt (K : PySem.W.Frag) (w : World) (mg : Str → Option Value) (t : Adr) : Prop where
  cl_Reading : Cls K t.c_Reading
  g_Reading : mg "Reading" = some (.ref t.c_Reading)
  mk_Reading : Mk K t.c_Reading t.f_Reading_init
  n_Reading_least : NoAttr K t.c_Reading "least"
  n_Reading_greatest : NoAttr K t.c_Reading "greatest"
  n_Reading_row : NoAttr K t.c_Reading "row"
  n_Reading_marks : NoAttr K t.c_Reading "marks"
  cl_Keying : Cls K t.c_Keying
  g_Keying : mg "Keying" = some (.ref t.c_Keying)
  mk_Keying : Mk K t.c_Keying t.f_Keying_init
  n_Keying_slack : NoAttr K t.c_Keying "slack"
  n_Keying_now : NoAttr K t.c_Keying "now"
  n_Keying_is_down : NoAttr K t.c_Keying "is_down"
  n_Keying_was_pressed : NoAttr K t.c_Keying "was_pressed"
  n_Keying_turned_at : NoAttr K t.c_Keying "turned_at"
  n_Keying_lengths_over : NoAttr K t.c_Keying "lengths_over"
  n_Keying_readings : NoAttr K t.c_Keying "readings"
  F_least_unit : Fun K "least_unit" "least_unit" s_least_unit t.f_least_unit t.d_least_unit
  g_least_unit : mg "least_unit" = some (.ref t.f_least_unit)
  k_least_unit : PySem.W.keepIn K (.ref t.f_least_unit) = true
  F_greatest_unit : Fun K "greatest_unit" "greatest_unit" s_greatest_unit t.f_greatest_unit t.d_greatest_unit
  g_greatest_unit : mg "greatest_unit" = some (.ref t.f_greatest_unit)
  k_greatest_unit : PySem.W.keepIn K (.ref t.f_greatest_unit) = true
  F_count_by_now : Fun K "count_by_now" "count_by_now" s_count_by_now t.f_count_by_now t.d_count_by_now
  g_count_by_now : mg "count_by_now" = some (.ref t.f_count_by_now)
  k_count_by_now : PySem.W.keepIn K (.ref t.f_count_by_now) = true
  F_letter_byte : Fun K "letter_byte" "letter_byte" s_letter_byte t.f_letter_byte t.d_letter_byte
  g_letter_byte : mg "letter_byte" = some (.ref t.f_letter_byte)
  k_letter_byte : PySem.W.keepIn K (.ref t.f_letter_byte) = true
  F_Reading_init : Fun K "__init__" "Reading.__init__" s_Reading_init t.f_Reading_init t.d_Reading_init
  m_Reading_init : Meth K t.c_Reading "__init__" t.f_Reading_init
  F_Reading_how_many : Fun K "how_many" "Reading.how_many" s_Reading_how_many t.f_Reading_how_many t.d_Reading_how_many
  m_Reading_how_many : Meth K t.c_Reading "how_many" t.f_Reading_how_many
  F_Reading_within : Fun K "within" "Reading.within" s_Reading_within t.f_Reading_within t.d_Reading_within
  m_Reading_within : Meth K t.c_Reading "within" t.f_Reading_within
  F_Reading_if_so_many : Fun K "if_so_many" "Reading.if_so_many" s_Reading_if_so_many t.f_Reading_if_so_many t.d_Reading_if_so_many
  m_Reading_if_so_many : Meth K t.c_Reading "if_so_many" t.f_Reading_if_so_many
  F_Reading_with_mark : Fun K "with_mark" "Reading.with_mark" s_Reading_with_mark t.f_Reading_with_mark t.d_Reading_with_mark
  m_Reading_with_mark : Meth K t.c_Reading "with_mark" t.f_Reading_with_mark
  F_Reading_with_gap : Fun K "with_gap" "Reading.with_gap" s_Reading_with_gap t.f_Reading_with_gap t.d_Reading_with_gap
  m_Reading_with_gap : Meth K t.c_Reading "with_gap" t.f_Reading_with_gap
  F_Reading_row_behind_gap : Fun K "row_behind_gap" "Reading.row_behind_gap" s_Reading_row_behind_gap t.f_Reading_row_behind_gap t.d_Reading_row_behind_gap
  m_Reading_row_behind_gap : Meth K t.c_Reading "row_behind_gap" t.f_Reading_row_behind_gap
  F_Reading_row_in_gap : Fun K "row_in_gap" "Reading.row_in_gap" s_Reading_row_in_gap t.f_Reading_row_in_gap t.d_Reading_row_in_gap
  m_Reading_row_in_gap : Meth K t.c_Reading "row_in_gap" t.f_Reading_row_in_gap
  F_with_units : Fun K "with_units" "with_units" s_with_units t.f_with_units t.d_with_units
  g_with_units : mg "with_units" = some (.ref t.f_with_units)
  k_with_units : PySem.W.keepIn K (.ref t.f_with_units) = true
  F_read_mark : Fun K "read_mark" "read_mark" s_read_mark t.f_read_mark t.d_read_mark
  g_read_mark : mg "read_mark" = some (.ref t.f_read_mark)
  k_read_mark : PySem.W.keepIn K (.ref t.f_read_mark) = true
  F_read_gap : Fun K "read_gap" "read_gap" s_read_gap t.f_read_gap t.d_read_gap
  g_read_gap : mg "read_gap" = some (.ref t.f_read_gap)
  k_read_gap : PySem.W.keepIn K (.ref t.f_read_gap) = true
  F_read_held_key : Fun K "read_held_key" "read_held_key" s_read_held_key t.f_read_held_key t.d_read_held_key
  g_read_held_key : mg "read_held_key" = some (.ref t.f_read_held_key)
  k_read_held_key : PySem.W.keepIn K (.ref t.f_read_held_key) = true
  F_common_beginning : Fun K "common_beginning" "common_beginning" s_common_beginning t.f_common_beginning t.d_common_beginning
  g_common_beginning : mg "common_beginning" = some (.ref t.f_common_beginning)
  k_common_beginning : PySem.W.keepIn K (.ref t.f_common_beginning) = true
  F_is_range : Fun K "is_range" "is_range" s_is_range t.f_is_range t.d_is_range
  g_is_range : mg "is_range" = some (.ref t.f_is_range)
  k_is_range : PySem.W.keepIn K (.ref t.f_is_range) = true
  F_Keying_init : Fun K "__init__" "Keying.__init__" s_Keying_init t.f_Keying_init t.d_Keying_init
  m_Keying_init : Meth K t.c_Keying "__init__" t.f_Keying_init
  F_Keying_restart : Fun K "restart" "Keying.restart" s_Keying_restart t.f_Keying_restart t.d_Keying_restart
  m_Keying_restart : Meth K t.c_Keying "restart" t.f_Keying_restart
  F_Keying_begin : Fun K "begin" "Keying.begin" s_Keying_begin t.f_Keying_begin t.d_Keying_begin
  m_Keying_begin : Meth K t.c_Keying "begin" t.f_Keying_begin
  F_Keying_down : Fun K "down" "Keying.down" s_Keying_down t.f_Keying_down t.d_Keying_down
  m_Keying_down : Meth K t.c_Keying "down" t.f_Keying_down
  F_Keying_up : Fun K "up" "Keying.up" s_Keying_up t.f_Keying_up t.d_Keying_up
  m_Keying_up : Meth K t.c_Keying "up" t.f_Keying_up
  F_Keying_at : Fun K "at" "Keying.at" s_Keying_at t.f_Keying_at t.d_Keying_at
  m_Keying_at : Meth K t.c_Keying "at" t.f_Keying_at
  F_Keying_read : Fun K "read" "Keying.read" s_Keying_read t.f_Keying_read t.d_Keying_read
  m_Keying_read : Meth K t.c_Keying "read" t.f_Keying_read
  F_Keying_units : Fun K "units" "Keying.units" s_Keying_units t.f_Keying_units t.d_Keying_units
  m_Keying_units : Meth K t.c_Keying "units" t.f_Keying_units
  F_Keying_is_wrong_tick : Fun K "is_wrong_tick" "Keying.is_wrong_tick" s_Keying_is_wrong_tick t.f_Keying_is_wrong_tick t.d_Keying_is_wrong_tick
  m_Keying_is_wrong_tick : Meth K t.c_Keying "is_wrong_tick" t.f_Keying_is_wrong_tick
  F_Keying_refusal_to_turn : Fun K "refusal_to_turn" "Keying.refusal_to_turn" s_Keying_refusal_to_turn t.f_Keying_refusal_to_turn t.d_Keying_refusal_to_turn
  m_Keying_refusal_to_turn : Meth K t.c_Keying "refusal_to_turn" t.f_Keying_refusal_to_turn
  F_Keying_end_length : Fun K "end_length" "Keying.end_length" s_Keying_end_length t.f_Keying_end_length t.d_Keying_end_length
  m_Keying_end_length : Meth K t.c_Keying "end_length" t.f_Keying_end_length
  F_Keying_turn : Fun K "turn" "Keying.turn" s_Keying_turn t.f_Keying_turn t.d_Keying_turn
  m_Keying_turn : Meth K t.c_Keying "turn" t.f_Keying_turn
  F_Keying_gap_that_goes_on : Fun K "gap_that_goes_on" "Keying.gap_that_goes_on" s_Keying_gap_that_goes_on t.f_Keying_gap_that_goes_on t.d_Keying_gap_that_goes_on
  m_Keying_gap_that_goes_on : Meth K t.c_Keying "gap_that_goes_on" t.f_Keying_gap_that_goes_on
  F_Keying_how_many_may_be : Fun K "how_many_may_be" "Keying.how_many_may_be" s_Keying_how_many_may_be t.f_Keying_how_many_may_be t.d_Keying_how_many_may_be
  m_Keying_how_many_may_be : Meth K t.c_Keying "how_many_may_be" t.f_Keying_how_many_may_be
  F_answer : Fun K "answer" "answer" s_answer t.f_answer t.d_answer
  g_answer : mg "answer" = some (.ref t.f_answer)
  k_answer : PySem.W.keepIn K (.ref t.f_answer) = true
  F_answers : Fun K "answers" "answers" s_answers t.f_answers t.d_answers
  g_answers : mg "answers" = some (.ref t.f_answers)
  k_answers : PySem.W.keepIn K (.ref t.f_answers) = true
  x_AT : ∃ tk, mg "AT" = some (.int 3 tk)
  x_BEGIN : ∃ tk, mg "BEGIN" = some (.int 0 tk)
  x_BLANK : ∃ tk, mg "BLANK" = some (.int 32 tk)
  x_DOWN : ∃ tk, mg "DOWN" = some (.int 1 tk)
  x_FIRST_TICK_TOO_LATE : ∃ tk, mg "FIRST_TICK_TOO_LATE" = some (.int 2147483648 tk)
  c_GAP_COUNTS : mg "GAP_COUNTS" = some (.ref t.a_GAP_COUNTS)
  e_GAP_COUNTS : ∀ H, SqT K H t.a_GAP_COUNTS [.int 1, .int 3, .int 7]
  x_GREATEST_UNIT : ∃ tk, mg "GREATEST_UNIT" = some (.int 4096 tk)
  x_KEY_IS_THERE : ∃ tk, mg "KEY_IS_THERE" = some (.int (-16) tk)
  c_LETTERS : mg "LETTERS" = some (.ref t.a_LETTERS)
  e_LETTERS : DkK K w t.a_LETTERS [((.inr ".-"), .str "A"), ((.inr "-..."), .str "B"), ((.inr "-.-."), .str "C"), ((.inr "-.."), .str "D"), ((.inr "."), .str "E"), ((.inr "..-."), .str "F"), ((.inr "--."), .str "G"), ((.inr "...."), .str "H"), ((.inr ".."), .str "I"), ((.inr ".---"), .str "J"), ((.inr "-.-"), .str "K"), ((.inr ".-.."), .str "L"), ((.inr "--"), .str "M"), ((.inr "-."), .str "N"), ((.inr "---"), .str "O"), ((.inr ".--."), .str "P"), ((.inr "--.-"), .str "Q"), ((.inr ".-."), .str "R"), ((.inr "..."), .str "S"), ((.inr "-"), .str "T"), ((.inr "..-"), .str "U"), ((.inr "...-"), .str "V"), ((.inr ".--"), .str "W"), ((.inr "-..-"), .str "X"), ((.inr "-.--"), .str "Y"), ((.inr "--.."), .str "Z"), ((.inr "-----"), .str "0"), ((.inr ".----"), .str "1"), ((.inr "..---"), .str "2"), ((.inr "...--"), .str "3"), ((.inr "....-"), .str "4"), ((.inr "....."), .str "5"), ((.inr "-...."), .str "6"), ((.inr "--..."), .str "7"), ((.inr "---.."), .str "8"), ((.inr "----."), .str "9")]
  x_LONGEST_LENGTH : ∃ tk, mg "LONGEST_LENGTH" = some (.int 1000000 tk)
  c_MARK_COUNTS : mg "MARK_COUNTS" = some (.ref t.a_MARK_COUNTS)
  e_MARK_COUNTS : ∀ H, SqT K H t.a_MARK_COUNTS [.int 1, .int 3]
  x_MOST_LENGTHS : ∃ tk, mg "MOST_LENGTHS" = some (.int 1024 tk)
  x_NO_ROOM : ∃ tk, mg "NO_ROOM" = some (.int (-28) tk)
  x_NO_UNIT : ∃ tk, mg "NO_UNIT" = some (.int (-61) tk)
  c_NUMBERS_BEHIND : mg "NUMBERS_BEHIND" = some (.ref t.a_NUMBERS_BEHIND)
  e_NUMBERS_BEHIND : DkK K w t.a_NUMBERS_BEHIND [((.inl 0), .int 3), ((.inl 1), .int 1), ((.inl 2), .int 1), ((.inl 3), .int 1), ((.inl 4), .int 0), ((.inl 5), .int 0)]
  x_READ : ∃ tk, mg "READ" = some (.int 4 tk)
  x_UP : ∃ tk, mg "UP" = some (.int 2 tk)
  x_WRONG_NUMBER : ∃ tk, mg "WRONG_NUMBER" = some (.int (-22) tk)
  b_any : mg "any" = none
  b_enumerate : mg "enumerate" = none
  b_len : mg "len" = none
  b_list : mg "list" = none
  b_max : mg "max" = none
  b_min : mg "min" = none
  b_ord : mg "ord" = none
  b_sum : mg "sum" = none
section
variable {P : Program} {w : World} {K : PySem.W.Frag} {mg : Str → Option Value} {base : Heap} {t : Adr}
theorem bd_least_unit (T : Txt K w mg t) : Binds K t.d_least_unit ["length", "count", "slack"] [] := T.F_least_unit.binds fun _ _ _ _ _ _ us hl => match us, hl with | [_, _, _], _ => rfl
theorem bd_greatest_unit (T : Txt K w mg t) : Binds K t.d_greatest_unit ["length", "count", "slack"] [] := T.F_greatest_unit.binds fun _ _ _ _ _ _ us hl => match us, hl with | [_, _, _], _ => rfl
theorem bd_count_by_now (T : Txt K w mg t) : Binds K t.d_count_by_now ["gap", "unit", "slack"] [] := T.F_count_by_now.binds fun _ _ _ _ _ _ us hl => match us, hl with | [_, _, _], _ => rfl
theorem bd_letter_byte (T : Txt K w mg t) : Binds K t.d_letter_byte ["marks"] [] := T.F_letter_byte.binds fun _ _ _ _ _ _ us hl => match us, hl with | [_], _ => rfl
theorem bd_Reading_init (T : Txt K w mg t) : Binds K t.d_Reading_init ["self", "least", "greatest", "row", "marks"] [] := T.F_Reading_init.binds fun _ _ _ _ _ _ us hl => match us, hl with | [_, _, _, _, _], _ => rfl
theorem bd_Reading_how_many (T : Txt K w mg t) : Binds K t.d_Reading_how_many ["self"] [] := T.F_Reading_how_many.binds fun _ _ _ _ _ _ us hl => match us, hl with | [_], _ => rfl
theorem bd_Reading_within (T : Txt K w mg t) : Binds K t.d_Reading_within ["self", "least", "greatest"] [] := T.F_Reading_within.binds fun _ _ _ _ _ _ us hl => match us, hl with | [_, _, _], _ => rfl
theorem bd_Reading_if_so_many (T : Txt K w mg t) : Binds K t.d_Reading_if_so_many ["self", "length", "count", "slack"] [] := T.F_Reading_if_so_many.binds fun _ _ _ _ _ _ us hl => match us, hl with | [_, _, _, _], _ => rfl
theorem bd_Reading_with_mark (T : Txt K w mg t) : Binds K t.d_Reading_with_mark ["self", "count"] [] := T.F_Reading_with_mark.binds fun _ _ _ _ _ _ us hl => match us, hl with | [_, _], _ => rfl
theorem bd_Reading_with_gap (T : Txt K w mg t) : Binds K t.d_Reading_with_gap ["self", "count"] [] := T.F_Reading_with_gap.binds fun _ _ _ _ _ _ us hl => match us, hl with | [_, _], _ => rfl
theorem bd_Reading_row_behind_gap (T : Txt K w mg t) : Binds K t.d_Reading_row_behind_gap ["self", "count"] [] := T.F_Reading_row_behind_gap.binds fun _ _ _ _ _ _ us hl => match us, hl with | [_, _], _ => rfl
theorem bd_Reading_row_in_gap (T : Txt K w mg t) : Binds K t.d_Reading_row_in_gap ["self", "gap", "slack"] [] := T.F_Reading_row_in_gap.binds fun _ _ _ _ _ _ us hl => match us, hl with | [_, _, _], _ => rfl
theorem bd_with_units (T : Txt K w mg t) : Binds K t.d_with_units ["readings"] [] := T.F_with_units.binds fun _ _ _ _ _ _ us hl => match us, hl with | [_], _ => rfl
theorem bd_read_mark (T : Txt K w mg t) : Binds K t.d_read_mark ["readings", "length", "slack"] [] := T.F_read_mark.binds fun _ _ _ _ _ _ us hl => match us, hl with | [_, _, _], _ => rfl
theorem bd_read_gap (T : Txt K w mg t) : Binds K t.d_read_gap ["readings", "length", "slack"] [] := T.F_read_gap.binds fun _ _ _ _ _ _ us hl => match us, hl with | [_, _, _], _ => rfl
theorem bd_read_held_key (T : Txt K w mg t) : Binds K t.d_read_held_key ["readings", "held", "slack"] [] := T.F_read_held_key.binds fun _ _ _ _ _ _ us hl => match us, hl with | [_, _, _], _ => rfl
theorem bd_common_beginning (T : Txt K w mg t) : Binds K t.d_common_beginning ["rows"] [] := T.F_common_beginning.binds fun _ _ _ _ _ _ us hl => match us, hl with | [_], _ => rfl
theorem bd_is_range (T : Txt K w mg t) : Binds K t.d_is_range ["lo", "hi", "slack"] [] := T.F_is_range.binds fun _ _ _ _ _ _ us hl => match us, hl with | [_, _, _], _ => rfl
theorem bd_Keying_init (T : Txt K w mg t) : Binds K t.d_Keying_init ["self"] [] := T.F_Keying_init.binds fun _ _ _ _ _ _ us hl => match us, hl with | [_], _ => rfl
theorem bd_Keying_restart (T : Txt K w mg t) : Binds K t.d_Keying_restart ["self", "readings", "slack"] [] := T.F_Keying_restart.binds fun _ _ _ _ _ _ us hl => match us, hl with | [_, _, _], _ => rfl
theorem bd_Keying_begin (T : Txt K w mg t) : Binds K t.d_Keying_begin ["self", "lo", "hi", "slack"] [] := T.F_Keying_begin.binds fun _ _ _ _ _ _ us hl => match us, hl with | [_, _, _, _], _ => rfl
theorem bd_Keying_down (T : Txt K w mg t) : Binds K t.d_Keying_down ["self", "t"] [] := T.F_Keying_down.binds fun _ _ _ _ _ _ us hl => match us, hl with | [_, _], _ => rfl
theorem bd_Keying_up (T : Txt K w mg t) : Binds K t.d_Keying_up ["self", "t"] [] := T.F_Keying_up.binds fun _ _ _ _ _ _ us hl => match us, hl with | [_, _], _ => rfl
theorem bd_Keying_at (T : Txt K w mg t) : Binds K t.d_Keying_at ["self", "t"] [] := T.F_Keying_at.binds fun _ _ _ _ _ _ us hl => match us, hl with | [_, _], _ => rfl
theorem bd_Keying_read (T : Txt K w mg t) : Binds K t.d_Keying_read ["self"] [] := T.F_Keying_read.binds fun _ _ _ _ _ _ us hl => match us, hl with | [_], _ => rfl
theorem bd_Keying_units (T : Txt K w mg t) : Binds K t.d_Keying_units ["self"] [] := T.F_Keying_units.binds fun _ _ _ _ _ _ us hl => match us, hl with | [_], _ => rfl
theorem bd_Keying_is_wrong_tick (T : Txt K w mg t) : Binds K t.d_Keying_is_wrong_tick ["self", "t"] [] := T.F_Keying_is_wrong_tick.binds fun _ _ _ _ _ _ us hl => match us, hl with | [_, _], _ => rfl
theorem bd_Keying_refusal_to_turn (T : Txt K w mg t) : Binds K t.d_Keying_refusal_to_turn ["self", "t", "to_down"] [] := T.F_Keying_refusal_to_turn.binds fun _ _ _ _ _ _ us hl => match us, hl with | [_, _, _], _ => rfl
theorem bd_Keying_end_length (T : Txt K w mg t) : Binds K t.d_Keying_end_length ["self", "t"] [] := T.F_Keying_end_length.binds fun _ _ _ _ _ _ us hl => match us, hl with | [_, _], _ => rfl
theorem bd_Keying_turn (T : Txt K w mg t) : Binds K t.d_Keying_turn ["self", "t", "to_down"] [] := T.F_Keying_turn.binds fun _ _ _ _ _ _ us hl => match us, hl with | [_, _, _], _ => rfl
theorem bd_Keying_gap_that_goes_on (T : Txt K w mg t) : Binds K t.d_Keying_gap_that_goes_on ["self"] [] := T.F_Keying_gap_that_goes_on.binds fun _ _ _ _ _ _ us hl => match us, hl with | [_], _ => rfl
theorem bd_Keying_how_many_may_be (T : Txt K w mg t) : Binds K t.d_Keying_how_many_may_be ["self"] [] := T.F_Keying_how_many_may_be.binds fun _ _ _ _ _ _ us hl => match us, hl with | [_], _ => rfl
theorem bd_answer (T : Txt K w mg t) : Binds K t.d_answer ["keying", "call", "numbers"] [] := T.F_answer.binds fun _ _ _ _ _ _ us hl => match us, hl with | [_, _, _], _ => rfl
theorem bd_answers (T : Txt K w mg t) : Binds K t.d_answers ["calls"] [] := T.F_answers.binds fun _ _ _ _ _ _ us hl => match us, hl with | [_], _ => rfl
end
theorem lk_hit {f : Str} {v : V} {r : List (Str × V)} : ((f, v) :: r).lookup f = some v := by rw [List.lookup_cons, beq_self_eq_true]
theorem lk_miss {f g : Str} {v : V} {r : List (Str × V)} (h : (g == f) = false) : ((f, v) :: r).lookup g = r.lookup g := by rw [List.lookup_cons, h]
theorem pf_hit {f : Str} {v y : V} {r : List (Str × V)} : putF f y ((f, v) :: r) = (f, y) :: r := by show (if f = f then _ else _) = _; rw [if_pos rfl]
theorem pf_nil {f : Str} {y : V} : putF f y [] = [(f, y)] := rfl
theorem pf_miss {f g : Str} {v y : V} {r : List (Str × V)} (h : ¬ g = f) : putF f y ((g, v) :: r) = (g, v) :: putF f y r := by show (if g = f then _ else _) = _; rw [if_neg h]
/-- the attributes of a Reading -/
def kf_Reading (v_least v_greatest v_row v_marks : V) : List (Str × V) := [("least", v_least), ("greatest", v_greatest), ("row", v_row), ("marks", v_marks)]
theorem kf_Reading_lk_least {v_least v_greatest v_row v_marks : V} : (kf_Reading v_least v_greatest v_row v_marks).lookup ("least" : Str) = some v_least := by
  unfold kf_Reading
  rw [lk_hit]
theorem kf_Reading_lk_greatest {v_least v_greatest v_row v_marks : V} : (kf_Reading v_least v_greatest v_row v_marks).lookup ("greatest" : Str) = some v_greatest := by
  unfold kf_Reading
  rw [lk_miss (by decide +kernel), lk_hit]
theorem kf_Reading_lk_row {v_least v_greatest v_row v_marks : V} : (kf_Reading v_least v_greatest v_row v_marks).lookup ("row" : Str) = some v_row := by
  unfold kf_Reading
  rw [lk_miss (by decide +kernel), lk_miss (by decide +kernel), lk_hit]
theorem kf_Reading_lk_marks {v_least v_greatest v_row v_marks : V} : (kf_Reading v_least v_greatest v_row v_marks).lookup ("marks" : Str) = some v_marks := by
  unfold kf_Reading
  rw [lk_miss (by decide +kernel), lk_miss (by decide +kernel), lk_miss (by decide +kernel), lk_hit]
theorem kf_Reading_lk_how_many {v_least v_greatest v_row v_marks : V} : (kf_Reading v_least v_greatest v_row v_marks).lookup ("how_many" : Str) = none := by
  unfold kf_Reading
  rw [lk_miss (by decide +kernel), lk_miss (by decide +kernel), lk_miss (by decide +kernel), lk_miss (by decide +kernel), List.lookup_nil]
theorem kf_Reading_lk_within {v_least v_greatest v_row v_marks : V} : (kf_Reading v_least v_greatest v_row v_marks).lookup ("within" : Str) = none := by
  unfold kf_Reading
  rw [lk_miss (by decide +kernel), lk_miss (by decide +kernel), lk_miss (by decide +kernel), lk_miss (by decide +kernel), List.lookup_nil]
theorem kf_Reading_lk_if_so_many {v_least v_greatest v_row v_marks : V} : (kf_Reading v_least v_greatest v_row v_marks).lookup ("if_so_many" : Str) = none := by
  unfold kf_Reading
  rw [lk_miss (by decide +kernel), lk_miss (by decide +kernel), lk_miss (by decide +kernel), lk_miss (by decide +kernel), List.lookup_nil]
theorem kf_Reading_lk_with_mark {v_least v_greatest v_row v_marks : V} : (kf_Reading v_least v_greatest v_row v_marks).lookup ("with_mark" : Str) = none := by
  unfold kf_Reading
  rw [lk_miss (by decide +kernel), lk_miss (by decide +kernel), lk_miss (by decide +kernel), lk_miss (by decide +kernel), List.lookup_nil]
theorem kf_Reading_lk_with_gap {v_least v_greatest v_row v_marks : V} : (kf_Reading v_least v_greatest v_row v_marks).lookup ("with_gap" : Str) = none := by
  unfold kf_Reading
  rw [lk_miss (by decide +kernel), lk_miss (by decide +kernel), lk_miss (by decide +kernel), lk_miss (by decide +kernel), List.lookup_nil]
theorem kf_Reading_lk_row_behind_gap {v_least v_greatest v_row v_marks : V} : (kf_Reading v_least v_greatest v_row v_marks).lookup ("row_behind_gap" : Str) = none := by
  unfold kf_Reading
  rw [lk_miss (by decide +kernel), lk_miss (by decide +kernel), lk_miss (by decide +kernel), lk_miss (by decide +kernel), List.lookup_nil]
theorem kf_Reading_lk_row_in_gap {v_least v_greatest v_row v_marks : V} : (kf_Reading v_least v_greatest v_row v_marks).lookup ("row_in_gap" : Str) = none := by
  unfold kf_Reading
  rw [lk_miss (by decide +kernel), lk_miss (by decide +kernel), lk_miss (by decide +kernel), lk_miss (by decide +kernel), List.lookup_nil]
theorem kf_Reading_put_least {v_least v_greatest v_row v_marks y : V} : putF "least" y (kf_Reading v_least v_greatest v_row v_marks) = kf_Reading y v_greatest v_row v_marks := by
  unfold kf_Reading
  rw [pf_hit]
theorem kf_Reading_put_greatest {v_least v_greatest v_row v_marks y : V} : putF "greatest" y (kf_Reading v_least v_greatest v_row v_marks) = kf_Reading v_least y v_row v_marks := by
  unfold kf_Reading
  rw [pf_miss (by decide +kernel), pf_hit]
theorem kf_Reading_put_row {v_least v_greatest v_row v_marks y : V} : putF "row" y (kf_Reading v_least v_greatest v_row v_marks) = kf_Reading v_least v_greatest y v_marks := by
  unfold kf_Reading
  rw [pf_miss (by decide +kernel), pf_miss (by decide +kernel), pf_hit]
theorem kf_Reading_put_marks {v_least v_greatest v_row v_marks y : V} : putF "marks" y (kf_Reading v_least v_greatest v_row v_marks) = kf_Reading v_least v_greatest v_row y := by
  unfold kf_Reading
  rw [pf_miss (by decide +kernel), pf_miss (by decide +kernel), pf_miss (by decide +kernel), pf_hit]
theorem kf_Reading_new {v_least v_greatest v_row v_marks : V} : putF "marks" v_marks (putF "row" v_row (putF "greatest" v_greatest (putF "least" v_least ([])))) = kf_Reading v_least v_greatest v_row v_marks := by
  unfold kf_Reading
  repeat (first | rw [pf_nil] | rw [pf_miss (by decide +kernel)])
/-- the attributes of a Keying -/
def kf_Keying (v_slack v_now v_is_down v_was_pressed v_turned_at v_lengths_over v_readings : V) : List (Str × V) := [("slack", v_slack), ("now", v_now), ("is_down", v_is_down), ("was_pressed", v_was_pressed), ("turned_at", v_turned_at), ("lengths_over", v_lengths_over), ("readings", v_readings)]
theorem kf_Keying_lk_slack {v_slack v_now v_is_down v_was_pressed v_turned_at v_lengths_over v_readings : V} : (kf_Keying v_slack v_now v_is_down v_was_pressed v_turned_at v_lengths_over v_readings).lookup ("slack" : Str) = some v_slack := by
  unfold kf_Keying
  rw [lk_hit]
theorem kf_Keying_lk_now {v_slack v_now v_is_down v_was_pressed v_turned_at v_lengths_over v_readings : V} : (kf_Keying v_slack v_now v_is_down v_was_pressed v_turned_at v_lengths_over v_readings).lookup ("now" : Str) = some v_now := by
  unfold kf_Keying
  rw [lk_miss (by decide +kernel), lk_hit]
theorem kf_Keying_lk_is_down {v_slack v_now v_is_down v_was_pressed v_turned_at v_lengths_over v_readings : V} : (kf_Keying v_slack v_now v_is_down v_was_pressed v_turned_at v_lengths_over v_readings).lookup ("is_down" : Str) = some v_is_down := by
  unfold kf_Keying
  rw [lk_miss (by decide +kernel), lk_miss (by decide +kernel), lk_hit]
theorem kf_Keying_lk_was_pressed {v_slack v_now v_is_down v_was_pressed v_turned_at v_lengths_over v_readings : V} : (kf_Keying v_slack v_now v_is_down v_was_pressed v_turned_at v_lengths_over v_readings).lookup ("was_pressed" : Str) = some v_was_pressed := by
  unfold kf_Keying
  rw [lk_miss (by decide +kernel), lk_miss (by decide +kernel), lk_miss (by decide +kernel), lk_hit]
theorem kf_Keying_lk_turned_at {v_slack v_now v_is_down v_was_pressed v_turned_at v_lengths_over v_readings : V} : (kf_Keying v_slack v_now v_is_down v_was_pressed v_turned_at v_lengths_over v_readings).lookup ("turned_at" : Str) = some v_turned_at := by
  unfold kf_Keying
  rw [lk_miss (by decide +kernel), lk_miss (by decide +kernel), lk_miss (by decide +kernel), lk_miss (by decide +kernel), lk_hit]
theorem kf_Keying_lk_lengths_over {v_slack v_now v_is_down v_was_pressed v_turned_at v_lengths_over v_readings : V} : (kf_Keying v_slack v_now v_is_down v_was_pressed v_turned_at v_lengths_over v_readings).lookup ("lengths_over" : Str) = some v_lengths_over := by
  unfold kf_Keying
  rw [lk_miss (by decide +kernel), lk_miss (by decide +kernel), lk_miss (by decide +kernel), lk_miss (by decide +kernel), lk_miss (by decide +kernel), lk_hit]
theorem kf_Keying_lk_readings {v_slack v_now v_is_down v_was_pressed v_turned_at v_lengths_over v_readings : V} : (kf_Keying v_slack v_now v_is_down v_was_pressed v_turned_at v_lengths_over v_readings).lookup ("readings" : Str) = some v_readings := by
  unfold kf_Keying
  rw [lk_miss (by decide +kernel), lk_miss (by decide +kernel), lk_miss (by decide +kernel), lk_miss (by decide +kernel), lk_miss (by decide +kernel), lk_miss (by decide +kernel), lk_hit]
theorem kf_Keying_lk_restart {v_slack v_now v_is_down v_was_pressed v_turned_at v_lengths_over v_readings : V} : (kf_Keying v_slack v_now v_is_down v_was_pressed v_turned_at v_lengths_over v_readings).lookup ("restart" : Str) = none := by
  unfold kf_Keying
  rw [lk_miss (by decide +kernel), lk_miss (by decide +kernel), lk_miss (by decide +kernel), lk_miss (by decide +kernel), lk_miss (by decide +kernel), lk_miss (by decide +kernel), lk_miss (by decide +kernel), List.lookup_nil]
theorem kf_Keying_lk_begin {v_slack v_now v_is_down v_was_pressed v_turned_at v_lengths_over v_readings : V} : (kf_Keying v_slack v_now v_is_down v_was_pressed v_turned_at v_lengths_over v_readings).lookup ("begin" : Str) = none := by
  unfold kf_Keying
  rw [lk_miss (by decide +kernel), lk_miss (by decide +kernel), lk_miss (by decide +kernel), lk_miss (by decide +kernel), lk_miss (by decide +kernel), lk_miss (by decide +kernel), lk_miss (by decide +kernel), List.lookup_nil]
theorem kf_Keying_lk_down {v_slack v_now v_is_down v_was_pressed v_turned_at v_lengths_over v_readings : V} : (kf_Keying v_slack v_now v_is_down v_was_pressed v_turned_at v_lengths_over v_readings).lookup ("down" : Str) = none := by
  unfold kf_Keying
  rw [lk_miss (by decide +kernel), lk_miss (by decide +kernel), lk_miss (by decide +kernel), lk_miss (by decide +kernel), lk_miss (by decide +kernel), lk_miss (by decide +kernel), lk_miss (by decide +kernel), List.lookup_nil]
theorem kf_Keying_lk_up {v_slack v_now v_is_down v_was_pressed v_turned_at v_lengths_over v_readings : V} : (kf_Keying v_slack v_now v_is_down v_was_pressed v_turned_at v_lengths_over v_readings).lookup ("up" : Str) = none := by
  unfold kf_Keying
  rw [lk_miss (by decide +kernel), lk_miss (by decide +kernel), lk_miss (by decide +kernel), lk_miss (by decide +kernel), lk_miss (by decide +kernel), lk_miss (by decide +kernel), lk_miss (by decide +kernel), List.lookup_nil]
theorem kf_Keying_lk_at {v_slack v_now v_is_down v_was_pressed v_turned_at v_lengths_over v_readings : V} : (kf_Keying v_slack v_now v_is_down v_was_pressed v_turned_at v_lengths_over v_readings).lookup ("at" : Str) = none := by
  unfold kf_Keying
  rw [lk_miss (by decide +kernel), lk_miss (by decide +kernel), lk_miss (by decide +kernel), lk_miss (by decide +kernel), lk_miss (by decide +kernel), lk_miss (by decide +kernel), lk_miss (by decide +kernel), List.lookup_nil]
theorem kf_Keying_lk_read {v_slack v_now v_is_down v_was_pressed v_turned_at v_lengths_over v_readings : V} : (kf_Keying v_slack v_now v_is_down v_was_pressed v_turned_at v_lengths_over v_readings).lookup ("read" : Str) = none := by
  unfold kf_Keying
  rw [lk_miss (by decide +kernel), lk_miss (by decide +kernel), lk_miss (by decide +kernel), lk_miss (by decide +kernel), lk_miss (by decide +kernel), lk_miss (by decide +kernel), lk_miss (by decide +kernel), List.lookup_nil]
theorem kf_Keying_lk_units {v_slack v_now v_is_down v_was_pressed v_turned_at v_lengths_over v_readings : V} : (kf_Keying v_slack v_now v_is_down v_was_pressed v_turned_at v_lengths_over v_readings).lookup ("units" : Str) = none := by
  unfold kf_Keying
  rw [lk_miss (by decide +kernel), lk_miss (by decide +kernel), lk_miss (by decide +kernel), lk_miss (by decide +kernel), lk_miss (by decide +kernel), lk_miss (by decide +kernel), lk_miss (by decide +kernel), List.lookup_nil]
theorem kf_Keying_lk_is_wrong_tick {v_slack v_now v_is_down v_was_pressed v_turned_at v_lengths_over v_readings : V} : (kf_Keying v_slack v_now v_is_down v_was_pressed v_turned_at v_lengths_over v_readings).lookup ("is_wrong_tick" : Str) = none := by
  unfold kf_Keying
  rw [lk_miss (by decide +kernel), lk_miss (by decide +kernel), lk_miss (by decide +kernel), lk_miss (by decide +kernel), lk_miss (by decide +kernel), lk_miss (by decide +kernel), lk_miss (by decide +kernel), List.lookup_nil]
theorem kf_Keying_lk_refusal_to_turn {v_slack v_now v_is_down v_was_pressed v_turned_at v_lengths_over v_readings : V} : (kf_Keying v_slack v_now v_is_down v_was_pressed v_turned_at v_lengths_over v_readings).lookup ("refusal_to_turn" : Str) = none := by
  unfold kf_Keying
  rw [lk_miss (by decide +kernel), lk_miss (by decide +kernel), lk_miss (by decide +kernel), lk_miss (by decide +kernel), lk_miss (by decide +kernel), lk_miss (by decide +kernel), lk_miss (by decide +kernel), List.lookup_nil]
theorem kf_Keying_lk_end_length {v_slack v_now v_is_down v_was_pressed v_turned_at v_lengths_over v_readings : V} : (kf_Keying v_slack v_now v_is_down v_was_pressed v_turned_at v_lengths_over v_readings).lookup ("end_length" : Str) = none := by
  unfold kf_Keying
  rw [lk_miss (by decide +kernel), lk_miss (by decide +kernel), lk_miss (by decide +kernel), lk_miss (by decide +kernel), lk_miss (by decide +kernel), lk_miss (by decide +kernel), lk_miss (by decide +kernel), List.lookup_nil]
theorem kf_Keying_lk_turn {v_slack v_now v_is_down v_was_pressed v_turned_at v_lengths_over v_readings : V} : (kf_Keying v_slack v_now v_is_down v_was_pressed v_turned_at v_lengths_over v_readings).lookup ("turn" : Str) = none := by
  unfold kf_Keying
  rw [lk_miss (by decide +kernel), lk_miss (by decide +kernel), lk_miss (by decide +kernel), lk_miss (by decide +kernel), lk_miss (by decide +kernel), lk_miss (by decide +kernel), lk_miss (by decide +kernel), List.lookup_nil]
theorem kf_Keying_lk_gap_that_goes_on {v_slack v_now v_is_down v_was_pressed v_turned_at v_lengths_over v_readings : V} : (kf_Keying v_slack v_now v_is_down v_was_pressed v_turned_at v_lengths_over v_readings).lookup ("gap_that_goes_on" : Str) = none := by
  unfold kf_Keying
  rw [lk_miss (by decide +kernel), lk_miss (by decide +kernel), lk_miss (by decide +kernel), lk_miss (by decide +kernel), lk_miss (by decide +kernel), lk_miss (by decide +kernel), lk_miss (by decide +kernel), List.lookup_nil]
theorem kf_Keying_lk_how_many_may_be {v_slack v_now v_is_down v_was_pressed v_turned_at v_lengths_over v_readings : V} : (kf_Keying v_slack v_now v_is_down v_was_pressed v_turned_at v_lengths_over v_readings).lookup ("how_many_may_be" : Str) = none := by
  unfold kf_Keying
  rw [lk_miss (by decide +kernel), lk_miss (by decide +kernel), lk_miss (by decide +kernel), lk_miss (by decide +kernel), lk_miss (by decide +kernel), lk_miss (by decide +kernel), lk_miss (by decide +kernel), List.lookup_nil]
theorem kf_Keying_put_slack {v_slack v_now v_is_down v_was_pressed v_turned_at v_lengths_over v_readings y : V} : putF "slack" y (kf_Keying v_slack v_now v_is_down v_was_pressed v_turned_at v_lengths_over v_readings) = kf_Keying y v_now v_is_down v_was_pressed v_turned_at v_lengths_over v_readings := by
  unfold kf_Keying
  rw [pf_hit]
theorem kf_Keying_put_now {v_slack v_now v_is_down v_was_pressed v_turned_at v_lengths_over v_readings y : V} : putF "now" y (kf_Keying v_slack v_now v_is_down v_was_pressed v_turned_at v_lengths_over v_readings) = kf_Keying v_slack y v_is_down v_was_pressed v_turned_at v_lengths_over v_readings := by
  unfold kf_Keying
  rw [pf_miss (by decide +kernel), pf_hit]
theorem kf_Keying_put_is_down {v_slack v_now v_is_down v_was_pressed v_turned_at v_lengths_over v_readings y : V} : putF "is_down" y (kf_Keying v_slack v_now v_is_down v_was_pressed v_turned_at v_lengths_over v_readings) = kf_Keying v_slack v_now y v_was_pressed v_turned_at v_lengths_over v_readings := by
  unfold kf_Keying
  rw [pf_miss (by decide +kernel), pf_miss (by decide +kernel), pf_hit]
theorem kf_Keying_put_was_pressed {v_slack v_now v_is_down v_was_pressed v_turned_at v_lengths_over v_readings y : V} : putF "was_pressed" y (kf_Keying v_slack v_now v_is_down v_was_pressed v_turned_at v_lengths_over v_readings) = kf_Keying v_slack v_now v_is_down y v_turned_at v_lengths_over v_readings := by
  unfold kf_Keying
  rw [pf_miss (by decide +kernel), pf_miss (by decide +kernel), pf_miss (by decide +kernel), pf_hit]
theorem kf_Keying_put_turned_at {v_slack v_now v_is_down v_was_pressed v_turned_at v_lengths_over v_readings y : V} : putF "turned_at" y (kf_Keying v_slack v_now v_is_down v_was_pressed v_turned_at v_lengths_over v_readings) = kf_Keying v_slack v_now v_is_down v_was_pressed y v_lengths_over v_readings := by
  unfold kf_Keying
  rw [pf_miss (by decide +kernel), pf_miss (by decide +kernel), pf_miss (by decide +kernel), pf_miss (by decide +kernel), pf_hit]
theorem kf_Keying_put_lengths_over {v_slack v_now v_is_down v_was_pressed v_turned_at v_lengths_over v_readings y : V} : putF "lengths_over" y (kf_Keying v_slack v_now v_is_down v_was_pressed v_turned_at v_lengths_over v_readings) = kf_Keying v_slack v_now v_is_down v_was_pressed v_turned_at y v_readings := by
  unfold kf_Keying
  rw [pf_miss (by decide +kernel), pf_miss (by decide +kernel), pf_miss (by decide +kernel), pf_miss (by decide +kernel), pf_miss (by decide +kernel), pf_hit]
theorem kf_Keying_put_readings {v_slack v_now v_is_down v_was_pressed v_turned_at v_lengths_over v_readings y : V} : putF "readings" y (kf_Keying v_slack v_now v_is_down v_was_pressed v_turned_at v_lengths_over v_readings) = kf_Keying v_slack v_now v_is_down v_was_pressed v_turned_at v_lengths_over y := by
  unfold kf_Keying
  rw [pf_miss (by decide +kernel), pf_miss (by decide +kernel), pf_miss (by decide +kernel), pf_miss (by decide +kernel), pf_miss (by decide +kernel), pf_miss (by decide +kernel), pf_hit]
theorem kf_Keying_new {v_slack v_now v_is_down v_was_pressed v_turned_at v_lengths_over v_readings : V} : putF "readings" v_readings (putF "lengths_over" v_lengths_over (putF "turned_at" v_turned_at (putF "was_pressed" v_was_pressed (putF "is_down" v_is_down (putF "now" v_now (putF "slack" v_slack ([]))))))) = kf_Keying v_slack v_now v_is_down v_was_pressed v_turned_at v_lengths_over v_readings := by
  unfold kf_Keying
  repeat (first | rw [pf_nil] | rw [pf_miss (by decide +kernel)])
end Hk

set_option Elab.async false
set_option linter.all false
set_option maxRecDepth 100000
set_option maxHeartbeats 2000000
namespace Hk
open PySem PySem.Spec PyProof.Rows L2
open Kh315 (Abs letter)

/-! ## Objects on the heap -/
def bytes (row : List Nat) : List V := row.map fun n : Nat => V.int ((n : Nat) : Int)
theorem bytes_len (row : List Nat) : (bytes row).length = row.length := by unfold bytes; rw [List.length_map]
theorem bytes_get (row : List Nat) (i : Nat) : (bytes row)[i]? = row[i]?.map fun n : Nat => V.int ((n : Nat) : Int) := by unfold bytes; rw [List.getElem?_map]
theorem bytes_app (x y : List Nat) : bytes (x ++ y) = bytes x ++ bytes y := by unfold bytes; rw [List.map_append]
def mstr (ms : List Nat) : Str := ⟨(signs ms).toArray⟩
theorem mstr_len (ms : List Nat) : (mstr ms).length = ms.length := by
  show (signs ms).toArray.size = ms.length
  unfold signs
  rw [List.size_toArray, List.length_map]
theorem mstr_nil : (("" : Str)) = mstr [] := by decide +kernel
theorem mstr_dot (ms : List Nat) : mstr ms ++ ("." : Str) = mstr (ms ++ [1]) := by
  have e : ("." : Str) = ⟨#[46]⟩ := by decide +kernel
  rw [e]
  show (⟨(signs ms).toArray ++ #[46]⟩ : Str) = ⟨(signs (ms ++ [1])).toArray⟩
  unfold signs
  simp
theorem mstr_dash (ms : List Nat) : mstr ms ++ ("-" : Str) = mstr (ms ++ [3]) := by
  have e : ("-" : Str) = ⟨#[45]⟩ := by decide +kernel
  rw [e]
  show (⟨(signs ms).toArray ++ #[45]⟩ : Str) = ⟨(signs (ms ++ [3])).toArray⟩
  unfold signs
  simp
def SB (p : Addr) (H H' : Hp) : Prop := ∀ b o, H b = some o → b ≠ p → H' b = some o
theorem SB.refl (p : Addr) (H : Hp) : SB p H H := fun _ _ h _ => h
theorem SB.trans {p : Addr} {H H1 H2 : Hp} (a : SB p H H1) (b : SB p H1 H2) : SB p H H2 := fun c o h n => b c o (a c o h n) n
theorem SB.of {p : Addr} {H H1 : Hp} (a : Same H H1) : SB p H H1 := fun c o h _ => a c o h
theorem SB.same {p : Addr} {H H1 H2 : Hp} (a : SB p H H1) (b : Same H1 H2) : SB p H H2 := fun c o h n => b c o (a c o h n)
theorem SB.upd {p : Addr} {H : Hp} {o : HO} : SB p H (upd H p o) := fun c u h n => by rw [upd_ne n]; exact h
theorem Same.upd {H : Hp} {q : Addr} {o : HO} (h : H q = none) : Same H (upd H q o) := fun b u e => by rw [upd_ne (ne_of_none e h)]; exact e
/-- a tracked thing changed that was not there at the start -/
theorem _root_.L2.Same.but {H H1 : Hp} {q : Addr} {o : HO} (s : Same H H1) (h : H q = none) : Same H (L2.upd H1 q o) := fun b u e => by rw [upd_ne (ne_of_none e h)]; exact s b u e

/-- a reading stands at x; its row is none of the lists of N -/
def RdAt (N : Addr → Prop) (C : Addr) (H : Hp) (x : Addr) (r : Rg) : Prop := ∃ dx l, H x = some (.ins C dx (kf_Reading (.int r.a) (.int r.b) (.ref l) (.str (mstr r.ms)))) ∧ H l = some (.lst (bytes r.row)) ∧ ¬ N l
abbrev NF : Addr → Prop := fun _ => False
/-- the things of N are there -/
def NT (N : Addr → Prop) (H : Hp) : Prop := ∀ a, N a → ∃ o, H a = some o
theorem NT.nf {H : Hp} : NT NF H := fun _ h => h.elim
theorem NT.one {H : Hp} {q : Addr} {o : HO} (h : H q = some o) : NT (fun a => a = q) H := fun a e => by subst e; exact ⟨o, h⟩
theorem NT.not {N : Addr → Prop} {H H1 : Hp} {a : Addr} (h : NT N H) (s : Same H H1) (n : H1 a = none) : ¬ N a := fun k => by
  obtain ⟨o, e⟩ := h a k
  rw [s _ _ e] at n
  cases n
section
variable {N : Addr → Prop} {C : Addr}
theorem RdAt.same {H H' : Hp} {x : Addr} {r : Rg} (h : RdAt N C H x r) (s : Same H H') : RdAt N C H' x r := by
  obtain ⟨dx, l, h1, h2, h3⟩ := h
  exact ⟨dx, l, s _ _ h1, s _ _ h2, h3⟩
theorem RdAt.free {H : Hp} {x : Addr} {r : Rg} (h : RdAt N C H x r) : RdAt NF C H x r := by
  obtain ⟨dx, l, h1, h2, h3⟩ := h
  exact ⟨dx, l, h1, h2, fun z => z⟩
/-- where q is new the row isn't q -/
theorem RdAt.new {H : Hp} {x q : Addr} {r : Rg} (h : RdAt NF C H x r) (hq : H q = none) : RdAt (fun a => a = q) C H x r := by
  obtain ⟨dx, l, h1, h2, h3⟩ := h
  exact ⟨dx, l, h1, h2, ne_of_none h2 hq⟩
/-- the list at q grows -/
theorem RdAt.grow {q : Addr} {H : Hp} {xs : List V} {o : HO} {x : Addr} {r : Rg} (h : RdAt (fun a => a = q) C H x r) (hq : H q = some (.lst xs)) : RdAt (fun a => a = q) C (upd H q o) x r := by
  obtain ⟨dx, l, h1, h2, h3⟩ := h
  refine ⟨dx, l, ?_, ?_, h3⟩
  · rw [upd_ne (ne_of h1 hq (by intro z; cases z))]
    exact h1
  · rw [upd_ne h3]
    exact h2
/-- no reading, no list of bytes stands where something else stands -/
theorem RdAt.but {C' p d : Addr} {fs : List (Str × V)} {H H' : Hp} {x : Addr} {r : Rg} (h : RdAt N C H x r) (hp : H p = some (.ins C' d fs)) (hf : fs.length ≠ 4) (s : SB p H H') : RdAt N C H' x r := by
  obtain ⟨dx, l, h1, h2, h3⟩ := h
  refine ⟨dx, l, s _ _ h1 ?_, s _ _ h2 ?_, h3⟩
  · rintro rfl
    rw [h1] at hp
    have e := Option.some.inj hp
    injection e with _ _ e3
    exact hf (by rw [← e3]; rfl)
  · rintro rfl
    rw [h2] at hp
    cases hp
end
def AllAt (N : Addr → Prop) (C : Addr) (H : Hp) : List Addr → List Rg → Prop
  | [], [] => True
  | x :: as, r :: rs => RdAt N C H x r ∧ AllAt N C H as rs
  | _, _ => False
section
variable {N : Addr → Prop} {C : Addr}
theorem AllAt.len {H : Hp} : ∀ {as : List Addr} {rs : List Rg}, AllAt N C H as rs → as.length = rs.length
  | [], [], _ => rfl
  | _ :: _, _ :: _, h => by rw [List.length_cons, List.length_cons, AllAt.len h.2]
  | [], _ :: _, h => h.elim
  | _ :: _, [], h => h.elim
theorem AllAt.get {H : Hp} : ∀ {as : List Addr} {rs : List Rg} {i : Nat} {x : Addr}, AllAt N C H as rs → as[i]? = some x → ∃ r, rs[i]? = some r ∧ RdAt N C H x r
  | [], _, _, _, _, e => by simp at e
  | _ :: _, [], _, _, h, _ => h.elim
  | a :: as, r :: rs, 0, x, h, e => by
    have e' : a = x := by simpa using e
    subst e'
    exact ⟨r, rfl, h.1⟩
  | a :: as, r :: rs, i + 1, x, h, e => by
    obtain ⟨r', h1, h2⟩ := AllAt.get (i := i) h.2 (by simpa using e)
    exact ⟨r', by simpa using h1, h2⟩
theorem AllAt.snoc {H : Hp} {x : Addr} {r : Rg} (hx : RdAt N C H x r) : ∀ {as : List Addr} {rs : List Rg}, AllAt N C H as rs → AllAt N C H (as ++ [x]) (rs ++ [r])
  | [], [], _ => ⟨hx, trivial⟩
  | _ :: _, _ :: _, h => ⟨h.1, AllAt.snoc hx h.2⟩
  | [], _ :: _, h => h.elim
  | _ :: _, [], h => h.elim
theorem AllAt.mono {N' : Addr → Prop} {H H' : Hp} (f : ∀ x r, RdAt N C H x r → RdAt N' C H' x r) : ∀ {as : List Addr} {rs : List Rg}, AllAt N C H as rs → AllAt N' C H' as rs
  | [], [], _ => trivial
  | _ :: _, _ :: _, h => ⟨f _ _ h.1, AllAt.mono f h.2⟩
  | [], _ :: _, h => h.elim
  | _ :: _, [], h => h.elim
end
/-- the readings of a list -/
def RsAt (C : Addr) (H : Hp) (l : Addr) (rs : List Rg) : Prop := ∃ as : List Addr, H l = some (.lst (as.map V.ref)) ∧ AllAt NF C H as rs
theorem RsAt.same {C : Addr} {H H' : Hp} {l : Addr} {rs : List Rg} (h : RsAt C H l rs) (s : Same H H') : RsAt C H' l rs := by
  obtain ⟨as, h1, h2⟩ := h
  exact ⟨as, s _ _ h1, h2.mono fun x r q => q.same s⟩
theorem RsAt.but {C C' p d : Addr} {fs : List (Str × V)} {H H' : Hp} {l : Addr} {rs : List Rg} (h : RsAt C H l rs) (hp : H p = some (.ins C' d fs)) (hf : fs.length ≠ 4) (s : SB p H H') : RsAt C H' l rs := by
  obtain ⟨as, h1, h2⟩ := h
  refine ⟨as, s _ _ h1 ?_, h2.mono fun x r q => q.but hp hf s⟩
  rintro rfl
  rw [h1] at hp
  cases hp
theorem ref_at {as : List Addr} {i : Nat} {y : V} (h : (as.map V.ref)[i]? = some y) : ∃ x, as[i]? = some x ∧ y = V.ref x := by
  rw [List.getElem?_map] at h
  cases e : as[i]? with
  | none => rw [e] at h; cases h
  | some x => rw [e] at h; exact ⟨x, rfl, (Option.some.inj h).symm⟩
theorem take_next {α : Type} {l : List α} {i : Nat} {x : α} (h : l[i]? = some x) : l.take (i + 1) = l.take i ++ [x] := by
  rw [List.take_succ, h]
  rfl

/-! ## Tests -/
theorem iteI {c k : Int} {A B : Prop} (h1 : c = k → A) (h2 : ¬ c = k → B) : if decide (V.int c = V.int k) = true then A else B := by
  refine ite2 (fun h => h1 (V.int.inj (of_decide_eq_true h))) (fun h => h2 fun e => h (decide_eq_true (congrArg V.int e)))
theorem iteNI {c k : Int} {A B : Prop} (h1 : ¬ c = k → A) (h2 : c = k → B) : if (!decide (V.int c = V.int k)) = true then A else B := by
  by_cases h : c = k
  · subst h
    rw [if_neg (by simp)]
    exact h2 rfl
  · rw [if_pos (by simp [h])]
    exact h1 h
theorem iteD {p : Prop} [Decidable p] {A B : Prop} (h1 : p → A) (h2 : ¬ p → B) : if decide p = true then A else B :=
  ite2 (fun h => h1 (of_decide_eq_true h)) (fun h => h2 fun e => h (decide_eq_true e))
theorem iteB {b : Bool} {A B : Prop} (h1 : b = true → A) (h2 : b = false → B) : if b = true then A else B := by
  cases b
  · exact iteF (h2 rfl)
  · exact iteT (h1 rfl)
theorem pl0 {fs : List (Str × V)} {n : Nat} {f : Str} {v : V} (h : fs.length ≤ n) : (putF f v fs).length ≤ n + 1 := by
  have : ∀ fs : List (Str × V), (putF f v fs).length ≤ fs.length + 1 := by
    intro fs
    induction fs with
    | nil => exact Nat.le_refl 1
    | cons x r ih =>
      obtain ⟨g, y⟩ := x
      show (if g = f then (g, v) :: r else (g, y) :: putF f v r).length ≤ _
      split
      · simp
      · simp only [List.length_cons]; omega
  exact Nat.le_trans (this fs) (by omega)
theorem sl10 {n : Nat} (h : n ≤ 100000) : n < sizeLine := by rw [sizeLine_eq]; omega
theorem sle {n : Nat} (h : n ≤ 100000) : n ≤ sizeLine := Nat.le_of_lt (sl10 h)

/-! ## The table of letters -/
abbrev LETT : List (Key × V) := [((.inr ".-"), .str "A"), ((.inr "-..."), .str "B"), ((.inr "-.-."), .str "C"), ((.inr "-.."), .str "D"), ((.inr "."), .str "E"), ((.inr "..-."), .str "F"), ((.inr "--."), .str "G"), ((.inr "...."), .str "H"), ((.inr ".."), .str "I"), ((.inr ".---"), .str "J"), ((.inr "-.-"), .str "K"), ((.inr ".-.."), .str "L"), ((.inr "--"), .str "M"), ((.inr "-."), .str "N"), ((.inr "---"), .str "O"), ((.inr ".--."), .str "P"), ((.inr "--.-"), .str "Q"), ((.inr ".-."), .str "R"), ((.inr "..."), .str "S"), ((.inr "-"), .str "T"), ((.inr "..-"), .str "U"), ((.inr "...-"), .str "V"), ((.inr ".--"), .str "W"), ((.inr "-..-"), .str "X"), ((.inr "-.--"), .str "Y"), ((.inr "--.."), .str "Z"), ((.inr "-----"), .str "0"), ((.inr ".----"), .str "1"), ((.inr "..---"), .str "2"), ((.inr "...--"), .str "3"), ((.inr "....-"), .str "4"), ((.inr "....."), .str "5"), ((.inr "-...."), .str "6"), ((.inr "--..."), .str "7"), ((.inr "---.."), .str "8"), ((.inr "----."), .str "9")]
def kvOf (p : List Nat × Nat) : Key × V := (.inr ⟨p.1.toArray⟩, .str ⟨#[p.2]⟩)
theorem lett_tab : LETT = (tabFrom Kh314.table 0).map kvOf := by decide +kernel
theorem val_map (m : List Nat) : ∀ l : List (List Nat × Nat), valV (l.map kvOf) (.inr (mstr m)) = ((l.find? fun p => decide (p.1 = signs m)).map fun p => V.str ⟨#[p.2]⟩)
  | [] => rfl
  | p :: l => by
    have ih := val_map m l
    unfold valV at ih ⊢
    rw [List.map_cons, List.find?_cons, List.find?_cons]
    have e : decide ((kvOf p).1 = Sum.inr (mstr m)) = decide (p.1 = signs m) := by
      rw [decide_eq_decide]
      unfold kvOf mstr
      simp
    rw [e]
    by_cases h : p.1 = signs m
    · simp only [h, decide_true]
      rfl
    · simp only [h, decide_false]
      exact ih
theorem lett_val {m : List Nat} (hm : ∀ k ∈ m, k = 1 ∨ k = 3) : (valV LETT (.inr (mstr m))).getD (.str "*") = .str ⟨#[letter m]⟩ := by
  rw [lett_tab, val_map, letter_tab hm]
  have e : ("*" : Str) = ⟨#[42]⟩ := by decide +kernel
  cases (tabFrom Kh314.table 0).find? fun p => decide (p.1 = signs m) with
  | none => rw [e]; rfl
  | some p => rfl
end Hk

set_option Elab.async false
set_option linter.all false
set_option maxRecDepth 100000
set_option maxHeartbeats 2000000
namespace Hk
open PySem PySem.Spec PyProof.Rows L2
open Kh315 (Abs letter)

/-! ## What each def promises -/
def OkCt (c : Int) : Prop := 0 < c ∧ c < 1073741824
def sp_least : Sp := fun vs H Q _ => ∃ l c e : Int, vs = [.int l, .int c, .int e] ∧ OkCt c ∧ Q (.int (leastU l c e)) H
def sp_greatest : Sp := fun vs H Q _ => ∃ l c e : Int, vs = [.int l, .int c, .int e] ∧ OkCt c ∧ Q (.int (greatU l c e)) H
def sp_count : Sp := fun vs H Q _ => ∃ g u e : Int, vs = [.int g, .int u, .int e] ∧ Q (.int (countNow g u e)) H
def sp_letter : Sp := fun vs H Q _ => ∃ ms : List Nat, vs = [.str (mstr ms)] ∧ (∀ k ∈ ms, k = 1 ∨ k = 3) ∧ Q (.int ((letter ms : Nat) : Int)) H
def sp_Rinit (t : Adr) : Sp := fun vs H Q _ => ∃ (p dx : Addr) (v1 v2 v3 v4 : V), vs = [.ref p, v1, v2, v3, v4] ∧ H p = some (.ins t.c_Reading dx []) ∧
  ∀ H' : Hp, H' p = some (.ins t.c_Reading dx (kf_Reading v1 v2 v3 v4)) → SB p H H' → Q .non H'
def sp_many (t : Adr) : Sp := fun vs H Q _ => ∃ (x : Addr) (r : Rg), vs = [.ref x] ∧ RdAt NF t.c_Reading H x r ∧ Q (.int r.many) H
def sp_within (t : Adr) : Sp := fun vs H Q _ => ∃ (N : Addr → Prop) (x : Addr) (r : Rg) (a b : Int), vs = [.ref x, .int a, .int b] ∧ RdAt N t.c_Reading H x r ∧ NT N H ∧ ∀ (y : Addr) (H' : Hp), Same H H' → RdAt N t.c_Reading H' y (r.within a b) → Q (.ref y) H'
def sp_so (t : Adr) : Sp := fun vs H Q _ => ∃ (N : Addr → Prop) (x : Addr) (r : Rg) (l c e : Int), vs = [.ref x, .int l, .int c, .int e] ∧ RdAt N t.c_Reading H x r ∧ NT N H ∧ OkCt c ∧ ∀ (y : Addr) (H' : Hp), Same H H' → RdAt N t.c_Reading H' y (r.so l c e) → Q (.ref y) H'
def sp_mark (t : Adr) : Sp := fun vs H Q _ => ∃ (N : Addr → Prop) (x : Addr) (r : Rg) (c : Int), vs = [.ref x, .int c] ∧ RdAt N t.c_Reading H x r ∧ NT N H ∧ r.ms.length ≤ 2000 ∧ ∀ (y : Addr) (H' : Hp), Same H H' → RdAt N t.c_Reading H' y (r.mark c) → Q (.ref y) H'
/-- its marks are 1 and 3, its row isn't long -/
def Fine (r : Rg) : Prop := (∀ k ∈ r.ms, k = 1 ∨ k = 3) ∧ r.row.length ≤ 4000 ∧ r.ms.length ≤ 2000
def sp_gap (t : Adr) : Sp := fun vs H Q _ => ∃ (N : Addr → Prop) (x : Addr) (r : Rg) (c : Int), vs = [.ref x, .int c] ∧ RdAt N t.c_Reading H x r ∧ NT N H ∧ Fine r ∧ ∀ (y : Addr) (H' : Hp), Same H H' → RdAt N t.c_Reading H' y (r.gap c) → Q (.ref y) H'
def sp_behind (t : Adr) : Sp := fun vs H Q _ => ∃ (N : Addr → Prop) (x : Addr) (r : Rg) (c : Int), vs = [.ref x, .int c] ∧ RdAt N t.c_Reading H x r ∧ NT N H ∧ Fine r ∧ ∀ (l : Addr) (H' : Hp), Same H H' → H' l = some (.lst (bytes (behind r.row r.ms c))) → ¬ N l → Q (.ref l) H'
def sp_rowIn (t : Adr) : Sp := fun vs H Q _ => ∃ (N : Addr → Prop) (x : Addr) (r : Rg) (g e : Int), vs = [.ref x, .int g, .int e] ∧ RdAt N t.c_Reading H x r ∧ NT N H ∧ Fine r ∧ ∀ (l : Addr) (H' : Hp), Same H H' → H' l = some (.lst (bytes (r.rowIn g e))) → ¬ N l → Q (.ref l) H'

section
variable {P : Program} {w : World} {K : PySem.W.Frag} {mg : Str → Option Value} {base : Heap} {t : Adr}
theorem ok_least_unit (T : Txt K w mg t) : FnOk P w K mg base CX0 1 t.f_least_unit t.d_least_unit ["length", "count", "slack"] sp_least := by
  refine T.F_least_unit.ok sc_least_unit (fun vs H Q E h => ?_) (fun cdv A outer s H vs Q E hr h => ?_)
  · obtain ⟨l, c, e, rfl, _⟩ := h
    rfl
  · obtain ⟨l, c, e, rfl, hc, k⟩ := h
    refine ⟨_, (pss_cons (ps_if (pt_cmpR op_eq (pv 1) pe_int (nomark _)) (pss_one (ps_ret pe_int)) pss_nil)
      (pss_one (ps_ret (pe_op op_fdiv (pe_op op_sub (pe_op op_add (pe_op op_sub (pv 0) (pv 2)) (pv 1)) pe_int) (pv 1))))), ?_⟩
    refine ⟨_, rfl, rfl, _, rfl, iteI (fun h => ?_) (fun h => ?_)⟩
    · have q : leastU l c e = 1 := if_pos h
      rw [q] at k
      exact k
    · have q : leastU l c e = (l - e + c - 1) / c := if_neg h
      rw [q] at k
      exact ⟨_, rfl, _, rfl, _, _, rfl, rfl, _, rfl, _, _, rfl, rfl, _, _, rfl, rfl, _, rfl, _, _, rfl, rfl, hc, k⟩
theorem ok_greatest_unit (T : Txt K w mg t) : FnOk P w K mg base CX0 1 t.f_greatest_unit t.d_greatest_unit ["length", "count", "slack"] sp_greatest := by
  refine T.F_greatest_unit.ok sc_greatest_unit (fun vs H Q E h => ?_) (fun cdv A outer s H vs Q E hr h => ?_)
  · obtain ⟨l, c, e, rfl, _⟩ := h
    rfl
  · obtain ⟨l, c, e, rfl, hc, k⟩ := h
    refine ⟨_, (pss_one (ps_ret (pe_op op_fdiv (pe_op op_add (pv 0) (pv 2)) (pv 1)))), ?_⟩
    exact ⟨_, rfl, _, rfl, _, _, rfl, rfl, _, rfl, _, _, rfl, rfl, hc, k⟩
theorem ok_count_by_now (T : Txt K w mg t) : FnOk P w K mg base CX0 1 t.f_count_by_now t.d_count_by_now ["gap", "unit", "slack"] sp_count := by
  refine T.F_count_by_now.ok sc_count_by_now (fun vs H Q E h => ?_) (fun cdv A outer s H vs Q E hr h => ?_)
  · obtain ⟨l, c, e, rfl, _⟩ := h
    rfl
  · obtain ⟨g, u, e, rfl, k⟩ := h
    refine ⟨_, (pss_cons (ps_if (pt_cmpR op_le (pv 0) (pe_op op_add (pv 1) (pv 2)) (nomark _)) (pss_one (ps_ret pe_int)) pss_nil)
      (pss_cons (ps_if (pt_cmpR op_le (pv 0) (pe_op op_add (pe_op op_mul pe_int (pv 1)) (pv 2)) (nomark _)) (pss_one (ps_ret pe_int)) pss_nil)
      (pss_one (ps_ret pe_int)))), ?_⟩
    refine ⟨_, rfl, _, rfl, _, rfl, _, _, rfl, rfl, _, _, rfl, rfl, _, rfl, iteD (fun h => ?_) (fun h => ?_)⟩
    · have q : countNow g u e = 1 := if_pos h
      rw [q] at k
      exact k
    · refine ⟨_, rfl, _, rfl, _, _, rfl, rfl, .inl ⟨by decide, by decide⟩, _, rfl, _, _, rfl, rfl, _, _, rfl, rfl, _, rfl, iteD (fun h3 => ?_) (fun h3 => ?_)⟩
      · have q : countNow g u e = 3 := by unfold countNow; rw [if_neg h, if_pos h3]
        rw [q] at k
        exact k
      · have q : countNow g u e = 7 := by unfold countNow; rw [if_neg h, if_neg h3]
        rw [q] at k
        exact k
theorem ok_letter_byte (T : Txt K w mg t) : FnOk P w K mg base CX0 1 t.f_letter_byte t.d_letter_byte ["marks"] sp_letter := by
  refine T.F_letter_byte.ok sc_letter_byte (fun vs H Q E h => ?_) (fun cdv A outer s H vs Q E hr h => ?_)
  · obtain ⟨ms, rfl, _⟩ := h
    rfl
  · obtain ⟨ms, rfl, hm, k⟩ := h
    refine ⟨_, (pss_one (ps_ret (pe_callB call_ord (by rfl) T.b_ord bt_ord (pa_cons (pe_dget2K (pe_glob (v := .ref t.a_LETTERS) (by rfl) T.c_LETTERS rfl) (pv 0) pe_str ⟨rfl, rfl, rfl, rfl⟩) pa_nil)))), ?_⟩
    exact ⟨_, _, rfl, T.e_LETTERS, _, rfl, .inr (mstr ms), rfl, ⟨#[letter ms]⟩, congrArg (fun z => [z]) (lett_val hm), rfl, k⟩
theorem ok_Reading_init (T : Txt K w mg t) : FnOk P w K mg base CX0 1 t.f_Reading_init t.d_Reading_init ["self", "least", "greatest", "row", "marks"] (sp_Rinit t) := by
  refine T.F_Reading_init.ok sc_Reading_init (fun vs H Q E h => ?_) (fun cdv A outer s H vs Q E hr h => ?_)
  · obtain ⟨p, dx, v1, v2, v3, v4, rfl, _⟩ := h
    rfl
  · obtain ⟨p, dx, v1, v2, v3, v4, rfl, hp, k⟩ := h
    refine ⟨_, (pss_cons (ps_fld (pv 0) (pv 1) rfl)
      (pss_cons (ps_fld (pv 0) (pv 2) rfl)
      (pss_cons (ps_fld (pv 0) (pv 3) rfl)
      (pss_one (ps_fld (pv 0) (pv 4) rfl))))), ?_⟩
    have l0 : ([] : List (Str × V)).length ≤ 0 := Nat.le_refl _
    refine ⟨_, rfl, _, rfl, p, _, dx, _, rfl, hp, T.cl_Reading, T.n_Reading_least, (Nat.lt_of_le_of_lt l0 (by decide)), ?_⟩
    refine ⟨_, rfl, _, rfl, p, _, dx, _, rfl, upd_same, T.cl_Reading, T.n_Reading_greatest, (Nat.lt_of_le_of_lt (pl0 l0) (by decide)), ?_⟩
    refine ⟨_, rfl, _, rfl, p, _, dx, _, rfl, upd_same, T.cl_Reading, T.n_Reading_row, (Nat.lt_of_le_of_lt (pl0 (pl0 l0)) (by decide)), ?_⟩
    refine ⟨_, rfl, _, rfl, p, _, dx, _, rfl, upd_same, T.cl_Reading, T.n_Reading_marks, (Nat.lt_of_le_of_lt (pl0 (pl0 (pl0 l0))) (by decide)), ?_⟩
    exact k _ (Eq.trans upd_same (congrArg (fun q => some (HO.ins t.c_Reading dx q)) kf_Reading_new)) (((SB.upd.trans SB.upd).trans SB.upd).trans SB.upd)
theorem ok_Reading_how_many (T : Txt K w mg t) : FnOk P w K mg base CX0 1 t.f_Reading_how_many t.d_Reading_how_many ["self"] (sp_many t) := by
  refine T.F_Reading_how_many.ok sc_Reading_how_many (fun vs H Q E h => ?_) (fun cdv A outer s H vs Q E hr h => ?_)
  · obtain ⟨x, r, rfl, _⟩ := h
    rfl
  · obtain ⟨x, r, rfl, ⟨dx, l, h1, h2, hN⟩, k⟩ := h
    refine ⟨_, (pss_one (ps_ret (pe_op op_add (pe_op op_sub (pe_fld (pv 0) rfl) (pe_fld (pv 0) rfl)) pe_int))), ?_⟩
    exact ⟨_, rfl, x, _, dx, _, _, rfl, h1, T.cl_Reading, T.n_Reading_greatest, kf_Reading_lk_greatest, _, rfl, x, _, dx, _, _, rfl, h1, T.cl_Reading, T.n_Reading_least, kf_Reading_lk_least, _, _, rfl, rfl, _, _, rfl, rfl, k⟩
theorem ok_Reading_within (T : Txt K w mg t) : FnOk P w K mg base CX0 3 t.f_Reading_within t.d_Reading_within ["self", "least", "greatest"] (sp_within t) := by
  refine T.F_Reading_within.ok sc_Reading_within (fun vs H Q E h => ?_) (fun cdv A outer s H vs Q E hr h => ?_)
  · obtain ⟨N, x, r, a, b, rfl, _⟩ := h
    rfl
  · obtain ⟨N, x, r, a, b, rfl, ⟨dx, l, h1, h2, hN⟩, nt, k⟩ := h
    have G_Reading_init := ok_Reading_init (P := P) (base := base) T
    have hr_Reading_init : Room 2 _ := hr.mono (by decide)
    refine ⟨_, (pss_one (ps_ret (pe_make T.mk_Reading G_Reading_init hr_Reading_init (by rfl) T.g_Reading (bd_Reading_init T) .nil pass0 (pa_cons (pe_callB (call_max2 rfl) (by rfl) T.b_max bt_max (pa_cons (pe_fld (pv 0) rfl) (pa_cons (pv 1) pa_nil))) (pa_cons (pe_callB (call_min2 rfl) (by rfl) T.b_min bt_min (pa_cons (pe_fld (pv 0) rfl) (pa_cons (pv 2) pa_nil))) (pa_cons (pe_fld (pv 0) rfl) (pa_cons (pe_fld (pv 0) rfl) pa_nil))))))), ?_⟩
    refine ⟨_, rfl, x, _, dx, _, _, rfl, h1, T.cl_Reading, T.n_Reading_least, kf_Reading_lk_least, _, rfl, _, _, rfl,
      _, rfl, x, _, dx, _, _, rfl, h1, T.cl_Reading, T.n_Reading_greatest, kf_Reading_lk_greatest, _, rfl, _, _, rfl,
      _, rfl, x, _, dx, _, _, rfl, h1, T.cl_Reading, T.n_Reading_row, kf_Reading_lk_row,
      _, rfl, x, _, dx, _, _, rfl, h1, T.cl_Reading, T.n_Reading_marks, kf_Reading_lk_marks, ?_⟩
    intro y dy ny nd ne
    refine ⟨y, dy, _, _, _, _, rfl, upd_same, fun H' e1 kp => ⟨rfl, ?_⟩⟩
    have s1 : Same H H' := Same.made ny nd kp
    exact k y H' s1 ⟨dy, l, e1, s1 _ _ h2, hN⟩
theorem ok_Reading_if_so_many (T : Txt K w mg t) : FnOk P w K mg base CX0 4 t.f_Reading_if_so_many t.d_Reading_if_so_many ["self", "length", "count", "slack"] (sp_so t) := by
  refine T.F_Reading_if_so_many.ok sc_Reading_if_so_many (fun vs H Q E h => ?_) (fun cdv A outer s H vs Q E hr h => ?_)
  · obtain ⟨N, x, r, l, c, e, rfl, _⟩ := h
    rfl
  · obtain ⟨N, x, r, l, c, e, rfl, ⟨dx, lr, h1, h2, hN⟩, nt, hc, k⟩ := h
    have G_Reading_within := ok_Reading_within (P := P) (base := base) T
    have hr_Reading_within : Room 3 _ := hr.mono (by decide)
    have G_greatest_unit := ok_greatest_unit (P := P) (base := base) T
    have hr_greatest_unit : Room 1 _ := hr.mono (by decide)
    have G_least_unit := ok_least_unit (P := P) (base := base) T
    have hr_least_unit : Room 1 _ := hr.mono (by decide)
    refine ⟨_, (pss_one (ps_ret (pe_meth (pv 0) T.cl_Reading T.m_Reading_within G_Reading_within hr_Reading_within (bd_Reading_within T) .nil pass0 (pa_cons (pe_call G_least_unit hr_least_unit (by rfl) T.g_least_unit T.k_least_unit (bd_least_unit T) .nil pass0 (pa_cons (pv 1) (pa_cons (pv 2) (pa_cons (pv 3) pa_nil)))) (pa_cons (pe_call G_greatest_unit hr_greatest_unit (by rfl) T.g_greatest_unit T.k_greatest_unit (bd_greatest_unit T) .nil pass0 (pa_cons (pv 1) (pa_cons (pv 2) (pa_cons (pv 3) pa_nil)))) pa_nil))))), ?_⟩
    exact ⟨_, rfl, x, dx, _, rfl, h1, kf_Reading_lk_within, _, rfl, _, rfl, _, rfl, _, _, _, rfl, hc, _, rfl, _, rfl, _, rfl, _, _, _, rfl, hc, N, x, r, _, _, rfl, ⟨dx, lr, h1, h2, hN⟩, nt, k⟩
theorem ok_Reading_with_mark (T : Txt K w mg t) : FnOk P w K mg base CX0 3 t.f_Reading_with_mark t.d_Reading_with_mark ["self", "count"] (sp_mark t) := by
  refine T.F_Reading_with_mark.ok sc_Reading_with_mark (fun vs H Q E h => ?_) (fun cdv A outer s H vs Q E hr h => ?_)
  · obtain ⟨N, x, r, c, rfl, _⟩ := h
    rfl
  · obtain ⟨N, x, r, c, rfl, ⟨dx, l, h1, h2, hN⟩, nt, hm, k⟩ := h
    have G_Reading_init := ok_Reading_init (P := P) (base := base) T
    have hr_Reading_init : Room 2 _ := hr.mono (by decide)
    have d1 : ("." : Str).length = 1 := by decide +kernel
    have d2 : ("-" : Str).length = 1 := by decide +kernel
    refine ⟨_, (pss_cons (ps_set (i := 2) sc_Reading_with_mark.nd rfl (Or.inl rfl) (pe_ifExp (pt_cmpR op_eq (pv 1) pe_int (nomark _)) pe_str pe_str))
      (pss_one (ps_ret (pe_make T.mk_Reading G_Reading_init hr_Reading_init (by rfl) T.g_Reading (bd_Reading_init T) .nil pass0 (pa_cons (pe_fld (pv 0) rfl) (pa_cons (pe_fld (pv 0) rfl) (pa_cons (pe_fld (pv 0) rfl) (pa_cons (pe_op op_add_str (pe_fld (pv 0) rfl) (pv 2)) pa_nil)))))))), ?_⟩
    refine ⟨_, rfl, rfl, _, rfl, iteI (fun hc => ?_) (fun hc => ?_)⟩
    · refine ⟨_, rfl, x, _, dx, _, _, rfl, h1, T.cl_Reading, T.n_Reading_least, kf_Reading_lk_least,
        _, rfl, x, _, dx, _, _, rfl, h1, T.cl_Reading, T.n_Reading_greatest, kf_Reading_lk_greatest,
        _, rfl, x, _, dx, _, _, rfl, h1, T.cl_Reading, T.n_Reading_row, kf_Reading_lk_row,
        _, rfl, x, _, dx, _, _, rfl, h1, T.cl_Reading, T.n_Reading_marks, kf_Reading_lk_marks, _, rfl, _, _, rfl, rfl, (by rw [mstr_len, d1]; exact sle (by omega)), ?_⟩
      intro y dy ny nd ne
      refine ⟨y, dy, _, _, _, _, rfl, upd_same, fun H' e1 kp => ⟨rfl, ?_⟩⟩
      have s1 : Same H H' := Same.made ny nd kp
      rw [mstr_dot] at e1
      have em : (r.mark c).ms = r.ms ++ [1] := by show r.ms ++ [if c = 1 then 1 else 3] = _; rw [if_pos hc]
      refine k y H' s1 ⟨dy, l, ?_, s1 _ _ h2, hN⟩
      rw [em]
      exact e1
    · refine ⟨_, rfl, x, _, dx, _, _, rfl, h1, T.cl_Reading, T.n_Reading_least, kf_Reading_lk_least,
        _, rfl, x, _, dx, _, _, rfl, h1, T.cl_Reading, T.n_Reading_greatest, kf_Reading_lk_greatest,
        _, rfl, x, _, dx, _, _, rfl, h1, T.cl_Reading, T.n_Reading_row, kf_Reading_lk_row,
        _, rfl, x, _, dx, _, _, rfl, h1, T.cl_Reading, T.n_Reading_marks, kf_Reading_lk_marks, _, rfl, _, _, rfl, rfl, (by rw [mstr_len, d2]; exact sle (by omega)), ?_⟩
      intro y dy ny nd ne
      refine ⟨y, dy, _, _, _, _, rfl, upd_same, fun H' e1 kp => ⟨rfl, ?_⟩⟩
      have s1 : Same H H' := Same.made ny nd kp
      rw [mstr_dash] at e1
      have em : (r.mark c).ms = r.ms ++ [3] := by show r.ms ++ [if c = 1 then 1 else 3] = _; rw [if_neg hc]
      refine k y H' s1 ⟨dy, l, ?_, s1 _ _ h2, hN⟩
      rw [em]
      exact e1
theorem ok_Reading_row_behind_gap (T : Txt K w mg t) : FnOk P w K mg base CX0 2 t.f_Reading_row_behind_gap t.d_Reading_row_behind_gap ["self", "count"] (sp_behind t) := by
  refine T.F_Reading_row_behind_gap.ok sc_Reading_row_behind_gap (fun vs H Q E h => ?_) (fun cdv A outer s H vs Q E hr h => ?_)
  · obtain ⟨N, x, r, c, rfl, _⟩ := h
    rfl
  · obtain ⟨N, x, r, c, rfl, ⟨dx, l, h1, h2, hN⟩, nt, ⟨m13, hz, _⟩, k⟩ := h
    have G_letter_byte := ok_letter_byte (P := P) (base := base) T
    have hr_letter_byte : Room 1 _ := hr.mono (by decide)
    refine ⟨_, (pss_cons (ps_if (pt_cmpR op_eq (pv 1) pe_int (nomark _)) (pss_one (ps_ret (pe_fld (pv 0) rfl))) pss_nil)
      (pss_cons (ps_set (i := 2) sc_Reading_row_behind_gap.nd rfl (Or.inl rfl) (pe_op op_cat (pe_fld (pv 0) rfl) (pe_lst (pa_cons (pe_call G_letter_byte hr_letter_byte (by rfl) T.g_letter_byte T.k_letter_byte (bd_letter_byte T) .nil pass0 (pa_cons (pe_fld (pv 0) rfl) pa_nil)) pa_nil))))
      (pss_one (ps_ret (pe_ifExp (pt_cmpR op_eq (pv 1) pe_int (nomark _)) (pv 2) (pe_op op_cat (pv 2) (pe_lst (pa_cons (pe_glob (v := .int 32) (by rfl) T.x_BLANK.choose_spec ⟨_, rfl⟩) pa_nil)))))))), ?_⟩
    refine ⟨_, rfl, rfl, _, rfl, iteI (fun hc => ?_) (fun hc => ?_)⟩
    · refine ⟨_, rfl, x, _, dx, _, _, rfl, h1, T.cl_Reading, T.n_Reading_row, kf_Reading_lk_row, ?_⟩
      refine k l H (Same.refl H) ?_ hN
      have e : behind r.row r.ms c = r.row := if_pos hc
      rw [e]
      exact h2
    · refine ⟨_, rfl, x, _, dx, _, _, rfl, h1, T.cl_Reading, T.n_Reading_row, kf_Reading_lk_row, _, rfl, x, _, dx, _, _, rfl, h1, T.cl_Reading, T.n_Reading_marks, kf_Reading_lk_marks, r.ms, rfl, m13, (by show 1 ≤ sizeLine; decide), fun b hb => ?_⟩
      have s1 : Same H (upd H b (.lst [V.int ((letter r.ms : Nat) : Int)])) := Same.upd hb
      refine ⟨l, b, _, _, rfl, rfl, s1 _ _ h2, upd_same, (by rw [bytes_len]; exact sle (by simp only [List.length_cons, List.length_nil]; omega)), fun q hq => ?_⟩
      have s2 := s1.trans (Same.upd (o := .lst (bytes r.row ++ [V.int ((letter r.ms : Nat) : Int)])) hq)
      refine ⟨_, rfl, rfl, _, rfl, iteI (fun h3 => ?_) (fun h3 => ?_)⟩
      · refine ⟨_, rfl, k q _ s2 ?_ (nt.not s1 hq)⟩
        have e : behind r.row r.ms c = r.row ++ [letter r.ms] := by unfold behind; rw [if_neg hc, if_pos h3]
        rw [e, bytes_app]
        exact upd_same
      · refine ⟨_, rfl, (by show 1 ≤ sizeLine; decide), fun b2 hb2 => ?_⟩
        have s3 := s2.trans (Same.upd (o := .lst [V.int 32]) hb2)
        have hqb : q ≠ b2 := ne_of_none (show upd _ q _ q = some _ from upd_same) hb2
        refine ⟨q, b2, _, _, rfl, rfl, (by rw [upd_ne hqb]; exact upd_same), upd_same, (by rw [List.length_append, bytes_len]; exact sle (by simp only [List.length_cons, List.length_nil]; omega)), fun q2 hq2 => ?_⟩
        refine k q2 _ (s3.trans (Same.upd hq2)) ?_ (nt.not s3 hq2)
        have e : behind r.row r.ms c = (r.row ++ [letter r.ms]) ++ [32] := by unfold behind; rw [if_neg hc, if_neg h3]
        rw [e, bytes_app, bytes_app]
        exact upd_same
theorem ok_Reading_with_gap (T : Txt K w mg t) : FnOk P w K mg base CX0 3 t.f_Reading_with_gap t.d_Reading_with_gap ["self", "count"] (sp_gap t) := by
  refine T.F_Reading_with_gap.ok sc_Reading_with_gap (fun vs H Q E h => ?_) (fun cdv A outer s H vs Q E hr h => ?_)
  · obtain ⟨N, x, r, c, rfl, _⟩ := h
    rfl
  · obtain ⟨N, x, r, c, rfl, ⟨dx, l, h1, h2, hN⟩, nt, fine, k⟩ := h
    have G_Reading_init := ok_Reading_init (P := P) (base := base) T
    have hr_Reading_init : Room 2 _ := hr.mono (by decide)
    have G_Reading_row_behind_gap := ok_Reading_row_behind_gap (P := P) (base := base) T
    have hr_Reading_row_behind_gap : Room 2 _ := hr.mono (by decide)
    refine ⟨_, (pss_cons (ps_set (i := 2) sc_Reading_with_gap.nd rfl (Or.inl rfl) (pe_ifExp (pt_cmpR op_eq (pv 1) pe_int (nomark _)) (pe_fld (pv 0) rfl) pe_str))
      (pss_one (ps_ret (pe_make T.mk_Reading G_Reading_init hr_Reading_init (by rfl) T.g_Reading (bd_Reading_init T) .nil pass0 (pa_cons (pe_fld (pv 0) rfl) (pa_cons (pe_fld (pv 0) rfl) (pa_cons (pe_meth (pv 0) T.cl_Reading T.m_Reading_row_behind_gap G_Reading_row_behind_gap hr_Reading_row_behind_gap (bd_Reading_row_behind_gap T) .nil pass0 (pa_cons (pv 1) pa_nil)) (pa_cons (pv 2) pa_nil)))))))), ?_⟩
    refine ⟨_, rfl, rfl, _, rfl, iteI (fun hc => ?_) (fun hc => ?_)⟩
    · refine ⟨_, rfl, x, _, dx, _, _, rfl, h1, T.cl_Reading, T.n_Reading_marks, kf_Reading_lk_marks,
        _, rfl, x, _, dx, _, _, rfl, h1, T.cl_Reading, T.n_Reading_least, kf_Reading_lk_least,
        _, rfl, x, _, dx, _, _, rfl, h1, T.cl_Reading, T.n_Reading_greatest, kf_Reading_lk_greatest,
        _, rfl, x, dx, _, rfl, h1, kf_Reading_lk_row_behind_gap, _, rfl, N, x, r, _, rfl, ⟨dx, l, h1, h2, hN⟩, nt, fine, fun l2 H2 s2 hl2 hN2 => ?_⟩
      refine ⟨_, rfl, ?_⟩
      intro y dy ny nd ne
      refine ⟨y, dy, _, _, _, _, rfl, upd_same, fun H' e1 kp => ⟨rfl, ?_⟩⟩
      have s1 : Same H2 H' := Same.made ny nd kp
      have em : (r.gap c).ms = r.ms := if_pos hc
      refine k y H' (s2.trans s1) ⟨dy, l2, ?_, s1 _ _ hl2, hN2⟩
      rw [em]
      exact e1
    · refine ⟨_, rfl, x, _, dx, _, _, rfl, h1, T.cl_Reading, T.n_Reading_least, kf_Reading_lk_least,
        _, rfl, x, _, dx, _, _, rfl, h1, T.cl_Reading, T.n_Reading_greatest, kf_Reading_lk_greatest,
        _, rfl, x, dx, _, rfl, h1, kf_Reading_lk_row_behind_gap, _, rfl, N, x, r, _, rfl, ⟨dx, l, h1, h2, hN⟩, nt, fine, fun l2 H2 s2 hl2 hN2 => ?_⟩
      refine ⟨_, rfl, ?_⟩
      intro y dy ny nd ne
      refine ⟨y, dy, _, _, _, _, rfl, upd_same, fun H' e1 kp => ⟨rfl, ?_⟩⟩
      have s1 : Same H2 H' := Same.made ny nd kp
      have em : (r.gap c).ms = [] := if_neg hc
      refine k y H' (s2.trans s1) ⟨dy, l2, ?_, s1 _ _ hl2, hN2⟩
      rw [em, ← mstr_nil]
      exact e1
theorem ok_Reading_row_in_gap (T : Txt K w mg t) : FnOk P w K mg base CX0 3 t.f_Reading_row_in_gap t.d_Reading_row_in_gap ["self", "gap", "slack"] (sp_rowIn t) := by
  refine T.F_Reading_row_in_gap.ok sc_Reading_row_in_gap (fun vs H Q E h => ?_) (fun cdv A outer s H vs Q E hr h => ?_)
  · obtain ⟨N, x, r, g, e, rfl, _⟩ := h
    rfl
  · obtain ⟨N, x, r, g, e, rfl, ⟨dx, l, h1, h2, hN⟩, nt, fine, k⟩ := h
    have G_Reading_row_behind_gap := ok_Reading_row_behind_gap (P := P) (base := base) T
    have hr_Reading_row_behind_gap : Room 2 _ := hr.mono (by decide)
    have G_count_by_now := ok_count_by_now (P := P) (base := base) T
    have hr_count_by_now : Room 1 _ := hr.mono (by decide)
    refine ⟨_, (pss_one (ps_ret (pe_meth (pv 0) T.cl_Reading T.m_Reading_row_behind_gap G_Reading_row_behind_gap hr_Reading_row_behind_gap (bd_Reading_row_behind_gap T) .nil pass0 (pa_cons (pe_call G_count_by_now hr_count_by_now (by rfl) T.g_count_by_now T.k_count_by_now (bd_count_by_now T) .nil pass0 (pa_cons (pv 1) (pa_cons (pe_fld (pv 0) rfl) (pa_cons (pv 2) pa_nil)))) pa_nil)))), ?_⟩
    exact ⟨_, rfl, x, dx, _, rfl, h1, kf_Reading_lk_row_behind_gap, _, rfl, _, rfl, x, _, dx, _, _, rfl, h1, T.cl_Reading, T.n_Reading_greatest, kf_Reading_lk_greatest, _, rfl, _, _, _, rfl, N, x, r, _, rfl, ⟨dx, l, h1, h2, hN⟩, nt, fine, k⟩
end
end Hk

set_option Elab.async false
set_option linter.all false
set_option maxRecDepth 100000
set_option maxHeartbeats 2000000
namespace Hk
open PySem PySem.Spec PyProof.Rows L2
open Kh315 (Abs letter)

/-! ## Lists of readings -/
def sp_wu (t : Adr) : Sp := fun vs H Q _ => ∃ (l : Addr) (rs : List Rg), vs = [.ref l] ∧ RsAt t.c_Reading H l rs ∧ rs.length ≤ 50000 ∧ ∀ (l' : Addr) (H' : Hp), Same H H' → RsAt t.c_Reading H' l' (withUnits rs) → Q (.ref l') H'
def sp_rmark (t : Adr) : Sp := fun vs H Q _ => ∃ (l : Addr) (rs : List Rg) (n e : Int), vs = [.ref l, .int n, .int e] ∧ RsAt t.c_Reading H l rs ∧ rs.length ≤ 10000 ∧ (∀ r ∈ rs, Fine r) ∧ ∀ (l' : Addr) (H' : Hp), Same H H' → RsAt t.c_Reading H' l' (withUnits (marked rs n e)) → Q (.ref l') H'
def sp_rgap (t : Adr) : Sp := fun vs H Q _ => ∃ (l : Addr) (rs : List Rg) (n e : Int), vs = [.ref l, .int n, .int e] ∧ RsAt t.c_Reading H l rs ∧ rs.length ≤ 10000 ∧ (∀ r ∈ rs, Fine r) ∧ ∀ (l' : Addr) (H' : Hp), Same H H' → RsAt t.c_Reading H' l' (withUnits (gapped rs n e)) → Q (.ref l') H'
def sp_rheld (t : Adr) : Sp := fun vs H Q _ => ∃ (l : Addr) (rs : List Rg) (n e : Int), vs = [.ref l, .int n, .int e] ∧ RsAt t.c_Reading H l rs ∧ rs.length ≤ 10000 ∧ ∀ (l' : Addr) (H' : Hp), Same H H' → RsAt t.c_Reading H' l' (withUnits (heldR rs n e)) → Q (.ref l') H'
theorem wu_next {rs : List Rg} {i : Nat} {r : Rg} (h : rs[i]? = some r) : withUnits (rs.take (i + 1)) = withUnits (rs.take i) ++ (if r.a ≤ r.b then [r] else []) := by
  rw [take_next h]
  unfold withUnits
  rw [List.filter_append]
  congr 1
  by_cases k : r.a ≤ r.b
  · simp [k]
  · simp [k]
theorem wu_len (rs : List Rg) (i : Nat) : (withUnits (rs.take i)).length ≤ rs.length := by
  unfold withUnits
  refine Nat.le_trans (List.length_filter_le _ _) ?_
  rw [List.length_take]
  omega
theorem held_next {rs : List Rg} {i : Nat} {r : Rg} {n e : Int} (h : rs[i]? = some r) : heldR (rs.take (i + 1)) n e = heldR (rs.take i) n e ++ [r.within (leastU n 3 e) r.b] := by
  rw [take_next h]
  unfold heldR
  rw [List.map_append]
  rfl
theorem marked_next {rs : List Rg} {i : Nat} {r : Rg} {n e : Int} (h : rs[i]? = some r) : marked (rs.take (i + 1)) n e = marked (rs.take i) n e ++ [(r.so n 1 e).mark 1, (r.so n 3 e).mark 3] := by
  rw [take_next h]
  unfold marked
  rw [List.flatMap_append]
  simp
theorem gapped_next {rs : List Rg} {i : Nat} {r : Rg} {n e : Int} (h : rs[i]? = some r) : gapped (rs.take (i + 1)) n e = gapped (rs.take i) n e ++ [(r.so n 1 e).gap 1, (r.so n 3 e).gap 3, (r.so n 7 e).gap 7] := by
  rw [take_next h]
  unfold gapped
  rw [List.flatMap_append]
  simp
theorem marked_len : ∀ (rs : List Rg) (n e : Int), (marked rs n e).length = 2 * rs.length
  | [], _, _ => rfl
  | r :: rs, n, e => by
    have ih := marked_len rs n e
    unfold marked at ih ⊢
    rw [List.flatMap_cons, List.length_append, ih]
    simp only [List.length_cons, List.length_nil]
    omega
theorem gapped_len : ∀ (rs : List Rg) (n e : Int), (gapped rs n e).length = 3 * rs.length
  | [], _, _ => rfl
  | r :: rs, n, e => by
    have ih := gapped_len rs n e
    unfold gapped at ih ⊢
    rw [List.flatMap_cons, List.length_append, ih]
    simp only [List.length_cons, List.length_nil]
    omega
theorem take_le {α : Type} (l : List α) (i : Nat) : (l.take i).length ≤ l.length := by rw [List.length_take]; omega

section
variable {P : Program} {w : World} {K : PySem.W.Frag} {mg : Str → Option Value} {base : Heap} {t : Adr}
theorem ok_with_units (T : Txt K w mg t) : FnOk P w K mg base CX0 1 t.f_with_units t.d_with_units ["readings"] (sp_wu t) := by
  refine T.F_with_units.ok sc_with_units (fun vs H Q E h => ?_) (fun cdv A outer s H vs Q E hr h => ?_)
  · obtain ⟨l, rs, rfl, _⟩ := h
    rfl
  · obtain ⟨l, rs, rfl, ⟨as, hl, hall⟩, hlen, k⟩ := h
    refine ⟨_, (pss_one (ps_ret (pe_lc rfl sc_with_units.nd (pi_list (pv 0)) (blkOk_by (own := [("reading", 1)]) (by show blkC ["readings", "reading"] (defScope s_with_units) _ _ = true; decide +kernel)) (fun _ _ _ _ _ => pg_name (i := 1) sc_with_units.nd rfl (Or.inl rfl)) (fun _ _ _ _ _ => pts_one (pt_cmpR op_le (pe_fldB (K := K) rfl (pv 1) rfl) (pe_fldB (K := K) rfl (pv 1) rfl) (nomark _))) (fun _ _ _ _ _ => (pv 1))))), ?_⟩
    refine ⟨_, rfl, l, rfl, ⟨_, SqL.of hl⟩, fun D hD => ?_⟩
    refine lc_list (K := K) (a := l) (xs := as.map V.ref) (fun i H' => ∃ as' : List Addr, Same H H' ∧ H' D = some (.lst (as'.map V.ref)) ∧ AllAt NF t.c_Reading H as' (withUnits (rs.take i)))
      ⟨[], Same.upd hD, upd_same, trivial⟩ (fun i H' _ ⟨_, s1, _⟩ => SqL.of (s1 _ _ hl)) (fun i y H' hi ⟨as', s1, hd, ha⟩ => ?_) (fun H' ⟨as', s1, hd, ha⟩ => ?_)
    · obtain ⟨x, hx, rfl⟩ := ref_at hi
      obtain ⟨r, hr', hrd⟩ := hall.get hx
      obtain ⟨dx, lr, h1, h2, _⟩ := id hrd
      have h1' := s1 _ _ h1
      refine ⟨rfl, _, rfl, x, _, dx, _, _, rfl, h1', T.cl_Reading, T.n_Reading_least, kf_Reading_lk_least, _, rfl, x, _, dx, _, _, rfl, h1', T.cl_Reading, T.n_Reading_greatest, kf_Reading_lk_greatest, _, _, rfl, rfl, _, rfl, iteD (fun hle => ?_) (fun hle => ?_)⟩
      · have hn := wu_next hr'
        rw [if_pos hle] at hn
        refine ⟨_, rfl, _, hd, ?_, as' ++ [x], s1.but hD, ?_, ?_⟩
        · rw [List.length_map, ha.len]
          have := wu_len rs i
          exact sl10 (by omega)
        · rw [List.map_append]
          exact upd_same
        · rw [hn]
          exact ha.snoc hrd
      · have hn := wu_next hr'
        rw [if_neg hle, List.append_nil] at hn
        exact ⟨as', s1, hd, by rw [hn]; exact ha⟩
    · rw [List.length_map, hall.len, List.take_length] at ha
      exact k D H' s1 ⟨as', hd, ha.mono fun x r q => q.same s1⟩
theorem ok_read_mark (T : Txt K w mg t) : FnOk P w K mg base CX0 5 t.f_read_mark t.d_read_mark ["readings", "length", "slack"] (sp_rmark t) := by
  refine T.F_read_mark.ok sc_read_mark (fun vs H Q E h => ?_) (fun cdv A outer s H vs Q E hr h => ?_)
  · obtain ⟨l, rs, n, e, rfl, _⟩ := h
    rfl
  · obtain ⟨l, rs, n, e, rfl, ⟨as, hl, hall⟩, hlen, hfine, k⟩ := h
    have G_with_units := ok_with_units (P := P) (base := base) T
    have hr_with_units : Room 1 _ := hr.mono (by decide)
    have G_Reading_with_mark := ok_Reading_with_mark (P := P) (base := base) T
    have hr_Reading_with_mark : Room 3 _ := hr.mono (by decide)
    have G_Reading_if_so_many := ok_Reading_if_so_many (P := P) (base := base) T
    have hr_Reading_if_so_many : Room 4 _ := hr.mono (by decide)
    refine ⟨_, (pss_cons (ps_set (i := 3) sc_read_mark.nd rfl (Or.inl rfl) (pe_lst pa_nil))
      (pss_cons (ps_for PassesOwn.never rfl (pi_list (pv 0)) (pg_name (i := 4) sc_read_mark.nd rfl (Or.inl rfl)) (pss_one (ps_for PassesOwn.never rfl (pi_tup (pe_glob (v := .ref t.a_MARK_COUNTS) (by rfl) T.c_MARK_COUNTS rfl)) (pg_name (i := 5) sc_read_mark.nd rfl (Or.inl rfl)) (pss_one (ps_expr (pe_bm PySem.F.plainAttrs_list PySem.F.slot_list_append PySem.F.type_list_append mt_append (pv 3) (pa_cons (pe_meth (pe_meth (pv 4) T.cl_Reading T.m_Reading_if_so_many G_Reading_if_so_many hr_Reading_if_so_many (bd_Reading_if_so_many T) .nil pass0 (pa_cons (pv 1) (pa_cons (pv 5) (pa_cons (pv 2) pa_nil)))) T.cl_Reading T.m_Reading_with_mark G_Reading_with_mark hr_Reading_with_mark (bd_Reading_with_mark T) .nil pass0 (pa_cons (pv 5) pa_nil)) pa_nil)))))))
      (pss_one (ps_ret (pe_call G_with_units hr_with_units (by rfl) T.g_with_units T.k_with_units (bd_with_units T) .nil pass0 (pa_cons (pv 3) pa_nil)))))), ?_⟩
    refine ⟨Nat.zero_le _, fun q hq => ?_⟩
    refine ⟨_, rfl, l, rfl, ⟨_, SqL.of (Same.upd hq _ _ hl)⟩, for_list (K := K) (a := l) (xs := as.map V.ref) (fun i σ H' => ∃ (v4 v5 : Option V) (as' : List Addr), σ = [some (.ref l), some (.int n), some (.int e), some (.ref q), v4, v5] ∧ Same H H' ∧ H' q = some (.lst (as'.map V.ref)) ∧ AllAt (fun a => a = q) t.c_Reading H' as' (marked (rs.take i) n e))
      ⟨none, none, [], rfl, Same.upd hq, upd_same, trivial⟩ (fun i σ H' _ ⟨_, _, _, _, s1, _⟩ => SqL.of (s1 _ _ hl)) ?_ ?_⟩
    · rintro i y σ H' hi ⟨v4, v5, as', rfl, s1, hq1, ha1⟩
      obtain ⟨x, hx, rfl⟩ := ref_at hi
      obtain ⟨r, hr', hrd⟩ := hall.get hx
      have hrq := (hrd.new hq)
      have hir : i < rs.length := (List.getElem?_eq_some_iff.mp hr').1
      have fine := hfine r (List.mem_of_getElem? hr')
      have hbase : (marked (rs.take i) n e).length ≤ 20000 := by
        rw [marked_len, List.length_take]
        omega
      refine ⟨_, rfl, ⟨_, T.e_MARK_COUNTS _⟩, for_tup (K := K) (a := t.a_MARK_COUNTS) (xs := [V.int 1, V.int 3]) (fun j σ H2 => ∃ (v5 : Option V) (as2 : List Addr), σ = [some (.ref l), some (.int n), some (.int e), some (.ref q), some (.ref x), v5] ∧ Same H H2 ∧ H2 q = some (.lst (as2.map V.ref)) ∧ AllAt (fun a => a = q) t.c_Reading H2 as2 (marked (rs.take i) n e ++ ([(r.so n 1 e).mark 1, (r.so n 3 e).mark 3]).take j))
        ⟨v5, as', rfl, s1, hq1, by rw [List.take_zero, List.append_nil]; exact ha1⟩ (fun _ _ _ _ _ => T.e_MARK_COUNTS _) ?_ ?_⟩
      · rintro j y2 σ H2 hj ⟨v5, as2, rfl, s2, hq2, ha2⟩
        obtain ⟨c, hc, ec, hnx⟩ : ∃ c : Int, OkCt c ∧ y2 = V.int c ∧ ([(r.so n 1 e).mark 1, (r.so n 3 e).mark 3]).take (j + 1) = ([(r.so n 1 e).mark 1, (r.so n 3 e).mark 3]).take j ++ [(r.so n c e).mark c] := by
          match j, hj with
          | 0, hj =>
            exact ⟨1, ⟨by decide, by decide⟩, (Option.some.inj hj).symm, rfl⟩
          | 1, hj =>
            exact ⟨3, ⟨by decide, by decide⟩, (Option.some.inj hj).symm, rfl⟩
          | j + 2, hj => simp at hj
        subst ec
        obtain ⟨dx, lr, h1, h2, hN⟩ := hrq.same s2
        refine ⟨_, rfl, .inl ⟨rfl, _, SqL.of hq2⟩, _, rfl, x, dx, _, rfl, h1, kf_Reading_lk_if_so_many, _, rfl, _, rfl, _, rfl, (fun a => a = q), x, r, _, _, _, rfl, ⟨dx, lr, h1, h2, hN⟩, NT.one hq2, hc, fun y3 H3 s3 hy3 => ?_⟩
        obtain ⟨dy, ly, g1, g2, gN⟩ := id hy3
        have hq3 := s3 _ _ hq2
        refine ⟨y3, dy, _, rfl, g1, kf_Reading_lk_with_mark, _, rfl, (fun a => a = q), y3, _, _, rfl, hy3, NT.one hq3, fine.2.2, fun z H4 s4 hz => ?_⟩
        have hq4 := s4 _ _ hq3
        refine ⟨q, _, _, rfl, rfl, hq4, ?_, ?_⟩
        · rw [List.length_map, ha2.len, List.length_append, List.length_take]
          simp only [List.length_cons, List.length_nil]
          exact sl10 (by omega)
        · refine ⟨_, as2 ++ [z], rfl, ((s2.trans s3).trans s4).but hq, ?_, ?_⟩
          · rw [List.map_append]
            exact upd_same
          · rw [hnx, ← List.append_assoc]
            exact (ha2.mono fun a b g => ((g.same s3).same s4).grow hq4).snoc (hz.grow hq4)
      · rintro σ H2 ⟨v5, as2, rfl, s2, hq2, ha2⟩
        refine ⟨_, v5, as2, rfl, s2, hq2, ?_⟩
        rw [marked_next hr']
        exact ha2
    · rintro σ H2 ⟨v4, v5, as2, rfl, s2, hq2, ha2⟩
      rw [List.length_map, hall.len, List.take_length] at ha2
      refine ⟨_, rfl, q, _, rfl, ⟨as2, hq2, ha2.mono fun a b g => g.free⟩, (by rw [marked_len]; omega), fun l' H3 s3 h3 => ?_⟩
      exact k l' H3 (s2.trans s3) h3
theorem ok_read_gap (T : Txt K w mg t) : FnOk P w K mg base CX0 5 t.f_read_gap t.d_read_gap ["readings", "length", "slack"] (sp_rgap t) := by
  refine T.F_read_gap.ok sc_read_gap (fun vs H Q E h => ?_) (fun cdv A outer s H vs Q E hr h => ?_)
  · obtain ⟨l, rs, n, e, rfl, _⟩ := h
    rfl
  · obtain ⟨l, rs, n, e, rfl, ⟨as, hl, hall⟩, hlen, hfine, k⟩ := h
    have G_with_units := ok_with_units (P := P) (base := base) T
    have hr_with_units : Room 1 _ := hr.mono (by decide)
    have G_Reading_with_gap := ok_Reading_with_gap (P := P) (base := base) T
    have hr_Reading_with_gap : Room 3 _ := hr.mono (by decide)
    have G_Reading_if_so_many := ok_Reading_if_so_many (P := P) (base := base) T
    have hr_Reading_if_so_many : Room 4 _ := hr.mono (by decide)
    refine ⟨_, (pss_cons (ps_set (i := 3) sc_read_gap.nd rfl (Or.inl rfl) (pe_lst pa_nil))
      (pss_cons (ps_for PassesOwn.never rfl (pi_list (pv 0)) (pg_name (i := 4) sc_read_gap.nd rfl (Or.inl rfl)) (pss_one (ps_for PassesOwn.never rfl (pi_tup (pe_glob (v := .ref t.a_GAP_COUNTS) (by rfl) T.c_GAP_COUNTS rfl)) (pg_name (i := 5) sc_read_gap.nd rfl (Or.inl rfl)) (pss_one (ps_expr (pe_bm PySem.F.plainAttrs_list PySem.F.slot_list_append PySem.F.type_list_append mt_append (pv 3) (pa_cons (pe_meth (pe_meth (pv 4) T.cl_Reading T.m_Reading_if_so_many G_Reading_if_so_many hr_Reading_if_so_many (bd_Reading_if_so_many T) .nil pass0 (pa_cons (pv 1) (pa_cons (pv 5) (pa_cons (pv 2) pa_nil)))) T.cl_Reading T.m_Reading_with_gap G_Reading_with_gap hr_Reading_with_gap (bd_Reading_with_gap T) .nil pass0 (pa_cons (pv 5) pa_nil)) pa_nil)))))))
      (pss_one (ps_ret (pe_call G_with_units hr_with_units (by rfl) T.g_with_units T.k_with_units (bd_with_units T) .nil pass0 (pa_cons (pv 3) pa_nil)))))), ?_⟩
    refine ⟨Nat.zero_le _, fun q hq => ?_⟩
    refine ⟨_, rfl, l, rfl, ⟨_, SqL.of (Same.upd hq _ _ hl)⟩, for_list (K := K) (a := l) (xs := as.map V.ref) (fun i σ H' => ∃ (v4 v5 : Option V) (as' : List Addr), σ = [some (.ref l), some (.int n), some (.int e), some (.ref q), v4, v5] ∧ Same H H' ∧ H' q = some (.lst (as'.map V.ref)) ∧ AllAt (fun a => a = q) t.c_Reading H' as' (gapped (rs.take i) n e))
      ⟨none, none, [], rfl, Same.upd hq, upd_same, trivial⟩ (fun i σ H' _ ⟨_, _, _, _, s1, _⟩ => SqL.of (s1 _ _ hl)) ?_ ?_⟩
    · rintro i y σ H' hi ⟨v4, v5, as', rfl, s1, hq1, ha1⟩
      obtain ⟨x, hx, rfl⟩ := ref_at hi
      obtain ⟨r, hr', hrd⟩ := hall.get hx
      have hrq := (hrd.new hq)
      have hir : i < rs.length := (List.getElem?_eq_some_iff.mp hr').1
      have fine := hfine r (List.mem_of_getElem? hr')
      have hbase : (gapped (rs.take i) n e).length ≤ 30000 := by
        rw [gapped_len, List.length_take]
        omega
      refine ⟨_, rfl, ⟨_, T.e_GAP_COUNTS _⟩, for_tup (K := K) (a := t.a_GAP_COUNTS) (xs := [V.int 1, V.int 3, V.int 7]) (fun j σ H2 => ∃ (v5 : Option V) (as2 : List Addr), σ = [some (.ref l), some (.int n), some (.int e), some (.ref q), some (.ref x), v5] ∧ Same H H2 ∧ H2 q = some (.lst (as2.map V.ref)) ∧ AllAt (fun a => a = q) t.c_Reading H2 as2 (gapped (rs.take i) n e ++ ([(r.so n 1 e).gap 1, (r.so n 3 e).gap 3, (r.so n 7 e).gap 7]).take j))
        ⟨v5, as', rfl, s1, hq1, by rw [List.take_zero, List.append_nil]; exact ha1⟩ (fun _ _ _ _ _ => T.e_GAP_COUNTS _) ?_ ?_⟩
      · rintro j y2 σ H2 hj ⟨v5, as2, rfl, s2, hq2, ha2⟩
        obtain ⟨c, hc, ec, hnx⟩ : ∃ c : Int, OkCt c ∧ y2 = V.int c ∧ ([(r.so n 1 e).gap 1, (r.so n 3 e).gap 3, (r.so n 7 e).gap 7]).take (j + 1) = ([(r.so n 1 e).gap 1, (r.so n 3 e).gap 3, (r.so n 7 e).gap 7]).take j ++ [(r.so n c e).gap c] := by
          match j, hj with
          | 0, hj =>
            exact ⟨1, ⟨by decide, by decide⟩, (Option.some.inj hj).symm, rfl⟩
          | 1, hj =>
            exact ⟨3, ⟨by decide, by decide⟩, (Option.some.inj hj).symm, rfl⟩
          | 2, hj =>
            exact ⟨7, ⟨by decide, by decide⟩, (Option.some.inj hj).symm, rfl⟩
          | j + 3, hj => simp at hj
        subst ec
        obtain ⟨dx, lr, h1, h2, hN⟩ := hrq.same s2
        refine ⟨_, rfl, .inl ⟨rfl, _, SqL.of hq2⟩, _, rfl, x, dx, _, rfl, h1, kf_Reading_lk_if_so_many, _, rfl, _, rfl, _, rfl, (fun a => a = q), x, r, _, _, _, rfl, ⟨dx, lr, h1, h2, hN⟩, NT.one hq2, hc, fun y3 H3 s3 hy3 => ?_⟩
        obtain ⟨dy, ly, g1, g2, gN⟩ := id hy3
        have hq3 := s3 _ _ hq2
        refine ⟨y3, dy, _, rfl, g1, kf_Reading_lk_with_gap, _, rfl, (fun a => a = q), y3, _, _, rfl, hy3, NT.one hq3, fine, fun z H4 s4 hz => ?_⟩
        have hq4 := s4 _ _ hq3
        refine ⟨q, _, _, rfl, rfl, hq4, ?_, ?_⟩
        · rw [List.length_map, ha2.len, List.length_append, List.length_take]
          simp only [List.length_cons, List.length_nil]
          exact sl10 (by omega)
        · refine ⟨_, as2 ++ [z], rfl, ((s2.trans s3).trans s4).but hq, ?_, ?_⟩
          · rw [List.map_append]
            exact upd_same
          · rw [hnx, ← List.append_assoc]
            exact (ha2.mono fun a b g => ((g.same s3).same s4).grow hq4).snoc (hz.grow hq4)
      · rintro σ H2 ⟨v5, as2, rfl, s2, hq2, ha2⟩
        refine ⟨_, v5, as2, rfl, s2, hq2, ?_⟩
        rw [gapped_next hr']
        exact ha2
    · rintro σ H2 ⟨v4, v5, as2, rfl, s2, hq2, ha2⟩
      rw [List.length_map, hall.len, List.take_length] at ha2
      refine ⟨_, rfl, q, _, rfl, ⟨as2, hq2, ha2.mono fun a b g => g.free⟩, (by rw [gapped_len]; omega), fun l' H3 s3 h3 => ?_⟩
      exact k l' H3 (s2.trans s3) h3
theorem ok_read_held_key (T : Txt K w mg t) : FnOk P w K mg base CX0 4 t.f_read_held_key t.d_read_held_key ["readings", "held", "slack"] (sp_rheld t) := by
  refine T.F_read_held_key.ok sc_read_held_key (fun vs H Q E h => ?_) (fun cdv A outer s H vs Q E hr h => ?_)
  · obtain ⟨l, rs, n, e, rfl, _⟩ := h
    rfl
  · obtain ⟨l, rs, n, e, rfl, ⟨as, hl, hall⟩, hlen, k⟩ := h
    have G_with_units := ok_with_units (P := P) (base := base) T
    have hr_with_units : Room 1 _ := hr.mono (by decide)
    have G_Reading_within := ok_Reading_within (P := P) (base := base) T
    have hr_Reading_within : Room 3 _ := hr.mono (by decide)
    have G_least_unit := ok_least_unit (P := P) (base := base) T
    have hr_least_unit : Room 1 _ := hr.mono (by decide)
    refine ⟨_, (pss_cons (ps_set (i := 3) sc_read_held_key.nd rfl (Or.inr rfl) (pe_call G_least_unit hr_least_unit (by rfl) T.g_least_unit T.k_least_unit (bd_least_unit T) .nil pass0 (pa_cons (pv 1) (pa_cons pe_int (pa_cons (pv 2) pa_nil)))))
      (pss_one (ps_ret (pe_call G_with_units hr_with_units (by rfl) T.g_with_units T.k_with_units (bd_with_units T) .nil pass0 (pa_cons (pe_lc rfl sc_read_held_key.nd (pi_list (pv 0)) (blkOk_by (own := [("reading", 4)]) (by show blkC ["readings", "held", "slack", "least", "reading"] (defScope s_read_held_key) _ _ = true; decide +kernel)) (fun _ _ _ _ _ => pg_name (i := 4) sc_read_held_key.nd rfl (Or.inl rfl)) (fun _ _ _ _ _ => pts_nil) (fun _ _ _ _ _ => (pe_meth (pv 4) T.cl_Reading T.m_Reading_within G_Reading_within hr_Reading_within (bd_Reading_within T) .nil pass0 (pa_cons (pv 3) (pa_cons (pe_fldB (K := K) rfl (pv 4) rfl) pa_nil))))) pa_nil))))), ?_⟩
    refine ⟨_, rfl, _, rfl, _, _, _, rfl, ⟨by decide, by decide⟩, ?_⟩
    refine ⟨_, rfl, l, rfl, ⟨_, SqL.of hl⟩, fun D hD => ?_⟩
    refine lc_list (K := K) (a := l) (xs := as.map V.ref) (fun i H' => ∃ as' : List Addr, Same H H' ∧ H' D = some (.lst (as'.map V.ref)) ∧ AllAt (fun a => a = D) t.c_Reading H' as' (heldR (rs.take i) n e))
      ⟨[], Same.upd hD, upd_same, trivial⟩ (fun i H' _ ⟨_, s1, _⟩ => SqL.of (s1 _ _ hl)) (fun i y H' hi ⟨as', s1, hd, ha⟩ => ?_) (fun H' ⟨as', s1, hd, ha⟩ => ?_)
    · obtain ⟨x, hx, rfl⟩ := ref_at hi
      obtain ⟨r, hr', hrd⟩ := hall.get hx
      have hir : i < rs.length := (List.getElem?_eq_some_iff.mp hr').1
      obtain ⟨dx, lr, h1, h2, hN⟩ := (hrd.new hD).same s1
      refine ⟨rfl, ?_⟩
      refine ⟨_, rfl, x, dx, _, rfl, h1, kf_Reading_lk_within, _, rfl, _, rfl, x, _, dx, _, _, rfl, h1, T.cl_Reading, T.n_Reading_greatest, kf_Reading_lk_greatest, (fun a => a = D), x, r, _, _, rfl, ⟨dx, lr, h1, h2, hN⟩, NT.one hd, fun z H2 s2 hz => ?_⟩
      have hd2 := s2 _ _ hd
      refine ⟨_, hd2, ?_, as' ++ [z], (s1.trans s2).but hD, ?_, ?_⟩
      · rw [List.length_map, ha.len]
        unfold heldR
        rw [List.length_map, List.length_take]
        exact sl10 (by omega)
      · rw [List.map_append]
        exact upd_same
      · rw [held_next hr']
        exact (ha.mono fun a b g => (g.same s2).grow hd2).snoc (hz.grow hd2)
    · rw [List.length_map, hall.len, List.take_length] at ha
      refine ⟨D, _, rfl, ⟨as', hd, ha.mono fun a b g => g.free⟩, (by unfold heldR; rw [List.length_map]; omega), fun l' H3 s3 h3 => ?_⟩
      exact k l' H3 (s1.trans s3) h3
end
end Hk

set_option Elab.async false
set_option linter.all false
set_option maxRecDepth 100000
set_option maxHeartbeats 2000000
namespace Hk
open PySem PySem.Spec PyProof.Rows L2
open Kh315 (Abs letter)

/-! ## What rows begin with -/
structure RowsAt (H : Hp) (ps : List Addr) (rows : List (List Nat)) : Prop where
  len : ps.length = rows.length
  at_ : ∀ (i : Nat) p y, ps[i]? = some p → rows[i]? = some y → H p = some (.lst (bytes y))
theorem RowsAt.row {H : Hp} {ps : List Addr} {rows : List (List Nat)} (R : RowsAt H ps rows) {i : Nat} {p : Addr} (h : ps[i]? = some p) : ∃ y, rows[i]? = some y ∧ H p = some (.lst (bytes y)) := by
  have hi : i < rows.length := by rw [← R.len]; exact (List.getElem?_eq_some_iff.mp h).1
  exact ⟨rows[i], List.getElem?_eq_getElem hi, R.at_ i p _ h (List.getElem?_eq_getElem hi)⟩
theorem RowsAt.same {H H' : Hp} {ps : List Addr} {rows : List (List Nat)} (R : RowsAt H ps rows) (s : Same H H') : RowsAt H' ps rows := ⟨R.len, fun i p y h1 h2 => s _ _ (R.at_ i p y h1 h2)⟩
theorem cut_take (xs : List V) (k : Nat) : cutV xs none (some (k : Int)) = xs.take k := by
  unfold cutV
  rw [HT.sIx_none, HT.sIx_nat, List.drop_zero, Nat.sub_zero]
  by_cases hk : k ≤ xs.length
  · rw [Nat.min_eq_left hk]
  · rw [Nat.min_eq_right (by omega), List.take_of_length_le (Nat.le_refl _), List.take_of_length_le (by omega)]
theorem cut_part (xs : List V) (i j : Nat) (h : j ≤ xs.length) (hi : i ≤ j) : cutV xs (some (i : Int)) (some (j : Int)) = (xs.drop i).take (j - i) := by
  unfold cutV
  rw [HT.sIx_nat, HT.sIx_nat, Nat.min_eq_left h, Nat.min_eq_left (Nat.le_trans hi h)]
def sp_common : Sp := fun vs H Q _ => ∃ (l : Addr) (ps : List Addr) (rows : List (List Nat)), vs = [.ref l] ∧ H l = some (.lst (ps.map V.ref)) ∧ RowsAt H ps rows ∧ rows ≠ [] ∧ rows.length ≤ 10000 ∧
  ∀ (l' : Addr) (H' : Hp) (p : List Nat), Same H H' → H' l' = some (.lst (bytes p)) → (∀ q, q <+: p ↔ ∀ y ∈ rows, q <+: y) → Q (.ref l') H'
section
variable {P : Program} {w : World} {K : PySem.W.Frag} {mg : Str → Option Value} {base : Heap} {t : Adr}
theorem ok_common_beginning (T : Txt K w mg t) : FnOk P w K mg base CX0 1 t.f_common_beginning t.d_common_beginning ["rows"] sp_common := by
  refine T.F_common_beginning.ok sc_common_beginning (fun vs H Q E h => ?_) (fun cdv A outer s H vs Q E hr h => ?_)
  · obtain ⟨l, ps, rows, rfl, _⟩ := h
    rfl
  · obtain ⟨l, ps, rows, rfl, hl, R, hne, hlen, k⟩ := h
    refine ⟨_, (pss_cons (ps_set (i := 1) sc_common_beginning.nd rfl (Or.inl rfl) (pe_minlen rfl (by rfl) T.b_min (by rfl) T.b_len (pa_cons (pv 0) pa_nil)))
      (pss_cons (ps_for PassesOwn.never rfl (pi_enum (by rfl) T.b_enumerate (pa_cons (pv 1) pa_nil)) (pg_tup rfl (pgs_cons (pg_name (i := 2) sc_common_beginning.nd rfl (Or.inr rfl)) (pgs_cons (pg_name (i := 3) sc_common_beginning.nd rfl (Or.inr rfl)) pgs_nil))) (pss_one (ps_if (pt_truth (pe_callB (cr_any rfl) (by rfl) T.b_any bt_any (pa_cons (pe_lc rfl sc_common_beginning.nd (pi_list (pv 0)) (blkOk_by (own := [("row", 4)]) (by show blkC ["rows", "shortest", "place", "byte", "row"] (defScope s_common_beginning) _ _ = true; decide +kernel)) (fun _ _ _ _ _ => pg_name (i := 4) sc_common_beginning.nd rfl (Or.inl rfl)) (fun _ _ _ _ _ => pts_nil) (fun _ _ _ _ _ => (pe_cmpR op_ne (pe_ix (ix_listB (K := K) rfl) (pv 4) (pv 2) (fun _ _ => rfl)) (pv 3) (nomark _)))) pa_nil)) (fun _ => rfl)) (pss_one (ps_ret (pe_slice sl_list (pv 1) po_none (po_some (pv 2))))) pss_nil)))
      (pss_one (ps_ret (pe_callTy call_list_of (by rfl) T.b_list bt_list (pa_cons (pv 1) pa_nil)))))), ?_⟩
    refine ⟨_, rfl, l, ps, rows.map bytes, rfl, SqL.of hl, (by rw [List.length_map]; exact R.len), fun i p ys h1 h2 => ?_, ?_, fun i p ys h1 h2 hmin => ?_⟩
    · rw [List.getElem?_map] at h2
      obtain ⟨y, hy, hp⟩ := R.row h1
      rw [hy] at h2
      have h2 := Option.some.inj h2
      subst h2
      exact SqL.of hp
    · rw [R.len]
      cases rows with
      | nil => exact absurd rfl hne
      | cons y ys => exact Nat.succ_pos _
    · obtain ⟨x, hx, hp⟩ := R.row h1
      rw [List.getElem?_map, hx] at h2
      have h2 := Option.some.inj h2
      subst h2
      have hmin' : ∀ y ∈ rows, x.length ≤ y.length := fun y hy => by
        have := hmin (bytes y) (List.mem_map.mpr ⟨y, hy, rfl⟩)
        rw [bytes_len, bytes_len] at this
        exact this
      have hxm := List.mem_of_getElem? hx
      refine ⟨_, rfl, p, _, rfl, SqL.of hp, for_enum (K := K) (a := p) (xs := bytes x) (fun i σ H' => ∃ v2 v3 v4 : Option V, σ = [some (.ref l), some (.ref p), v2, v3, v4] ∧ Same H H' ∧ ∀ j, j < i → ∀ y ∈ rows, y[j]? = x[j]?)
        ⟨none, none, none, rfl, Same.refl H, fun j hj => absurd hj (Nat.not_lt_zero j)⟩ (fun i σ H' _ ⟨_, _, _, _, s1, _⟩ => SqL.of (s1 _ _ hp)) ?_ ?_⟩
      · rintro i v Tt σ H' hi ⟨v2, v3, v4, rfl, s1, hag⟩ hT
        rw [bytes_get] at hi
        obtain ⟨b, hb, rfl⟩ : ∃ b, x[i]? = some b ∧ v = V.int ((b : Nat) : Int) := by
          cases e : x[i]? with
          | none => rw [e] at hi; cases hi
          | some b => rw [e] at hi; exact ⟨b, rfl, (Option.some.inj hi).symm⟩
        have hix : i < x.length := (List.getElem?_eq_some_iff.mp hb).1
        generalize hHm : upd H' Tt (.tup [.int ((i : Nat) : Int), .int ((b : Nat) : Int)]) = Hm
        have s2 : Same H Hm := by rw [← hHm]; exact s1.trans (Same.upd hT)
        refine ⟨Tt, _, rfl, SqT.of (by rw [← hHm]; exact upd_same), rfl, _, _, rfl, _, _, rfl, rfl, ?_⟩
        refine ⟨_, rfl, l, rfl, ⟨_, SqL.of (s2 _ _ hl)⟩, fun D hD => ?_⟩
        refine lc_list (K := K) (a := l) (xs := ps.map V.ref) (fun j H3 => Same Hm H3 ∧ H3 D = some (.lst ((rows.take j).map fun y => V.bl (!decide (y[i]? = x[i]?)))))
          ⟨Same.upd hD, upd_same⟩ (fun j H3 _ ⟨s3, _⟩ => SqL.of (s3 _ _ (s2 _ _ hl))) (fun j y H3 hj ⟨s3, hd⟩ => ?_) (fun H3 ⟨s3, hd⟩ => ?_)
        · obtain ⟨pr, hpr, rfl⟩ := ref_at hj
          obtain ⟨y, hy, hyp⟩ := R.row hpr
          have hyl := hmin' y (List.mem_of_getElem? hy)
          have hjr : j < rows.length := (List.getElem?_eq_some_iff.mp hy).1
          obtain ⟨c, hc⟩ : ∃ c, y[i]? = some c := ⟨_, List.getElem?_eq_getElem (show i < y.length by omega)⟩
          refine ⟨rfl, ?_⟩
          refine ⟨_, rfl, _, rfl, pr, _, _, _, rfl, rfl, SqL.of (s3 _ _ (s2 _ _ hyp)), atI_nat (by rw [bytes_get, hc]; rfl), _, rfl, rfl, ?_⟩
          refine ⟨_, hd, ?_, s3.but hD, ?_⟩
          · rw [List.length_map, List.length_take]
            exact sl10 (by omega)
          · rw [take_next hy, List.map_append]
            have e : (!decide (V.int ((c : Nat) : Int) = V.int ((b : Nat) : Int))) = !decide (y[i]? = x[i]?) := by
              rw [hc, hb]
              congr 1
              rw [decide_eq_decide]
              simp only [V.int.injEq, Option.some.injEq]
              omega
            rw [e]
            exact upd_same
        · rw [List.length_map, R.len, List.take_length] at hd
          have s4 := s2.trans s3
          refine ⟨D, rows.map fun y => !decide (y[i]? = x[i]?), rfl, SqL.of (by rw [List.map_map]; exact hd), _, rfl, iteB (fun hb' => ?_) (fun hb' => ?_)⟩
          · refine ⟨_, rfl, _, rfl, _, rfl, p, _, rfl, SqL.of (s4 _ _ hp), fun q hq => ?_⟩
            refine k q _ (x.take i) (s4.trans (Same.upd hq)) ?_ (pre_short hxm (Nat.le_of_lt hix) hag (.inr ?_))
            · rw [cut_take]
              have e : bytes (x.take i) = (bytes x).take i := by unfold bytes; rw [List.map_take]
              rw [e]
              exact upd_same
            · rw [List.any_eq_true] at hb'
              obtain ⟨b', hm, hb2⟩ := hb'
              obtain ⟨y, hy, rfl⟩ := List.mem_map.mp hm
              refine ⟨y, hy, ?_⟩
              simpa using hb2
          · refine ⟨_, _, _, rfl, s4, fun j hj y hy => ?_⟩
            by_cases e : j = i
            · subst e
              have hb2 := List.any_eq_false.mp hb' _ (List.mem_map.mpr ⟨y, hy, rfl⟩)
              simpa using hb2
            · exact hag j (by omega) y hy
      · rintro σ H' ⟨v2, v3, v4, rfl, s1, hag⟩
        rw [bytes_len] at hag
        refine ⟨_, rfl, p, _, rfl, .inl (SqL.of (s1 _ _ hp)), fun q hq => ?_⟩
        refine k q _ x (s1.trans (Same.upd hq)) upd_same ?_
        have z := pre_short hxm (Nat.le_refl _) hag (.inl rfl)
        rw [List.take_length] at z
        exact z
end
end Hk

set_option Elab.async false
set_option linter.all false
set_option maxRecDepth 100000
set_option maxHeartbeats 2000000
namespace Hk
open PySem PySem.Spec PyProof.Rows L2
open Kh315 (Abs letter)

/-! ## The key -/
abbrev KF (a : Abs) (l : Addr) : List (Str × V) := kf_Keying (.int ((a.e : Nat) : Int)) (.int ((a.now : Nat) : Int)) (.bl a.down) (.bl a.last.isSome) (.int ((a.last.getD 0 : Nat) : Int)) (.int ((a.lens.length : Nat) : Int)) (.ref l)
def KeyAt (t : Adr) (H : Hp) (p : Addr) (a : Abs) (rs : List Rg) : Prop := ∃ dx l, H p = some (.ins t.c_Keying dx (KF a l)) ∧ RsAt t.c_Reading H l rs
theorem len7 {v1 v2 v3 v4 v5 v6 v7 : V} : (kf_Keying v1 v2 v3 v4 v5 v6 v7).length ≠ 4 := by
  show 7 ≠ 4
  decide
theorem len7' {v1 v2 v3 v4 v5 v6 v7 : V} : (kf_Keying v1 v2 v3 v4 v5 v6 v7).length < 1000 := by
  show 7 < 1000
  decide
theorem iteNB {b : Bool} {A B : Prop} (h1 : b = false → A) (h2 : b = true → B) : if (!b) = true then A else B := by
  cases b
  · exact iteT (h1 rfl)
  · exact iteF (h2 rfl)
theorem iteBl {b c : Bool} {A B : Prop} (h1 : b = c → A) (h2 : ¬ b = c → B) : if decide (V.bl b = V.bl c) = true then A else B :=
  ite2 (fun h => h1 (V.bl.inj (of_decide_eq_true h))) (fun h => h2 fun e => h (decide_eq_true (congrArg V.bl e)))
theorem Rds.fine {a : Abs} {rs : List Rg} (R : Rds a rs) (ok : Ok a) : ∀ r ∈ rs, Fine r := fun r hr => by
  obtain ⟨h1, h2⟩ := R.short ok hr
  exact ⟨R.m13 r hr, by omega, by omega⟩
theorem Rds.len {a : Abs} {rs : List Rg} (R : Rds a rs) (ok : Ok a) : rs.length ≤ 10000 := Nat.le_trans (R.few ok) (by decide)

def sp_isr : Sp := fun vs H Q _ => ∃ lo hi e : Int, vs = [.int lo, .int hi, .int e] ∧ Q (.bl (decide (1 ≤ lo) && (decide (lo ≤ hi) && (decide (hi ≤ 4096) && decide (e < lo))))) H
def sp_restart (t : Adr) : Sp := fun vs H Q _ => ∃ (p dx : Addr) (fs : List (Str × V)) (l : Addr) (e : Int), vs = [.ref p, .ref l, .int e] ∧ H p = some (.ins t.c_Keying dx fs) ∧ (fs = [] ∨ ∃ v1 v2 v3 v4 v5 v6 v7, fs = kf_Keying v1 v2 v3 v4 v5 v6 v7) ∧
  ∀ H' : Hp, H' p = some (.ins t.c_Keying dx (kf_Keying (.int e) (.int 0) (.bl false) (.bl false) (.int 0) (.int 0) (.ref l))) → SB p H H' → Q .non H'
def sp_Kinit (t : Adr) : Sp := fun vs H Q _ => ∃ p dx : Addr, vs = [.ref p] ∧ H p = some (.ins t.c_Keying dx []) ∧ ∀ H' : Hp, KeyAt t H' p a0 [] → SB p H H' → Q .non H'
def sp_begin (t : Adr) : Sp := fun vs H Q _ => ∃ (p : Addr) (a : Abs) (rs : List Rg) (lo hi e : Nat), vs = [.ref p, .int ((lo : Nat) : Int), .int ((hi : Nat) : Int), .int ((e : Nat) : Int)] ∧ KeyAt t H p a rs ∧
  (Kh315.okRange lo hi e = true → ∀ H' : Hp, KeyAt t H' p (Kh315.begun lo hi e) [⟨lo, hi, [], []⟩] → SB p H H' → Q (.int 0) H') ∧ (Kh315.okRange lo hi e = false → Q (.int (-22)) H)
def sp_wrong (t : Adr) : Sp := fun vs H Q _ => ∃ (p dx : Addr) (v1 v3 v4 v5 v6 v7 : V) (n k : Int), vs = [.ref p, .int k] ∧ H p = some (.ins t.c_Keying dx (kf_Keying v1 (.int n) v3 v4 v5 v6 v7)) ∧ Q (.bl (decide (k < n) || decide (2147483648 ≤ k))) H
def sp_refuse (t : Adr) : Sp := fun vs H Q _ => ∃ (p dx l : Addr) (a : Abs) (d : Bool) (k : Int), vs = [.ref p, .int k, .bl d] ∧ H p = some (.ins t.c_Keying dx (KF a l)) ∧ Q (.int (refuse a d k)) H
def sp_end (t : Adr) : Sp := fun vs H Q _ => ∃ (p dx : Addr) (v1 v2 v3 v4 v7 : V) (ta n k : Int), vs = [.ref p, .int k] ∧ H p = some (.ins t.c_Keying dx (kf_Keying v1 v2 v3 v4 (.int ta) (.int n) v7)) ∧
  ∀ H' : Hp, H' p = some (.ins t.c_Keying dx (kf_Keying v1 v2 v3 v4 (.int ta) (.int (n + 1)) v7)) → SB p H H' → Q (.int (if 1000000 < k - ta then 1000000 else k - ta)) H'
def sp_turn (t : Adr) : Sp := fun vs H Q _ => ∃ (p dx : Addr) (v1 v2 v3 v4 v5 v6 v7 : V) (k : Int) (d : Bool), vs = [.ref p, .int k, .bl d] ∧ H p = some (.ins t.c_Keying dx (kf_Keying v1 v2 v3 v4 v5 v6 v7)) ∧
  ∀ H' : Hp, H' p = some (.ins t.c_Keying dx (kf_Keying v1 (.int k) (.bl d) (.bl true) (.int k) v6 v7)) → SB p H H' → Q .non H'
def sp_gapn (t : Adr) : Sp := fun vs H Q _ => ∃ (p dx l : Addr) (a : Abs), vs = [.ref p] ∧ H p = some (.ins t.c_Keying dx (KF a l)) ∧ Q (.int (gapNow a)) H
def sp_hm (t : Adr) : Sp := fun vs H Q _ => ∃ (p dx : Addr) (v1 v2 v3 v4 v5 v6 : V) (l : Addr) (rs : List Rg), vs = [.ref p] ∧ H p = some (.ins t.c_Keying dx (kf_Keying v1 v2 v3 v4 v5 v6 (.ref l))) ∧ RsAt t.c_Reading H l rs ∧ rs.length ≤ 50000 ∧
  ∀ H' : Hp, Same H H' → Q (.int (rs.map Rg.many).sum) H'
def sp_go (t : Adr) (d : Bool) : Sp := fun vs H Q _ => ∃ (p : Addr) (a : Abs) (rs : List Rg) (k : Nat), vs = [.ref p, .int ((k : Nat) : Int)] ∧ KeyAt t H p a rs ∧ Ok a ∧ Rds a rs ∧
  ∀ (H' : Hp) (rs' : List Rg), KeyAt t H' p (Kh315.step a (turnC d k)).1 rs' → Rds (Kh315.step a (turnC d k)).1 rs' → SB p H H' → Q (.int (Kh315.step a (turnC d k)).2.value) H'
def sp_at (t : Adr) : Sp := fun vs H Q _ => ∃ (p : Addr) (a : Abs) (rs : List Rg) (k : Nat), vs = [.ref p, .int ((k : Nat) : Int)] ∧ KeyAt t H p a rs ∧ Ok a ∧ Rds a rs ∧
  ∀ (H' : Hp) (rs' : List Rg), KeyAt t H' p (Kh315.step a (.at_ k)).1 rs' → Rds (Kh315.step a (.at_ k)).1 rs' → SB p H H' → Q (.int (Kh315.step a (.at_ k)).2.value) H'
theorem kf_any {fs : List (Str × V)} {y1 y2 y3 y4 y5 y6 y7 : V} (h : fs = [] ∨ ∃ v1 v2 v3 v4 v5 v6 v7, fs = kf_Keying v1 v2 v3 v4 v5 v6 v7) :
    putF "readings" y7 (putF "lengths_over" y6 (putF "turned_at" y5 (putF "was_pressed" y4 (putF "is_down" y3 (putF "now" y2 (putF "slack" y1 fs)))))) = kf_Keying y1 y2 y3 y4 y5 y6 y7 := by
  rcases h with rfl | ⟨v1, v2, v3, v4, v5, v6, v7, rfl⟩
  · exact kf_Keying_new
  · rw [kf_Keying_put_slack, kf_Keying_put_now, kf_Keying_put_is_down, kf_Keying_put_was_pressed, kf_Keying_put_turned_at, kf_Keying_put_lengths_over, kf_Keying_put_readings]

section
variable {P : Program} {w : World} {K : PySem.W.Frag} {mg : Str → Option Value} {base : Heap} {t : Adr}
theorem ok_is_range (T : Txt K w mg t) : FnOk P w K mg base CX0 1 t.f_is_range t.d_is_range ["lo", "hi", "slack"] sp_isr := by
  refine T.F_is_range.ok sc_is_range (fun vs H Q E h => ?_) (fun cdv A outer s H vs Q E hr h => ?_)
  · obtain ⟨lo, hi, e, rfl, _⟩ := h
    rfl
  · obtain ⟨lo, hi, e, rfl, k⟩ := h
    refine ⟨_, (pss_one (ps_ret (pe_and (pe_cmpR op_ge (pv 0) pe_int (nomark _)) (pe_and (pe_cmpR op_ge (pv 1) (pv 0) (nomark _)) (pe_and (pe_cmpR op_le (pv 1) (pe_glob (v := .int 4096) (by rfl) T.x_GREATEST_UNIT.choose_spec ⟨_, rfl⟩) (nomark _)) (pe_one (pe_cmpR op_lt (pv 2) (pv 0) (nomark _)))))))), ?_⟩
    refine ⟨_, rfl, _, _, rfl, rfl, _, rfl, iteD (fun h1 => ?_) (fun h1 => ?_)⟩
    · refine ⟨_, rfl, _, rfl, _, _, rfl, rfl, _, rfl, iteD (fun h2 => ?_) (fun h2 => ?_)⟩
      · refine ⟨_, rfl, _, _, rfl, rfl, _, rfl, iteD (fun h3 => ?_) (fun h3 => ?_)⟩
        · refine ⟨_, rfl, _, rfl, _, _, rfl, rfl, ?_⟩
          rw [decide_eq_true h1, decide_eq_true h2, decide_eq_true h3] at k
          exact k
        · rw [decide_eq_true h1, decide_eq_true h2, decide_eq_false h3] at k
          exact k
      · rw [decide_eq_true h1, decide_eq_false h2] at k
        exact k
    · rw [decide_eq_false h1] at k
      exact k
theorem ok_Keying_restart (T : Txt K w mg t) : FnOk P w K mg base CX0 1 t.f_Keying_restart t.d_Keying_restart ["self", "readings", "slack"] (sp_restart t) := by
  refine T.F_Keying_restart.ok sc_Keying_restart (fun vs H Q E h => ?_) (fun cdv A outer s H vs Q E hr h => ?_)
  · obtain ⟨p, dx, fs, l, e, rfl, _⟩ := h
    rfl
  · obtain ⟨p, dx, fs, l, e, rfl, hp, hfs, k⟩ := h
    have l0 : fs.length ≤ 7 := by
      rcases hfs with rfl | ⟨v1, v2, v3, v4, v5, v6, v7, rfl⟩
      · exact Nat.zero_le _
      · exact Nat.le_refl 7
    refine ⟨_, (pss_cons (ps_fld (pv 0) (pv 2) rfl)
      (pss_cons (ps_fld (pv 0) pe_int rfl)
      (pss_cons (ps_fld (pv 0) pe_bl rfl)
      (pss_cons (ps_fld (pv 0) pe_bl rfl)
      (pss_cons (ps_fld (pv 0) pe_int rfl)
      (pss_cons (ps_fld (pv 0) pe_int rfl)
      (pss_one (ps_fld (pv 0) (pv 1) rfl)))))))), ?_⟩
    refine ⟨_, rfl, _, rfl, p, _, dx, _, rfl, hp, T.cl_Keying, T.n_Keying_slack, (Nat.lt_of_le_of_lt l0 (by decide)), ?_⟩
    refine ⟨_, rfl, p, _, dx, _, rfl, upd_same, T.cl_Keying, T.n_Keying_now, (Nat.lt_of_le_of_lt (pl0 l0) (by decide)), ?_⟩
    refine ⟨_, rfl, p, _, dx, _, rfl, upd_same, T.cl_Keying, T.n_Keying_is_down, (Nat.lt_of_le_of_lt (pl0 (pl0 l0)) (by decide)), ?_⟩
    refine ⟨_, rfl, p, _, dx, _, rfl, upd_same, T.cl_Keying, T.n_Keying_was_pressed, (Nat.lt_of_le_of_lt (pl0 (pl0 (pl0 l0))) (by decide)), ?_⟩
    refine ⟨_, rfl, p, _, dx, _, rfl, upd_same, T.cl_Keying, T.n_Keying_turned_at, (Nat.lt_of_le_of_lt (pl0 (pl0 (pl0 (pl0 l0)))) (by decide)), ?_⟩
    refine ⟨_, rfl, p, _, dx, _, rfl, upd_same, T.cl_Keying, T.n_Keying_lengths_over, (Nat.lt_of_le_of_lt (pl0 (pl0 (pl0 (pl0 (pl0 l0))))) (by decide)), ?_⟩
    refine ⟨_, rfl, _, rfl, p, _, dx, _, rfl, upd_same, T.cl_Keying, T.n_Keying_readings, (Nat.lt_of_le_of_lt (pl0 (pl0 (pl0 (pl0 (pl0 (pl0 l0)))))) (by decide)), ?_⟩
    exact k _ (Eq.trans upd_same (congrArg (fun q => some (HO.ins t.c_Keying dx q)) (kf_any hfs))) ((((((SB.upd.trans SB.upd).trans SB.upd).trans SB.upd).trans SB.upd).trans SB.upd).trans SB.upd)
theorem ok_Keying_init (T : Txt K w mg t) : FnOk P w K mg base CX0 2 t.f_Keying_init t.d_Keying_init ["self"] (sp_Kinit t) := by
  refine T.F_Keying_init.ok sc_Keying_init (fun vs H Q E h => ?_) (fun cdv A outer s H vs Q E hr h => ?_)
  · obtain ⟨p, dx, rfl, _⟩ := h
    rfl
  · obtain ⟨p, dx, rfl, hp, k⟩ := h
    have G_Keying_restart := ok_Keying_restart (P := P) (base := base) T
    have hr_Keying_restart : Room 1 _ := hr.mono (by decide)
    refine ⟨_, (pss_one (ps_expr (pe_meth (pv 0) T.cl_Keying T.m_Keying_restart G_Keying_restart hr_Keying_restart (bd_Keying_restart T) .nil pass0 (pa_cons (pe_lst pa_nil) (pa_cons pe_int pa_nil))))), ?_⟩
    refine ⟨_, rfl, p, dx, _, rfl, hp, rfl, Nat.zero_le _, fun l hl => ?_⟩
    have hp1 : (upd H l (.lst [])) p = some (.ins t.c_Keying dx []) := Same.upd hl _ _ hp
    refine ⟨p, dx, [], l, 0, rfl, hp1, .inl rfl, fun H' e1 sb => ?_⟩
    refine k H' ⟨dx, l, e1, [], sb _ _ upd_same ?_, trivial⟩ ((SB.of (Same.upd hl)).trans sb)
    exact (ne_of_none hp hl).symm
theorem ok_Keying_begin (T : Txt K w mg t) : FnOk P w K mg base CX0 3 t.f_Keying_begin t.d_Keying_begin ["self", "lo", "hi", "slack"] (sp_begin t) := by
  refine T.F_Keying_begin.ok sc_Keying_begin (fun vs H Q E h => ?_) (fun cdv A outer s H vs Q E hr h => ?_)
  · obtain ⟨p, a, rs, lo, hi, e, rfl, _⟩ := h
    rfl
  · obtain ⟨p, a, rs, lo, hi, e, rfl, ⟨dx, l, hp, hrs⟩, k1, k2⟩ := h
    have G_Keying_restart := ok_Keying_restart (P := P) (base := base) T
    have hr_Keying_restart : Room 1 _ := hr.mono (by decide)
    have G_Reading_init := ok_Reading_init (P := P) (base := base) T
    have hr_Reading_init : Room 2 _ := hr.mono (by decide)
    have G_is_range := ok_is_range (P := P) (base := base) T
    have hr_is_range : Room 1 _ := hr.mono (by decide)
    refine ⟨_, (pss_cons (ps_if (pt_not (pt_truth (pe_call G_is_range hr_is_range (by rfl) T.g_is_range T.k_is_range (bd_is_range T) .nil pass0 (pa_cons (pv 1) (pa_cons (pv 2) (pa_cons (pv 3) pa_nil)))) (fun _ => rfl))) (pss_one (ps_ret (pe_glob (v := .int (-22)) (by rfl) T.x_WRONG_NUMBER.choose_spec ⟨_, rfl⟩))) pss_nil)
      (pss_cons (ps_expr (pe_meth (pv 0) T.cl_Keying T.m_Keying_restart G_Keying_restart hr_Keying_restart (bd_Keying_restart T) .nil pass0 (pa_cons (pe_lst (pa_cons (pe_make T.mk_Reading G_Reading_init hr_Reading_init (by rfl) T.g_Reading (bd_Reading_init T) .nil pass0 (pa_cons (pv 1) (pa_cons (pv 2) (pa_cons (pe_lst pa_nil) (pa_cons pe_str pa_nil))))) pa_nil)) (pa_cons (pv 3) pa_nil))))
      (pss_one (ps_ret pe_int)))), ?_⟩
    refine ⟨_, rfl, _, rfl, _, rfl, _, _, _, rfl, _, rfl, iteNB (fun hb => ?_) (fun hb => ?_)⟩
    · exact k2 ((okRange_int lo hi e).trans hb)
    · refine ⟨_, rfl, p, dx, _, rfl, hp, kf_Keying_lk_restart, _, rfl, _, rfl, Nat.zero_le _, fun l0 hl0 => ?_⟩
      intro y dy ny nd ne
      refine ⟨y, dy, _, _, _, _, rfl, upd_same, fun H2 e2 kp => ⟨rfl, (by show 1 ≤ sizeLine; decide), fun l1 hl1 => ?_⟩⟩
      have s1 : Same H (upd H l0 (.lst [])) := Same.upd hl0
      have s2 : Same (upd H l0 (.lst [])) H2 := Same.made ny nd kp
      have s3 : Same H2 (upd H2 l1 (.lst [V.ref y])) := Same.upd hl1
      have hp3 := s3 _ _ (s2 _ _ (s1 _ _ hp))
      refine ⟨_, rfl, p, dx, _, l1, _, rfl, hp3, .inr ⟨_, _, _, _, _, _, _, rfl⟩, fun H4 e4 sb => ?_⟩
      refine k1 ((okRange_int lo hi e).trans hb) H4 ⟨dx, l1, e4, ?_⟩ ((SB.of ((s1.trans s2).trans s3)).trans sb)
      have hr1 : RsAt t.c_Reading (upd H2 l1 (.lst [V.ref y])) l1 [⟨lo, hi, [], []⟩] := by
        refine ⟨[y], upd_same, ⟨dy, l0, ?_, s3 _ _ (s2 _ _ upd_same), fun z => z⟩, trivial⟩
        rw [mstr_nil] at e2
        exact s3 _ _ e2
      exact hr1.but hp3 len7 sb
theorem ok_Keying_is_wrong_tick (T : Txt K w mg t) : FnOk P w K mg base CX0 1 t.f_Keying_is_wrong_tick t.d_Keying_is_wrong_tick ["self", "t"] (sp_wrong t) := by
  refine T.F_Keying_is_wrong_tick.ok sc_Keying_is_wrong_tick (fun vs H Q E h => ?_) (fun cdv A outer s H vs Q E hr h => ?_)
  · obtain ⟨p, dx, v1, v3, v4, v5, v6, v7, n, tk, rfl, _⟩ := h
    rfl
  · obtain ⟨p, dx, v1, v3, v4, v5, v6, v7, n, tk, rfl, hp, k⟩ := h
    refine ⟨_, (pss_one (ps_ret (pe_or (pe_cmpR op_lt (pv 1) (pe_fld (pv 0) rfl) (nomark _)) (pe_one (pe_cmpR op_ge (pv 1) (pe_glob (v := .int 2147483648) (by rfl) T.x_FIRST_TICK_TOO_LATE.choose_spec ⟨_, rfl⟩) (nomark _)))))), ?_⟩
    refine ⟨_, rfl, _, rfl, p, _, dx, _, _, rfl, hp, T.cl_Keying, T.n_Keying_now, kf_Keying_lk_now, _, _, rfl, rfl, _, rfl, iteD (fun h1 => ?_) (fun h1 => ?_)⟩
    · rw [decide_eq_true h1] at k
      exact k
    · rw [decide_eq_false h1, Bool.false_or] at k
      exact ⟨_, rfl, _, _, rfl, rfl, k⟩
theorem ok_Keying_refusal_to_turn (T : Txt K w mg t) : FnOk P w K mg base CX0 2 t.f_Keying_refusal_to_turn t.d_Keying_refusal_to_turn ["self", "t", "to_down"] (sp_refuse t) := by
  refine T.F_Keying_refusal_to_turn.ok sc_Keying_refusal_to_turn (fun vs H Q E h => ?_) (fun cdv A outer s H vs Q E hr h => ?_)
  · obtain ⟨p, dx, l, a, d, tk, rfl, _⟩ := h
    rfl
  · obtain ⟨p, dx, l, a, d, tk, rfl, hp, k⟩ := h
    have G_Keying_is_wrong_tick := ok_Keying_is_wrong_tick (P := P) (base := base) T
    have hr_Keying_is_wrong_tick : Room 1 _ := hr.mono (by decide)
    refine ⟨_, (pss_cons (ps_if (pt_truth (pe_meth (pv 0) T.cl_Keying T.m_Keying_is_wrong_tick G_Keying_is_wrong_tick hr_Keying_is_wrong_tick (bd_Keying_is_wrong_tick T) .nil pass0 (pa_cons (pv 1) pa_nil)) (fun _ => rfl)) (pss_one (ps_ret (pe_glob (v := .int (-22)) (by rfl) T.x_WRONG_NUMBER.choose_spec ⟨_, rfl⟩))) pss_nil)
      (pss_cons (ps_if (pt_cmpR op_eq (pe_fld (pv 0) rfl) (pv 2) (nomark _)) (pss_one (ps_ret (pe_glob (v := .int (-16)) (by rfl) T.x_KEY_IS_THERE.choose_spec ⟨_, rfl⟩))) pss_nil)
      (pss_cons (ps_if (pw_and (pt_truth (pe_fld (pv 0) rfl) (fun _ => rfl)) (pw_and1 (pt_cmpR op_le (pv 1) (pe_fld (pv 0) rfl) (nomark _)))).pt (pss_one (ps_ret (pe_glob (v := .int (-22)) (by rfl) T.x_WRONG_NUMBER.choose_spec ⟨_, rfl⟩))) pss_nil)
      (pss_cons (ps_if (pt_cmpR op_ge (pe_fld (pv 0) rfl) (pe_glob (v := .int 1024) (by rfl) T.x_MOST_LENGTHS.choose_spec ⟨_, rfl⟩) (nomark _)) (pss_one (ps_ret (pe_glob (v := .int (-28)) (by rfl) T.x_NO_ROOM.choose_spec ⟨_, rfl⟩))) pss_nil)
      (pss_one (ps_ret pe_int)))))), ?_⟩
    unfold refuse at k
    refine ⟨_, rfl, p, dx, _, rfl, hp, kf_Keying_lk_is_wrong_tick, _, rfl, p, dx, _, _, _, _, _, _, _, _, rfl, hp, _, rfl, iteB (fun h1 => ?_) (fun h1 => ?_)⟩
    · rw [Bool.or_eq_true, decide_eq_true_eq, decide_eq_true_eq] at h1
      rw [if_pos h1] at k
      exact k
    · rw [Bool.or_eq_false_iff, decide_eq_false_iff_not, decide_eq_false_iff_not] at h1
      rw [if_neg (fun z => z.elim h1.1 h1.2)] at k
      refine ⟨_, rfl, p, _, dx, _, _, rfl, hp, T.cl_Keying, T.n_Keying_is_down, kf_Keying_lk_is_down, _, rfl, rfl, _, rfl, iteBl (fun h2 => ?_) (fun h2 => ?_)⟩
      · rw [if_pos h2] at k
        exact k
      · rw [if_neg h2] at k
        refine ⟨_, rfl, p, _, dx, _, _, rfl, hp, T.cl_Keying, T.n_Keying_was_pressed, kf_Keying_lk_was_pressed, _, rfl, iteB (fun h3 => ?_) (fun h3 => ?_)⟩
        · refine ⟨_, rfl, _, rfl, p, _, dx, _, _, rfl, hp, T.cl_Keying, T.n_Keying_turned_at, kf_Keying_lk_turned_at, _, _, rfl, rfl, _, rfl, iteD (fun h4 => ?_) (fun h4 => ?_)⟩
          · rw [if_pos ⟨h3, h4⟩] at k
            exact k
          · rw [if_neg (fun z => h4 z.2)] at k
            refine ⟨_, rfl, p, _, dx, _, _, rfl, hp, T.cl_Keying, T.n_Keying_lengths_over, kf_Keying_lk_lengths_over, _, _, rfl, rfl, _, rfl, iteD (fun h5 => ?_) (fun h5 => ?_)⟩
            · rw [if_pos (by omega)] at k
              exact k
            · rw [if_neg (by omega)] at k
              exact k
        · refine iteF ?_
          rw [if_neg (fun z => by rw [h3] at z; cases z.1)] at k
          refine ⟨_, rfl, p, _, dx, _, _, rfl, hp, T.cl_Keying, T.n_Keying_lengths_over, kf_Keying_lk_lengths_over, _, _, rfl, rfl, _, rfl, iteD (fun h5 => ?_) (fun h5 => ?_)⟩
          · rw [if_pos (by omega)] at k
            exact k
          · rw [if_neg (by omega)] at k
            exact k
theorem ok_Keying_end_length (T : Txt K w mg t) : FnOk P w K mg base CX0 1 t.f_Keying_end_length t.d_Keying_end_length ["self", "t"] (sp_end t) := by
  refine T.F_Keying_end_length.ok sc_Keying_end_length (fun vs H Q E h => ?_) (fun cdv A outer s H vs Q E hr h => ?_)
  · obtain ⟨p, dx, v1, v2, v3, v4, v7, ta, n, tk, rfl, _⟩ := h
    rfl
  · obtain ⟨p, dx, v1, v2, v3, v4, v7, ta, n, tk, rfl, hp, k⟩ := h
    refine ⟨_, (pss_cons (ps_fldaug (pv 0) pe_int in_add)
      (pss_one (ps_ret (pe_callB (call_min2 rfl) (by rfl) T.b_min bt_min (pa_cons (pe_op op_sub (pv 1) (pe_fld (pv 0) rfl)) (pa_cons (pe_glob (v := .int 1000000) (by rfl) T.x_LONGEST_LENGTH.choose_spec ⟨_, rfl⟩) pa_nil)))))), ?_⟩
    refine ⟨_, rfl, p, _, dx, _, _, rfl, hp, T.cl_Keying, T.n_Keying_lengths_over, kf_Keying_lk_lengths_over, _, _, rfl, rfl, dx, _, hp, len7', ?_⟩
    rw [kf_Keying_put_lengths_over]
    exact ⟨_, rfl, _, rfl, p, _, dx, _, _, rfl, upd_same, T.cl_Keying, T.n_Keying_turned_at, kf_Keying_lk_turned_at, _, _, rfl, rfl, _, _, rfl, k _ upd_same SB.upd⟩
theorem ok_Keying_turn (T : Txt K w mg t) : FnOk P w K mg base CX0 1 t.f_Keying_turn t.d_Keying_turn ["self", "t", "to_down"] (sp_turn t) := by
  refine T.F_Keying_turn.ok sc_Keying_turn (fun vs H Q E h => ?_) (fun cdv A outer s H vs Q E hr h => ?_)
  · obtain ⟨p, dx, v1, v2, v3, v4, v5, v6, v7, tk, d, rfl, _⟩ := h
    rfl
  · obtain ⟨p, dx, v1, v2, v3, v4, v5, v6, v7, tk, d, rfl, hp, k⟩ := h
    refine ⟨_, (pss_cons (ps_fld (pv 0) (pv 1) rfl)
      (pss_cons (ps_fld (pv 0) (pv 2) rfl)
      (pss_cons (ps_fld (pv 0) pe_bl rfl)
      (pss_one (ps_fld (pv 0) (pv 1) rfl))))), ?_⟩
    refine ⟨_, rfl, _, rfl, p, _, dx, _, rfl, hp, T.cl_Keying, T.n_Keying_now, len7', ?_⟩
    rw [kf_Keying_put_now]
    refine ⟨_, rfl, _, rfl, p, _, dx, _, rfl, upd_same, T.cl_Keying, T.n_Keying_is_down, len7', ?_⟩
    rw [kf_Keying_put_is_down]
    refine ⟨_, rfl, p, _, dx, _, rfl, upd_same, T.cl_Keying, T.n_Keying_was_pressed, len7', ?_⟩
    rw [kf_Keying_put_was_pressed]
    refine ⟨_, rfl, _, rfl, p, _, dx, _, rfl, upd_same, T.cl_Keying, T.n_Keying_turned_at, len7', ?_⟩
    rw [kf_Keying_put_turned_at]
    exact k _ upd_same (((SB.upd.trans SB.upd).trans SB.upd).trans SB.upd)
theorem ok_Keying_gap_that_goes_on (T : Txt K w mg t) : FnOk P w K mg base CX0 1 t.f_Keying_gap_that_goes_on t.d_Keying_gap_that_goes_on ["self"] (sp_gapn t) := by
  refine T.F_Keying_gap_that_goes_on.ok sc_Keying_gap_that_goes_on (fun vs H Q E h => ?_) (fun cdv A outer s H vs Q E hr h => ?_)
  · obtain ⟨p, dx, l, a, rfl, _⟩ := h
    rfl
  · obtain ⟨p, dx, l, a, rfl, hp, k⟩ := h
    refine ⟨_, (pss_cons (ps_if (pw_or (pt_truth (pe_fld (pv 0) rfl) (fun _ => rfl)) (pw_or1 (pt_not (pt_truth (pe_fld (pv 0) rfl) (fun _ => rfl))))).pt (pss_one (ps_ret pe_int)) pss_nil)
      (pss_one (ps_ret (pe_op op_sub (pe_fld (pv 0) rfl) (pe_fld (pv 0) rfl))))), ?_⟩
    unfold gapNow at k
    refine ⟨_, rfl, p, _, dx, _, _, rfl, hp, T.cl_Keying, T.n_Keying_is_down, kf_Keying_lk_is_down, _, rfl, iteB (fun h1 => ?_) (fun h1 => ?_)⟩
    · rw [if_pos (.inl h1)] at k
      exact iteT k
    · refine ⟨_, rfl, p, _, dx, _, _, rfl, hp, T.cl_Keying, T.n_Keying_was_pressed, kf_Keying_lk_was_pressed, _, rfl, iteNB (fun h2 => ?_) (fun h2 => ?_)⟩
      · rw [if_pos (.inr (by rw [h2]; simp))] at k
        exact k
      · rw [if_neg (by rw [h1, h2]; simp)] at k
        exact ⟨_, rfl, p, _, dx, _, _, rfl, hp, T.cl_Keying, T.n_Keying_now, kf_Keying_lk_now, _, rfl, p, _, dx, _, _, rfl, hp, T.cl_Keying, T.n_Keying_turned_at, kf_Keying_lk_turned_at, _, _, rfl, rfl, k⟩
theorem ok_Keying_how_many_may_be (T : Txt K w mg t) : FnOk P w K mg base CX0 2 t.f_Keying_how_many_may_be t.d_Keying_how_many_may_be ["self"] (sp_hm t) := by
  refine T.F_Keying_how_many_may_be.ok sc_Keying_how_many_may_be (fun vs H Q E h => ?_) (fun cdv A outer s H vs Q E hr h => ?_)
  · obtain ⟨p, dx, v1, v2, v3, v4, v5, v6, l, rs, rfl, _⟩ := h
    rfl
  · obtain ⟨p, dx, v1, v2, v3, v4, v5, v6, l, rs, rfl, hp, ⟨as, hl, hall⟩, hlen, k⟩ := h
    have G_Reading_how_many := ok_Reading_how_many (P := P) (base := base) T
    have hr_Reading_how_many : Room 1 _ := hr.mono (by decide)
    refine ⟨_, (pss_one (ps_ret (pe_callB (cr_sum rfl) (by rfl) T.b_sum bt_sum (pa_cons (pe_lc rfl sc_Keying_how_many_may_be.nd (pi_list (pe_fld (pv 0) rfl)) (blkOk_by (own := [("reading", 1)]) (by show blkC ["self", "reading"] (defScope s_Keying_how_many_may_be) _ _ = true; decide +kernel)) (fun _ _ _ _ _ => pg_name (i := 1) sc_Keying_how_many_may_be.nd rfl (Or.inl rfl)) (fun _ _ _ _ _ => pts_nil) (fun _ _ _ _ _ => (pe_meth0 (pv 1) T.cl_Reading T.m_Reading_how_many G_Reading_how_many hr_Reading_how_many (bd_Reading_how_many T) .nil pass0))) pa_nil)))), ?_⟩
    refine ⟨_, rfl, p, _, dx, _, _, rfl, hp, T.cl_Keying, T.n_Keying_readings, kf_Keying_lk_readings, l, rfl, ⟨_, SqL.of hl⟩, fun D hD => ?_⟩
    refine lc_list (K := K) (a := l) (xs := as.map V.ref) (fun j H' => Same H H' ∧ H' D = some (.lst (((rs.take j).map Rg.many).map V.int)))
      ⟨Same.upd hD, upd_same⟩ (fun i H' _ ⟨s1, _⟩ => SqL.of (s1 _ _ hl)) (fun i y H' hi ⟨s1, hd⟩ => ?_) (fun H' ⟨s1, hd⟩ => ?_)
    · obtain ⟨x, hx, rfl⟩ := ref_at hi
      obtain ⟨r, hr', hrd⟩ := hall.get hx
      have hir : i < rs.length := (List.getElem?_eq_some_iff.mp hr').1
      obtain ⟨dx', lr, h1, h2, hN⟩ := hrd.same s1
      refine ⟨rfl, ?_⟩
      refine ⟨_, rfl, x, dx', _, rfl, h1, kf_Reading_lk_how_many, x, r, rfl, ⟨dx', lr, h1, h2, hN⟩, _, hd, ?_, s1.but hD, ?_⟩
      · rw [List.length_map, List.length_map, List.length_take]
        exact sl10 (by omega)
      · rw [take_next hr', List.map_append, List.map_append]
        exact upd_same
    · rw [List.length_map, hall.len, List.take_length] at hd
      exact ⟨D, rs.map Rg.many, rfl, SqL.of hd, k H' s1⟩
end
end Hk

set_option Elab.async false
set_option linter.all false
set_option maxRecDepth 100000
set_option maxHeartbeats 2000000
namespace Hk
open PySem PySem.Spec PyProof.Rows L2
open Kh315 (Abs letter)

theorem goes_e6 {a : Abs} {d : Bool} {k : Nat} (h : a.last.isSome = true) : (((Kh315.goes a d k).lens.length : Nat) : Int) = ((a.lens.length : Nat) : Int) + 1 := by
  rw [goes_lens h, List.length_append]
  simp only [List.length_cons, List.length_nil]
  omega
theorem KF_goes {a : Abs} {d : Bool} {k : Nat} {l : Addr} (h : a.last.isSome = true) : KF (Kh315.goes a d k) l = kf_Keying (.int ((a.e : Nat) : Int)) (.int ((k : Nat) : Int)) (.bl d) (.bl true) (.int ((k : Nat) : Int)) (.int (((a.lens.length : Nat) : Int) + 1)) (.ref l) := by
  show kf_Keying (.int ((a.e : Nat) : Int)) (.int ((k : Nat) : Int)) (.bl d) (.bl true) (.int ((k : Nat) : Int)) (.int (((Kh315.goes a d k).lens.length : Nat) : Int)) (.ref l) = _
  rw [goes_e6 h]
theorem KF_first {a : Abs} {d : Bool} {k : Nat} {l : Addr} (h : a.last = none) : KF (Kh315.goes a d k) l = kf_Keying (.int ((a.e : Nat) : Int)) (.int ((k : Nat) : Int)) (.bl d) (.bl true) (.int ((k : Nat) : Int)) (.int ((a.lens.length : Nat) : Int)) (.ref l) := by
  show kf_Keying (.int ((a.e : Nat) : Int)) (.int ((k : Nat) : Int)) (.bl d) (.bl true) (.int ((k : Nat) : Int)) (.int (((Kh315.goes a d k).lens.length : Nat) : Int)) (.ref l) = _
  rw [goes_first h]
section
variable {P : Program} {w : World} {K : PySem.W.Frag} {mg : Str → Option Value} {base : Heap} {t : Adr}
theorem ok_Keying_down (T : Txt K w mg t) : FnOk P w K mg base CX0 6 t.f_Keying_down t.d_Keying_down ["self", "t"] (sp_go t true) := by
  refine T.F_Keying_down.ok sc_Keying_down (fun vs H Q E h => ?_) (fun cdv A outer s H vs Q E hr h => ?_)
  · obtain ⟨p, a, rs, tk, rfl, _⟩ := h
    rfl
  · obtain ⟨p, a, rs, tk, rfl, ⟨dx, l, hp, hrs⟩, ok, R, k⟩ := h
    have G_Keying_how_many_may_be := ok_Keying_how_many_may_be (P := P) (base := base) T
    have hr_Keying_how_many_may_be : Room 2 _ := hr.mono (by decide)
    have G_Keying_turn := ok_Keying_turn (P := P) (base := base) T
    have hr_Keying_turn : Room 1 _ := hr.mono (by decide)
    have G_read_gap := ok_read_gap (P := P) (base := base) T
    have hr_read_gap : Room 5 _ := hr.mono (by decide)
    have G_Keying_end_length := ok_Keying_end_length (P := P) (base := base) T
    have hr_Keying_end_length : Room 1 _ := hr.mono (by decide)
    have G_Keying_refusal_to_turn := ok_Keying_refusal_to_turn (P := P) (base := base) T
    have hr_Keying_refusal_to_turn : Room 2 _ := hr.mono (by decide)
    refine ⟨_, (pss_cons (ps_set (i := 2) sc_Keying_down.nd rfl (Or.inl rfl) (pe_meth (pv 0) T.cl_Keying T.m_Keying_refusal_to_turn G_Keying_refusal_to_turn hr_Keying_refusal_to_turn (bd_Keying_refusal_to_turn T) .nil pass0 (pa_cons (pv 1) (pa_cons pe_bl pa_nil))))
      (pss_cons (ps_if (pt_cmpR op_ne (pv 2) pe_int (nomark _)) (pss_one (ps_ret (pv 2))) pss_nil)
      (pss_cons (ps_if (pt_truth (pe_fld (pv 0) rfl) (fun _ => rfl)) (pss_one (ps_fld (pv 0) (pe_call G_read_gap hr_read_gap (by rfl) T.g_read_gap T.k_read_gap (bd_read_gap T) .nil pass0 (pa_cons (pe_fld (pv 0) rfl) (pa_cons (pe_meth (pv 0) T.cl_Keying T.m_Keying_end_length G_Keying_end_length hr_Keying_end_length (bd_Keying_end_length T) .nil pass0 (pa_cons (pv 1) pa_nil)) (pa_cons (pe_fld (pv 0) rfl) pa_nil)))) rfl)) pss_nil)
      (pss_cons (ps_expr (pe_meth (pv 0) T.cl_Keying T.m_Keying_turn G_Keying_turn hr_Keying_turn (bd_Keying_turn T) .nil pass0 (pa_cons (pv 1) (pa_cons pe_bl pa_nil))))
      (pss_one (ps_ret (pe_meth0 (pv 0) T.cl_Keying T.m_Keying_how_many_may_be G_Keying_how_many_may_be hr_Keying_how_many_may_be (bd_Keying_how_many_may_be T) .nil pass0))))))), ?_⟩
    refine ⟨_, rfl, p, dx, _, rfl, hp, kf_Keying_lk_refusal_to_turn, _, rfl, p, dx, l, a, true, _, rfl, hp, ?_⟩
    refine ⟨_, rfl, rfl, _, rfl, iteNI (fun h0 => ?_) (fun h0 => ?_)⟩
    · refine ⟨_, rfl, ?_⟩
      have kk := k H rs
      rw [refuse_no (a := a) (d := true) (t := tk) h0] at kk
      exact kk ⟨dx, l, hp, hrs⟩ R (SB.refl p H)
    · obtain ⟨g1, g2, g3, g4, g5⟩ := refuse_go (a := a) (d := true) (t := tk) h0
      have hla := refuse_last (a := a) (d := true) (t := tk) ok h0
      have ok2 : Ok (Kh315.goes a true tk) := ok.goes g1 g2 g3 g4
      rw [g5] at k
      refine ⟨_, rfl, p, _, dx, _, _, rfl, hp, T.cl_Keying, T.n_Keying_was_pressed, kf_Keying_lk_was_pressed, _, rfl, iteB (fun hs => ?_) (fun hs => ?_)⟩
      · obtain ⟨s0, hs0⟩ := Option.isSome_iff_exists.mp hs
        have R2 := R.down (t := tk) ok g3 hs0
        refine ⟨_, rfl, p, _, dx, _, _, rfl, hp, T.cl_Keying, T.n_Keying_readings, kf_Keying_lk_readings,
          _, rfl, p, dx, _, rfl, hp, kf_Keying_lk_end_length, _, rfl, p, dx, _, _, _, _, _, _, _, _, rfl, hp, fun H1 hp1 sb1 => ?_⟩
        rw [← over_int hla]
        refine ⟨_, rfl, p, _, dx, _, _, rfl, hp1, T.cl_Keying, T.n_Keying_slack, kf_Keying_lk_slack, l, rs, _, _, rfl, hrs.but hp len7 sb1, R.len ok, R.fine ok, fun l2 H2 s2 h2 => ?_⟩
        have hp2 := s2 _ _ hp1
        refine ⟨_, rfl, p, _, dx, _, rfl, hp2, T.cl_Keying, T.n_Keying_readings, len7', ?_⟩
        rw [kf_Keying_put_readings]
        have h2' := h2.but hp2 len7 (SB.upd (o := .ins t.c_Keying dx (kf_Keying (.int ((a.e : Nat) : Int)) (.int ((a.now : Nat) : Int)) (.bl a.down) (.bl a.last.isSome) (.int ((a.last.getD 0 : Nat) : Int)) (.int (((a.lens.length : Nat) : Int) + 1)) (.ref l2))))
        refine ⟨_, rfl, p, dx, _, rfl, upd_same, kf_Keying_lk_turn, _, rfl, p, dx, _, _, _, _, _, _, _, _, _, rfl, upd_same, fun H3 hp3 sb3 => ?_⟩
        have h3 := h2'.but upd_same len7 sb3
        refine ⟨_, rfl, p, dx, _, rfl, hp3, kf_Keying_lk_how_many_may_be, p, dx, _, _, _, _, _, _, l2, _, rfl, hp3, h3, Nat.le_trans (R2.len ok2) (by decide), fun H4 s4 => ?_⟩
        rw [← R2.count]
        refine k H4 _ ⟨dx, l2, ?_, h3.same s4⟩ R2 ((((sb1.same s2).trans SB.upd).trans sb3).same s4)
        rw [KF_goes hs]
        exact s4 _ _ hp3
      · have hs0 : a.last = none := by simpa using hs
        have R2 := R.first (t := tk) ok hs0
        refine ⟨_, rfl, p, dx, _, rfl, hp, kf_Keying_lk_turn, _, rfl, p, dx, _, _, _, _, _, _, _, _, _, rfl, hp, fun H3 hp3 sb3 => ?_⟩
        have h3 := hrs.but hp len7 sb3
        refine ⟨_, rfl, p, dx, _, rfl, hp3, kf_Keying_lk_how_many_may_be, p, dx, _, _, _, _, _, _, l, _, rfl, hp3, h3, Nat.le_trans (R2.len ok2) (by decide), fun H4 s4 => ?_⟩
        rw [← R2.count]
        refine k H4 _ ⟨dx, l, ?_, h3.same s4⟩ R2 (sb3.same s4)
        rw [KF_first hs0]
        exact s4 _ _ hp3
theorem ok_Keying_up (T : Txt K w mg t) : FnOk P w K mg base CX0 6 t.f_Keying_up t.d_Keying_up ["self", "t"] (sp_go t false) := by
  refine T.F_Keying_up.ok sc_Keying_up (fun vs H Q E h => ?_) (fun cdv A outer s H vs Q E hr h => ?_)
  · obtain ⟨p, a, rs, tk, rfl, _⟩ := h
    rfl
  · obtain ⟨p, a, rs, tk, rfl, ⟨dx, l, hp, hrs⟩, ok, R, k⟩ := h
    have G_Keying_how_many_may_be := ok_Keying_how_many_may_be (P := P) (base := base) T
    have hr_Keying_how_many_may_be : Room 2 _ := hr.mono (by decide)
    have G_Keying_turn := ok_Keying_turn (P := P) (base := base) T
    have hr_Keying_turn : Room 1 _ := hr.mono (by decide)
    have G_read_mark := ok_read_mark (P := P) (base := base) T
    have hr_read_mark : Room 5 _ := hr.mono (by decide)
    have G_Keying_end_length := ok_Keying_end_length (P := P) (base := base) T
    have hr_Keying_end_length : Room 1 _ := hr.mono (by decide)
    have G_Keying_refusal_to_turn := ok_Keying_refusal_to_turn (P := P) (base := base) T
    have hr_Keying_refusal_to_turn : Room 2 _ := hr.mono (by decide)
    refine ⟨_, (pss_cons (ps_set (i := 2) sc_Keying_up.nd rfl (Or.inl rfl) (pe_meth (pv 0) T.cl_Keying T.m_Keying_refusal_to_turn G_Keying_refusal_to_turn hr_Keying_refusal_to_turn (bd_Keying_refusal_to_turn T) .nil pass0 (pa_cons (pv 1) (pa_cons pe_bl pa_nil))))
      (pss_cons (ps_if (pt_cmpR op_ne (pv 2) pe_int (nomark _)) (pss_one (ps_ret (pv 2))) pss_nil)
      (pss_cons (ps_fld (pv 0) (pe_call G_read_mark hr_read_mark (by rfl) T.g_read_mark T.k_read_mark (bd_read_mark T) .nil pass0 (pa_cons (pe_fld (pv 0) rfl) (pa_cons (pe_meth (pv 0) T.cl_Keying T.m_Keying_end_length G_Keying_end_length hr_Keying_end_length (bd_Keying_end_length T) .nil pass0 (pa_cons (pv 1) pa_nil)) (pa_cons (pe_fld (pv 0) rfl) pa_nil)))) rfl)
      (pss_cons (ps_expr (pe_meth (pv 0) T.cl_Keying T.m_Keying_turn G_Keying_turn hr_Keying_turn (bd_Keying_turn T) .nil pass0 (pa_cons (pv 1) (pa_cons pe_bl pa_nil))))
      (pss_one (ps_ret (pe_meth0 (pv 0) T.cl_Keying T.m_Keying_how_many_may_be G_Keying_how_many_may_be hr_Keying_how_many_may_be (bd_Keying_how_many_may_be T) .nil pass0))))))), ?_⟩
    refine ⟨_, rfl, p, dx, _, rfl, hp, kf_Keying_lk_refusal_to_turn, _, rfl, p, dx, l, a, false, _, rfl, hp, ?_⟩
    refine ⟨_, rfl, rfl, _, rfl, iteNI (fun h0 => ?_) (fun h0 => ?_)⟩
    · refine ⟨_, rfl, ?_⟩
      have kk := k H rs
      rw [refuse_no (a := a) (d := false) (t := tk) h0] at kk
      exact kk ⟨dx, l, hp, hrs⟩ R (SB.refl p H)
    · obtain ⟨g1, g2, g3, g4, g5⟩ := refuse_go (a := a) (d := false) (t := tk) h0
      have hla := refuse_last (a := a) (d := false) (t := tk) ok h0
      have ok2 : Ok (Kh315.goes a false tk) := ok.goes g1 g2 g3 g4
      rw [g5] at k
      obtain ⟨s0, hs0⟩ := down_last ok g3
      have hs : a.last.isSome = true := by rw [hs0]; rfl
      have R2 := R.up (t := tk) ok g3 (late_false g1).1
      refine ⟨_, rfl, p, _, dx, _, _, rfl, hp, T.cl_Keying, T.n_Keying_readings, kf_Keying_lk_readings,
        _, rfl, p, dx, _, rfl, hp, kf_Keying_lk_end_length, _, rfl, p, dx, _, _, _, _, _, _, _, _, rfl, hp, fun H1 hp1 sb1 => ?_⟩
      rw [← over_int hla]
      refine ⟨_, rfl, p, _, dx, _, _, rfl, hp1, T.cl_Keying, T.n_Keying_slack, kf_Keying_lk_slack, l, rs, _, _, rfl, hrs.but hp len7 sb1, R.len ok, R.fine ok, fun l2 H2 s2 h2 => ?_⟩
      have hp2 := s2 _ _ hp1
      refine ⟨_, rfl, p, _, dx, _, rfl, hp2, T.cl_Keying, T.n_Keying_readings, len7', ?_⟩
      rw [kf_Keying_put_readings]
      have h2' := h2.but hp2 len7 (SB.upd (o := .ins t.c_Keying dx (kf_Keying (.int ((a.e : Nat) : Int)) (.int ((a.now : Nat) : Int)) (.bl a.down) (.bl a.last.isSome) (.int ((a.last.getD 0 : Nat) : Int)) (.int (((a.lens.length : Nat) : Int) + 1)) (.ref l2))))
      refine ⟨_, rfl, p, dx, _, rfl, upd_same, kf_Keying_lk_turn, _, rfl, p, dx, _, _, _, _, _, _, _, _, _, rfl, upd_same, fun H3 hp3 sb3 => ?_⟩
      have h3 := h2'.but upd_same len7 sb3
      refine ⟨_, rfl, p, dx, _, rfl, hp3, kf_Keying_lk_how_many_may_be, p, dx, _, _, _, _, _, _, l2, _, rfl, hp3, h3, Nat.le_trans (R2.len ok2) (by decide), fun H4 s4 => ?_⟩
      rw [← R2.count]
      refine k H4 _ ⟨dx, l2, ?_, h3.same s4⟩ R2 ((((sb1.same s2).trans SB.upd).trans sb3).same s4)
      rw [KF_goes hs]
      exact s4 _ _ hp3
theorem ok_Keying_at (T : Txt K w mg t) : FnOk P w K mg base CX0 5 t.f_Keying_at t.d_Keying_at ["self", "t"] (sp_at t) := by
  refine T.F_Keying_at.ok sc_Keying_at (fun vs H Q E h => ?_) (fun cdv A outer s H vs Q E hr h => ?_)
  · obtain ⟨p, a, rs, tk, rfl, _⟩ := h
    rfl
  · obtain ⟨p, a, rs, tk, rfl, ⟨dx, l, hp, hrs⟩, ok, R, k⟩ := h
    have G_Keying_how_many_may_be := ok_Keying_how_many_may_be (P := P) (base := base) T
    have hr_Keying_how_many_may_be : Room 2 _ := hr.mono (by decide)
    have G_read_held_key := ok_read_held_key (P := P) (base := base) T
    have hr_read_held_key : Room 4 _ := hr.mono (by decide)
    have G_Keying_is_wrong_tick := ok_Keying_is_wrong_tick (P := P) (base := base) T
    have hr_Keying_is_wrong_tick : Room 1 _ := hr.mono (by decide)
    refine ⟨_, (pss_cons (ps_if (pt_truth (pe_meth (pv 0) T.cl_Keying T.m_Keying_is_wrong_tick G_Keying_is_wrong_tick hr_Keying_is_wrong_tick (bd_Keying_is_wrong_tick T) .nil pass0 (pa_cons (pv 1) pa_nil)) (fun _ => rfl)) (pss_one (ps_ret (pe_glob (v := .int (-22)) (by rfl) T.x_WRONG_NUMBER.choose_spec ⟨_, rfl⟩))) pss_nil)
      (pss_cons (ps_fld (pv 0) (pv 1) rfl)
      (pss_cons (ps_if (pt_truth (pe_fld (pv 0) rfl) (fun _ => rfl)) (pss_one (ps_fld (pv 0) (pe_call G_read_held_key hr_read_held_key (by rfl) T.g_read_held_key T.k_read_held_key (bd_read_held_key T) .nil pass0 (pa_cons (pe_fld (pv 0) rfl) (pa_cons (pe_op op_sub (pv 1) (pe_fld (pv 0) rfl)) (pa_cons (pe_fld (pv 0) rfl) pa_nil)))) rfl)) pss_nil)
      (pss_one (ps_ret (pe_meth0 (pv 0) T.cl_Keying T.m_Keying_how_many_may_be G_Keying_how_many_may_be hr_Keying_how_many_may_be (bd_Keying_how_many_may_be T) .nil pass0)))))), ?_⟩
    refine ⟨_, rfl, p, dx, _, rfl, hp, kf_Keying_lk_is_wrong_tick, _, rfl, p, dx, _, _, _, _, _, _, _, _, rfl, hp, _, rfl, iteB (fun h1 => ?_) (fun h1 => ?_)⟩
    · have hl : Kh315.late a tk = true := by
        rw [Bool.or_eq_true, decide_eq_true_eq, decide_eq_true_eq] at h1
        exact (late_iff a tk).mpr h1
      have e : Kh315.step a (.at_ tk) = (a, Kh315.say (-22)) := if_pos hl
      rw [e] at k
      exact k H rs ⟨dx, l, hp, hrs⟩ R (SB.refl p H)
    · have hl : Kh315.late a tk = false := by
        cases q : Kh315.late a tk with
        | false => rfl
        | true =>
          have z := (late_iff a tk).mp q
          rw [Bool.or_eq_false_iff, decide_eq_false_iff_not, decide_eq_false_iff_not] at h1
          exact absurd z (fun z => z.elim h1.1 h1.2)
      obtain ⟨ln, _⟩ := late_false hl
      have e : Kh315.step a (.at_ tk) = ({ a with now := tk }, Kh315.say (({ a with now := tk } : Abs).units.length : Nat)) := if_neg (by rw [hl]; simp)
      have ok2 : Ok { a with now := tk } := ok.at_ hl
      rw [e] at k
      refine ⟨_, rfl, _, rfl, p, _, dx, _, rfl, hp, T.cl_Keying, T.n_Keying_now, len7', ?_⟩
      rw [kf_Keying_put_now]
      have hrs1 := hrs.but hp len7 (SB.upd (o := .ins t.c_Keying dx (kf_Keying (.int ((a.e : Nat) : Int)) (.int ((tk : Nat) : Int)) (.bl a.down) (.bl a.last.isSome) (.int ((a.last.getD 0 : Nat) : Int)) (.int ((a.lens.length : Nat) : Int)) (.ref l))))
      refine ⟨_, rfl, p, _, dx, _, _, rfl, upd_same, T.cl_Keying, T.n_Keying_is_down, kf_Keying_lk_is_down, _, rfl, iteB (fun hd => ?_) (fun hd => ?_)⟩
      · obtain ⟨s0, hs0⟩ := down_last ok hd
        have hsn := ok.lastnow s0 hs0
        have R2 := R.atDown (t := tk) hd hs0 ln
        have e2 : (tk : Int) - ((a.last.getD 0 : Nat) : Int) = ((tk - s0 : Nat) : Int) := by
          rw [hs0]
          show (tk : Int) - (s0 : Int) = _
          omega
        refine ⟨_, rfl, p, _, dx, _, _, rfl, upd_same, T.cl_Keying, T.n_Keying_readings, kf_Keying_lk_readings,
          _, rfl, _, rfl, p, _, dx, _, _, rfl, upd_same, T.cl_Keying, T.n_Keying_turned_at, kf_Keying_lk_turned_at, _, _, rfl, rfl,
          _, rfl, p, _, dx, _, _, rfl, upd_same, T.cl_Keying, T.n_Keying_slack, kf_Keying_lk_slack, l, rs, _, _, rfl, hrs1, R.len ok, fun l2 H2 s2 h2 => ?_⟩
        rw [e2] at h2
        have hp2 := s2 _ _ (show upd _ p _ p = some _ from upd_same)
        refine ⟨_, rfl, p, _, dx, _, rfl, hp2, T.cl_Keying, T.n_Keying_readings, len7', ?_⟩
        rw [kf_Keying_put_readings]
        have h3 := h2.but hp2 len7 (SB.upd (o := .ins t.c_Keying dx (kf_Keying (.int ((a.e : Nat) : Int)) (.int ((tk : Nat) : Int)) (.bl a.down) (.bl a.last.isSome) (.int ((a.last.getD 0 : Nat) : Int)) (.int ((a.lens.length : Nat) : Int)) (.ref l2))))
        refine ⟨_, rfl, p, dx, _, rfl, upd_same, kf_Keying_lk_how_many_may_be, p, dx, _, _, _, _, _, _, l2, _, rfl, upd_same, h3, Nat.le_trans (R2.len ok2) (by decide), fun H4 s4 => ?_⟩
        rw [← R2.count]
        exact k H4 _ ⟨dx, l2, s4 _ _ upd_same, h3.same s4⟩ R2 (((SB.upd.same s2).trans SB.upd).same s4)
      · have R2 := R.atUp (t := tk) hd
        refine ⟨_, rfl, p, dx, _, rfl, upd_same, kf_Keying_lk_how_many_may_be, p, dx, _, _, _, _, _, _, l, _, rfl, upd_same, hrs1, Nat.le_trans (R2.len ok2) (by decide), fun H4 s4 => ?_⟩
        rw [← R2.count]
        exact k H4 _ ⟨dx, l, s4 _ _ upd_same, hrs1.same s4⟩ R2 (SB.upd.same s4)
end
end Hk

set_option Elab.async false
set_option linter.all false
set_option maxRecDepth 100000
set_option maxHeartbeats 2000000
namespace Hk
open PySem PySem.Spec PyProof.Rows L2
open Kh315 (Abs letter)

/-- what a call answers, as numbers -/
def ansOf (r : Kh315.Ans) : List Int := r.value :: r.out.map Int.ofNat
theorem bytes_ints (p : List Nat) : bytes p = (p.map Int.ofNat).map V.int := by
  unfold bytes
  rw [List.map_map]
  rfl
def sp_read (t : Adr) : Sp := fun vs H Q _ => ∃ (p : Addr) (a : Abs) (rs : List Rg), vs = [.ref p] ∧ KeyAt t H p a rs ∧ Ok a ∧ Rds a rs ∧ ∀ (l' : Addr) (H' : Hp), Same H H' → H' l' = some (.lst ((ansOf (Kh315.step a .read).2).map V.int)) → Q (.ref l') H'
def sp_units (t : Adr) : Sp := fun vs H Q _ => ∃ (p : Addr) (a : Abs) (rs : List Rg), vs = [.ref p] ∧ KeyAt t H p a rs ∧ Ok a ∧ Rds a rs ∧ ∀ (l' : Addr) (H' : Hp), Same H H' → H' l' = some (.lst ((ansOf (Kh315.step a .units).2).map V.int)) → Q (.ref l') H'
theorem read_none {a : Abs} (h : a.units = []) : ansOf (Kh315.step a .read).2 = [-61] := by
  show ansOf (match a.units with | [] => Kh315.say (-61) | _ => ⟨(a.text.length : Nat), a.text⟩) = _
  rw [h]
  rfl
theorem read_some {a : Abs} (h : a.units ≠ []) : ansOf (Kh315.step a .read).2 = ((a.text.length : Nat) : Int) :: a.text.map Int.ofNat := by
  show ansOf (match a.units with | [] => Kh315.say (-61) | _ => ⟨(a.text.length : Nat), a.text⟩) = _
  cases q : a.units with
  | nil => exact absurd q h
  | cons u us => rfl
theorem units_ans (a : Abs) : ansOf (Kh315.step a .units).2 = [((a.units.length : Nat) : Int), ((a.units.headD 0 : Nat) : Int), ((a.units.getLastD 0 : Nat) : Int)] := rfl
theorem RowsAt.snoc {H : Hp} {ps : List Addr} {rows : List (List Nat)} {p : Addr} {y : List Nat} (R : RowsAt H ps rows) (h : H p = some (.lst (bytes y))) : RowsAt H (ps ++ [p]) (rows ++ [y]) := by
  refine ⟨by rw [List.length_append, List.length_append, R.len]; rfl, fun i q z h1 h2 => ?_⟩
  by_cases hi : i < ps.length
  · rw [List.getElem?_append_left hi] at h1
    rw [List.getElem?_append_left (by rw [← R.len]; exact hi)] at h2
    exact R.at_ i q z h1 h2
  · rw [List.getElem?_append_right (by omega)] at h1
    rw [List.getElem?_append_right (by rw [← R.len]; omega), ← R.len] at h2
    have e : i - ps.length = 0 := by
      have := (List.getElem?_eq_some_iff.mp h1).1
      simp at this
      omega
    rw [e] at h1 h2
    have h1 : p = q := by simpa using h1
    have h2 : y = z := by simpa using h2
    subst h1
    subst h2
    exact h
theorem RowsAt.grow {H : Hp} {ps : List Addr} {rows : List (List Nat)} {q : Addr} {o : HO} (R : RowsAt H ps rows) (h : ∀ p ∈ ps, p ≠ q) : RowsAt (upd H q o) ps rows :=
  ⟨R.len, fun i p y h1 h2 => by rw [upd_ne (h p (List.mem_of_getElem? h1))]; exact R.at_ i p y h1 h2⟩
section
variable {P : Program} {w : World} {K : PySem.W.Frag} {mg : Str → Option Value} {base : Heap} {t : Adr}
theorem ok_Keying_read (T : Txt K w mg t) : FnOk P w K mg base CX0 4 t.f_Keying_read t.d_Keying_read ["self"] (sp_read t) := by
  refine T.F_Keying_read.ok sc_Keying_read (fun vs H Q E h => ?_) (fun cdv A outer s H vs Q E hr h => ?_)
  · obtain ⟨p, a, rs, rfl, _⟩ := h
    rfl
  · obtain ⟨p, a, rs, rfl, ⟨dx, l, hp, ⟨as, hl, hall⟩⟩, ok, R, k⟩ := h
    have G_common_beginning := ok_common_beginning (P := P) (base := base) T
    have hr_common_beginning : Room 1 _ := hr.mono (by decide)
    have G_Reading_row_in_gap := ok_Reading_row_in_gap (P := P) (base := base) T
    have hr_Reading_row_in_gap : Room 3 _ := hr.mono (by decide)
    have G_Keying_gap_that_goes_on := ok_Keying_gap_that_goes_on (P := P) (base := base) T
    have hr_Keying_gap_that_goes_on : Room 1 _ := hr.mono (by decide)
    have hlen := R.len ok
    refine ⟨_, (pss_cons (ps_if (pt_cmpR op_eq (pe_callB call_len_seq (by rfl) T.b_len bt_len (pa_cons (pe_fld (pv 0) rfl) pa_nil)) pe_int (nomark _)) (pss_one (ps_ret (pe_lst (pa_cons (pe_glob (v := .int (-61)) (by rfl) T.x_NO_UNIT.choose_spec ⟨_, rfl⟩) pa_nil)))) pss_nil)
      (pss_cons (ps_set (i := 1) sc_Keying_read.nd rfl (Or.inr rfl) (pe_meth0 (pv 0) T.cl_Keying T.m_Keying_gap_that_goes_on G_Keying_gap_that_goes_on hr_Keying_gap_that_goes_on (bd_Keying_gap_that_goes_on T) .nil pass0))
      (pss_cons (ps_set (i := 2) sc_Keying_read.nd rfl (Or.inl rfl) (pe_call G_common_beginning hr_common_beginning (by rfl) T.g_common_beginning T.k_common_beginning (bd_common_beginning T) .nil pass0 (pa_cons (pe_lc rfl sc_Keying_read.nd (pi_list (pe_fld (pv 0) rfl)) (blkOk_by (own := [("reading", 3)]) (by show blkC ["self", "gap", "told", "reading"] (defScope s_Keying_read) _ _ = true; decide +kernel)) (fun _ _ _ _ _ => pg_name (i := 3) sc_Keying_read.nd rfl (Or.inl rfl)) (fun _ _ _ _ _ => pts_nil) (fun _ _ _ _ _ => (pe_meth (pv 3) T.cl_Reading T.m_Reading_row_in_gap G_Reading_row_in_gap hr_Reading_row_in_gap (bd_Reading_row_in_gap T) .nil pass0 (pa_cons (pv 1) (pa_cons (pe_fldB (K := K) rfl (pv 0) rfl) pa_nil))))) pa_nil)))
      (pss_one (ps_ret (pe_op op_cat (pe_lst (pa_cons (pe_callB call_len_seq (by rfl) T.b_len bt_len (pa_cons (pv 2) pa_nil)) pa_nil)) (pv 2))))))), ?_⟩
    refine ⟨_, rfl, p, _, dx, _, _, rfl, hp, T.cl_Keying, T.n_Keying_readings, kf_Keying_lk_readings, l, _, rfl, .inl (SqL.of hl), rfl, _, rfl, iteI (fun h0 => ?_) (fun h0 => ?_)⟩
    · rw [List.length_map, hall.len] at h0
      have hrs : rs = [] := List.length_eq_zero_iff.mp (by omega)
      refine ⟨(by show 1 ≤ sizeLine; decide), fun q hq => ?_⟩
      refine k q _ (Same.upd hq) ?_
      rw [read_none (R.nil_iff.mpr hrs)]
      exact upd_same
    · rw [List.length_map, hall.len] at h0
      have hne : rs ≠ [] := fun e => h0 (by rw [e]; rfl)
      refine ⟨_, rfl, p, dx, _, rfl, hp, kf_Keying_lk_gap_that_goes_on, p, dx, l, a, rfl, hp, ?_⟩
      refine ⟨_, rfl, p, _, dx, _, _, rfl, hp, T.cl_Keying, T.n_Keying_readings, kf_Keying_lk_readings, l, rfl, ⟨_, SqL.of hl⟩, fun D hD => ?_⟩
      refine lc_list (K := K) (a := l) (xs := as.map V.ref) (fun j H' => ∃ ps : List Addr, Same H H' ∧ H' D = some (.lst (ps.map V.ref)) ∧ RowsAt H' ps ((rs.take j).map fun r => r.rowIn (gapNow a) a.e) ∧ ∀ p ∈ ps, p ≠ D)
        ⟨[], Same.upd hD, upd_same, ⟨rfl, fun i p y h1 _ => by simp at h1⟩, fun p hp => by cases hp⟩ (fun i H' _ ⟨_, s1, _⟩ => SqL.of (s1 _ _ hl)) (fun i y H' hi ⟨ps, s1, hd, RA, hN⟩ => ?_) (fun H' ⟨ps, s1, hd, RA, hN⟩ => ?_)
      · obtain ⟨x, hx, rfl⟩ := ref_at hi
        obtain ⟨r, hr', hrd⟩ := hall.get hx
        have hir : i < rs.length := (List.getElem?_eq_some_iff.mp hr').1
        have hrd2 := (hrd.new hD).same s1
        obtain ⟨dx', lr, h1, h2, hN1⟩ := id hrd2
        refine ⟨rfl, ?_⟩
        refine ⟨_, rfl, x, dx', _, rfl, h1, kf_Reading_lk_row_in_gap, _, rfl, _, rfl, p, _, dx, _, _, rfl, s1 _ _ hp, T.cl_Keying, T.n_Keying_slack, kf_Keying_lk_slack, (fun a => a = D), x, r, _, _, rfl, hrd2, NT.one hd, R.fine ok r (List.mem_of_getElem? hr'), fun l2 H2 s2 hl2 hN2 => ?_⟩
        have hd2 := s2 _ _ hd
        refine ⟨_, hd2, ?_, ps ++ [l2], (s1.trans s2).but hD, ?_, ?_, ?_⟩
        · rw [List.length_map, RA.len, List.length_map, List.length_take]
          exact sl10 (by omega)
        · rw [List.map_append]
          exact upd_same
        · rw [take_next hr', List.map_append]
          refine RowsAt.grow ((RA.same s2).snoc hl2) fun p' hp' => ?_
          rcases List.mem_append.mp hp' with z | z
          · exact hN p' z
          · rw [List.mem_singleton.mp z]; exact hN2
        · intro p' hp'
          rcases List.mem_append.mp hp' with z | z
          · exact hN p' z
          · rw [List.mem_singleton.mp z]; exact hN2
      · rw [List.length_map, hall.len, List.take_length] at RA
        refine ⟨D, ps, _, rfl, hd, RA, (by intro e; exact hne (List.map_eq_nil_iff.mp e)), (by rw [List.length_map]; exact hlen), fun l3 H3 pfx s3 hl3 hpre => ?_⟩
        have htext : a.text = pfx := R.text ok hne fun q => (hpre q).trans ⟨fun h r hr => h _ (List.mem_map.mpr ⟨r, hr, rfl⟩), fun h y hy => by
          obtain ⟨r, hr, rfl⟩ := List.mem_map.mp hy
          exact h r hr⟩
        have hlen3 : pfx.length ≤ 5000 := by
          obtain ⟨r, hr⟩ := List.exists_mem_of_ne_nil rs hne
          have h1 := ((hpre pfx).mp (List.prefix_refl _)) _ (List.mem_map.mpr ⟨r, hr, rfl⟩)
          have h2 := h1.length_le
          have h3 := behind_length r.row r.ms (countNow (gapNow a) r.b a.e)
          have h4 := (R.short ok hr).1
          have h5 : (r.rowIn (gapNow a) a.e).length = (behind r.row r.ms (countNow (gapNow a) r.b a.e)).length := rfl
          omega
        refine ⟨_, rfl, l3, _, rfl, .inl (SqL.of hl3), (by show 1 ≤ sizeLine; decide), fun b hb => ?_⟩
        refine ⟨_, rfl, b, l3, _, _, rfl, rfl, upd_same, (by rw [upd_ne (ne_of_none hl3 hb)]; exact hl3), (by rw [bytes_len]; exact sle (by simp only [List.length_cons, List.length_nil]; omega)), fun q hq => ?_⟩
        refine k q _ (((s1.trans s3).trans (Same.upd hb)).trans (Same.upd hq)) ?_
        rw [read_some (fun e => hne (R.nil_iff.mp e)), htext, bytes_len, bytes_ints]
        exact upd_same
theorem ok_Keying_units (T : Txt K w mg t) : FnOk P w K mg base CX0 3 t.f_Keying_units t.d_Keying_units ["self"] (sp_units t) := by
  refine T.F_Keying_units.ok sc_Keying_units (fun vs H Q E h => ?_) (fun cdv A outer s H vs Q E hr h => ?_)
  · obtain ⟨p, a, rs, rfl, _⟩ := h
    rfl
  · obtain ⟨p, a, rs, rfl, ⟨dx, l, hp, ⟨as, hl, hall⟩⟩, ok, R, k⟩ := h
    have G_Keying_how_many_may_be := ok_Keying_how_many_may_be (P := P) (base := base) T
    have hr_Keying_how_many_may_be : Room 2 _ := hr.mono (by decide)
    have hlen := R.len ok
    refine ⟨_, (pss_cons (ps_if (pt_cmpR op_eq (pe_callB call_len_seq (by rfl) T.b_len bt_len (pa_cons (pe_fld (pv 0) rfl) pa_nil)) pe_int (nomark _)) (pss_one (ps_ret (pe_lst (pa_cons pe_int (pa_cons pe_int (pa_cons pe_int pa_nil)))))) pss_nil)
      (pss_cons (ps_set (i := 1) sc_Keying_units.nd rfl (Or.inl rfl) (pe_callB (cr_min rfl) (by rfl) T.b_min bt_min (pa_cons (pe_lc rfl sc_Keying_units.nd (pi_list (pe_fld (pv 0) rfl)) (blkOk_by (own := [("reading", 3)]) (by show blkC ["self", "least", "greatest", "reading"] (defScope s_Keying_units) _ _ = true; decide +kernel)) (fun _ _ _ _ _ => pg_name (i := 3) sc_Keying_units.nd rfl (Or.inl rfl)) (fun _ _ _ _ _ => pts_nil) (fun _ _ _ _ _ => (pe_fldB (K := K) rfl (pv 3) rfl))) pa_nil)))
      (pss_cons (ps_set (i := 2) sc_Keying_units.nd rfl (Or.inl rfl) (pe_callB (cr_max rfl) (by rfl) T.b_max bt_max (pa_cons (pe_lc rfl sc_Keying_units.nd (pi_list (pe_fld (pv 0) rfl)) (blkOk_by (own := [("reading", 3)]) (by show blkC ["self", "least", "greatest", "reading"] (defScope s_Keying_units) _ _ = true; decide +kernel)) (fun _ _ _ _ _ => pg_name (i := 3) sc_Keying_units.nd rfl (Or.inl rfl)) (fun _ _ _ _ _ => pts_nil) (fun _ _ _ _ _ => (pe_fldB (K := K) rfl (pv 3) rfl))) pa_nil)))
      (pss_one (ps_ret (pe_lst (pa_cons (pe_meth0 (pv 0) T.cl_Keying T.m_Keying_how_many_may_be G_Keying_how_many_may_be hr_Keying_how_many_may_be (bd_Keying_how_many_may_be T) .nil pass0) (pa_cons (pv 1) (pa_cons (pv 2) pa_nil))))))))), ?_⟩
    refine ⟨_, rfl, p, _, dx, _, _, rfl, hp, T.cl_Keying, T.n_Keying_readings, kf_Keying_lk_readings, l, _, rfl, .inl (SqL.of hl), rfl, _, rfl, iteI (fun h0 => ?_) (fun h0 => ?_)⟩
    · rw [List.length_map, hall.len] at h0
      have hrs : rs = [] := List.length_eq_zero_iff.mp (by omega)
      refine ⟨(by show 3 ≤ sizeLine; decide), fun q hq => ?_⟩
      refine k q _ (Same.upd hq) ?_
      rw [units_ans, R.nil_iff.mpr hrs]
      exact upd_same
    · rw [List.length_map, hall.len] at h0
      have hpos : 0 < rs.length := by omega
      refine ⟨_, rfl, p, _, dx, _, _, rfl, hp, T.cl_Keying, T.n_Keying_readings, kf_Keying_lk_readings, l, rfl, ⟨_, SqL.of hl⟩, fun D hD => ?_⟩
      refine lc_list (K := K) (a := l) (xs := as.map V.ref) (fun j H' => Same H H' ∧ H' D = some (.lst (((rs.take j).map Rg.a).map V.int)))
        ⟨Same.upd hD, upd_same⟩ (fun i H' _ ⟨s1, _⟩ => SqL.of (s1 _ _ hl)) (fun i y H' hi ⟨s1, hd⟩ => ?_) (fun H1 ⟨s1, hd⟩ => ?_)
      · obtain ⟨x, hx, rfl⟩ := ref_at hi
        obtain ⟨r, hr', hrd⟩ := hall.get hx
        have hir : i < rs.length := (List.getElem?_eq_some_iff.mp hr').1
        obtain ⟨dx', lr, h1, h2, hN⟩ := hrd.same s1
        refine ⟨rfl, ?_⟩
        refine ⟨_, rfl, x, _, dx', _, _, rfl, h1, T.cl_Reading, T.n_Reading_least, kf_Reading_lk_least, _, hd, ?_, s1.but hD, ?_⟩
        · rw [List.length_map, List.length_map, List.length_take]
          exact sl10 (by omega)
        · rw [take_next hr', List.map_append, List.map_append]
          exact upd_same
      · rw [List.length_map, hall.len, List.take_length] at hd
        refine ⟨D, rs.map Rg.a, rfl, SqL.of hd, (by rw [List.length_map]; exact hpos), fun m1 hm1 hm2 => ?_⟩
        have hl1 := s1 _ _ hl
        have hp1 := s1 _ _ hp
        refine ⟨_, rfl, p, _, dx, _, _, rfl, hp1, T.cl_Keying, T.n_Keying_readings, kf_Keying_lk_readings, l, rfl, ⟨_, SqL.of hl1⟩, fun D2 hD2 => ?_⟩
        refine lc_list (K := K) (a := l) (xs := as.map V.ref) (fun j H' => Same H1 H' ∧ H' D2 = some (.lst (((rs.take j).map Rg.b).map V.int)))
          ⟨Same.upd hD2, upd_same⟩ (fun i H' _ ⟨s2, _⟩ => SqL.of (s2 _ _ hl1)) (fun i y H' hi ⟨s2, hd2⟩ => ?_) (fun H2 ⟨s2, hd2⟩ => ?_)
        · obtain ⟨x, hx, rfl⟩ := ref_at hi
          obtain ⟨r, hr', hrd⟩ := hall.get hx
          have hir : i < rs.length := (List.getElem?_eq_some_iff.mp hr').1
          obtain ⟨dx', lr, h1, h2, hN⟩ := (hrd.same s1).same s2
          refine ⟨rfl, ?_⟩
          refine ⟨_, rfl, x, _, dx', _, _, rfl, h1, T.cl_Reading, T.n_Reading_greatest, kf_Reading_lk_greatest, _, hd2, ?_, s2.but hD2, ?_⟩
          · rw [List.length_map, List.length_map, List.length_take]
            exact sl10 (by omega)
          · rw [take_next hr', List.map_append, List.map_append]
            exact upd_same
        · rw [List.length_map, hall.len, List.take_length] at hd2
          refine ⟨D2, rs.map Rg.b, rfl, SqL.of hd2, (by rw [List.length_map]; exact hpos), fun m2 hm3 hm4 => ?_⟩
          have s12 := s1.trans s2
          have hr2 : RsAt t.c_Reading H2 l rs := RsAt.same ⟨as, hl, hall⟩ s12
          have hp2 := s12 _ _ hp
          refine ⟨_, rfl, p, dx, _, rfl, hp2, kf_Keying_lk_how_many_may_be, p, dx, _, _, _, _, _, _, l, _, rfl, hp2, hr2, Nat.le_trans hlen (by decide), fun H3 s3 => ?_⟩
          refine ⟨_, rfl, _, rfl, (by show 3 ≤ sizeLine; decide), fun q hq => ?_⟩
          refine k q _ ((s12.trans s3).trans (Same.upd hq)) ?_
          rw [units_ans, R.count, R.least hm1 hm2, R.greatest hm3 hm4]
          exact upd_same
end
end Hk

set_option Elab.async false
set_option linter.all false
set_option maxRecDepth 100000
set_option maxHeartbeats 2000000
namespace Hk
open PySem PySem.Spec PyProof.Rows L2
open Kh315 (Abs letter)

/-! ## One call -/
theorem nstep (s : S) (c : List Int) (d : Kh315.Call) (h : (match Kh315Neutral.nat (c.getD 0 0) with
    | 0 => Kh315.Call.begin_ (Kh315Neutral.nat (c.getD 1 0)) (Kh315Neutral.nat (c.getD 2 0)) (Kh315Neutral.nat (c.getD 3 0))
    | 1 => .down (Kh315Neutral.nat (c.getD 1 0))
    | 2 => .up (Kh315Neutral.nat (c.getD 1 0))
    | 3 => .at_ (Kh315Neutral.nat (c.getD 1 0))
    | 4 => .read
    | _ => .units) = d) : Kh315Neutral.step s [c] = ((Kh315.doing s d).1, ansOf (Kh315.doing s d).2) := by
  subst h
  rfl
theorem begin_ok (s : S) {lo hi e : Nat} (h : Kh315.okRange lo hi e = true) : Kh315.doing s (.begin_ lo hi e) = (some (Kh315.begun lo hi e), Kh315.say 0) := by
  cases s with
  | none => exact if_pos h
  | some a =>
    have z : Kh315.step a (.begin_ lo hi e) = (Kh315.begun lo hi e, Kh315.say 0) := if_pos h
    show (some (Kh315.step a (.begin_ lo hi e)).1, (Kh315.step a (.begin_ lo hi e)).2) = _
    rw [z]
theorem begin_no (s : S) {lo hi e : Nat} (h : Kh315.okRange lo hi e = false) : Kh315.doing s (.begin_ lo hi e) = (s, Kh315.say (-22)) := by
  cases s with
  | none => exact if_neg (by rw [h]; simp)
  | some a =>
    have z : Kh315.step a (.begin_ lo hi e) = (a, Kh315.say (-22)) := if_neg (by rw [h]; simp)
    show (some (Kh315.step a (.begin_ lo hi e)).1, (Kh315.step a (.begin_ lo hi e)).2) = _
    rw [z]
theorem turn_ans (a : Abs) (d : Bool) (k : Nat) : ansOf (Kh315.step a (turnC d k)).2 = [(Kh315.step a (turnC d k)).2.value] := by
  rw [step_turn]
  split
  · rfl
  · split
    · rfl
    · split <;> rfl
theorem at_ans (a : Abs) (k : Nat) : ansOf (Kh315.step a (.at_ k)).2 = [(Kh315.step a (.at_ k)).2.value] := by
  by_cases h : Kh315.late a k = true
  · have e : Kh315.step a (.at_ k) = (a, Kh315.say (-22)) := if_pos h
    rw [e]
    rfl
  · have e : Kh315.step a (.at_ k) = ({ a with now := k }, Kh315.say (({ a with now := k } : Abs).units.length : Nat)) := if_neg h
    rw [e]
    rfl
theorem text_len (a : Abs) (ok : Ok a) : a.text.length ≤ 2050 := by
  unfold Abs.text
  have h := ok.len
  cases q : a.units with
  | nil => exact Nat.zero_le _
  | cons u r =>
    cases r with
    | nil =>
      have h2 := by_length a u
      show (a.by_ u).length ≤ _
      omega
    | cons v r =>
      rw [all_cons a u (v :: r) (by simp)]
      have h2 := by_length a u
      have h3 := common_length_le (a.by_ u) (Kh315.all a (v :: r))
      omega
/-- the key as it stands behind some calls -/
def StateAt (t : Adr) (H : Hp) (p : Addr) (s : S) : Prop := ∃ (a : Abs) (rs : List Rg), KeyAt t H p a rs ∧ ∀ ab, s = some ab → a = ab ∧ Ok ab ∧ Rds ab rs
theorem KeyAt.same {t : Adr} {H H' : Hp} {p : Addr} {a : Abs} {rs : List Rg} (h : KeyAt t H p a rs) (s : Same H H') : KeyAt t H' p a rs := by
  obtain ⟨dx, l, h1, h2⟩ := h
  exact ⟨dx, l, s _ _ h1, h2.same s⟩
theorem StateAt.same {t : Adr} {H H' : Hp} {p : Addr} {s : S} (h : StateAt t H p s) (q : Same H H') : StateAt t H' p s := by
  obtain ⟨a, rs, h1, h2⟩ := h
  exact ⟨a, rs, h1.same q, h2⟩
/-- no list, no object stands at q -/
def Masks (o : HO) : Prop := (∀ xs, o ≠ .lst xs) ∧ ∀ C d fs, o ≠ .ins C d fs
theorem StateAt.mask {t : Adr} {H H' : Hp} {p q : Addr} {s : S} {o : HO} (h : StateAt t H p s) (hq : H q = some o) (ho : Masks o) (sb : SB q H H') : StateAt t H' p s := by
  obtain ⟨a, rs, ⟨dx, l, h1, as, h2, h3⟩, h4⟩ := h
  have nl : ∀ b xs, H b = some (.lst xs) → b ≠ q := fun b xs e z => by
    subst z
    rw [e] at hq
    exact ho.1 xs (Option.some.inj hq).symm
  have ni : ∀ b C d fs, H b = some (.ins C d fs) → b ≠ q := fun b C d fs e z => by
    subst z
    rw [e] at hq
    exact ho.2 C d fs (Option.some.inj hq).symm
  refine ⟨a, rs, ⟨dx, l, sb _ _ h1 (ni _ _ _ _ h1), as, sb _ _ h2 (nl _ _ h2), h3.mono fun x r g => ?_⟩, h4⟩
  obtain ⟨dy, ly, g1, g2, g3⟩ := g
  exact ⟨dy, ly, sb _ _ g1 (ni _ _ _ _ g1), sb _ _ g2 (nl _ _ g2), g3⟩
theorem masks_tbl : Masks (.tbl #[]) := ⟨fun _ h => (by cases h), fun _ _ _ h => (by cases h)⟩
theorem masks_frz {od : Obj} {u : HO} : Masks (.frz od u) := ⟨fun _ h => (by cases h), fun _ _ _ h => (by cases h)⟩
theorem ans_len {t : Adr} {H : Hp} {p : Addr} {s : S} {c : List Int} (st : StateAt t H p s) (h : OkC s c) : (Kh315Neutral.step s [c]).2.length ≤ 2900 := by
  obtain ⟨a, rs, _, h4⟩ := st
  cases h with
  | begin_ x y e hx hy he =>
    rw [nstep s _ _ rfl]
    show (ansOf (Kh315.doing s (.begin_ x.toNat y.toNat e.toNat)).2).length ≤ 2900
    cases q : Kh315.okRange x.toNat y.toNat e.toNat with
    | true => rw [begin_ok s q]; show 1 ≤ 2900; decide
    | false => rw [begin_no s q]; show 1 ≤ 2900; decide
  | down ab hs k hk =>
    subst hs
    rw [nstep _ _ _ rfl]
    show (ansOf (Kh315.step ab (turnC true k.toNat)).2).length ≤ 2900
    rw [turn_ans]
    show 1 ≤ 2900
    decide
  | up ab hs k hk =>
    subst hs
    rw [nstep _ _ _ rfl]
    show (ansOf (Kh315.step ab (turnC false k.toNat)).2).length ≤ 2900
    rw [turn_ans]
    show 1 ≤ 2900
    decide
  | at_ ab hs k hk =>
    subst hs
    rw [nstep _ _ _ rfl]
    show (ansOf (Kh315.step ab (.at_ k.toNat)).2).length ≤ 2900
    rw [at_ans]
    show 1 ≤ 2900
    decide
  | read ab hs =>
    subst hs
    obtain ⟨_, ok, _⟩ := h4 ab rfl
    rw [nstep _ _ _ rfl]
    show (ansOf (Kh315.step ab .read).2).length ≤ 2900
    by_cases q : ab.units = []
    · rw [read_none q]; show 1 ≤ 2900; decide
    · rw [read_some q]
      have := text_len ab ok
      simp only [List.length_cons, List.length_map]
      omega
  | units ab hs =>
    subst hs
    rw [nstep _ _ _ rfl]
    show 3 ≤ 2900
    decide
def sp_answer (t : Adr) : Sp := fun vs H Q _ => ∃ (p nl : Addr) (s : S) (c : Int) (r : List Int), vs = [.ref p, .int c, .ref nl] ∧ StateAt t H p s ∧ H nl = some (.lst (r.map V.int)) ∧ OkC s (c :: r) ∧
  ∀ (l' : Addr) (H' : Hp), StateAt t H' p (Kh315Neutral.step s [c :: r]).1 → SB p H H' → H' l' = some (.lst ((Kh315Neutral.step s [c :: r]).2.map V.int)) → Q (.ref l') H'
section
variable {P : Program} {w : World} {K : PySem.W.Frag} {mg : Str → Option Value} {base : Heap} {t : Adr}
theorem ok_answer (T : Txt K w mg t) : FnOk P w K mg base CX0 7 t.f_answer t.d_answer ["keying", "call", "numbers"] (sp_answer t) := by
  refine T.F_answer.ok sc_answer (fun vs H Q E h => ?_) (fun cdv A outer s H vs Q E hr h => ?_)
  · obtain ⟨p, nl, st, c, r, rfl, _⟩ := h
    rfl
  · obtain ⟨p, nl, st, c, r, rfl, ⟨a, rs, hk, h4⟩, hnl, hok, k⟩ := h
    obtain ⟨dx, l, hp, hrs⟩ := id hk
    have G_Keying_units := ok_Keying_units (P := P) (base := base) T
    have hr_Keying_units : Room 3 _ := hr.mono (by decide)
    have G_Keying_read := ok_Keying_read (P := P) (base := base) T
    have hr_Keying_read : Room 4 _ := hr.mono (by decide)
    have G_Keying_at := ok_Keying_at (P := P) (base := base) T
    have hr_Keying_at : Room 5 _ := hr.mono (by decide)
    have G_Keying_up := ok_Keying_up (P := P) (base := base) T
    have hr_Keying_up : Room 6 _ := hr.mono (by decide)
    have G_Keying_down := ok_Keying_down (P := P) (base := base) T
    have hr_Keying_down : Room 6 _ := hr.mono (by decide)
    have G_Keying_begin := ok_Keying_begin (P := P) (base := base) T
    have hr_Keying_begin : Room 3 _ := hr.mono (by decide)
    refine ⟨_, (pss_cons (ps_if (pt_cmpR op_eq (pv 1) (pe_glob (v := .int 0) (by rfl) T.x_BEGIN.choose_spec ⟨_, rfl⟩) (nomark _)) (pss_one (ps_ret (pe_lst (pa_cons (pe_meth (pv 0) T.cl_Keying T.m_Keying_begin G_Keying_begin hr_Keying_begin (bd_Keying_begin T) .nil pass0 (pa_cons (pe_ix ix_list (pv 2) pe_int (fun _ _ => rfl)) (pa_cons (pe_ix ix_list (pv 2) pe_int (fun _ _ => rfl)) (pa_cons (pe_ix ix_list (pv 2) pe_int (fun _ _ => rfl)) pa_nil)))) pa_nil)))) pss_nil)
      (pss_cons (ps_if (pt_cmpR op_eq (pv 1) (pe_glob (v := .int 1) (by rfl) T.x_DOWN.choose_spec ⟨_, rfl⟩) (nomark _)) (pss_one (ps_ret (pe_lst (pa_cons (pe_meth (pv 0) T.cl_Keying T.m_Keying_down G_Keying_down hr_Keying_down (bd_Keying_down T) .nil pass0 (pa_cons (pe_ix ix_list (pv 2) pe_int (fun _ _ => rfl)) pa_nil)) pa_nil)))) pss_nil)
      (pss_cons (ps_if (pt_cmpR op_eq (pv 1) (pe_glob (v := .int 2) (by rfl) T.x_UP.choose_spec ⟨_, rfl⟩) (nomark _)) (pss_one (ps_ret (pe_lst (pa_cons (pe_meth (pv 0) T.cl_Keying T.m_Keying_up G_Keying_up hr_Keying_up (bd_Keying_up T) .nil pass0 (pa_cons (pe_ix ix_list (pv 2) pe_int (fun _ _ => rfl)) pa_nil)) pa_nil)))) pss_nil)
      (pss_cons (ps_if (pt_cmpR op_eq (pv 1) (pe_glob (v := .int 3) (by rfl) T.x_AT.choose_spec ⟨_, rfl⟩) (nomark _)) (pss_one (ps_ret (pe_lst (pa_cons (pe_meth (pv 0) T.cl_Keying T.m_Keying_at G_Keying_at hr_Keying_at (bd_Keying_at T) .nil pass0 (pa_cons (pe_ix ix_list (pv 2) pe_int (fun _ _ => rfl)) pa_nil)) pa_nil)))) pss_nil)
      (pss_cons (ps_if (pt_cmpR op_eq (pv 1) (pe_glob (v := .int 4) (by rfl) T.x_READ.choose_spec ⟨_, rfl⟩) (nomark _)) (pss_one (ps_ret (pe_meth0 (pv 0) T.cl_Keying T.m_Keying_read G_Keying_read hr_Keying_read (bd_Keying_read T) .nil pass0))) pss_nil)
      (pss_one (ps_ret (pe_meth0 (pv 0) T.cl_Keying T.m_Keying_units G_Keying_units hr_Keying_units (bd_Keying_units T) .nil pass0)))))))), ?_⟩
    cases hok with
    | begin_ x y e hx hy he =>
      obtain ⟨lo, rfl⟩ := Int.eq_ofNat_of_zero_le hx.1
      obtain ⟨hi, rfl⟩ := Int.eq_ofNat_of_zero_le hy.1
      obtain ⟨e, rfl⟩ := Int.eq_ofNat_of_zero_le he.1
      rw [nstep st _ (.begin_ lo hi e) rfl] at k
      refine ⟨_, rfl, rfl, _, rfl, iteI (fun _ => ?_) (fun h => absurd rfl h)⟩
      refine ⟨_, rfl, p, dx, _, rfl, hp, kf_Keying_lk_begin, _, rfl, nl, _, _, _, rfl, rfl, SqL.of hnl, at_of (j := 0) rfl rfl, _, rfl, nl, _, _, _, rfl, rfl, SqL.of hnl, at_of (j := 1) rfl rfl, _, rfl, nl, _, _, _, rfl, rfl, SqL.of hnl, at_of (j := 2) rfl rfl,
        p, a, rs, lo, hi, e, rfl, hk, fun hgo H' hk' sb => ⟨(by show 1 ≤ sizeLine; decide), fun q hq => ?_⟩, fun hno => ⟨(by show 1 ≤ sizeLine; decide), fun q hq => ?_⟩⟩
      · rw [begin_ok st hgo] at k
        refine k q _ ⟨_, _, hk'.same (Same.upd hq), fun ab hab => ?_⟩ (sb.same (Same.upd hq)) upd_same
        have e : Kh315.begun lo hi e = ab := Option.some.inj hab
        subst e
        exact ⟨rfl, Ok.begun hgo, Rds.begun hgo⟩
      · rw [begin_no st hno] at k
        exact k q _ ⟨a, rs, hk.same (Same.upd hq), h4⟩ (SB.of (Same.upd hq)) upd_same
    | down ab hs n hn =>
      obtain ⟨n, rfl⟩ := Int.eq_ofNat_of_zero_le hn.1
      subst hs
      obtain ⟨rfl, ok, R⟩ := h4 ab rfl
      rw [nstep _ _ (turnC true n) rfl] at k
      refine ⟨_, rfl, rfl, _, rfl, iteI (fun h => absurd h (by decide)) (fun _ => ?_)⟩
      refine ⟨_, rfl, rfl, _, rfl, iteI (fun _ => ?_) (fun h => absurd rfl h)⟩
      refine ⟨_, rfl, p, dx, _, rfl, hp, kf_Keying_lk_down, _, rfl, nl, _, _, _, rfl, rfl, SqL.of hnl, at_of (j := 0) rfl rfl, p, a, rs, n, rfl, hk, ok, R, fun H' rs' hk' R' sb => ⟨(by show 1 ≤ sizeLine; decide), fun q hq => ?_⟩⟩
      refine k q _ ⟨_, rs', hk'.same (Same.upd hq), fun ab hab => ?_⟩ (sb.same (Same.upd hq)) ?_
      · have e := Option.some.inj hab
        subst e
        exact ⟨rfl, ok.step _, R'⟩
      · show _ = some (HO.lst ((ansOf (Kh315.step a (turnC true n)).2).map V.int))
        rw [turn_ans]
        exact upd_same
    | up ab hs n hn =>
      obtain ⟨n, rfl⟩ := Int.eq_ofNat_of_zero_le hn.1
      subst hs
      obtain ⟨rfl, ok, R⟩ := h4 ab rfl
      rw [nstep _ _ (turnC false n) rfl] at k
      refine ⟨_, rfl, rfl, _, rfl, iteI (fun h => absurd h (by decide)) (fun _ => ?_)⟩
      refine ⟨_, rfl, rfl, _, rfl, iteI (fun h => absurd h (by decide)) (fun _ => ?_)⟩
      refine ⟨_, rfl, rfl, _, rfl, iteI (fun _ => ?_) (fun h => absurd rfl h)⟩
      refine ⟨_, rfl, p, dx, _, rfl, hp, kf_Keying_lk_up, _, rfl, nl, _, _, _, rfl, rfl, SqL.of hnl, at_of (j := 0) rfl rfl, p, a, rs, n, rfl, hk, ok, R, fun H' rs' hk' R' sb => ⟨(by show 1 ≤ sizeLine; decide), fun q hq => ?_⟩⟩
      refine k q _ ⟨_, rs', hk'.same (Same.upd hq), fun ab hab => ?_⟩ (sb.same (Same.upd hq)) ?_
      · have e := Option.some.inj hab
        subst e
        exact ⟨rfl, ok.step _, R'⟩
      · show _ = some (HO.lst ((ansOf (Kh315.step a (turnC false n)).2).map V.int))
        rw [turn_ans]
        exact upd_same
    | at_ ab hs n hn =>
      obtain ⟨n, rfl⟩ := Int.eq_ofNat_of_zero_le hn.1
      subst hs
      obtain ⟨rfl, ok, R⟩ := h4 ab rfl
      rw [nstep _ _ (.at_ n) rfl] at k
      refine ⟨_, rfl, rfl, _, rfl, iteI (fun h => absurd h (by decide)) (fun _ => ?_)⟩
      refine ⟨_, rfl, rfl, _, rfl, iteI (fun h => absurd h (by decide)) (fun _ => ?_)⟩
      refine ⟨_, rfl, rfl, _, rfl, iteI (fun h => absurd h (by decide)) (fun _ => ?_)⟩
      refine ⟨_, rfl, rfl, _, rfl, iteI (fun _ => ?_) (fun h => absurd rfl h)⟩
      refine ⟨_, rfl, p, dx, _, rfl, hp, kf_Keying_lk_at, _, rfl, nl, _, _, _, rfl, rfl, SqL.of hnl, at_of (j := 0) rfl rfl, p, a, rs, n, rfl, hk, ok, R, fun H' rs' hk' R' sb => ⟨(by show 1 ≤ sizeLine; decide), fun q hq => ?_⟩⟩
      refine k q _ ⟨_, rs', hk'.same (Same.upd hq), fun ab hab => ?_⟩ (sb.same (Same.upd hq)) ?_
      · have e := Option.some.inj hab
        subst e
        exact ⟨rfl, ok.step _, R'⟩
      · show _ = some (HO.lst ((ansOf (Kh315.step a (.at_ n)).2).map V.int))
        rw [at_ans]
        exact upd_same
    | read ab hs =>
      subst hs
      obtain ⟨rfl, ok, R⟩ := h4 ab rfl
      rw [nstep _ _ .read rfl] at k
      refine ⟨_, rfl, rfl, _, rfl, iteI (fun h => absurd h (by decide)) (fun _ => ?_)⟩
      refine ⟨_, rfl, rfl, _, rfl, iteI (fun h => absurd h (by decide)) (fun _ => ?_)⟩
      refine ⟨_, rfl, rfl, _, rfl, iteI (fun h => absurd h (by decide)) (fun _ => ?_)⟩
      refine ⟨_, rfl, rfl, _, rfl, iteI (fun h => absurd h (by decide)) (fun _ => ?_)⟩
      refine ⟨_, rfl, rfl, _, rfl, iteI (fun _ => ?_) (fun h => absurd rfl h)⟩
      refine ⟨_, rfl, p, dx, _, rfl, hp, kf_Keying_lk_read, p, a, rs, rfl, hk, ok, R, fun l' H' s' hl' => ?_⟩
      refine k l' H' ⟨a, rs, hk.same s', fun ab hab => ?_⟩ (SB.of s') hl'
      have e : a = ab := Option.some.inj hab
      subst e
      exact ⟨rfl, ok, R⟩
    | units ab hs =>
      subst hs
      obtain ⟨rfl, ok, R⟩ := h4 ab rfl
      rw [nstep _ _ .units rfl] at k
      refine ⟨_, rfl, rfl, _, rfl, iteI (fun h => absurd h (by decide)) (fun _ => ?_)⟩
      refine ⟨_, rfl, rfl, _, rfl, iteI (fun h => absurd h (by decide)) (fun _ => ?_)⟩
      refine ⟨_, rfl, rfl, _, rfl, iteI (fun h => absurd h (by decide)) (fun _ => ?_)⟩
      refine ⟨_, rfl, rfl, _, rfl, iteI (fun h => absurd h (by decide)) (fun _ => ?_)⟩
      refine ⟨_, rfl, rfl, _, rfl, iteI (fun h => absurd h (by decide)) (fun _ => ?_)⟩
      refine ⟨_, rfl, p, dx, _, rfl, hp, kf_Keying_lk_units, p, a, rs, rfl, hk, ok, R, fun l' H' s' hl' => ?_⟩
      refine k l' H' ⟨a, rs, hk.same s', fun ab hab => ?_⟩ (SB.of s') hl'
      have e : a = ab := Option.some.inj hab
      subst e
      exact ⟨rfl, ok, R⟩
end
end Hk

set_option Elab.async false
set_option linter.all false
set_option maxRecDepth 100000
set_option maxHeartbeats 2000000
namespace Hk
open PySem PySem.Spec PyProof.Rows L2
open Kh315 (Abs letter)

/-! ## The calls, one behind another -/
abbrev NUMB : List (Key × V) := [((.inl 0), .int 3), ((.inl 1), .int 1), ((.inl 2), .int 1), ((.inl 3), .int 1), ((.inl 4), .int 0), ((.inl 5), .int 0)]
theorem numb_val {c : Int} {n : Nat} (h : need c = some n) : valV NUMB (.inl c) = some (.int ((n : Nat) : Int)) := by
  unfold need at h
  split at h
  · rename_i e
    subst e
    cases h
    decide +kernel
  · split at h
    · rename_i e
      cases h
      rcases e with rfl | rfl | rfl <;> decide +kernel
    · split at h
      · rename_i e
        cases h
        rcases e with rfl | rfl <;> decide +kernel
      · cases h
/-- what was handed in, as it is read whatever else changes -/
def ArgIs (K : PySem.W.Frag) (H : Hp) (a : Addr) (xs : List V) : Prop := (∃ o, H a = some (.frz o (.lst xs))) ∨ ∀ H', SqL K H' a xs
theorem ArgIs.of {K : PySem.W.Frag} {H : Hp} {a : Addr} {xs : List V} (hO : OnlyF H) (h : SqL K H a xs) : ArgIs K H a xs := by
  rcases h with (h | ⟨o, h⟩) | h
  · rcases hO a with z | ⟨o, u, z⟩
    · rw [h] at z; cases z
    · rw [h] at z; cases z
  · exact .inl ⟨o, h⟩
  · exact .inr fun H' => .inr h
theorem ArgIs.sq {K : PySem.W.Frag} {H : Hp} {a : Addr} {xs : List V} (h : ArgIs K H a xs) : SqL K H a xs := by
  rcases h with ⟨o, h⟩ | h
  · exact .inl (.inr ⟨o, h⟩)
  · exact h H
theorem ArgIs.keep {K : PySem.W.Frag} {H H' : Hp} {a : Addr} {xs : List V} (h : ArgIs K H a xs) (f : ∀ o u, H a = some (.frz o u) → H' a = some (.frz o u)) : ArgIs K H' a xs := by
  rcases h with ⟨o, h⟩ | h
  · exact .inl ⟨o, f _ _ h⟩
  · exact .inr h
def sp_answers (K : PySem.W.Frag) : Sp := fun vs H Q _ => ∃ (a : Addr) (ns : List Int), vs = [.ref a] ∧ OnlyF H ∧ SqL K H a (ns.map V.int) ∧ PyKh315.answers_asked ns = true ∧ ∀ (H' : Hp) (p : Addr), H' p = some (.lst ((PyKh315.answers ns).map V.int)) → Q (.ref p) H'
/-- ahead of a call -/
structure Turn1 (K : PySem.W.Frag) (t : Adr) (ns : List Int) (a p q : Addr) (H : Hp) (place : Nat) (done : List Int) (s : S) (n : Nat) : Prop where
  arg : ArgIs K H a (ns.map V.int)
  st : StateAt t (upd H q (.tbl #[])) p s
  lq : H q = some (.lst (done.map V.int))
  le : place ≤ ns.length
  go : Go s n (ns.drop place)
  nle : n ≤ 1100
  few : done.length ≤ (1100 - n) * 3000
  dues : done ++ due s (ns.drop place) = due none ns
section
variable {P : Program} {w : World} {K : PySem.W.Frag} {mg : Str → Option Value} {base : Heap} {t : Adr}
theorem ok_answers (T : Txt K w mg t) : FnOk P w K mg base CX0 8 t.f_answers t.d_answers ["calls"] (sp_answers K) := by
  refine T.F_answers.ok sc_answers (fun vs H Q E h => ?_) (fun cdv A outer s H vs Q E hr h => ?_)
  · obtain ⟨a, ns, rfl, _⟩ := h
    rfl
  · obtain ⟨a, ns, rfl, hO, hS, hask, k⟩ := h
    have hA := ArgIs.of hO hS
    have G_answer := ok_answer (P := P) (base := base) T
    have hr_answer : Room 7 _ := hr.mono (by decide)
    have G_Keying_init := ok_Keying_init (P := P) (base := base) T
    have hr_Keying_init : Room 3 _ := hr.mono (by decide)
    refine ⟨_, (pss_cons (ps_set (i := 1) sc_answers.nd rfl (Or.inl rfl) (pe_make0 T.mk_Keying G_Keying_init hr_Keying_init (by rfl) T.g_Keying (bd_Keying_init T) .nil pass0))
      (pss_cons (ps_set (i := 2) sc_answers.nd rfl (Or.inl rfl) (pe_lst pa_nil))
      (pss_cons (ps_set (i := 3) sc_answers.nd rfl (Or.inl rfl) pe_int)
      (pss_cons (ps_while PassesOwn.never (pt_cmpR op_lt (pv 3) (pe_callB call_len_seq (by rfl) T.b_len bt_len (pa_cons (pv 0) pa_nil)) (nomark _)) (pss_cons (ps_set (i := 4) sc_answers.nd rfl (Or.inl rfl) (pe_ix ix_list (pv 0) (pv 3) (fun _ _ => rfl)))
      (pss_cons (ps_set (i := 5) sc_answers.nd rfl (Or.inl rfl) (pe_op op_add (pv 3) pe_int))
      (pss_cons (ps_set (i := 3) sc_answers.nd rfl (Or.inl rfl) (pe_op op_add (pv 5) (pe_dgetK (pe_glob (v := .ref t.a_NUMBERS_BEHIND) (by rfl) T.c_NUMBERS_BEHIND rfl) (pv 4) (fun _ _ => rfl))))
      (pss_cons (ps_lock (ps_set (i := 6) sc_answers.nd rfl (Or.inl rfl) (pe_call G_answer hr_answer (by rfl) T.g_answer T.k_answer (bd_answer T) .nil pass0 (pa_cons (pv 1) (pa_cons (pv 4) (pa_cons (pe_slice sl_list (pv 0) (po_some (pv 5)) (po_some (pv 3))) pa_nil))))))
      (pss_cons (ps_expr (pe_bm PySem.F.plainAttrs_list PySem.F.slot_list_append PySem.F.type_list_append mt_append (pv 2) (pa_cons (pe_callB call_len_seq (by rfl) T.b_len bt_len (pa_cons (pv 6) pa_nil)) pa_nil)))
      (pss_one (ps_expr (pe_bm PySem.F.plainAttrs_list PySem.F.slot_list_extend PySem.F.type_list_extend mt_extend (pv 2) (pa_cons (pv 6) pa_nil))))))))))
      (pss_one (ps_ret (pv 2))))))), ?_⟩
    intro p dx np nd ne
    refine ⟨p, dx, rfl, upd_same, fun H1 hk1 kp => ⟨rfl, ?_⟩⟩
    have s1 : Same H H1 := Same.made np nd kp
    refine ⟨Nat.zero_le _, fun q hq => ?_⟩
    have hA2 : ArgIs K (upd H1 q (.lst [])) a (ns.map V.int) := hA.keep fun o u e => Same.upd hq _ _ (s1 _ _ e)
    have B0 : Turn1 K t ns a p q (upd H1 q (.lst [])) 0 [] none 1100 := by
      refine ⟨hA2, ?_, upd_same, Nat.zero_le _, go_start hask, Nat.le_refl _, Nat.zero_le _, rfl⟩
      refine ⟨a0, [], hk1.same fun b o e => ?_, fun ab e => by cases e⟩
      rw [upd_ne (ne_of_none e hq), upd_ne (ne_of_none e hq)]
      exact e
    refine ⟨fun m σ H' => ∃ (place : Nat) (done : List Int) (s : S) (n : Nat) (v4 v5 v6 : Option V), m = ns.length - place ∧ σ = [some (.ref a), some (.ref p), some (.ref q), some (.int ((place : Nat) : Int)), v4, v5, v6] ∧ Turn1 K t ns a p q H' place done s n,
      ⟨_, 0, [], none, 1100, none, none, none, rfl, rfl, B0⟩, ?_⟩
    rintro m σ H2 ⟨place, done, s, n, v4, v5, v6, rfl, rfl, B⟩
    refine ⟨_, rfl, _, rfl, a, _, rfl, .inl B.arg.sq, _, _, rfl, rfl, _, rfl, iteD (fun hlt => ?_) (fun hge => ?_)⟩
    · have hlt' : place < ns.length := by rw [List.length_map] at hlt; omega
      have hdrop : ns.drop place = ns[place] :: ns.drop (place + 1) := List.drop_eq_getElem_cons hlt'
      have hgo := B.go
      rw [hdrop] at hgo
      obtain ⟨c, tl, m, kk, e1, e2, e3, e4, e5, e6, e7, hokc, hgo2, hdue⟩ := hgo.next
      have hget : (ns.map V.int)[place]? = some (V.int ns[place]) := by rw [List.getElem?_map, List.getElem?_eq_getElem hlt']; rfl
      have hl1 : kk ≤ ns.length - (place + 1) := by rw [List.length_drop] at e4; exact e4
      have hl2 : place + 1 + kk ≤ ns.length := by omega
      refine ⟨_, fun σ' H' h => h, ?_⟩
      refine ⟨_, rfl, _, rfl, a, _, _, _, rfl, rfl, B.arg.sq, atI_nat hget, ?_⟩
      refine ⟨_, rfl, _, _, rfl, rfl, ?_⟩
      refine ⟨_, rfl, _, rfl, _, _, .inl ns[place], _, rfl, T.e_NUMBERS_BEHIND, rfl, numb_val e2, _, _, rfl, rfl, ?_⟩
      refine ⟨q, _, B.lq, trivial, fun od => ?_⟩
      generalize hHl : upd H2 q (.frz od (.lst (done.map V.int))) = Hl
      have hlq : Hl q = some (.frz od (.lst (done.map V.int))) := by rw [← hHl]; exact upd_same
      have sbq : SB q H2 Hl := by rw [← hHl]; exact SB.upd
      have stl : StateAt t Hl p s := B.st.mask upd_same masks_tbl fun b o e nb => by
        rw [upd_ne nb] at e
        exact sbq b o e nb
      have aq : ∀ o u, H2 a = some (.frz o u) → a ≠ q := fun o u e z => by
        subst z
        rw [B.lq] at e
        cases e
      have argl : ArgIs K Hl a (ns.map V.int) := B.arg.keep fun o u e => sbq _ _ e (aq o u e)
      refine ⟨_, rfl, _, rfl, _, rfl, _, rfl, _, rfl, _, rfl, _, rfl, a, _, rfl, argl.sq, fun nl hnl => ?_⟩
      have sl : Same Hl (upd Hl nl (.lst (cutV (ns.map V.int) (some (((place : Nat) : Int) + 1)) (some (((place : Nat) : Int) + 1 + ((kk : Nat) : Int)))))) := Same.upd hnl
      have ecut : cutV (ns.map V.int) (some (((place : Nat) : Int) + 1)) (some (((place : Nat) : Int) + 1 + ((kk : Nat) : Int))) = ((ns.drop (place + 1)).take kk).map V.int := by
        have z1 : ((place : Nat) : Int) + 1 = ((place + 1 : Nat) : Int) := by omega
        have z2 : ((place : Nat) : Int) + 1 + ((kk : Nat) : Int) = ((place + 1 + kk : Nat) : Int) := by omega
        rw [z2, z1, cut_part _ _ _ (by rw [List.length_map]; exact hl2) (by omega), List.map_take, List.map_drop]
        congr 1
        omega
      have ec : c = ns[place] :: (ns.drop (place + 1)).take kk := e6
      refine ⟨p, nl, s, ns[place], (ns.drop (place + 1)).take kk, rfl, stl.same sl, (by rw [← ecut]; exact upd_same), (by rw [← ec]; exact hokc), fun l3 H3 st3 sb3 hl3 => ?_⟩
      rw [← ec] at st3 hl3
      have hal : (Kh315Neutral.step s [c]).2.length ≤ 2900 := ans_len stl hokc
      generalize hans : (Kh315Neutral.step s [c]).2 = ans at hl3 hal hdue
      obtain ⟨_, _, ⟨dp, lp, hp3, _⟩, _⟩ := id stl
      have npq : q ≠ p := ne_of hlq hp3 (by intro z; cases z)
      have h3q : H3 q = some (.frz od (.lst (done.map V.int))) := sb3 _ _ (sl _ _ hlq) npq
      have nlq : l3 ≠ q := ne_of hl3 h3q (by intro z; cases z)
      refine ⟨h3q, ?_⟩
      have q4 : (upd H3 q (.lst (done.map V.int))) q = some (.lst (done.map V.int)) := upd_same
      have l4 : (upd H3 q (.lst (done.map V.int))) l3 = some (.lst (ans.map V.int)) := by rw [upd_ne nlq]; exact hl3
      have hfew := B.few
      have hn := B.nle
      have hd1 : done.length ≤ 3300000 := by
        have : (1100 - n) * 3000 ≤ 1100 * 3000 := Nat.mul_le_mul_right _ (by omega)
        omega
      refine ⟨_, rfl, .inl ⟨rfl, _, SqL.of q4⟩, _, rfl, l3, _, rfl, .inl (SqL.of l4), q, _, _, rfl, rfl, q4, (by rw [List.length_map, sizeLine_eq]; omega), ?_⟩
      refine ⟨_, rfl, .inl ⟨rfl, _, SqL.of upd_same⟩, _, rfl, q, l3, _, _, rfl, rfl, upd_same, (by rw [upd_ne nlq]; exact l4), (by rw [List.length_append, List.length_map, List.length_map, sizeLine_eq]; simp only [List.length_cons, List.length_nil]; omega), ?_⟩
      have hpl : ((place : Nat) : Int) + 1 + ((kk : Nat) : Int) = ((place + 1 + kk : Nat) : Int) := by omega
      refine ⟨ns.length - (place + 1 + kk), by omega, place + 1 + kk, done ++ ((ans.length : Int) :: ans), (Kh315Neutral.step s [c]).1, m, _, _, _, rfl, by rw [← hpl]; rfl, ?_⟩
      refine ⟨?_, ?_, ?_, hl2, ?_, by omega, ?_, ?_⟩
      · rcases B.arg with ⟨o', e'⟩ | hall
        · have naq : a ≠ q := aq _ _ e'
          have e := sbq _ _ e' naq
          have nap : a ≠ p := ne_of e hp3 (by intro z; cases z)
          refine .inl ⟨o', ?_⟩
          rw [upd_ne naq, upd_ne naq, upd_ne naq]
          exact sb3 _ _ (sl _ _ e) nap
        · exact .inr hall
      · refine st3.mask h3q masks_frz fun b o e nb => ?_
        rw [upd_ne nb, upd_ne nb, upd_ne nb, upd_ne nb]
        exact e
      · rw [List.map_append, List.map_cons]
        have z : (done.map V.int ++ [V.int ((((ans.map V.int).length : Nat)) : Int)]) ++ ans.map V.int = done.map V.int ++ V.int ((ans.length : Nat) : Int) :: ans.map V.int := by
          rw [List.length_map, List.append_assoc]
          rfl
        rw [← z]
        exact upd_same
      · have z : ns.drop (place + 1 + kk) = tl := by rw [e5, List.drop_drop]
        rw [z]
        exact hgo2
      · rw [List.length_append, List.length_cons]
        have z : 1100 - m = (1100 - n) + 1 := by omega
        rw [z, Nat.add_mul]
        omega
      · have z : ns.drop (place + 1 + kk) = tl := by rw [e5, List.drop_drop]
        have y := B.dues
        rw [hdrop, hdue] at y
        rw [z, ← y, List.append_assoc]
    · have hge' : place = ns.length := by
        have := B.le
        rw [List.length_map] at hge
        omega
      have y := B.dues
      rw [hge', List.drop_length, due_nil, List.append_nil] at y
      refine ⟨_, rfl, k H2 q ?_⟩
      rw [due_start, ← y]
      exact B.lq
end
end Hk

set_option Elab.async false
set_option linter.all false
set_option maxRecDepth 100000
set_option maxHeartbeats 4000000
namespace Hk
open PySem PySem.Spec PyProof.Rows L2
open PySem.W (Codec)
/-! ## What the top has written -/
abbrev PairK (w : World) (es : Array DictEntry) (kvs : List (Key × V)) : Prop := Paired (fun (e : DictEntry) (kv : Key × V) => keyIs kv.1 e.key = true ∧ e.hash = keyH w kv.1 ∧ RelV kv.2 e.val) es.toList kvs
theorem all_mk {P : Program} {w : World} {K : PySem.W.Frag} {h : Heap} {mg : Str → Option Value} {fa : Addr}
    {C_Reading : Addr}
    {C_Keying : Addr}
    {f_least_unit : Addr} {od_least_unit an_least_unit : Option Addr} {sl_least_unit : Array (Option Value)} {oc_least_unit kV_least_unit dc_least_unit pm_least_unit cd_least_unit ct_least_unit : Value}
    {f_greatest_unit : Addr} {od_greatest_unit an_greatest_unit : Option Addr} {sl_greatest_unit : Array (Option Value)} {oc_greatest_unit kV_greatest_unit dc_greatest_unit pm_greatest_unit cd_greatest_unit ct_greatest_unit : Value}
    {f_count_by_now : Addr} {od_count_by_now an_count_by_now : Option Addr} {sl_count_by_now : Array (Option Value)} {oc_count_by_now kV_count_by_now dc_count_by_now pm_count_by_now cd_count_by_now ct_count_by_now : Value}
    {f_letter_byte : Addr} {od_letter_byte an_letter_byte : Option Addr} {sl_letter_byte : Array (Option Value)} {oc_letter_byte kV_letter_byte dc_letter_byte pm_letter_byte cd_letter_byte ct_letter_byte : Value}
    {f_Reading_init : Addr} {od_Reading_init an_Reading_init : Option Addr} {sl_Reading_init : Array (Option Value)} {oc_Reading_init kV_Reading_init dc_Reading_init pm_Reading_init cd_Reading_init ct_Reading_init : Value}
    {f_Reading_how_many : Addr} {od_Reading_how_many an_Reading_how_many : Option Addr} {sl_Reading_how_many : Array (Option Value)} {oc_Reading_how_many kV_Reading_how_many dc_Reading_how_many pm_Reading_how_many cd_Reading_how_many ct_Reading_how_many : Value}
    {f_Reading_within : Addr} {od_Reading_within an_Reading_within : Option Addr} {sl_Reading_within : Array (Option Value)} {oc_Reading_within kV_Reading_within dc_Reading_within pm_Reading_within cd_Reading_within ct_Reading_within : Value}
    {f_Reading_if_so_many : Addr} {od_Reading_if_so_many an_Reading_if_so_many : Option Addr} {sl_Reading_if_so_many : Array (Option Value)} {oc_Reading_if_so_many kV_Reading_if_so_many dc_Reading_if_so_many pm_Reading_if_so_many cd_Reading_if_so_many ct_Reading_if_so_many : Value}
    {f_Reading_with_mark : Addr} {od_Reading_with_mark an_Reading_with_mark : Option Addr} {sl_Reading_with_mark : Array (Option Value)} {oc_Reading_with_mark kV_Reading_with_mark dc_Reading_with_mark pm_Reading_with_mark cd_Reading_with_mark ct_Reading_with_mark : Value}
    {f_Reading_with_gap : Addr} {od_Reading_with_gap an_Reading_with_gap : Option Addr} {sl_Reading_with_gap : Array (Option Value)} {oc_Reading_with_gap kV_Reading_with_gap dc_Reading_with_gap pm_Reading_with_gap cd_Reading_with_gap ct_Reading_with_gap : Value}
    {f_Reading_row_behind_gap : Addr} {od_Reading_row_behind_gap an_Reading_row_behind_gap : Option Addr} {sl_Reading_row_behind_gap : Array (Option Value)} {oc_Reading_row_behind_gap kV_Reading_row_behind_gap dc_Reading_row_behind_gap pm_Reading_row_behind_gap cd_Reading_row_behind_gap ct_Reading_row_behind_gap : Value}
    {f_Reading_row_in_gap : Addr} {od_Reading_row_in_gap an_Reading_row_in_gap : Option Addr} {sl_Reading_row_in_gap : Array (Option Value)} {oc_Reading_row_in_gap kV_Reading_row_in_gap dc_Reading_row_in_gap pm_Reading_row_in_gap cd_Reading_row_in_gap ct_Reading_row_in_gap : Value}
    {f_with_units : Addr} {od_with_units an_with_units : Option Addr} {sl_with_units : Array (Option Value)} {oc_with_units kV_with_units dc_with_units pm_with_units cd_with_units ct_with_units : Value}
    {f_read_mark : Addr} {od_read_mark an_read_mark : Option Addr} {sl_read_mark : Array (Option Value)} {oc_read_mark kV_read_mark dc_read_mark pm_read_mark cd_read_mark ct_read_mark : Value}
    {f_read_gap : Addr} {od_read_gap an_read_gap : Option Addr} {sl_read_gap : Array (Option Value)} {oc_read_gap kV_read_gap dc_read_gap pm_read_gap cd_read_gap ct_read_gap : Value}
    {f_read_held_key : Addr} {od_read_held_key an_read_held_key : Option Addr} {sl_read_held_key : Array (Option Value)} {oc_read_held_key kV_read_held_key dc_read_held_key pm_read_held_key cd_read_held_key ct_read_held_key : Value}
    {f_common_beginning : Addr} {od_common_beginning an_common_beginning : Option Addr} {sl_common_beginning : Array (Option Value)} {oc_common_beginning kV_common_beginning dc_common_beginning pm_common_beginning cd_common_beginning ct_common_beginning : Value}
    {f_is_range : Addr} {od_is_range an_is_range : Option Addr} {sl_is_range : Array (Option Value)} {oc_is_range kV_is_range dc_is_range pm_is_range cd_is_range ct_is_range : Value}
    {f_Keying_init : Addr} {od_Keying_init an_Keying_init : Option Addr} {sl_Keying_init : Array (Option Value)} {oc_Keying_init kV_Keying_init dc_Keying_init pm_Keying_init cd_Keying_init ct_Keying_init : Value}
    {f_Keying_restart : Addr} {od_Keying_restart an_Keying_restart : Option Addr} {sl_Keying_restart : Array (Option Value)} {oc_Keying_restart kV_Keying_restart dc_Keying_restart pm_Keying_restart cd_Keying_restart ct_Keying_restart : Value}
    {f_Keying_begin : Addr} {od_Keying_begin an_Keying_begin : Option Addr} {sl_Keying_begin : Array (Option Value)} {oc_Keying_begin kV_Keying_begin dc_Keying_begin pm_Keying_begin cd_Keying_begin ct_Keying_begin : Value}
    {f_Keying_down : Addr} {od_Keying_down an_Keying_down : Option Addr} {sl_Keying_down : Array (Option Value)} {oc_Keying_down kV_Keying_down dc_Keying_down pm_Keying_down cd_Keying_down ct_Keying_down : Value}
    {f_Keying_up : Addr} {od_Keying_up an_Keying_up : Option Addr} {sl_Keying_up : Array (Option Value)} {oc_Keying_up kV_Keying_up dc_Keying_up pm_Keying_up cd_Keying_up ct_Keying_up : Value}
    {f_Keying_at : Addr} {od_Keying_at an_Keying_at : Option Addr} {sl_Keying_at : Array (Option Value)} {oc_Keying_at kV_Keying_at dc_Keying_at pm_Keying_at cd_Keying_at ct_Keying_at : Value}
    {f_Keying_read : Addr} {od_Keying_read an_Keying_read : Option Addr} {sl_Keying_read : Array (Option Value)} {oc_Keying_read kV_Keying_read dc_Keying_read pm_Keying_read cd_Keying_read ct_Keying_read : Value}
    {f_Keying_units : Addr} {od_Keying_units an_Keying_units : Option Addr} {sl_Keying_units : Array (Option Value)} {oc_Keying_units kV_Keying_units dc_Keying_units pm_Keying_units cd_Keying_units ct_Keying_units : Value}
    {f_Keying_is_wrong_tick : Addr} {od_Keying_is_wrong_tick an_Keying_is_wrong_tick : Option Addr} {sl_Keying_is_wrong_tick : Array (Option Value)} {oc_Keying_is_wrong_tick kV_Keying_is_wrong_tick dc_Keying_is_wrong_tick pm_Keying_is_wrong_tick cd_Keying_is_wrong_tick ct_Keying_is_wrong_tick : Value}
    {f_Keying_refusal_to_turn : Addr} {od_Keying_refusal_to_turn an_Keying_refusal_to_turn : Option Addr} {sl_Keying_refusal_to_turn : Array (Option Value)} {oc_Keying_refusal_to_turn kV_Keying_refusal_to_turn dc_Keying_refusal_to_turn pm_Keying_refusal_to_turn cd_Keying_refusal_to_turn ct_Keying_refusal_to_turn : Value}
    {f_Keying_end_length : Addr} {od_Keying_end_length an_Keying_end_length : Option Addr} {sl_Keying_end_length : Array (Option Value)} {oc_Keying_end_length kV_Keying_end_length dc_Keying_end_length pm_Keying_end_length cd_Keying_end_length ct_Keying_end_length : Value}
    {f_Keying_turn : Addr} {od_Keying_turn an_Keying_turn : Option Addr} {sl_Keying_turn : Array (Option Value)} {oc_Keying_turn kV_Keying_turn dc_Keying_turn pm_Keying_turn cd_Keying_turn ct_Keying_turn : Value}
    {f_Keying_gap_that_goes_on : Addr} {od_Keying_gap_that_goes_on an_Keying_gap_that_goes_on : Option Addr} {sl_Keying_gap_that_goes_on : Array (Option Value)} {oc_Keying_gap_that_goes_on kV_Keying_gap_that_goes_on dc_Keying_gap_that_goes_on pm_Keying_gap_that_goes_on cd_Keying_gap_that_goes_on ct_Keying_gap_that_goes_on : Value}
    {f_Keying_how_many_may_be : Addr} {od_Keying_how_many_may_be an_Keying_how_many_may_be : Option Addr} {sl_Keying_how_many_may_be : Array (Option Value)} {oc_Keying_how_many_may_be kV_Keying_how_many_may_be dc_Keying_how_many_may_be pm_Keying_how_many_may_be cd_Keying_how_many_may_be ct_Keying_how_many_may_be : Value}
    {f_answer : Addr} {od_answer an_answer : Option Addr} {sl_answer : Array (Option Value)} {oc_answer kV_answer dc_answer pm_answer cd_answer ct_answer : Value}
    {f_answers : Addr} {od_answers an_answers : Option Addr} {sl_answers : Array (Option Value)} {oc_answers kV_answers dc_answers pm_answers cd_answers ct_answers : Value}
    {tk_AT : Tok}
    {tk_BEGIN : Tok}
    {tk_BLANK : Tok}
    {tk_DOWN : Tok}
    {tk_FIRST_TICK_TOO_LATE : Tok}
    {a_GAP_COUNTS : Addr}
    {t0_GAP_COUNTS t1_GAP_COUNTS t2_GAP_COUNTS : Tok} {od_GAP_COUNTS : Option Addr} {n_GAP_COUNTS : Nat} {sl_GAP_COUNTS : Array (Option Value)}
    {tk_GREATEST_UNIT : Tok}
    {tk_KEY_IS_THERE : Tok}
    {a_LETTERS : Addr}
    {oc_LETTERS : Value} {od_LETTERS : Option Addr} {es_LETTERS : Array DictEntry} {ep_LETTERS : Nat} {sl_LETTERS : Array (Option Value)}
    {tk_LONGEST_LENGTH : Tok}
    {a_MARK_COUNTS : Addr}
    {t0_MARK_COUNTS t1_MARK_COUNTS : Tok} {od_MARK_COUNTS : Option Addr} {n_MARK_COUNTS : Nat} {sl_MARK_COUNTS : Array (Option Value)}
    {tk_MOST_LENGTHS : Tok}
    {tk_NO_ROOM : Tok}
    {tk_NO_UNIT : Tok}
    {a_NUMBERS_BEHIND : Addr}
    {oc_NUMBERS_BEHIND : Value} {od_NUMBERS_BEHIND : Option Addr} {es_NUMBERS_BEHIND : Array DictEntry} {ep_NUMBERS_BEHIND : Nat} {sl_NUMBERS_BEHIND : Array (Option Value)}
    {tk_READ : Tok}
    {tk_UP : Tok}
    {tk_WRONG_NUMBER : Tok} (X : K.In h) (G : h.Ns mainGlobals mg) (hfa : mg "answers" = some (.ref fa))
    (aC_Reading : PySem.W.nsIn K mainGlobals "Reading" = some (some (.ref C_Reading)))
    (pg_Reading : PySem.W.plainGet K C_Reading Str.empty = true)
    (hd_Reading : PySem.W.hasDictIn K C_Reading = true)
    (po_Reading : PySem.W.plainOver K C_Reading = true)
    (sa_Reading : PySem.W.findIn K (.ref C_Reading) "__setattr__" = some (some (.builtin "object.__setattr__")))
    (mk_Reading : PySem.W.makesIn K C_Reading = true)
    (kc_Reading : PySem.W.keepIn K (.ref C_Reading) = true)
    (n_Reading_least : PySem.W.findIn K (.ref C_Reading) "least" = some none)
    (n_Reading_greatest : PySem.W.findIn K (.ref C_Reading) "greatest" = some none)
    (n_Reading_row : PySem.W.findIn K (.ref C_Reading) "row" = some none)
    (n_Reading_marks : PySem.W.findIn K (.ref C_Reading) "marks" = some none)
    (aC_Keying : PySem.W.nsIn K mainGlobals "Keying" = some (some (.ref C_Keying)))
    (pg_Keying : PySem.W.plainGet K C_Keying Str.empty = true)
    (hd_Keying : PySem.W.hasDictIn K C_Keying = true)
    (po_Keying : PySem.W.plainOver K C_Keying = true)
    (sa_Keying : PySem.W.findIn K (.ref C_Keying) "__setattr__" = some (some (.builtin "object.__setattr__")))
    (mk_Keying : PySem.W.makesIn K C_Keying = true)
    (kc_Keying : PySem.W.keepIn K (.ref C_Keying) = true)
    (n_Keying_slack : PySem.W.findIn K (.ref C_Keying) "slack" = some none)
    (n_Keying_now : PySem.W.findIn K (.ref C_Keying) "now" = some none)
    (n_Keying_is_down : PySem.W.findIn K (.ref C_Keying) "is_down" = some none)
    (n_Keying_was_pressed : PySem.W.findIn K (.ref C_Keying) "was_pressed" = some none)
    (n_Keying_turned_at : PySem.W.findIn K (.ref C_Keying) "turned_at" = some none)
    (n_Keying_lengths_over : PySem.W.findIn K (.ref C_Keying) "lengths_over" = some none)
    (n_Keying_readings : PySem.W.findIn K (.ref C_Keying) "readings" = some none)
    (a_least_unit : PySem.W.nsIn K mainGlobals "least_unit" = some (some (.ref f_least_unit)))
    (l_least_unit : K.lookup f_least_unit = some ⟨oc_least_unit, od_least_unit, .func (PySem.W.fnOf "least_unit" "least_unit" (defArgs s_least_unit) (defBody s_least_unit) (defScope s_least_unit) .none kV_least_unit dc_least_unit pm_least_unit an_least_unit cd_least_unit ct_least_unit), sl_least_unit⟩)
    (c_least_unit : PySem.W.codeIn K cd_least_unit "least_unit" = true)
    (k_least_unit : PySem.W.keepIn K (.ref f_least_unit) = true)
    (a_greatest_unit : PySem.W.nsIn K mainGlobals "greatest_unit" = some (some (.ref f_greatest_unit)))
    (l_greatest_unit : K.lookup f_greatest_unit = some ⟨oc_greatest_unit, od_greatest_unit, .func (PySem.W.fnOf "greatest_unit" "greatest_unit" (defArgs s_greatest_unit) (defBody s_greatest_unit) (defScope s_greatest_unit) .none kV_greatest_unit dc_greatest_unit pm_greatest_unit an_greatest_unit cd_greatest_unit ct_greatest_unit), sl_greatest_unit⟩)
    (c_greatest_unit : PySem.W.codeIn K cd_greatest_unit "greatest_unit" = true)
    (k_greatest_unit : PySem.W.keepIn K (.ref f_greatest_unit) = true)
    (a_count_by_now : PySem.W.nsIn K mainGlobals "count_by_now" = some (some (.ref f_count_by_now)))
    (l_count_by_now : K.lookup f_count_by_now = some ⟨oc_count_by_now, od_count_by_now, .func (PySem.W.fnOf "count_by_now" "count_by_now" (defArgs s_count_by_now) (defBody s_count_by_now) (defScope s_count_by_now) .none kV_count_by_now dc_count_by_now pm_count_by_now an_count_by_now cd_count_by_now ct_count_by_now), sl_count_by_now⟩)
    (c_count_by_now : PySem.W.codeIn K cd_count_by_now "count_by_now" = true)
    (k_count_by_now : PySem.W.keepIn K (.ref f_count_by_now) = true)
    (a_letter_byte : PySem.W.nsIn K mainGlobals "letter_byte" = some (some (.ref f_letter_byte)))
    (l_letter_byte : K.lookup f_letter_byte = some ⟨oc_letter_byte, od_letter_byte, .func (PySem.W.fnOf "letter_byte" "letter_byte" (defArgs s_letter_byte) (defBody s_letter_byte) (defScope s_letter_byte) .none kV_letter_byte dc_letter_byte pm_letter_byte an_letter_byte cd_letter_byte ct_letter_byte), sl_letter_byte⟩)
    (c_letter_byte : PySem.W.codeIn K cd_letter_byte "letter_byte" = true)
    (k_letter_byte : PySem.W.keepIn K (.ref f_letter_byte) = true)
    (a_Reading_init : PySem.W.findIn K (.ref C_Reading) "__init__" = some (some (.ref f_Reading_init)))
    (i_Reading_init : PySem.W.isFn K (.ref f_Reading_init) = true)
    (l_Reading_init : K.lookup f_Reading_init = some ⟨oc_Reading_init, od_Reading_init, .func (PySem.W.fnOf "__init__" "Reading.__init__" (defArgs s_Reading_init) (defBody s_Reading_init) (defScope s_Reading_init) .none kV_Reading_init dc_Reading_init pm_Reading_init an_Reading_init cd_Reading_init ct_Reading_init), sl_Reading_init⟩)
    (c_Reading_init : PySem.W.codeIn K cd_Reading_init "Reading.__init__" = true)
    (k_Reading_init : PySem.W.keepIn K (.ref f_Reading_init) = true)
    (a_Reading_how_many : PySem.W.findIn K (.ref C_Reading) "how_many" = some (some (.ref f_Reading_how_many)))
    (i_Reading_how_many : PySem.W.isFn K (.ref f_Reading_how_many) = true)
    (l_Reading_how_many : K.lookup f_Reading_how_many = some ⟨oc_Reading_how_many, od_Reading_how_many, .func (PySem.W.fnOf "how_many" "Reading.how_many" (defArgs s_Reading_how_many) (defBody s_Reading_how_many) (defScope s_Reading_how_many) .none kV_Reading_how_many dc_Reading_how_many pm_Reading_how_many an_Reading_how_many cd_Reading_how_many ct_Reading_how_many), sl_Reading_how_many⟩)
    (c_Reading_how_many : PySem.W.codeIn K cd_Reading_how_many "Reading.how_many" = true)
    (k_Reading_how_many : PySem.W.keepIn K (.ref f_Reading_how_many) = true)
    (a_Reading_within : PySem.W.findIn K (.ref C_Reading) "within" = some (some (.ref f_Reading_within)))
    (i_Reading_within : PySem.W.isFn K (.ref f_Reading_within) = true)
    (l_Reading_within : K.lookup f_Reading_within = some ⟨oc_Reading_within, od_Reading_within, .func (PySem.W.fnOf "within" "Reading.within" (defArgs s_Reading_within) (defBody s_Reading_within) (defScope s_Reading_within) .none kV_Reading_within dc_Reading_within pm_Reading_within an_Reading_within cd_Reading_within ct_Reading_within), sl_Reading_within⟩)
    (c_Reading_within : PySem.W.codeIn K cd_Reading_within "Reading.within" = true)
    (k_Reading_within : PySem.W.keepIn K (.ref f_Reading_within) = true)
    (a_Reading_if_so_many : PySem.W.findIn K (.ref C_Reading) "if_so_many" = some (some (.ref f_Reading_if_so_many)))
    (i_Reading_if_so_many : PySem.W.isFn K (.ref f_Reading_if_so_many) = true)
    (l_Reading_if_so_many : K.lookup f_Reading_if_so_many = some ⟨oc_Reading_if_so_many, od_Reading_if_so_many, .func (PySem.W.fnOf "if_so_many" "Reading.if_so_many" (defArgs s_Reading_if_so_many) (defBody s_Reading_if_so_many) (defScope s_Reading_if_so_many) .none kV_Reading_if_so_many dc_Reading_if_so_many pm_Reading_if_so_many an_Reading_if_so_many cd_Reading_if_so_many ct_Reading_if_so_many), sl_Reading_if_so_many⟩)
    (c_Reading_if_so_many : PySem.W.codeIn K cd_Reading_if_so_many "Reading.if_so_many" = true)
    (k_Reading_if_so_many : PySem.W.keepIn K (.ref f_Reading_if_so_many) = true)
    (a_Reading_with_mark : PySem.W.findIn K (.ref C_Reading) "with_mark" = some (some (.ref f_Reading_with_mark)))
    (i_Reading_with_mark : PySem.W.isFn K (.ref f_Reading_with_mark) = true)
    (l_Reading_with_mark : K.lookup f_Reading_with_mark = some ⟨oc_Reading_with_mark, od_Reading_with_mark, .func (PySem.W.fnOf "with_mark" "Reading.with_mark" (defArgs s_Reading_with_mark) (defBody s_Reading_with_mark) (defScope s_Reading_with_mark) .none kV_Reading_with_mark dc_Reading_with_mark pm_Reading_with_mark an_Reading_with_mark cd_Reading_with_mark ct_Reading_with_mark), sl_Reading_with_mark⟩)
    (c_Reading_with_mark : PySem.W.codeIn K cd_Reading_with_mark "Reading.with_mark" = true)
    (k_Reading_with_mark : PySem.W.keepIn K (.ref f_Reading_with_mark) = true)
    (a_Reading_with_gap : PySem.W.findIn K (.ref C_Reading) "with_gap" = some (some (.ref f_Reading_with_gap)))
    (i_Reading_with_gap : PySem.W.isFn K (.ref f_Reading_with_gap) = true)
    (l_Reading_with_gap : K.lookup f_Reading_with_gap = some ⟨oc_Reading_with_gap, od_Reading_with_gap, .func (PySem.W.fnOf "with_gap" "Reading.with_gap" (defArgs s_Reading_with_gap) (defBody s_Reading_with_gap) (defScope s_Reading_with_gap) .none kV_Reading_with_gap dc_Reading_with_gap pm_Reading_with_gap an_Reading_with_gap cd_Reading_with_gap ct_Reading_with_gap), sl_Reading_with_gap⟩)
    (c_Reading_with_gap : PySem.W.codeIn K cd_Reading_with_gap "Reading.with_gap" = true)
    (k_Reading_with_gap : PySem.W.keepIn K (.ref f_Reading_with_gap) = true)
    (a_Reading_row_behind_gap : PySem.W.findIn K (.ref C_Reading) "row_behind_gap" = some (some (.ref f_Reading_row_behind_gap)))
    (i_Reading_row_behind_gap : PySem.W.isFn K (.ref f_Reading_row_behind_gap) = true)
    (l_Reading_row_behind_gap : K.lookup f_Reading_row_behind_gap = some ⟨oc_Reading_row_behind_gap, od_Reading_row_behind_gap, .func (PySem.W.fnOf "row_behind_gap" "Reading.row_behind_gap" (defArgs s_Reading_row_behind_gap) (defBody s_Reading_row_behind_gap) (defScope s_Reading_row_behind_gap) .none kV_Reading_row_behind_gap dc_Reading_row_behind_gap pm_Reading_row_behind_gap an_Reading_row_behind_gap cd_Reading_row_behind_gap ct_Reading_row_behind_gap), sl_Reading_row_behind_gap⟩)
    (c_Reading_row_behind_gap : PySem.W.codeIn K cd_Reading_row_behind_gap "Reading.row_behind_gap" = true)
    (k_Reading_row_behind_gap : PySem.W.keepIn K (.ref f_Reading_row_behind_gap) = true)
    (a_Reading_row_in_gap : PySem.W.findIn K (.ref C_Reading) "row_in_gap" = some (some (.ref f_Reading_row_in_gap)))
    (i_Reading_row_in_gap : PySem.W.isFn K (.ref f_Reading_row_in_gap) = true)
    (l_Reading_row_in_gap : K.lookup f_Reading_row_in_gap = some ⟨oc_Reading_row_in_gap, od_Reading_row_in_gap, .func (PySem.W.fnOf "row_in_gap" "Reading.row_in_gap" (defArgs s_Reading_row_in_gap) (defBody s_Reading_row_in_gap) (defScope s_Reading_row_in_gap) .none kV_Reading_row_in_gap dc_Reading_row_in_gap pm_Reading_row_in_gap an_Reading_row_in_gap cd_Reading_row_in_gap ct_Reading_row_in_gap), sl_Reading_row_in_gap⟩)
    (c_Reading_row_in_gap : PySem.W.codeIn K cd_Reading_row_in_gap "Reading.row_in_gap" = true)
    (k_Reading_row_in_gap : PySem.W.keepIn K (.ref f_Reading_row_in_gap) = true)
    (a_with_units : PySem.W.nsIn K mainGlobals "with_units" = some (some (.ref f_with_units)))
    (l_with_units : K.lookup f_with_units = some ⟨oc_with_units, od_with_units, .func (PySem.W.fnOf "with_units" "with_units" (defArgs s_with_units) (defBody s_with_units) (defScope s_with_units) .none kV_with_units dc_with_units pm_with_units an_with_units cd_with_units ct_with_units), sl_with_units⟩)
    (c_with_units : PySem.W.codeIn K cd_with_units "with_units" = true)
    (k_with_units : PySem.W.keepIn K (.ref f_with_units) = true)
    (a_read_mark : PySem.W.nsIn K mainGlobals "read_mark" = some (some (.ref f_read_mark)))
    (l_read_mark : K.lookup f_read_mark = some ⟨oc_read_mark, od_read_mark, .func (PySem.W.fnOf "read_mark" "read_mark" (defArgs s_read_mark) (defBody s_read_mark) (defScope s_read_mark) .none kV_read_mark dc_read_mark pm_read_mark an_read_mark cd_read_mark ct_read_mark), sl_read_mark⟩)
    (c_read_mark : PySem.W.codeIn K cd_read_mark "read_mark" = true)
    (k_read_mark : PySem.W.keepIn K (.ref f_read_mark) = true)
    (a_read_gap : PySem.W.nsIn K mainGlobals "read_gap" = some (some (.ref f_read_gap)))
    (l_read_gap : K.lookup f_read_gap = some ⟨oc_read_gap, od_read_gap, .func (PySem.W.fnOf "read_gap" "read_gap" (defArgs s_read_gap) (defBody s_read_gap) (defScope s_read_gap) .none kV_read_gap dc_read_gap pm_read_gap an_read_gap cd_read_gap ct_read_gap), sl_read_gap⟩)
    (c_read_gap : PySem.W.codeIn K cd_read_gap "read_gap" = true)
    (k_read_gap : PySem.W.keepIn K (.ref f_read_gap) = true)
    (a_read_held_key : PySem.W.nsIn K mainGlobals "read_held_key" = some (some (.ref f_read_held_key)))
    (l_read_held_key : K.lookup f_read_held_key = some ⟨oc_read_held_key, od_read_held_key, .func (PySem.W.fnOf "read_held_key" "read_held_key" (defArgs s_read_held_key) (defBody s_read_held_key) (defScope s_read_held_key) .none kV_read_held_key dc_read_held_key pm_read_held_key an_read_held_key cd_read_held_key ct_read_held_key), sl_read_held_key⟩)
    (c_read_held_key : PySem.W.codeIn K cd_read_held_key "read_held_key" = true)
    (k_read_held_key : PySem.W.keepIn K (.ref f_read_held_key) = true)
    (a_common_beginning : PySem.W.nsIn K mainGlobals "common_beginning" = some (some (.ref f_common_beginning)))
    (l_common_beginning : K.lookup f_common_beginning = some ⟨oc_common_beginning, od_common_beginning, .func (PySem.W.fnOf "common_beginning" "common_beginning" (defArgs s_common_beginning) (defBody s_common_beginning) (defScope s_common_beginning) .none kV_common_beginning dc_common_beginning pm_common_beginning an_common_beginning cd_common_beginning ct_common_beginning), sl_common_beginning⟩)
    (c_common_beginning : PySem.W.codeIn K cd_common_beginning "common_beginning" = true)
    (k_common_beginning : PySem.W.keepIn K (.ref f_common_beginning) = true)
    (a_is_range : PySem.W.nsIn K mainGlobals "is_range" = some (some (.ref f_is_range)))
    (l_is_range : K.lookup f_is_range = some ⟨oc_is_range, od_is_range, .func (PySem.W.fnOf "is_range" "is_range" (defArgs s_is_range) (defBody s_is_range) (defScope s_is_range) .none kV_is_range dc_is_range pm_is_range an_is_range cd_is_range ct_is_range), sl_is_range⟩)
    (c_is_range : PySem.W.codeIn K cd_is_range "is_range" = true)
    (k_is_range : PySem.W.keepIn K (.ref f_is_range) = true)
    (a_Keying_init : PySem.W.findIn K (.ref C_Keying) "__init__" = some (some (.ref f_Keying_init)))
    (i_Keying_init : PySem.W.isFn K (.ref f_Keying_init) = true)
    (l_Keying_init : K.lookup f_Keying_init = some ⟨oc_Keying_init, od_Keying_init, .func (PySem.W.fnOf "__init__" "Keying.__init__" (defArgs s_Keying_init) (defBody s_Keying_init) (defScope s_Keying_init) .none kV_Keying_init dc_Keying_init pm_Keying_init an_Keying_init cd_Keying_init ct_Keying_init), sl_Keying_init⟩)
    (c_Keying_init : PySem.W.codeIn K cd_Keying_init "Keying.__init__" = true)
    (k_Keying_init : PySem.W.keepIn K (.ref f_Keying_init) = true)
    (a_Keying_restart : PySem.W.findIn K (.ref C_Keying) "restart" = some (some (.ref f_Keying_restart)))
    (i_Keying_restart : PySem.W.isFn K (.ref f_Keying_restart) = true)
    (l_Keying_restart : K.lookup f_Keying_restart = some ⟨oc_Keying_restart, od_Keying_restart, .func (PySem.W.fnOf "restart" "Keying.restart" (defArgs s_Keying_restart) (defBody s_Keying_restart) (defScope s_Keying_restart) .none kV_Keying_restart dc_Keying_restart pm_Keying_restart an_Keying_restart cd_Keying_restart ct_Keying_restart), sl_Keying_restart⟩)
    (c_Keying_restart : PySem.W.codeIn K cd_Keying_restart "Keying.restart" = true)
    (k_Keying_restart : PySem.W.keepIn K (.ref f_Keying_restart) = true)
    (a_Keying_begin : PySem.W.findIn K (.ref C_Keying) "begin" = some (some (.ref f_Keying_begin)))
    (i_Keying_begin : PySem.W.isFn K (.ref f_Keying_begin) = true)
    (l_Keying_begin : K.lookup f_Keying_begin = some ⟨oc_Keying_begin, od_Keying_begin, .func (PySem.W.fnOf "begin" "Keying.begin" (defArgs s_Keying_begin) (defBody s_Keying_begin) (defScope s_Keying_begin) .none kV_Keying_begin dc_Keying_begin pm_Keying_begin an_Keying_begin cd_Keying_begin ct_Keying_begin), sl_Keying_begin⟩)
    (c_Keying_begin : PySem.W.codeIn K cd_Keying_begin "Keying.begin" = true)
    (k_Keying_begin : PySem.W.keepIn K (.ref f_Keying_begin) = true)
    (a_Keying_down : PySem.W.findIn K (.ref C_Keying) "down" = some (some (.ref f_Keying_down)))
    (i_Keying_down : PySem.W.isFn K (.ref f_Keying_down) = true)
    (l_Keying_down : K.lookup f_Keying_down = some ⟨oc_Keying_down, od_Keying_down, .func (PySem.W.fnOf "down" "Keying.down" (defArgs s_Keying_down) (defBody s_Keying_down) (defScope s_Keying_down) .none kV_Keying_down dc_Keying_down pm_Keying_down an_Keying_down cd_Keying_down ct_Keying_down), sl_Keying_down⟩)
    (c_Keying_down : PySem.W.codeIn K cd_Keying_down "Keying.down" = true)
    (k_Keying_down : PySem.W.keepIn K (.ref f_Keying_down) = true)
    (a_Keying_up : PySem.W.findIn K (.ref C_Keying) "up" = some (some (.ref f_Keying_up)))
    (i_Keying_up : PySem.W.isFn K (.ref f_Keying_up) = true)
    (l_Keying_up : K.lookup f_Keying_up = some ⟨oc_Keying_up, od_Keying_up, .func (PySem.W.fnOf "up" "Keying.up" (defArgs s_Keying_up) (defBody s_Keying_up) (defScope s_Keying_up) .none kV_Keying_up dc_Keying_up pm_Keying_up an_Keying_up cd_Keying_up ct_Keying_up), sl_Keying_up⟩)
    (c_Keying_up : PySem.W.codeIn K cd_Keying_up "Keying.up" = true)
    (k_Keying_up : PySem.W.keepIn K (.ref f_Keying_up) = true)
    (a_Keying_at : PySem.W.findIn K (.ref C_Keying) "at" = some (some (.ref f_Keying_at)))
    (i_Keying_at : PySem.W.isFn K (.ref f_Keying_at) = true)
    (l_Keying_at : K.lookup f_Keying_at = some ⟨oc_Keying_at, od_Keying_at, .func (PySem.W.fnOf "at" "Keying.at" (defArgs s_Keying_at) (defBody s_Keying_at) (defScope s_Keying_at) .none kV_Keying_at dc_Keying_at pm_Keying_at an_Keying_at cd_Keying_at ct_Keying_at), sl_Keying_at⟩)
    (c_Keying_at : PySem.W.codeIn K cd_Keying_at "Keying.at" = true)
    (k_Keying_at : PySem.W.keepIn K (.ref f_Keying_at) = true)
    (a_Keying_read : PySem.W.findIn K (.ref C_Keying) "read" = some (some (.ref f_Keying_read)))
    (i_Keying_read : PySem.W.isFn K (.ref f_Keying_read) = true)
    (l_Keying_read : K.lookup f_Keying_read = some ⟨oc_Keying_read, od_Keying_read, .func (PySem.W.fnOf "read" "Keying.read" (defArgs s_Keying_read) (defBody s_Keying_read) (defScope s_Keying_read) .none kV_Keying_read dc_Keying_read pm_Keying_read an_Keying_read cd_Keying_read ct_Keying_read), sl_Keying_read⟩)
    (c_Keying_read : PySem.W.codeIn K cd_Keying_read "Keying.read" = true)
    (k_Keying_read : PySem.W.keepIn K (.ref f_Keying_read) = true)
    (a_Keying_units : PySem.W.findIn K (.ref C_Keying) "units" = some (some (.ref f_Keying_units)))
    (i_Keying_units : PySem.W.isFn K (.ref f_Keying_units) = true)
    (l_Keying_units : K.lookup f_Keying_units = some ⟨oc_Keying_units, od_Keying_units, .func (PySem.W.fnOf "units" "Keying.units" (defArgs s_Keying_units) (defBody s_Keying_units) (defScope s_Keying_units) .none kV_Keying_units dc_Keying_units pm_Keying_units an_Keying_units cd_Keying_units ct_Keying_units), sl_Keying_units⟩)
    (c_Keying_units : PySem.W.codeIn K cd_Keying_units "Keying.units" = true)
    (k_Keying_units : PySem.W.keepIn K (.ref f_Keying_units) = true)
    (a_Keying_is_wrong_tick : PySem.W.findIn K (.ref C_Keying) "is_wrong_tick" = some (some (.ref f_Keying_is_wrong_tick)))
    (i_Keying_is_wrong_tick : PySem.W.isFn K (.ref f_Keying_is_wrong_tick) = true)
    (l_Keying_is_wrong_tick : K.lookup f_Keying_is_wrong_tick = some ⟨oc_Keying_is_wrong_tick, od_Keying_is_wrong_tick, .func (PySem.W.fnOf "is_wrong_tick" "Keying.is_wrong_tick" (defArgs s_Keying_is_wrong_tick) (defBody s_Keying_is_wrong_tick) (defScope s_Keying_is_wrong_tick) .none kV_Keying_is_wrong_tick dc_Keying_is_wrong_tick pm_Keying_is_wrong_tick an_Keying_is_wrong_tick cd_Keying_is_wrong_tick ct_Keying_is_wrong_tick), sl_Keying_is_wrong_tick⟩)
    (c_Keying_is_wrong_tick : PySem.W.codeIn K cd_Keying_is_wrong_tick "Keying.is_wrong_tick" = true)
    (k_Keying_is_wrong_tick : PySem.W.keepIn K (.ref f_Keying_is_wrong_tick) = true)
    (a_Keying_refusal_to_turn : PySem.W.findIn K (.ref C_Keying) "refusal_to_turn" = some (some (.ref f_Keying_refusal_to_turn)))
    (i_Keying_refusal_to_turn : PySem.W.isFn K (.ref f_Keying_refusal_to_turn) = true)
    (l_Keying_refusal_to_turn : K.lookup f_Keying_refusal_to_turn = some ⟨oc_Keying_refusal_to_turn, od_Keying_refusal_to_turn, .func (PySem.W.fnOf "refusal_to_turn" "Keying.refusal_to_turn" (defArgs s_Keying_refusal_to_turn) (defBody s_Keying_refusal_to_turn) (defScope s_Keying_refusal_to_turn) .none kV_Keying_refusal_to_turn dc_Keying_refusal_to_turn pm_Keying_refusal_to_turn an_Keying_refusal_to_turn cd_Keying_refusal_to_turn ct_Keying_refusal_to_turn), sl_Keying_refusal_to_turn⟩)
    (c_Keying_refusal_to_turn : PySem.W.codeIn K cd_Keying_refusal_to_turn "Keying.refusal_to_turn" = true)
    (k_Keying_refusal_to_turn : PySem.W.keepIn K (.ref f_Keying_refusal_to_turn) = true)
    (a_Keying_end_length : PySem.W.findIn K (.ref C_Keying) "end_length" = some (some (.ref f_Keying_end_length)))
    (i_Keying_end_length : PySem.W.isFn K (.ref f_Keying_end_length) = true)
    (l_Keying_end_length : K.lookup f_Keying_end_length = some ⟨oc_Keying_end_length, od_Keying_end_length, .func (PySem.W.fnOf "end_length" "Keying.end_length" (defArgs s_Keying_end_length) (defBody s_Keying_end_length) (defScope s_Keying_end_length) .none kV_Keying_end_length dc_Keying_end_length pm_Keying_end_length an_Keying_end_length cd_Keying_end_length ct_Keying_end_length), sl_Keying_end_length⟩)
    (c_Keying_end_length : PySem.W.codeIn K cd_Keying_end_length "Keying.end_length" = true)
    (k_Keying_end_length : PySem.W.keepIn K (.ref f_Keying_end_length) = true)
    (a_Keying_turn : PySem.W.findIn K (.ref C_Keying) "turn" = some (some (.ref f_Keying_turn)))
    (i_Keying_turn : PySem.W.isFn K (.ref f_Keying_turn) = true)
    (l_Keying_turn : K.lookup f_Keying_turn = some ⟨oc_Keying_turn, od_Keying_turn, .func (PySem.W.fnOf "turn" "Keying.turn" (defArgs s_Keying_turn) (defBody s_Keying_turn) (defScope s_Keying_turn) .none kV_Keying_turn dc_Keying_turn pm_Keying_turn an_Keying_turn cd_Keying_turn ct_Keying_turn), sl_Keying_turn⟩)
    (c_Keying_turn : PySem.W.codeIn K cd_Keying_turn "Keying.turn" = true)
    (k_Keying_turn : PySem.W.keepIn K (.ref f_Keying_turn) = true)
    (a_Keying_gap_that_goes_on : PySem.W.findIn K (.ref C_Keying) "gap_that_goes_on" = some (some (.ref f_Keying_gap_that_goes_on)))
    (i_Keying_gap_that_goes_on : PySem.W.isFn K (.ref f_Keying_gap_that_goes_on) = true)
    (l_Keying_gap_that_goes_on : K.lookup f_Keying_gap_that_goes_on = some ⟨oc_Keying_gap_that_goes_on, od_Keying_gap_that_goes_on, .func (PySem.W.fnOf "gap_that_goes_on" "Keying.gap_that_goes_on" (defArgs s_Keying_gap_that_goes_on) (defBody s_Keying_gap_that_goes_on) (defScope s_Keying_gap_that_goes_on) .none kV_Keying_gap_that_goes_on dc_Keying_gap_that_goes_on pm_Keying_gap_that_goes_on an_Keying_gap_that_goes_on cd_Keying_gap_that_goes_on ct_Keying_gap_that_goes_on), sl_Keying_gap_that_goes_on⟩)
    (c_Keying_gap_that_goes_on : PySem.W.codeIn K cd_Keying_gap_that_goes_on "Keying.gap_that_goes_on" = true)
    (k_Keying_gap_that_goes_on : PySem.W.keepIn K (.ref f_Keying_gap_that_goes_on) = true)
    (a_Keying_how_many_may_be : PySem.W.findIn K (.ref C_Keying) "how_many_may_be" = some (some (.ref f_Keying_how_many_may_be)))
    (i_Keying_how_many_may_be : PySem.W.isFn K (.ref f_Keying_how_many_may_be) = true)
    (l_Keying_how_many_may_be : K.lookup f_Keying_how_many_may_be = some ⟨oc_Keying_how_many_may_be, od_Keying_how_many_may_be, .func (PySem.W.fnOf "how_many_may_be" "Keying.how_many_may_be" (defArgs s_Keying_how_many_may_be) (defBody s_Keying_how_many_may_be) (defScope s_Keying_how_many_may_be) .none kV_Keying_how_many_may_be dc_Keying_how_many_may_be pm_Keying_how_many_may_be an_Keying_how_many_may_be cd_Keying_how_many_may_be ct_Keying_how_many_may_be), sl_Keying_how_many_may_be⟩)
    (c_Keying_how_many_may_be : PySem.W.codeIn K cd_Keying_how_many_may_be "Keying.how_many_may_be" = true)
    (k_Keying_how_many_may_be : PySem.W.keepIn K (.ref f_Keying_how_many_may_be) = true)
    (a_answer : PySem.W.nsIn K mainGlobals "answer" = some (some (.ref f_answer)))
    (l_answer : K.lookup f_answer = some ⟨oc_answer, od_answer, .func (PySem.W.fnOf "answer" "answer" (defArgs s_answer) (defBody s_answer) (defScope s_answer) .none kV_answer dc_answer pm_answer an_answer cd_answer ct_answer), sl_answer⟩)
    (c_answer : PySem.W.codeIn K cd_answer "answer" = true)
    (k_answer : PySem.W.keepIn K (.ref f_answer) = true)
    (a_answers : PySem.W.nsIn K mainGlobals "answers" = some (some (.ref f_answers)))
    (l_answers : K.lookup f_answers = some ⟨oc_answers, od_answers, .func (PySem.W.fnOf "answers" "answers" (defArgs s_answers) (defBody s_answers) (defScope s_answers) .none kV_answers dc_answers pm_answers an_answers cd_answers ct_answers), sl_answers⟩)
    (c_answers : PySem.W.codeIn K cd_answers "answers" = true)
    (k_answers : PySem.W.keepIn K (.ref f_answers) = true)
    (x_AT : PySem.W.nsIn K mainGlobals "AT" = some (some (.int 3 tk_AT)))
    (x_BEGIN : PySem.W.nsIn K mainGlobals "BEGIN" = some (some (.int 0 tk_BEGIN)))
    (x_BLANK : PySem.W.nsIn K mainGlobals "BLANK" = some (some (.int 32 tk_BLANK)))
    (x_DOWN : PySem.W.nsIn K mainGlobals "DOWN" = some (some (.int 1 tk_DOWN)))
    (x_FIRST_TICK_TOO_LATE : PySem.W.nsIn K mainGlobals "FIRST_TICK_TOO_LATE" = some (some (.int 2147483648 tk_FIRST_TICK_TOO_LATE)))
    (x_GAP_COUNTS : PySem.W.nsIn K mainGlobals "GAP_COUNTS" = some (some (.ref a_GAP_COUNTS)))
    (l_GAP_COUNTS : K.lookup a_GAP_COUNTS = some ⟨.type "tuple", od_GAP_COUNTS, .seq #[.int 1 t0_GAP_COUNTS, .int 3 t1_GAP_COUNTS, .int 7 t2_GAP_COUNTS] n_GAP_COUNTS, sl_GAP_COUNTS⟩)
    (x_GREATEST_UNIT : PySem.W.nsIn K mainGlobals "GREATEST_UNIT" = some (some (.int 4096 tk_GREATEST_UNIT)))
    (x_KEY_IS_THERE : PySem.W.nsIn K mainGlobals "KEY_IS_THERE" = some (some (.int (-16) tk_KEY_IS_THERE)))
    (x_LETTERS : PySem.W.nsIn K mainGlobals "LETTERS" = some (some (.ref a_LETTERS)))
    (l_LETTERS : K.lookup a_LETTERS = some ⟨oc_LETTERS, od_LETTERS, .dict es_LETTERS ep_LETTERS, sl_LETTERS⟩)
    (ex_LETTERS : (⟨oc_LETTERS, od_LETTERS, .dict es_LETTERS ep_LETTERS, sl_LETTERS⟩ : Obj).ExactDict)
    (sm_LETTERS : (a_LETTERS == sysModules) = false)
    (pr_LETTERS : PairK w es_LETTERS [((.inr ".-"), .str "A"), ((.inr "-..."), .str "B"), ((.inr "-.-."), .str "C"), ((.inr "-.."), .str "D"), ((.inr "."), .str "E"), ((.inr "..-."), .str "F"), ((.inr "--."), .str "G"), ((.inr "...."), .str "H"), ((.inr ".."), .str "I"), ((.inr ".---"), .str "J"), ((.inr "-.-"), .str "K"), ((.inr ".-.."), .str "L"), ((.inr "--"), .str "M"), ((.inr "-."), .str "N"), ((.inr "---"), .str "O"), ((.inr ".--."), .str "P"), ((.inr "--.-"), .str "Q"), ((.inr ".-."), .str "R"), ((.inr "..."), .str "S"), ((.inr "-"), .str "T"), ((.inr "..-"), .str "U"), ((.inr "...-"), .str "V"), ((.inr ".--"), .str "W"), ((.inr "-..-"), .str "X"), ((.inr "-.--"), .str "Y"), ((.inr "--.."), .str "Z"), ((.inr "-----"), .str "0"), ((.inr ".----"), .str "1"), ((.inr "..---"), .str "2"), ((.inr "...--"), .str "3"), ((.inr "....-"), .str "4"), ((.inr "....."), .str "5"), ((.inr "-...."), .str "6"), ((.inr "--..."), .str "7"), ((.inr "---.."), .str "8"), ((.inr "----."), .str "9")])
    (x_LONGEST_LENGTH : PySem.W.nsIn K mainGlobals "LONGEST_LENGTH" = some (some (.int 1000000 tk_LONGEST_LENGTH)))
    (x_MARK_COUNTS : PySem.W.nsIn K mainGlobals "MARK_COUNTS" = some (some (.ref a_MARK_COUNTS)))
    (l_MARK_COUNTS : K.lookup a_MARK_COUNTS = some ⟨.type "tuple", od_MARK_COUNTS, .seq #[.int 1 t0_MARK_COUNTS, .int 3 t1_MARK_COUNTS] n_MARK_COUNTS, sl_MARK_COUNTS⟩)
    (x_MOST_LENGTHS : PySem.W.nsIn K mainGlobals "MOST_LENGTHS" = some (some (.int 1024 tk_MOST_LENGTHS)))
    (x_NO_ROOM : PySem.W.nsIn K mainGlobals "NO_ROOM" = some (some (.int (-28) tk_NO_ROOM)))
    (x_NO_UNIT : PySem.W.nsIn K mainGlobals "NO_UNIT" = some (some (.int (-61) tk_NO_UNIT)))
    (x_NUMBERS_BEHIND : PySem.W.nsIn K mainGlobals "NUMBERS_BEHIND" = some (some (.ref a_NUMBERS_BEHIND)))
    (l_NUMBERS_BEHIND : K.lookup a_NUMBERS_BEHIND = some ⟨oc_NUMBERS_BEHIND, od_NUMBERS_BEHIND, .dict es_NUMBERS_BEHIND ep_NUMBERS_BEHIND, sl_NUMBERS_BEHIND⟩)
    (ex_NUMBERS_BEHIND : (⟨oc_NUMBERS_BEHIND, od_NUMBERS_BEHIND, .dict es_NUMBERS_BEHIND ep_NUMBERS_BEHIND, sl_NUMBERS_BEHIND⟩ : Obj).ExactDict)
    (sm_NUMBERS_BEHIND : (a_NUMBERS_BEHIND == sysModules) = false)
    (pr_NUMBERS_BEHIND : PairK w es_NUMBERS_BEHIND [((.inl 0), .int 3), ((.inl 1), .int 1), ((.inl 2), .int 1), ((.inl 3), .int 1), ((.inl 4), .int 0), ((.inl 5), .int 0)])
    (x_READ : PySem.W.nsIn K mainGlobals "READ" = some (some (.int 4 tk_READ)))
    (x_UP : PySem.W.nsIn K mainGlobals "UP" = some (some (.int 2 tk_UP)))
    (x_WRONG_NUMBER : PySem.W.nsIn K mainGlobals "WRONG_NUMBER" = some (some (.int (-22) tk_WRONG_NUMBER)))
    (b_any : PySem.W.nsIn K mainGlobals "any" = some none)
    (b_enumerate : PySem.W.nsIn K mainGlobals "enumerate" = some none)
    (b_len : PySem.W.nsIn K mainGlobals "len" = some none)
    (b_list : PySem.W.nsIn K mainGlobals "list" = some none)
    (b_max : PySem.W.nsIn K mainGlobals "max" = some none)
    (b_min : PySem.W.nsIn K mainGlobals "min" = some none)
    (b_ord : PySem.W.nsIn K mainGlobals "ord" = some none)
    (b_sum : PySem.W.nsIn K mainGlobals "sum" = some none) :
    ∃ fd : FuncData, (∀ (s : Shared) (us : List Value), us.length = (["calls"] : List Str).length → BindsTo s fd ⟨us, []⟩ ((["calls"] : List Str).zip us)) ∧ ∀ base : Heap, K.In base → base.Ns mainGlobals mg → FnOk P w K mg base CX0 8 fa fd ["calls"] (sp_answers K) := by
  have e := hfa.symm.trans (PySem.W.mg_of X G a_answers)
  cases e
  have T : Txt K w mg (Adr.mk C_Reading C_Keying f_least_unit (PySem.W.fnOf "least_unit" "least_unit" (defArgs s_least_unit) (defBody s_least_unit) (defScope s_least_unit) .none kV_least_unit dc_least_unit pm_least_unit an_least_unit cd_least_unit ct_least_unit) f_greatest_unit (PySem.W.fnOf "greatest_unit" "greatest_unit" (defArgs s_greatest_unit) (defBody s_greatest_unit) (defScope s_greatest_unit) .none kV_greatest_unit dc_greatest_unit pm_greatest_unit an_greatest_unit cd_greatest_unit ct_greatest_unit) f_count_by_now (PySem.W.fnOf "count_by_now" "count_by_now" (defArgs s_count_by_now) (defBody s_count_by_now) (defScope s_count_by_now) .none kV_count_by_now dc_count_by_now pm_count_by_now an_count_by_now cd_count_by_now ct_count_by_now) f_letter_byte (PySem.W.fnOf "letter_byte" "letter_byte" (defArgs s_letter_byte) (defBody s_letter_byte) (defScope s_letter_byte) .none kV_letter_byte dc_letter_byte pm_letter_byte an_letter_byte cd_letter_byte ct_letter_byte) f_Reading_init (PySem.W.fnOf "__init__" "Reading.__init__" (defArgs s_Reading_init) (defBody s_Reading_init) (defScope s_Reading_init) .none kV_Reading_init dc_Reading_init pm_Reading_init an_Reading_init cd_Reading_init ct_Reading_init) f_Reading_how_many (PySem.W.fnOf "how_many" "Reading.how_many" (defArgs s_Reading_how_many) (defBody s_Reading_how_many) (defScope s_Reading_how_many) .none kV_Reading_how_many dc_Reading_how_many pm_Reading_how_many an_Reading_how_many cd_Reading_how_many ct_Reading_how_many) f_Reading_within (PySem.W.fnOf "within" "Reading.within" (defArgs s_Reading_within) (defBody s_Reading_within) (defScope s_Reading_within) .none kV_Reading_within dc_Reading_within pm_Reading_within an_Reading_within cd_Reading_within ct_Reading_within) f_Reading_if_so_many (PySem.W.fnOf "if_so_many" "Reading.if_so_many" (defArgs s_Reading_if_so_many) (defBody s_Reading_if_so_many) (defScope s_Reading_if_so_many) .none kV_Reading_if_so_many dc_Reading_if_so_many pm_Reading_if_so_many an_Reading_if_so_many cd_Reading_if_so_many ct_Reading_if_so_many) f_Reading_with_mark (PySem.W.fnOf "with_mark" "Reading.with_mark" (defArgs s_Reading_with_mark) (defBody s_Reading_with_mark) (defScope s_Reading_with_mark) .none kV_Reading_with_mark dc_Reading_with_mark pm_Reading_with_mark an_Reading_with_mark cd_Reading_with_mark ct_Reading_with_mark) f_Reading_with_gap (PySem.W.fnOf "with_gap" "Reading.with_gap" (defArgs s_Reading_with_gap) (defBody s_Reading_with_gap) (defScope s_Reading_with_gap) .none kV_Reading_with_gap dc_Reading_with_gap pm_Reading_with_gap an_Reading_with_gap cd_Reading_with_gap ct_Reading_with_gap) f_Reading_row_behind_gap (PySem.W.fnOf "row_behind_gap" "Reading.row_behind_gap" (defArgs s_Reading_row_behind_gap) (defBody s_Reading_row_behind_gap) (defScope s_Reading_row_behind_gap) .none kV_Reading_row_behind_gap dc_Reading_row_behind_gap pm_Reading_row_behind_gap an_Reading_row_behind_gap cd_Reading_row_behind_gap ct_Reading_row_behind_gap) f_Reading_row_in_gap (PySem.W.fnOf "row_in_gap" "Reading.row_in_gap" (defArgs s_Reading_row_in_gap) (defBody s_Reading_row_in_gap) (defScope s_Reading_row_in_gap) .none kV_Reading_row_in_gap dc_Reading_row_in_gap pm_Reading_row_in_gap an_Reading_row_in_gap cd_Reading_row_in_gap ct_Reading_row_in_gap) f_with_units (PySem.W.fnOf "with_units" "with_units" (defArgs s_with_units) (defBody s_with_units) (defScope s_with_units) .none kV_with_units dc_with_units pm_with_units an_with_units cd_with_units ct_with_units) f_read_mark (PySem.W.fnOf "read_mark" "read_mark" (defArgs s_read_mark) (defBody s_read_mark) (defScope s_read_mark) .none kV_read_mark dc_read_mark pm_read_mark an_read_mark cd_read_mark ct_read_mark) f_read_gap (PySem.W.fnOf "read_gap" "read_gap" (defArgs s_read_gap) (defBody s_read_gap) (defScope s_read_gap) .none kV_read_gap dc_read_gap pm_read_gap an_read_gap cd_read_gap ct_read_gap) f_read_held_key (PySem.W.fnOf "read_held_key" "read_held_key" (defArgs s_read_held_key) (defBody s_read_held_key) (defScope s_read_held_key) .none kV_read_held_key dc_read_held_key pm_read_held_key an_read_held_key cd_read_held_key ct_read_held_key) f_common_beginning (PySem.W.fnOf "common_beginning" "common_beginning" (defArgs s_common_beginning) (defBody s_common_beginning) (defScope s_common_beginning) .none kV_common_beginning dc_common_beginning pm_common_beginning an_common_beginning cd_common_beginning ct_common_beginning) f_is_range (PySem.W.fnOf "is_range" "is_range" (defArgs s_is_range) (defBody s_is_range) (defScope s_is_range) .none kV_is_range dc_is_range pm_is_range an_is_range cd_is_range ct_is_range) f_Keying_init (PySem.W.fnOf "__init__" "Keying.__init__" (defArgs s_Keying_init) (defBody s_Keying_init) (defScope s_Keying_init) .none kV_Keying_init dc_Keying_init pm_Keying_init an_Keying_init cd_Keying_init ct_Keying_init) f_Keying_restart (PySem.W.fnOf "restart" "Keying.restart" (defArgs s_Keying_restart) (defBody s_Keying_restart) (defScope s_Keying_restart) .none kV_Keying_restart dc_Keying_restart pm_Keying_restart an_Keying_restart cd_Keying_restart ct_Keying_restart) f_Keying_begin (PySem.W.fnOf "begin" "Keying.begin" (defArgs s_Keying_begin) (defBody s_Keying_begin) (defScope s_Keying_begin) .none kV_Keying_begin dc_Keying_begin pm_Keying_begin an_Keying_begin cd_Keying_begin ct_Keying_begin) f_Keying_down (PySem.W.fnOf "down" "Keying.down" (defArgs s_Keying_down) (defBody s_Keying_down) (defScope s_Keying_down) .none kV_Keying_down dc_Keying_down pm_Keying_down an_Keying_down cd_Keying_down ct_Keying_down) f_Keying_up (PySem.W.fnOf "up" "Keying.up" (defArgs s_Keying_up) (defBody s_Keying_up) (defScope s_Keying_up) .none kV_Keying_up dc_Keying_up pm_Keying_up an_Keying_up cd_Keying_up ct_Keying_up) f_Keying_at (PySem.W.fnOf "at" "Keying.at" (defArgs s_Keying_at) (defBody s_Keying_at) (defScope s_Keying_at) .none kV_Keying_at dc_Keying_at pm_Keying_at an_Keying_at cd_Keying_at ct_Keying_at) f_Keying_read (PySem.W.fnOf "read" "Keying.read" (defArgs s_Keying_read) (defBody s_Keying_read) (defScope s_Keying_read) .none kV_Keying_read dc_Keying_read pm_Keying_read an_Keying_read cd_Keying_read ct_Keying_read) f_Keying_units (PySem.W.fnOf "units" "Keying.units" (defArgs s_Keying_units) (defBody s_Keying_units) (defScope s_Keying_units) .none kV_Keying_units dc_Keying_units pm_Keying_units an_Keying_units cd_Keying_units ct_Keying_units) f_Keying_is_wrong_tick (PySem.W.fnOf "is_wrong_tick" "Keying.is_wrong_tick" (defArgs s_Keying_is_wrong_tick) (defBody s_Keying_is_wrong_tick) (defScope s_Keying_is_wrong_tick) .none kV_Keying_is_wrong_tick dc_Keying_is_wrong_tick pm_Keying_is_wrong_tick an_Keying_is_wrong_tick cd_Keying_is_wrong_tick ct_Keying_is_wrong_tick) f_Keying_refusal_to_turn (PySem.W.fnOf "refusal_to_turn" "Keying.refusal_to_turn" (defArgs s_Keying_refusal_to_turn) (defBody s_Keying_refusal_to_turn) (defScope s_Keying_refusal_to_turn) .none kV_Keying_refusal_to_turn dc_Keying_refusal_to_turn pm_Keying_refusal_to_turn an_Keying_refusal_to_turn cd_Keying_refusal_to_turn ct_Keying_refusal_to_turn) f_Keying_end_length (PySem.W.fnOf "end_length" "Keying.end_length" (defArgs s_Keying_end_length) (defBody s_Keying_end_length) (defScope s_Keying_end_length) .none kV_Keying_end_length dc_Keying_end_length pm_Keying_end_length an_Keying_end_length cd_Keying_end_length ct_Keying_end_length) f_Keying_turn (PySem.W.fnOf "turn" "Keying.turn" (defArgs s_Keying_turn) (defBody s_Keying_turn) (defScope s_Keying_turn) .none kV_Keying_turn dc_Keying_turn pm_Keying_turn an_Keying_turn cd_Keying_turn ct_Keying_turn) f_Keying_gap_that_goes_on (PySem.W.fnOf "gap_that_goes_on" "Keying.gap_that_goes_on" (defArgs s_Keying_gap_that_goes_on) (defBody s_Keying_gap_that_goes_on) (defScope s_Keying_gap_that_goes_on) .none kV_Keying_gap_that_goes_on dc_Keying_gap_that_goes_on pm_Keying_gap_that_goes_on an_Keying_gap_that_goes_on cd_Keying_gap_that_goes_on ct_Keying_gap_that_goes_on) f_Keying_how_many_may_be (PySem.W.fnOf "how_many_may_be" "Keying.how_many_may_be" (defArgs s_Keying_how_many_may_be) (defBody s_Keying_how_many_may_be) (defScope s_Keying_how_many_may_be) .none kV_Keying_how_many_may_be dc_Keying_how_many_may_be pm_Keying_how_many_may_be an_Keying_how_many_may_be cd_Keying_how_many_may_be ct_Keying_how_many_may_be) f_answer (PySem.W.fnOf "answer" "answer" (defArgs s_answer) (defBody s_answer) (defScope s_answer) .none kV_answer dc_answer pm_answer an_answer cd_answer ct_answer) fa (PySem.W.fnOf "answers" "answers" (defArgs s_answers) (defBody s_answers) (defScope s_answers) .none kV_answers dc_answers pm_answers an_answers cd_answers ct_answers) a_GAP_COUNTS a_LETTERS a_MARK_COUNTS a_NUMBERS_BEHIND) :=
    { cl_Reading := ⟨pg_Reading, hd_Reading, po_Reading, sa_Reading⟩,
      g_Reading := PySem.W.mg_of X G aC_Reading,
      mk_Reading := ⟨mk_Reading, a_Reading_init, i_Reading_init, kc_Reading⟩,
      n_Reading_least := n_Reading_least,
      n_Reading_greatest := n_Reading_greatest,
      n_Reading_row := n_Reading_row,
      n_Reading_marks := n_Reading_marks,
      cl_Keying := ⟨pg_Keying, hd_Keying, po_Keying, sa_Keying⟩,
      g_Keying := PySem.W.mg_of X G aC_Keying,
      mk_Keying := ⟨mk_Keying, a_Keying_init, i_Keying_init, kc_Keying⟩,
      n_Keying_slack := n_Keying_slack,
      n_Keying_now := n_Keying_now,
      n_Keying_is_down := n_Keying_is_down,
      n_Keying_was_pressed := n_Keying_was_pressed,
      n_Keying_turned_at := n_Keying_turned_at,
      n_Keying_lengths_over := n_Keying_lengths_over,
      n_Keying_readings := n_Keying_readings,
      F_least_unit := fun_mk (st := s_least_unit) l_least_unit c_least_unit k_least_unit,
      g_least_unit := PySem.W.mg_of X G a_least_unit,
      k_least_unit := k_least_unit,
      F_greatest_unit := fun_mk (st := s_greatest_unit) l_greatest_unit c_greatest_unit k_greatest_unit,
      g_greatest_unit := PySem.W.mg_of X G a_greatest_unit,
      k_greatest_unit := k_greatest_unit,
      F_count_by_now := fun_mk (st := s_count_by_now) l_count_by_now c_count_by_now k_count_by_now,
      g_count_by_now := PySem.W.mg_of X G a_count_by_now,
      k_count_by_now := k_count_by_now,
      F_letter_byte := fun_mk (st := s_letter_byte) l_letter_byte c_letter_byte k_letter_byte,
      g_letter_byte := PySem.W.mg_of X G a_letter_byte,
      k_letter_byte := k_letter_byte,
      F_Reading_init := fun_mk (st := s_Reading_init) l_Reading_init c_Reading_init k_Reading_init,
      m_Reading_init := ⟨a_Reading_init, i_Reading_init, k_Reading_init⟩,
      F_Reading_how_many := fun_mk (st := s_Reading_how_many) l_Reading_how_many c_Reading_how_many k_Reading_how_many,
      m_Reading_how_many := ⟨a_Reading_how_many, i_Reading_how_many, k_Reading_how_many⟩,
      F_Reading_within := fun_mk (st := s_Reading_within) l_Reading_within c_Reading_within k_Reading_within,
      m_Reading_within := ⟨a_Reading_within, i_Reading_within, k_Reading_within⟩,
      F_Reading_if_so_many := fun_mk (st := s_Reading_if_so_many) l_Reading_if_so_many c_Reading_if_so_many k_Reading_if_so_many,
      m_Reading_if_so_many := ⟨a_Reading_if_so_many, i_Reading_if_so_many, k_Reading_if_so_many⟩,
      F_Reading_with_mark := fun_mk (st := s_Reading_with_mark) l_Reading_with_mark c_Reading_with_mark k_Reading_with_mark,
      m_Reading_with_mark := ⟨a_Reading_with_mark, i_Reading_with_mark, k_Reading_with_mark⟩,
      F_Reading_with_gap := fun_mk (st := s_Reading_with_gap) l_Reading_with_gap c_Reading_with_gap k_Reading_with_gap,
      m_Reading_with_gap := ⟨a_Reading_with_gap, i_Reading_with_gap, k_Reading_with_gap⟩,
      F_Reading_row_behind_gap := fun_mk (st := s_Reading_row_behind_gap) l_Reading_row_behind_gap c_Reading_row_behind_gap k_Reading_row_behind_gap,
      m_Reading_row_behind_gap := ⟨a_Reading_row_behind_gap, i_Reading_row_behind_gap, k_Reading_row_behind_gap⟩,
      F_Reading_row_in_gap := fun_mk (st := s_Reading_row_in_gap) l_Reading_row_in_gap c_Reading_row_in_gap k_Reading_row_in_gap,
      m_Reading_row_in_gap := ⟨a_Reading_row_in_gap, i_Reading_row_in_gap, k_Reading_row_in_gap⟩,
      F_with_units := fun_mk (st := s_with_units) l_with_units c_with_units k_with_units,
      g_with_units := PySem.W.mg_of X G a_with_units,
      k_with_units := k_with_units,
      F_read_mark := fun_mk (st := s_read_mark) l_read_mark c_read_mark k_read_mark,
      g_read_mark := PySem.W.mg_of X G a_read_mark,
      k_read_mark := k_read_mark,
      F_read_gap := fun_mk (st := s_read_gap) l_read_gap c_read_gap k_read_gap,
      g_read_gap := PySem.W.mg_of X G a_read_gap,
      k_read_gap := k_read_gap,
      F_read_held_key := fun_mk (st := s_read_held_key) l_read_held_key c_read_held_key k_read_held_key,
      g_read_held_key := PySem.W.mg_of X G a_read_held_key,
      k_read_held_key := k_read_held_key,
      F_common_beginning := fun_mk (st := s_common_beginning) l_common_beginning c_common_beginning k_common_beginning,
      g_common_beginning := PySem.W.mg_of X G a_common_beginning,
      k_common_beginning := k_common_beginning,
      F_is_range := fun_mk (st := s_is_range) l_is_range c_is_range k_is_range,
      g_is_range := PySem.W.mg_of X G a_is_range,
      k_is_range := k_is_range,
      F_Keying_init := fun_mk (st := s_Keying_init) l_Keying_init c_Keying_init k_Keying_init,
      m_Keying_init := ⟨a_Keying_init, i_Keying_init, k_Keying_init⟩,
      F_Keying_restart := fun_mk (st := s_Keying_restart) l_Keying_restart c_Keying_restart k_Keying_restart,
      m_Keying_restart := ⟨a_Keying_restart, i_Keying_restart, k_Keying_restart⟩,
      F_Keying_begin := fun_mk (st := s_Keying_begin) l_Keying_begin c_Keying_begin k_Keying_begin,
      m_Keying_begin := ⟨a_Keying_begin, i_Keying_begin, k_Keying_begin⟩,
      F_Keying_down := fun_mk (st := s_Keying_down) l_Keying_down c_Keying_down k_Keying_down,
      m_Keying_down := ⟨a_Keying_down, i_Keying_down, k_Keying_down⟩,
      F_Keying_up := fun_mk (st := s_Keying_up) l_Keying_up c_Keying_up k_Keying_up,
      m_Keying_up := ⟨a_Keying_up, i_Keying_up, k_Keying_up⟩,
      F_Keying_at := fun_mk (st := s_Keying_at) l_Keying_at c_Keying_at k_Keying_at,
      m_Keying_at := ⟨a_Keying_at, i_Keying_at, k_Keying_at⟩,
      F_Keying_read := fun_mk (st := s_Keying_read) l_Keying_read c_Keying_read k_Keying_read,
      m_Keying_read := ⟨a_Keying_read, i_Keying_read, k_Keying_read⟩,
      F_Keying_units := fun_mk (st := s_Keying_units) l_Keying_units c_Keying_units k_Keying_units,
      m_Keying_units := ⟨a_Keying_units, i_Keying_units, k_Keying_units⟩,
      F_Keying_is_wrong_tick := fun_mk (st := s_Keying_is_wrong_tick) l_Keying_is_wrong_tick c_Keying_is_wrong_tick k_Keying_is_wrong_tick,
      m_Keying_is_wrong_tick := ⟨a_Keying_is_wrong_tick, i_Keying_is_wrong_tick, k_Keying_is_wrong_tick⟩,
      F_Keying_refusal_to_turn := fun_mk (st := s_Keying_refusal_to_turn) l_Keying_refusal_to_turn c_Keying_refusal_to_turn k_Keying_refusal_to_turn,
      m_Keying_refusal_to_turn := ⟨a_Keying_refusal_to_turn, i_Keying_refusal_to_turn, k_Keying_refusal_to_turn⟩,
      F_Keying_end_length := fun_mk (st := s_Keying_end_length) l_Keying_end_length c_Keying_end_length k_Keying_end_length,
      m_Keying_end_length := ⟨a_Keying_end_length, i_Keying_end_length, k_Keying_end_length⟩,
      F_Keying_turn := fun_mk (st := s_Keying_turn) l_Keying_turn c_Keying_turn k_Keying_turn,
      m_Keying_turn := ⟨a_Keying_turn, i_Keying_turn, k_Keying_turn⟩,
      F_Keying_gap_that_goes_on := fun_mk (st := s_Keying_gap_that_goes_on) l_Keying_gap_that_goes_on c_Keying_gap_that_goes_on k_Keying_gap_that_goes_on,
      m_Keying_gap_that_goes_on := ⟨a_Keying_gap_that_goes_on, i_Keying_gap_that_goes_on, k_Keying_gap_that_goes_on⟩,
      F_Keying_how_many_may_be := fun_mk (st := s_Keying_how_many_may_be) l_Keying_how_many_may_be c_Keying_how_many_may_be k_Keying_how_many_may_be,
      m_Keying_how_many_may_be := ⟨a_Keying_how_many_may_be, i_Keying_how_many_may_be, k_Keying_how_many_may_be⟩,
      F_answer := fun_mk (st := s_answer) l_answer c_answer k_answer,
      g_answer := PySem.W.mg_of X G a_answer,
      k_answer := k_answer,
      F_answers := fun_mk (st := s_answers) l_answers c_answers k_answers,
      g_answers := PySem.W.mg_of X G a_answers,
      k_answers := k_answers,
      x_AT := ⟨_, PySem.W.mg_of X G x_AT⟩,
      x_BEGIN := ⟨_, PySem.W.mg_of X G x_BEGIN⟩,
      x_BLANK := ⟨_, PySem.W.mg_of X G x_BLANK⟩,
      x_DOWN := ⟨_, PySem.W.mg_of X G x_DOWN⟩,
      x_FIRST_TICK_TOO_LATE := ⟨_, PySem.W.mg_of X G x_FIRST_TICK_TOO_LATE⟩,
      c_GAP_COUNTS := PySem.W.mg_of X G x_GAP_COUNTS,
      e_GAP_COUNTS := fun H => .inr ⟨_, _, _, l_GAP_COUNTS, rfl, rfl, (by show 3 ≤ sizeLine; decide), (.cons ⟨_, rfl⟩ (.cons ⟨_, rfl⟩ (.cons ⟨_, rfl⟩ .nil)))⟩,
      x_GREATEST_UNIT := ⟨_, PySem.W.mg_of X G x_GREATEST_UNIT⟩,
      x_KEY_IS_THERE := ⟨_, PySem.W.mg_of X G x_KEY_IS_THERE⟩,
      c_LETTERS := PySem.W.mg_of X G x_LETTERS,
      e_LETTERS := ⟨sm_LETTERS, by decide +kernel, _, _, _, l_LETTERS, ex_LETTERS, rfl, pr_LETTERS⟩,
      x_LONGEST_LENGTH := ⟨_, PySem.W.mg_of X G x_LONGEST_LENGTH⟩,
      c_MARK_COUNTS := PySem.W.mg_of X G x_MARK_COUNTS,
      e_MARK_COUNTS := fun H => .inr ⟨_, _, _, l_MARK_COUNTS, rfl, rfl, (by show 2 ≤ sizeLine; decide), (.cons ⟨_, rfl⟩ (.cons ⟨_, rfl⟩ .nil))⟩,
      x_MOST_LENGTHS := ⟨_, PySem.W.mg_of X G x_MOST_LENGTHS⟩,
      x_NO_ROOM := ⟨_, PySem.W.mg_of X G x_NO_ROOM⟩,
      x_NO_UNIT := ⟨_, PySem.W.mg_of X G x_NO_UNIT⟩,
      c_NUMBERS_BEHIND := PySem.W.mg_of X G x_NUMBERS_BEHIND,
      e_NUMBERS_BEHIND := ⟨sm_NUMBERS_BEHIND, by decide +kernel, _, _, _, l_NUMBERS_BEHIND, ex_NUMBERS_BEHIND, rfl, pr_NUMBERS_BEHIND⟩,
      x_READ := ⟨_, PySem.W.mg_of X G x_READ⟩,
      x_UP := ⟨_, PySem.W.mg_of X G x_UP⟩,
      x_WRONG_NUMBER := ⟨_, PySem.W.mg_of X G x_WRONG_NUMBER⟩,
      b_any := PySem.W.mg_none_of X G b_any,
      b_enumerate := PySem.W.mg_none_of X G b_enumerate,
      b_len := PySem.W.mg_none_of X G b_len,
      b_list := PySem.W.mg_none_of X G b_list,
      b_max := PySem.W.mg_none_of X G b_max,
      b_min := PySem.W.mg_none_of X G b_min,
      b_ord := PySem.W.mg_none_of X G b_ord,
      b_sum := PySem.W.mg_none_of X G b_sum }
  exact ⟨PySem.W.fnOf "answers" "answers" (defArgs s_answers) (defBody s_answers) (defScope s_answers) .none kV_answers dc_answers pm_answers an_answers cd_answers ct_answers, fun s us hu => match us, hu with | [_], _ => .of_eq rfl, fun base _ _ => ok_answers T⟩
end Hk
open PySem PySem.W PyProof.Rows
set_option maxRecDepth 100000 in
set_option maxHeartbeats 0 in
theorem PySem.Challenge.cw_handkey_s01_answers_holds : PySem.Challenge.rw_handkey_s01_answers.Holds := by
  w_on; k_headS; (case hw => exact ⟨[.list []], by decide +kernel, by decide +kernel⟩)
  k_fillS
  refine L2.walk_specK (r := PySem.Challenge.rw_handkey_s01_answers) (k := 8) (CX := L2.CX0) (ps := ["calls"]) (sp := Hk.sp_answers) (by decide +kernel) rfl rfl ⟨rfl, by decide, by decide⟩ (fun w h Y => PySem.W.kIn_of Y) ?F ?S (fun _ _ _ _ z => z)
  case F =>
    intro w mg fa h Y KX G hmg
    refine' Hk.all_mk KX G hmg ?aC_Reading ?pg_Reading ?hd_Reading ?po_Reading ?sa_Reading ?mk_Reading ?kc_Reading ?n_Reading_least ?n_Reading_greatest ?n_Reading_row ?n_Reading_marks ?aC_Keying ?pg_Keying ?hd_Keying ?po_Keying ?sa_Keying ?mk_Keying ?kc_Keying ?n_Keying_slack ?n_Keying_now ?n_Keying_is_down ?n_Keying_was_pressed ?n_Keying_turned_at ?n_Keying_lengths_over ?n_Keying_readings ?a_least_unit ?l_least_unit ?c_least_unit ?k_least_unit ?a_greatest_unit ?l_greatest_unit ?c_greatest_unit ?k_greatest_unit ?a_count_by_now ?l_count_by_now ?c_count_by_now ?k_count_by_now ?a_letter_byte ?l_letter_byte ?c_letter_byte ?k_letter_byte ?a_Reading_init ?i_Reading_init ?l_Reading_init ?c_Reading_init ?k_Reading_init ?a_Reading_how_many ?i_Reading_how_many ?l_Reading_how_many ?c_Reading_how_many ?k_Reading_how_many ?a_Reading_within ?i_Reading_within ?l_Reading_within ?c_Reading_within ?k_Reading_within ?a_Reading_if_so_many ?i_Reading_if_so_many ?l_Reading_if_so_many ?c_Reading_if_so_many ?k_Reading_if_so_many ?a_Reading_with_mark ?i_Reading_with_mark ?l_Reading_with_mark ?c_Reading_with_mark ?k_Reading_with_mark ?a_Reading_with_gap ?i_Reading_with_gap ?l_Reading_with_gap ?c_Reading_with_gap ?k_Reading_with_gap ?a_Reading_row_behind_gap ?i_Reading_row_behind_gap ?l_Reading_row_behind_gap ?c_Reading_row_behind_gap ?k_Reading_row_behind_gap ?a_Reading_row_in_gap ?i_Reading_row_in_gap ?l_Reading_row_in_gap ?c_Reading_row_in_gap ?k_Reading_row_in_gap ?a_with_units ?l_with_units ?c_with_units ?k_with_units ?a_read_mark ?l_read_mark ?c_read_mark ?k_read_mark ?a_read_gap ?l_read_gap ?c_read_gap ?k_read_gap ?a_read_held_key ?l_read_held_key ?c_read_held_key ?k_read_held_key ?a_common_beginning ?l_common_beginning ?c_common_beginning ?k_common_beginning ?a_is_range ?l_is_range ?c_is_range ?k_is_range ?a_Keying_init ?i_Keying_init ?l_Keying_init ?c_Keying_init ?k_Keying_init ?a_Keying_restart ?i_Keying_restart ?l_Keying_restart ?c_Keying_restart ?k_Keying_restart ?a_Keying_begin ?i_Keying_begin ?l_Keying_begin ?c_Keying_begin ?k_Keying_begin ?a_Keying_down ?i_Keying_down ?l_Keying_down ?c_Keying_down ?k_Keying_down ?a_Keying_up ?i_Keying_up ?l_Keying_up ?c_Keying_up ?k_Keying_up ?a_Keying_at ?i_Keying_at ?l_Keying_at ?c_Keying_at ?k_Keying_at ?a_Keying_read ?i_Keying_read ?l_Keying_read ?c_Keying_read ?k_Keying_read ?a_Keying_units ?i_Keying_units ?l_Keying_units ?c_Keying_units ?k_Keying_units ?a_Keying_is_wrong_tick ?i_Keying_is_wrong_tick ?l_Keying_is_wrong_tick ?c_Keying_is_wrong_tick ?k_Keying_is_wrong_tick ?a_Keying_refusal_to_turn ?i_Keying_refusal_to_turn ?l_Keying_refusal_to_turn ?c_Keying_refusal_to_turn ?k_Keying_refusal_to_turn ?a_Keying_end_length ?i_Keying_end_length ?l_Keying_end_length ?c_Keying_end_length ?k_Keying_end_length ?a_Keying_turn ?i_Keying_turn ?l_Keying_turn ?c_Keying_turn ?k_Keying_turn ?a_Keying_gap_that_goes_on ?i_Keying_gap_that_goes_on ?l_Keying_gap_that_goes_on ?c_Keying_gap_that_goes_on ?k_Keying_gap_that_goes_on ?a_Keying_how_many_may_be ?i_Keying_how_many_may_be ?l_Keying_how_many_may_be ?c_Keying_how_many_may_be ?k_Keying_how_many_may_be ?a_answer ?l_answer ?c_answer ?k_answer ?a_answers ?l_answers ?c_answers ?k_answers ?x_AT ?x_BEGIN ?x_BLANK ?x_DOWN ?x_FIRST_TICK_TOO_LATE ?x_GAP_COUNTS ?l_GAP_COUNTS ?x_GREATEST_UNIT ?x_KEY_IS_THERE ?x_LETTERS ?l_LETTERS ?ex_LETTERS ?sm_LETTERS ?pr_LETTERS ?x_LONGEST_LENGTH ?x_MARK_COUNTS ?l_MARK_COUNTS ?x_MOST_LENGTHS ?x_NO_ROOM ?x_NO_UNIT ?x_NUMBERS_BEHIND ?l_NUMBERS_BEHIND ?ex_NUMBERS_BEHIND ?sm_NUMBERS_BEHIND ?pr_NUMBERS_BEHIND ?x_READ ?x_UP ?x_WRONG_NUMBER ?b_any ?b_enumerate ?b_len ?b_list ?b_max ?b_min ?b_ord ?b_sum
    (case aC_Reading => k_is)
    (case pg_Reading => k_is)
    (case hd_Reading => k_is)
    (case po_Reading => k_is)
    (case sa_Reading => k_is)
    (case mk_Reading => k_is)
    (case kc_Reading => k_is)
    (case n_Reading_least => k_is)
    (case n_Reading_greatest => k_is)
    (case n_Reading_row => k_is)
    (case n_Reading_marks => k_is)
    (case aC_Keying => k_is)
    (case pg_Keying => k_is)
    (case hd_Keying => k_is)
    (case po_Keying => k_is)
    (case sa_Keying => k_is)
    (case mk_Keying => k_is)
    (case kc_Keying => k_is)
    (case n_Keying_slack => k_is)
    (case n_Keying_now => k_is)
    (case n_Keying_is_down => k_is)
    (case n_Keying_was_pressed => k_is)
    (case n_Keying_turned_at => k_is)
    (case n_Keying_lengths_over => k_is)
    (case n_Keying_readings => k_is)
    (case a_least_unit => k_is)
    (case l_least_unit => k_is)
    (case c_least_unit => k_is)
    (case k_least_unit => k_is)
    (case a_greatest_unit => k_is)
    (case l_greatest_unit => k_is)
    (case c_greatest_unit => k_is)
    (case k_greatest_unit => k_is)
    (case a_count_by_now => k_is)
    (case l_count_by_now => k_is)
    (case c_count_by_now => k_is)
    (case k_count_by_now => k_is)
    (case a_letter_byte => k_is)
    (case l_letter_byte => k_is)
    (case c_letter_byte => k_is)
    (case k_letter_byte => k_is)
    (case a_Reading_init => k_is)
    (case i_Reading_init => k_is)
    (case l_Reading_init => k_is)
    (case c_Reading_init => k_is)
    (case k_Reading_init => k_is)
    (case a_Reading_how_many => k_is)
    (case i_Reading_how_many => k_is)
    (case l_Reading_how_many => k_is)
    (case c_Reading_how_many => k_is)
    (case k_Reading_how_many => k_is)
    (case a_Reading_within => k_is)
    (case i_Reading_within => k_is)
    (case l_Reading_within => k_is)
    (case c_Reading_within => k_is)
    (case k_Reading_within => k_is)
    (case a_Reading_if_so_many => k_is)
    (case i_Reading_if_so_many => k_is)
    (case l_Reading_if_so_many => k_is)
    (case c_Reading_if_so_many => k_is)
    (case k_Reading_if_so_many => k_is)
    (case a_Reading_with_mark => k_is)
    (case i_Reading_with_mark => k_is)
    (case l_Reading_with_mark => k_is)
    (case c_Reading_with_mark => k_is)
    (case k_Reading_with_mark => k_is)
    (case a_Reading_with_gap => k_is)
    (case i_Reading_with_gap => k_is)
    (case l_Reading_with_gap => k_is)
    (case c_Reading_with_gap => k_is)
    (case k_Reading_with_gap => k_is)
    (case a_Reading_row_behind_gap => k_is)
    (case i_Reading_row_behind_gap => k_is)
    (case l_Reading_row_behind_gap => k_is)
    (case c_Reading_row_behind_gap => k_is)
    (case k_Reading_row_behind_gap => k_is)
    (case a_Reading_row_in_gap => k_is)
    (case i_Reading_row_in_gap => k_is)
    (case l_Reading_row_in_gap => k_is)
    (case c_Reading_row_in_gap => k_is)
    (case k_Reading_row_in_gap => k_is)
    (case a_with_units => k_is)
    (case l_with_units => k_is)
    (case c_with_units => k_is)
    (case k_with_units => k_is)
    (case a_read_mark => k_is)
    (case l_read_mark => k_is)
    (case c_read_mark => k_is)
    (case k_read_mark => k_is)
    (case a_read_gap => k_is)
    (case l_read_gap => k_is)
    (case c_read_gap => k_is)
    (case k_read_gap => k_is)
    (case a_read_held_key => k_is)
    (case l_read_held_key => k_is)
    (case c_read_held_key => k_is)
    (case k_read_held_key => k_is)
    (case a_common_beginning => k_is)
    (case l_common_beginning => k_is)
    (case c_common_beginning => k_is)
    (case k_common_beginning => k_is)
    (case a_is_range => k_is)
    (case l_is_range => k_is)
    (case c_is_range => k_is)
    (case k_is_range => k_is)
    (case a_Keying_init => k_is)
    (case i_Keying_init => k_is)
    (case l_Keying_init => k_is)
    (case c_Keying_init => k_is)
    (case k_Keying_init => k_is)
    (case a_Keying_restart => k_is)
    (case i_Keying_restart => k_is)
    (case l_Keying_restart => k_is)
    (case c_Keying_restart => k_is)
    (case k_Keying_restart => k_is)
    (case a_Keying_begin => k_is)
    (case i_Keying_begin => k_is)
    (case l_Keying_begin => k_is)
    (case c_Keying_begin => k_is)
    (case k_Keying_begin => k_is)
    (case a_Keying_down => k_is)
    (case i_Keying_down => k_is)
    (case l_Keying_down => k_is)
    (case c_Keying_down => k_is)
    (case k_Keying_down => k_is)
    (case a_Keying_up => k_is)
    (case i_Keying_up => k_is)
    (case l_Keying_up => k_is)
    (case c_Keying_up => k_is)
    (case k_Keying_up => k_is)
    (case a_Keying_at => k_is)
    (case i_Keying_at => k_is)
    (case l_Keying_at => k_is)
    (case c_Keying_at => k_is)
    (case k_Keying_at => k_is)
    (case a_Keying_read => k_is)
    (case i_Keying_read => k_is)
    (case l_Keying_read => k_is)
    (case c_Keying_read => k_is)
    (case k_Keying_read => k_is)
    (case a_Keying_units => k_is)
    (case i_Keying_units => k_is)
    (case l_Keying_units => k_is)
    (case c_Keying_units => k_is)
    (case k_Keying_units => k_is)
    (case a_Keying_is_wrong_tick => k_is)
    (case i_Keying_is_wrong_tick => k_is)
    (case l_Keying_is_wrong_tick => k_is)
    (case c_Keying_is_wrong_tick => k_is)
    (case k_Keying_is_wrong_tick => k_is)
    (case a_Keying_refusal_to_turn => k_is)
    (case i_Keying_refusal_to_turn => k_is)
    (case l_Keying_refusal_to_turn => k_is)
    (case c_Keying_refusal_to_turn => k_is)
    (case k_Keying_refusal_to_turn => k_is)
    (case a_Keying_end_length => k_is)
    (case i_Keying_end_length => k_is)
    (case l_Keying_end_length => k_is)
    (case c_Keying_end_length => k_is)
    (case k_Keying_end_length => k_is)
    (case a_Keying_turn => k_is)
    (case i_Keying_turn => k_is)
    (case l_Keying_turn => k_is)
    (case c_Keying_turn => k_is)
    (case k_Keying_turn => k_is)
    (case a_Keying_gap_that_goes_on => k_is)
    (case i_Keying_gap_that_goes_on => k_is)
    (case l_Keying_gap_that_goes_on => k_is)
    (case c_Keying_gap_that_goes_on => k_is)
    (case k_Keying_gap_that_goes_on => k_is)
    (case a_Keying_how_many_may_be => k_is)
    (case i_Keying_how_many_may_be => k_is)
    (case l_Keying_how_many_may_be => k_is)
    (case c_Keying_how_many_may_be => k_is)
    (case k_Keying_how_many_may_be => k_is)
    (case a_answer => k_is)
    (case l_answer => k_is)
    (case c_answer => k_is)
    (case k_answer => k_is)
    (case a_answers => k_is)
    (case l_answers => k_is)
    (case c_answers => k_is)
    (case k_answers => k_is)
    (case x_AT => k_is)
    (case x_BEGIN => k_is)
    (case x_BLANK => k_is)
    (case x_DOWN => k_is)
    (case x_FIRST_TICK_TOO_LATE => k_is)
    (case x_GAP_COUNTS => k_is)
    (case l_GAP_COUNTS => k_is)
    (case x_GREATEST_UNIT => k_is)
    (case x_KEY_IS_THERE => k_is)
    (case x_LETTERS => k_is)
    (case l_LETTERS => k_is)
    (case ex_LETTERS => exact ⟨rfl, rfl, rfl⟩)
    (case sm_LETTERS => rfl)
    (case pr_LETTERS => exact (.cons ⟨rfl, rfl, _, rfl⟩ (.cons ⟨rfl, rfl, _, rfl⟩ (.cons ⟨rfl, rfl, _, rfl⟩ (.cons ⟨rfl, rfl, _, rfl⟩ (.cons ⟨rfl, rfl, _, rfl⟩ (.cons ⟨rfl, rfl, _, rfl⟩ (.cons ⟨rfl, rfl, _, rfl⟩ (.cons ⟨rfl, rfl, _, rfl⟩ (.cons ⟨rfl, rfl, _, rfl⟩ (.cons ⟨rfl, rfl, _, rfl⟩ (.cons ⟨rfl, rfl, _, rfl⟩ (.cons ⟨rfl, rfl, _, rfl⟩ (.cons ⟨rfl, rfl, _, rfl⟩ (.cons ⟨rfl, rfl, _, rfl⟩ (.cons ⟨rfl, rfl, _, rfl⟩ (.cons ⟨rfl, rfl, _, rfl⟩ (.cons ⟨rfl, rfl, _, rfl⟩ (.cons ⟨rfl, rfl, _, rfl⟩ (.cons ⟨rfl, rfl, _, rfl⟩ (.cons ⟨rfl, rfl, _, rfl⟩ (.cons ⟨rfl, rfl, _, rfl⟩ (.cons ⟨rfl, rfl, _, rfl⟩ (.cons ⟨rfl, rfl, _, rfl⟩ (.cons ⟨rfl, rfl, _, rfl⟩ (.cons ⟨rfl, rfl, _, rfl⟩ (.cons ⟨rfl, rfl, _, rfl⟩ (.cons ⟨rfl, rfl, _, rfl⟩ (.cons ⟨rfl, rfl, _, rfl⟩ (.cons ⟨rfl, rfl, _, rfl⟩ (.cons ⟨rfl, rfl, _, rfl⟩ (.cons ⟨rfl, rfl, _, rfl⟩ (.cons ⟨rfl, rfl, _, rfl⟩ (.cons ⟨rfl, rfl, _, rfl⟩ (.cons ⟨rfl, rfl, _, rfl⟩ (.cons ⟨rfl, rfl, _, rfl⟩ (.cons ⟨rfl, rfl, _, rfl⟩ .nil)))))))))))))))))))))))))))))))))))))
    (case x_LONGEST_LENGTH => k_is)
    (case x_MARK_COUNTS => k_is)
    (case l_MARK_COUNTS => k_is)
    (case x_MOST_LENGTHS => k_is)
    (case x_NO_ROOM => k_is)
    (case x_NO_UNIT => k_is)
    (case x_NUMBERS_BEHIND => k_is)
    (case l_NUMBERS_BEHIND => k_is)
    (case ex_NUMBERS_BEHIND => exact ⟨rfl, rfl, rfl⟩)
    (case sm_NUMBERS_BEHIND => rfl)
    (case pr_NUMBERS_BEHIND => exact (.cons ⟨rfl, rfl, _, rfl⟩ (.cons ⟨rfl, rfl, _, rfl⟩ (.cons ⟨rfl, rfl, _, rfl⟩ (.cons ⟨rfl, rfl, _, rfl⟩ (.cons ⟨rfl, rfl, _, rfl⟩ (.cons ⟨rfl, rfl, _, rfl⟩ .nil)))))))
    (case x_READ => k_is)
    (case x_UP => k_is)
    (case x_WRONG_NUMBER => k_is)
    (case b_any => k_is)
    (case b_enumerate => k_is)
    (case b_len => k_is)
    (case b_list => k_is)
    (case b_max => k_is)
    (case b_min => k_is)
    (case b_ord => k_is)
    (case b_sum => k_is)
  case S =>
    intro K H xs a hO hwi hask hx
    cases hx with
    | cons h1 h2 =>
      cases h2
      cases h1 with
      | lst hs ha =>
        have e := L2.ints_dw a.1 _ ha
        subst e
        exact ⟨_, a.1, rfl, hO, hs, hask, fun H' p hp => .lst (L2.SqL.of hp) (L2.dw_ints _)⟩

