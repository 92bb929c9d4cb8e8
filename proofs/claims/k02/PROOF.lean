import PyProof.Rows.All
import Wide.All
import OpenK.AllK
import Wide.FinOn
import Lean
import PyProof.EqAt
import PyProof.EqKinds
import PyProof.TupleCall
import PySem.Challenge.RW_doughhours_k02_minute_of
-- CHANGE: your row's module here, as the last of these rows
set_option Elab.async false
set_option linter.all false
set_option maxRecDepth 100000
/-! THE HAND LAYER, for ints, bools, texts, own classes, LISTS and tuples (index, slices, in, append, pop ..), calls, loops. Paste it whole ahead of your own text; what your proof does not reach may be deleted. -/
namespace L2
open PySem PySem.Spec PyProof.Rows

/-- a key: an int or a str -/
abbrev Key := Sum Int Str
def keyIs : Key → Value → Bool
  | .inl k, v => Value.isInt k v
  | .inr x, v => Value.isStrOf x v
def keyH (w : World) : Key → Int
  | .inl k => hashInt k
  | .inr x => hashStr w x
theorem keyIs_shape : ∀ {k : Key} {v : Value}, keyIs k v = true → (∃ i t, k = Sum.inl i ∧ v = Value.int i t) ∨ (∃ x t, k = Sum.inr x ∧ v = Value.str x t)
  | .inl i, v, h => by
    obtain ⟨t, e⟩ := Value.isInt_shape (k := i) (v := v) h
    exact .inl ⟨i, t, rfl, e⟩
  | .inr x, v, h => by
    obtain ⟨t, e⟩ := Value.isStrOf_shape (x := x) (v := v) h
    exact .inr ⟨x, t, rfl, e⟩
theorem keyIs_int (i : Int) (t : Tok) : keyIs (.inl i) (.int i t) = true := by simp [keyIs, Value.isInt]
theorem keyIs_str (x : Str) (t : Tok) : keyIs (.inr x) (.str x t) = true := by simp [keyIs, Value.isStrOf]
theorem key_ll (a b : Int) : decide ((Sum.inl a : Key) = Sum.inl b) = (a == b) := by
  by_cases e : a = b
  · subst e; simp
  · have h : ¬ (Sum.inl a : Key) = Sum.inl b := fun q => e (Sum.inl.inj q)
    rw [decide_eq_false h]
    exact (beq_eq_false_iff_ne.mpr e).symm
theorem key_rr (a b : Str) : decide ((Sum.inr a : Key) = Sum.inr b) = decide (a = b) := by
  by_cases e : a = b
  · subst e; simp
  · have h : ¬ (Sum.inr a : Key) = Sum.inr b := fun q => e (Sum.inr.inj q)
    rw [decide_eq_false h, decide_eq_false e]
theorem key_lr (a : Int) (b : Str) : decide ((Sum.inl a : Key) = Sum.inr b) = false := decide_eq_false (fun q => nomatch q)
theorem key_rl (a : Str) (b : Int) : decide ((Sum.inr a : Key) = Sum.inl b) = false := decide_eq_false (fun q => nomatch q)

def mixKind (prog : Program) (w : World) : PySem.KeyKind prog w Key where
  is := keyIs
  hash := keyH w
  inj := fun v a b ha hb => by
    rcases keyIs_shape ha with ⟨i, t, rfl, rfl⟩ | ⟨x, t, rfl, rfl⟩
    · rcases keyIs_shape hb with ⟨j, u, rfl, e⟩ | ⟨y, u, rfl, e⟩
      · injection e with e1 _; rw [e1]
      · exact nomatch e
    · rcases keyIs_shape hb with ⟨j, u, rfl, e⟩ | ⟨y, u, rfl, e⟩
      · exact nomatch e
      · injection e with e1 _; rw [e1]
  byValue := fun k v h => by
    rcases keyIs_shape h with ⟨i, t, rfl, rfl⟩ | ⟨x, t, rfl, rfl⟩ <;> rfl
  pyHash := fun hv h => by
    rcases keyIs_shape hv with ⟨i, t, rfl, rfl⟩ | ⟨x, t, rfl, rfl⟩
    · exact wpAny_pyHash_int h
    · exact wpAny_pyHash_str h
  eqBool := fun hu hv h => by
    rcases keyIs_shape hu with ⟨i, t, rfl, rfl⟩ | ⟨x, t, rfl, rfl⟩
    · rcases keyIs_shape hv with ⟨j, u, rfl, rfl⟩ | ⟨y, u, rfl, rfl⟩
      · rw [key_ll] at h; exact wpAny_eqBool_int h
      · rw [key_lr] at h; exact SeqAt.EqAt.int_str i t y u _ _ _ _ h
    · rcases keyIs_shape hv with ⟨j, u, rfl, rfl⟩ | ⟨y, u, rfl, rfl⟩
      · rw [key_rl] at h; exact SeqAt.EqAt.str_int x t j u _ _ _ _ h
      · rw [key_rr] at h; exact wpAny_eqBool_str h
  «strs» := fun k x t v h => by
    rcases keyIs_shape h with ⟨i, u, rfl, e⟩ | ⟨y, u, rfl, e⟩
    · exact nomatch e
    · injection e with e1 _
      subst e1
      cases v <;> rfl

theorem mixKind_is (prog : Program) (w : World) (k : Key) (v : Value) : (mixKind prog w).is k v = keyIs k v := rfl
theorem mixKind_int (prog : Program) (w : World) (i : Int) (t : Tok) : (mixKind prog w).is (.inl i) (.int i t) = true := keyIs_int i t
theorem mixKind_str (prog : Program) (w : World) (x : Str) (t : Tok) : (mixKind prog w).is (.inr x) (.str x t) = true := keyIs_str x t
end L2

namespace L2
open PySem PySem.Spec PyProof.Rows

/-- a value, without the heap -/
inductive V where
  | non | bl (b : Bool) | int (i : Int) | str (x : Str) | byt (b : Array UInt8) | flt (b : UInt64) | ref (a : Addr) | ty (n : String)
  deriving DecidableEq

def RelV : V → Value → Prop
  | .non, u => u = Value.none
  | .bl b, u => u = Value.bool b
  | .int i, u => ∃ t, u = Value.int i t
  | .str x, u => ∃ t, u = Value.str x t
  | .byt b, u => ∃ t, u = Value.bytes b t
  | .flt b, u => ∃ t, u = Value.float b t
  | .ref a, u => u = Value.ref a
  | .ty n, u => u = Value.type n

abbrev Vals : List V → List Value → Prop := Paired RelV
theorem Vals.length {xs : List V} {us : List Value} (r : Vals xs us) : xs.length = us.length := Paired.length r
theorem Vals.get : ∀ {xs : List V} {us : List Value} {i : Nat} {x : V}, Vals xs us → xs[i]? = some x → ∃ u, us[i]? = some u ∧ RelV x u
  | _, _, _, _, .nil, e => by simp at e
  | _, _, 0, _, .cons r _, e => by simp at e; subst e; exact ⟨_, rfl, r⟩
  | _, _, i + 1, x, .cons _ t, e => by
    obtain ⟨u, h1, h2⟩ := Vals.get (i := i) (x := x) t (by simpa using e)
    exact ⟨u, by simpa using h1, h2⟩
theorem Vals.set {x : V} {u : Value} (r : RelV x u) : ∀ {xs : List V} {us : List Value} (i : Nat), Vals xs us → Vals (xs.set i x) (us.set i u)
  | _, _, _, .nil => .nil
  | _, _, 0, .cons _ t => .cons r t
  | _, _, i + 1, .cons q t => .cons q (Vals.set r i t)
theorem Vals.append : ∀ {xs ys : List V} {us ws : List Value}, Vals xs us → Vals ys ws → Vals (xs ++ ys) (us ++ ws)
  | _, _, _, _, .nil, s => s
  | _, _, _, _, .cons r t, s => .cons r (Vals.append t s)
theorem Vals.take : ∀ {xs : List V} {us : List Value} (n : Nat), Vals xs us → Vals (xs.take n) (us.take n)
  | _, _, 0, _ => .nil
  | _, _, _ + 1, .nil => .nil
  | _, _, n + 1, .cons r t => .cons r (Vals.take n t)
theorem Vals.drop : ∀ {xs : List V} {us : List Value} (n : Nat), Vals xs us → Vals (xs.drop n) (us.drop n)
  | _, _, 0, r => r
  | _, _, _ + 1, .nil => .nil
  | _, _, n + 1, .cons _ t => Vals.drop n t
theorem Vals.none_of : ∀ {xs : List V} {us : List Value} {i : Nat}, Vals xs us → xs[i]? = none → us[i]? = none := fun {xs us i} r e => by
  have h1 := r.length
  have h2 : xs.length ≤ i := List.getElem?_eq_none_iff.mp e
  exact List.getElem?_eq_none_iff.mpr (by omega)

def RelO : Option V → Option Value → Prop
  | some v, some u => RelV v u
  | none, none => True
  | _, _ => False
def KV {κ : Type} : List (κ × V) → List (κ × Value) → Prop := Paired fun (p : κ × V) (q : κ × Value) => p.1 = q.1 ∧ RelV p.2 q.2

/-- a key of a dict (00_mix): an int or a text -/
def kV : Key → V
  | .inl i => .int i
  | .inr x => .str x

/-- what stands at a tracked address -/
inductive HO where
  /-- a list -/
  | lst (xs : List V)
  /-- a tuple (never changes) -/
  | tup (xs : List V)
  /-- a dict whose keys are ints and texts; one whose keys are tuples of ints and texts (the empty one is both) -/
  | dK (kvs : List (Key × V)) | dT (kvs : List (List Key × V))
  /-- a set of ints: its members, its size -/
  | set (S : Int → Bool) (n : Nat)
  /-- an instance of the class at C, its dict at dx, its attributes -/
  | ins (C dx : Addr) (fs : List (Str × V))
  /-- the dict of the instance at x -/
  | own (x : Addr)
  /-- the dict of an exception -/
  | xd (fs : List (Str × V))
  /-- a bound method, f of x -/
  | met (f x : Addr)
  /-- a range object lo, lo + 1, .. below hi -/
  | rng (lo hi : Int)
  /-- a thing that is known to the object (the script; a dict while a loop walks it): read, never written while it is so -/
  | frz (o : Obj) (u : HO)
  /-- a code object's table -/
  | tbl (ps : Array Value)
  /-- any other thing, by what is true of its one object (a def of one's own: SetO a S n := HO.ext fun h => ..) -/
  | ext (φ : Heap → Prop)

abbrev Hp := Addr → Option HO
def upd (H : Hp) (a : Addr) (o : HO) : Hp := fun b => if b = a then some o else H b
theorem upd_same {H : Hp} {a : Addr} {o : HO} : upd H a o a = some o := by unfold upd; rw [if_pos rfl]
theorem upd_ne {H : Hp} {a b : Addr} {o : HO} (h : b ≠ a) : upd H a o b = H b := by unfold upd; rw [if_neg h]
theorem upd_upd {H : Hp} {a : Addr} {o u : HO} : upd (upd H a o) a u = upd H a u := by
  funext b; unfold upd; split <;> rfl
/-- two objects of different content stand apart -/
theorem ne_of {H : Hp} {a b : Addr} {o u : HO} (h : H a = some o) (h' : H b = some u) (d : o ≠ u) : a ≠ b := by
  intro e; subst e; rw [h] at h'; exact d (Option.some.inj h')
theorem ne_of_none {H : Hp} {a b : Addr} {o : HO} (h : H a = some o) (h' : H b = none) : a ≠ b := by
  intro e; subst e; rw [h] at h'; cases h'

section
variable (P : Program) (w : World)
def ObjOk (H : Hp) (h : Heap) (a : Addr) : HO → Prop
  | .lst xs => xs.length ≤ sizeLine ∧ ∃ (its : List Value) (n : Nat), Vals xs its ∧ h.get? a = some { cls := .type "list", data := .seq its.toArray n }
  | .tup xs => xs.length ≤ sizeLine ∧ ∃ its : List Value, Vals xs its ∧ IsTup h a its.toArray
  | .dK kvs => kvs.length ≤ sizeLine ∧ (a == sysModules) = false ∧ ∃ vs, KV kvs vs ∧ h.DictOf (mixKind P w) a vs
  | .dT kvs => kvs.length ≤ sizeLine ∧ (a == sysModules) = false ∧ ∃ xs : List (List Key × Addr × Value),
      Paired (fun (p : List Key × V) (q : List Key × Addr × Value) => p.1 = q.1 ∧ H q.2.1 = some (.tup (p.1.map kV)) ∧ RelV p.2 q.2.2) kvs xs ∧
      ∃ o es ep, h.get? a = some o ∧ o.ExactDict ∧ o.data = .dict es ep ∧ es.toList = xs.map (entryOfKey (tupleKind (mixKind P w))) ∧ (xs.map (·.1)).Nodup
  | .set S n => h.SetOf (intKind P w) a S n
  | .ins C dx fs => H dx = some (.own a) ∧ fs.length ≤ 1000 ∧ dx ≠ a ∧ h.get? a = some (PySem.W.instObj C dx) ∧
      ∃ mA, h.Ns1 dx mA ∧ (∀ f, RelO (fs.lookup f) (mA f)) ∧ PySem.Within mA (fs.map (·.1))
  | .own _ => ∃ o, h.get? a = some o
  | .xd fs => ∃ mA, h.Ns1 a mA ∧ ∀ f, RelO (fs.lookup f) (mA f)
  | .rng lo hi => ∃ t u v, h.get? a = some { cls := .type "range", data := .fields #[.int lo t, .int hi u, .int 1 v] }
  | .frz o u => h.get? a = some o ∧ ObjOk H h a u
  | .tbl ps => h.get? a = some { cls := .none, data := .fields ps }
  | .met f x => h.get? a = some (PySem.W.methodObj (.ref f) (.ref x))
  | .ext φ => φ h ∧ (∃ o, h.get? a = some o) ∧ ∀ h1 h2 : Heap, φ h1 → (∀ o, h1.get? a = some o → h2.get? a = some o) → φ h2
/-- the abstract heap is held -/
def HOk (H : Hp) (h : Heap) : Prop := ∀ a o, H a = some o → ObjOk P w H h a o
end

section
variable {P : Program} {w : World} {H H' : Hp} {h h' : Heap} {a : Addr} {o : HO}
theorem ObjOk.lt (x : ObjOk P w H h a o) : a < h.objs.size := by
  cases o with
  | lst xs => obtain ⟨_, _, _, _, e⟩ := x; exact Heap.lt_size e
  | tup xs => obtain ⟨_, _, _, p⟩ := x; exact p.lt
  | dK kvs => obtain ⟨_, _, _, _, o, _, _, e, _⟩ := x; exact Heap.lt_size e
  | dT kvs => obtain ⟨_, _, _, _, o, _, _, e, _⟩ := x; exact Heap.lt_size e
  | set S n => obtain ⟨o, _, _, _, e, _⟩ := x; exact Heap.lt_size e
  | ins C dx fs => obtain ⟨_, _, _, e, _⟩ := x; exact Heap.lt_size e
  | own y => obtain ⟨_, e⟩ := x; exact Heap.lt_size e
  | xd fs => obtain ⟨_, ⟨_, _, _, e, _⟩, _⟩ := x; exact Heap.lt_size e
  | rng lo hi => obtain ⟨_, _, _, e⟩ := x; exact Heap.lt_size e
  | frz ob u => obtain ⟨e, _⟩ := x; exact Heap.lt_size e
  | tbl ps => exact Heap.lt_size (show h.get? a = some _ from x)
  | met f y => exact Heap.lt_size (show h.get? a = some _ from x)
  | ext φ => obtain ⟨_, ⟨_, e⟩, _⟩ := x; exact Heap.lt_size e
theorem Paired.mapP {α β : Type} {F G : α → β → Prop} : ∀ {l₁ : List α} {l₂ : List β}, Paired F l₁ l₂ → (∀ a b, F a b → G a b) → Paired G l₁ l₂
  | _, _, .nil, _ => .nil
  | _, _, .cons r t, f => .cons (f _ _ r) (Paired.mapP t f)
theorem Paired.imp' {α β : Type} {F G : α → β → Prop} (f : ∀ a b, F a b → G a b) {l₁ : List α} {l₂ : List β} (r : Paired F l₁ l₂) : Paired G l₁ l₂ := Paired.mapP r f
/-- what an object's description leans on: its own object, its own dict, the tuples -/
theorem ObjOk.stay (x : ObjOk P w H h a o) (k : ∀ b u, (b = a ∨ H b = some (.own a)) → h.get? b = some u → h'.get? b = some u)
    (ho : ∀ b, H b = some (.own a) → H' b = some (.own a)) (ht : ∀ b xs, H b = some (.tup xs) → H' b = some (.tup xs)) : ObjOk P w H' h' a o := by
  induction o with
  | lst xs => obtain ⟨z, its, n, r, e⟩ := x; exact ⟨z, its, n, r, k _ _ (.inl rfl) e⟩
  | tup xs => obtain ⟨z, its, r, ob, e, c⟩ := x; exact ⟨z, its, r, ob, k _ _ (.inl rfl) e, c⟩
  | dK kvs => obtain ⟨z, y, vs, r, ob, es, ep, e, c⟩ := x; exact ⟨z, y, vs, r, ob, es, ep, k _ _ (.inl rfl) e, c⟩
  | dT kvs =>
    obtain ⟨z, y, xs, r, ob, es, ep, e, c⟩ := x
    exact ⟨z, y, xs, Paired.mapP r fun p q z => ⟨z.1, ht _ _ z.2.1, z.2.2⟩, ob, es, ep, k _ _ (.inl rfl) e, c⟩
  | set S n => obtain ⟨ob, es, ep, t, e, c⟩ := x; exact ⟨ob, es, ep, t, k _ _ (.inl rfl) e, c⟩
  | ins C dx fs =>
    obtain ⟨d, z, ne, e, mA, ⟨od, es, ep, e2, c⟩, r⟩ := x
    exact ⟨ho _ d, z, ne, k _ _ (.inl rfl) e, mA, ⟨od, es, ep, k _ _ (.inr d) e2, c⟩, r⟩
  | own y => obtain ⟨ob, e⟩ := x; exact ⟨ob, k _ _ (.inl rfl) e⟩
  | xd fs => obtain ⟨mA, ⟨od, es, ep, e, c⟩, r⟩ := x; exact ⟨mA, ⟨od, es, ep, k _ _ (.inl rfl) e, c⟩, r⟩
  | rng lo hi => obtain ⟨t, u, v, e⟩ := x; exact ⟨t, u, v, k _ _ (.inl rfl) e⟩
  | frz ob u ih => obtain ⟨e, q⟩ := x; exact ⟨k _ _ (.inl rfl) e, ih q⟩
  | tbl ps =>
    have e : h.get? a = some { cls := .none, data := .fields ps } := x
    show h'.get? a = some { cls := .none, data := .fields ps }
    exact k a _ (.inl rfl) e
  | met f y =>
    have e : h.get? a = some (PySem.W.methodObj (.ref f) (.ref y)) := x
    show h'.get? a = some (PySem.W.methodObj (.ref f) (.ref y))
    exact k a _ (.inl rfl) e
  | ext φ => obtain ⟨p, ⟨o, e⟩, st⟩ := x; exact ⟨st _ _ p fun o q => k _ _ (.inl rfl) q, ⟨o, k _ _ (.inl rfl) e⟩, st⟩
theorem HOk.lt (x : HOk P w H h) (e : H a = some o) : a < h.objs.size := (x a o e).lt
theorem HOk.fresh (x : HOk P w H h) (e : h.objs.size ≤ a) : H a = none := by
  cases q : H a with
  | none => rfl
  | some u => exact absurd (Nat.lt_of_lt_of_le (x.lt q) e) (Nat.lt_irrefl _)
/-- every object of the heap is kept -/
theorem HOk.kept (x : HOk P w H h) (k : ∀ b u, h.get? b = some u → h'.get? b = some u) : HOk P w H h' := fun a o e =>
  (x a o e).stay (fun b u _ q => k b u q) (fun _ q => q) fun _ _ q => q
/-- a new object is laid and tracked -/
theorem HOk.laid (x : HOk P w H h) (k : ∀ b u, h.get? b = some u → h'.get? b = some u) (hp : h.objs.size ≤ a) (new : ObjOk P w (upd H a o) h' a o) : HOk P w (upd H a o) h' := fun b u e => by
  have hn := x.fresh hp
  by_cases hb : b = a
  · subst hb; rw [upd_same] at e; cases e; exact new
  · rw [upd_ne hb] at e
    exact (x b u e).stay (fun c v _ q => k c v q) (fun c q => by rw [upd_ne (ne_of_none q hn)]; exact q) fun c xs q => by rw [upd_ne (ne_of_none q hn)]; exact q
end

/-- what may be read as u: it is u, or a known u -/
def Rd (H : Hp) (a : Addr) (u : HO) : Prop := H a = some u ∨ ∃ o, H a = some (.frz o u)
theorem Rd.of {H : Hp} {a : Addr} {u : HO} (h : H a = some u) : Rd H a u := .inl h
theorem Rd.ok {P : Program} {w : World} {H : Hp} {h : Heap} {a : Addr} {u : HO} (r : Rd H a u) (x : HOk P w H h) : ObjOk P w H h a u := by
  rcases r with r | ⟨o, r⟩
  · exact x a u r
  · obtain ⟨_, q⟩ := x a _ r
    exact q
/-- what may be written -/
def Mut : Option HO → Prop
  | some (.lst _) => True
  | some (.dK _) => True
  | some (.dT _) => True
  | some (.set _ _) => True
  | some (.ins _ _ _) => True
  | some (.ext _) => True
  | _ => False
section
variable {P : Program} {w : World} {H : Hp} {h h' : Heap} {x e : Addr} {o' : HO}
/-- the object at e is changed: x itself, or the dict of the instance x -/
theorem HOk.write (ok : HOk P w H h) (mu : Mut (H x)) (he : e = x ∨ H e = some (.own x)) (k : ∀ b u, b ≠ e → h.get? b = some u → h'.get? b = some u) (heo : ∃ u, h'.get? e = some u)
    (new : ObjOk P w (upd H x o') h' x o') : HOk P w (upd H x o') h' := fun b u q => by
  have nown : ∀ c y, H c = some (.own y) → c ≠ x := fun c y r z => by subst z; rw [r] at mu; exact mu
  have ntup : ∀ c xs, H c = some (.tup xs) → c ≠ x := fun c xs r z => by subst z; rw [r] at mu; exact mu
  by_cases hb : b = x
  · subst hb; rw [upd_same] at q; cases q; exact new
  · rw [upd_ne hb] at q
    by_cases hbe : b = e
    · have q' : H b = some (.own x) := by
        rcases he with z | z
        · exact absurd (hbe.trans z) hb
        · rw [hbe]; exact z
      rw [q] at q'; cases q'
      obtain ⟨v, hv⟩ := heo
      exact ⟨v, by rw [hbe]; exact hv⟩
    · refine (ok b u q).stay (fun c v hc r => k c v ?_ r) (fun c r => by rw [upd_ne (nown c b r)]; exact r) fun c xs r => by rw [upd_ne (ntup c xs r)]; exact r
      rcases hc with rfl | hc
      · exact hbe
      · rintro rfl
        rcases he with z | z
        · exact nown c b hc z
        · rw [hc] at z; cases z; exact hb rfl
end

/-! ### kept unless tracked; of the frames at fs (the callers') the slots may change (an exception that passes writes there); of the records at ex (iterators) nothing is said -/
structure Un (fs ex : List Addr) (H H' : Hp) (h h' : Heap) : Prop where
  keep : ∀ b o, h.get? b = some o → H b = none → b ∉ fs → b ∉ ex → h'.get? b = some o
  slot : ∀ b o, h.get? b = some o → H b = none → b ∈ fs → b ∉ ex → ∃ sl, h'.get? b = some { o with slots := sl }
  free : ∀ b o, h.get? b = some o → H b = none → b ∉ ex → H' b = none
  there : ∀ b o, h.get? b = some o → b ∉ ex → ∃ o', h'.get? b = some o'
  tups : ∀ b xs, H b = some (.tup xs) → H' b = some (.tup xs)
  frzs : ∀ b o u, H b = some (.frz o u) → H' b = some (.frz o u)
  tbls : ∀ b ps, H b = some (.tbl ps) → ∃ more, H' b = some (.tbl (ps ++ more))
section
variable {fs fs' ex ex' : List Addr} {H H1 H2 : Hp} {h h1 h2 h' : Heap} {a x e : Addr} {o : HO}
theorem Un.any (u : Un fs ex H H1 h h1) {b : Addr} {ob : Obj} (q : h.get? b = some ob) (n : H b = none) (hx : b ∉ ex) : ∃ sl, h1.get? b = some { ob with slots := sl } := by
  by_cases hb : b ∈ fs
  · exact u.slot b ob q n hb hx
  · exact ⟨ob.slots, u.keep b ob q n hb hx⟩
theorem Un.trans (a : Un fs ex H H1 h h1) (b : Un fs ex H1 H2 h1 h2) : Un fs ex H H2 h h2 where
  keep := fun c ob q n hc hx => b.keep c ob (a.keep c ob q n hc hx) (a.free c ob q n hx) hc hx
  slot := fun c ob q n hc hx => by
    obtain ⟨sl, e1⟩ := a.slot c ob q n hc hx
    obtain ⟨sl', e2⟩ := b.slot c _ e1 (a.free c ob q n hx) hc hx
    exact ⟨sl', e2⟩
  free := fun c ob q n hx => by
    obtain ⟨o', e1⟩ := a.there c ob q hx
    exact b.free c o' e1 (a.free c ob q n hx) hx
  there := fun c ob q hx => by
    obtain ⟨o', e1⟩ := a.there c ob q hx
    exact b.there c o' e1 hx
  tups := fun c xs q => b.tups c xs (a.tups c xs q)
  frzs := fun c ob xs q => b.frzs c ob xs (a.frzs c ob xs q)
  tbls := fun c ps q => by
    obtain ⟨m1, e1⟩ := a.tbls c ps q
    obtain ⟨m2, e2⟩ := b.tbls c _ e1
    exact ⟨m1 ++ m2, by rw [e2, Array.append_assoc]⟩
theorem Un.kept (k : ∀ b u, h.get? b = some u → h'.get? b = some u) : Un fs ex H H h h' :=
  ⟨fun b ob q _ _ _ => k b ob q, fun b ob q _ _ _ => ⟨ob.slots, k b ob q⟩, fun _ _ _ n _ => n, fun b ob q _ => ⟨ob, k b ob q⟩, fun _ _ q => q, fun _ _ _ q => q, fun _ ps q => ⟨#[], by rw [q]; simp⟩⟩
theorem Un.refl : Un fs ex H H h h := Un.kept fun _ _ q => q
theorem Un.laid (k : ∀ b u, h.get? b = some u → h'.get? b = some u) (hp : h.objs.size ≤ a) (hn : H a = none) : Un fs ex H (upd H a o) h h' where
  keep := fun b u q _ _ _ => k b u q
  slot := fun b u q _ _ _ => ⟨u.slots, k b u q⟩
  free := fun b u q n _ => by rw [upd_ne (Nat.ne_of_lt (Nat.lt_of_lt_of_le (Heap.lt_size q) hp))]; exact n
  there := fun b u q _ => ⟨u, k b u q⟩
  tups := fun b xs q => by rw [upd_ne (ne_of_none q hn)]; exact q
  frzs := fun b u xs q => by rw [upd_ne (ne_of_none q hn)]; exact q
  tbls := fun b ps q => ⟨#[], by rw [upd_ne (ne_of_none q hn), q]; simp⟩
theorem Un.write (mu : Mut (H x)) (he : e = x ∨ H e = some (.own x)) (k : ∀ b u, b ≠ e → h.get? b = some u → h'.get? b = some u) (heo : ∃ u, h'.get? e = some u) : Un fs ex H (upd H x o) h h' := by
  have hx : ∀ b, H b = none → b ≠ x := fun b n z => by subst z; rw [n] at mu; exact mu
  have hb : ∀ b, H b = none → b ≠ e := fun b n z => by
    subst z
    rcases he with r | r
    · exact hx b n r
    · rw [n] at r; cases r
  have hm : ∀ b u, H b = some u → ¬ Mut (some u) → b ≠ x := fun b u q nm z => by subst z; rw [q] at mu; exact nm mu
  refine ⟨fun b u q n _ _ => k b u (hb b n) q, fun b u q n _ _ => ⟨u.slots, k b u (hb b n) q⟩, fun b u q n _ => by rw [upd_ne (hx b n)]; exact n, fun b u q _ => ?_,
    fun b xs q => by rw [upd_ne (hm b _ q fun z => z)]; exact q, fun b u xs q => by rw [upd_ne (hm b _ q fun z => z)]; exact q, fun b ps q => ⟨#[], by rw [upd_ne (hm b _ q fun z => z), q]; simp⟩⟩
  by_cases hbe : b = e
  · subst hbe; exact heo
  · exact ⟨u, k b u hbe q⟩
theorem Un.mono (u : Un fs ex H H1 h h1) (hs : ∀ b ∈ fs, b ∈ fs') (hx : ∀ b ∈ ex, b ∈ ex') : Un fs' ex' H H1 h h1 :=
  ⟨fun b ob q n hb he => u.keep b ob q n (fun z => hb (hs b z)) fun z => he (hx b z), fun _ _ q n _ he => u.any q n fun z => he (hx _ z), fun b ob q n he => u.free b ob q n fun z => he (hx b z), fun b ob q he => u.there b ob q fun z => he (hx b z), u.tups, u.frzs, u.tbls⟩
end

/-! ### the heap without what is tracked -/
def trk (h : Heap) (H : Hp) : List Addr := (List.range h.objs.size).filter fun a => (H a).isSome
def hidT (h : Heap) (H : Hp) : Heap := PySem.W.hideAll h (trk h H)
theorem hidT_size (h : Heap) (H : Hp) : (hidT h H).objs.size = h.objs.size := PySem.W.hideAll_size _ _
theorem hidT_get {h : Heap} {H : Hp} {b : Addr} {o : Obj} (e : h.get? b = some o) (n : H b = none) : (hidT h H).get? b = some o :=
  PySem.W.hideAll_get _ e fun hm => by
    have q : (H b).isSome = true := (List.mem_filter.mp hm).2
    rw [n] at q; simp at q
theorem of_hidT {h : Heap} {H : Hp} {b : Addr} {o : Obj} (e : (hidT h H).get? b = some o) : h.get? b = some o ∧ H b = none := by
  have e' : h.get? b = some o := PySem.W.of_hideAll (trk h H) e
  refine ⟨e', ?_⟩
  cases q : H b with
  | none => rfl
  | some x =>
    have hm : b ∈ trk h H := List.mem_filter.mpr ⟨List.mem_range.mpr (Heap.lt_size e'), by simp [q]⟩
    have z : (hidT h H).get? b = none := PySem.W.hideAll_none (trk h H) hm
    rw [z] at e; cases e

/-! ### OpenK's ledger, filled with every new object but one -/
def allNews (g h : Heap) (L : Addr) : List (Addr × Obj) := (List.range h.objs.size).filterMap fun a => if a = L ∨ (g.get? a).isSome = true then none else (h.get? a).map fun o => (a, o)
theorem mem_allNews {g h : Heap} {L a : Addr} {o : Obj} (h1 : a ≠ L) (h2 : g.get? a = none) (h3 : h.get? a = some o) : (a, o) ∈ allNews g h L :=
  List.mem_filterMap.mpr ⟨a, List.mem_range.mpr (Heap.lt_size h3), by simp [h1, h2, h3]⟩
theorem of_mem_allNews {g h : Heap} {L : Addr} {p : Addr × Obj} (hp : p ∈ allNews g h L) : p.1 ≠ L ∧ g.get? p.1 = none ∧ h.get? p.1 = some p.2 := by
  obtain ⟨b, _, e⟩ := List.mem_filterMap.mp hp
  split at e
  · cases e
  · rename_i hn
    cases q : h.get? b with
    | none => rw [q] at e; simp at e
    | some u =>
      rw [q] at e
      simp only [Option.map_some, Option.some.injEq] at e
      subst e
      refine ⟨fun z => hn (.inl z), ?_, q⟩
      show g.get? b = none
      cases r : g.get? b with
      | none => rfl
      | some v => exact (hn (.inr (by simp [r]))).elim
def rest (g h : Heap) (L d : Addr) : List (Addr × Obj) := (allNews g h L).filter fun p => decide (p.1 ≠ d)
theorem rest_ne {g h : Heap} {L d : Addr} : ∀ p ∈ rest g h L d, p.1 ≠ d := fun p hp => of_decide_eq_true (List.mem_filter.mp hp).2
theorem mem_rest {g h : Heap} {L d a : Addr} {o : Obj} (h1 : a ≠ L) (h2 : g.get? a = none) (h3 : h.get? a = some o) (h4 : a ≠ d) : (a, o) ∈ rest g h L d :=
  List.mem_filter.mpr ⟨mem_allNews h1 h2 h3, decide_eq_true h4⟩
theorem news_all {g h : Heap} {L : Addr} : News g L h (allNews g h L) := fun p hp => let ⟨a, b, c⟩ := of_mem_allNews hp; ⟨c, a, b⟩
theorem news_at {g h : Heap} {L d : Addr} {o : Obj} (h1 : d ≠ L) (h2 : g.get? d = none) (h3 : h.get? d = some o) : News g L h ((d, o) :: rest g h L d) := fun p hp => by
  rcases List.mem_cons.mp hp with rfl | hp
  · exact ⟨h3, h1, h2⟩
  · exact news_all p (List.mem_filter.mp hp).1
/-- behind a rule that changed d alone: all else but the frame is kept -/
theorem kept_of_news {g h h' : Heap} {L d : Addr} {m : Str → Option Value} (k : ∀ b o, g.get? b = some o → h.get? b = some o) (F : Fr g L h' m) (N : News g L h' (rest g h L d)) :
    ∀ b o, b ≠ L → b ≠ d → h.get? b = some o → h'.get? b = some o := fun b o h1 h2 e => by
  cases q : g.get? b with
  | some u =>
    have := k b u q
    rw [e] at this; cases this
    exact F.keep b _ q
  | none => exact (N (b, o) (mem_rest h1 q e h2)).1
end L2

namespace L2
open PySem PySem.Spec PyProof.Rows

/-- the module's facts, over the base: the heap at the law's entry without what is tracked there -/
structure Mod (K : PySem.W.Frag) (mg : Str → Option Value) (base : Heap) : Prop where
  kin : K.In base
  glob : base.Ns mainGlobals mg
  blt : ∃ mb, base.Ns builtinsNs mb ∧ ∀ x : Str, x ≠ "__name__" → mb x = bootBuiltins x
  nolimit : base.NoLimit

/-- the context: a def's body (or a comprehension's block) running. base: fixed through the whole law; s₀, H₀: the entry; outer: the frames whose slots others may change (a def's callers); stack: all frames that run;
   ex: iterators that were made ahead of the entry and are walked here (a comprehension's); fn: the names whose cells were made at the entry (a def: all; a comprehension's block: its own); calm: not within an except suite; pn: pins that every state bears; xe: what is wanted of an exception that leaves the code -/
structure Cx where
  prog : Program
  w : World
  K : PySem.W.Frag
  mg : Str → Option Value
  base : Heap
  A : Around
  N : List Str
  s₀ : Shared
  H₀ : Hp
  env : Env
  outer : List Env
  stack : List Env
  ex : List Addr
  fn : Str → Bool
  calm : Bool
  pn : List (Addr × Obj)
  xe : Value → Shared → Prop
/-- the callers' frames -/
def frs (l : List Env) : List Addr := l.filterMap (·.frame)
abbrev Cx.fs (X : Cx) : List Addr := frs X.outer

def Vis (sc : Scope) (x : Str) : Prop := sc.names.lookup x = some .local ∨ sc.names.lookup x = some .cell ∨ sc.names.lookup x = some .free
def Loc (sc : Scope) (x : Str) : Prop := sc.names.lookup x = some .local ∨ sc.names.lookup x = some .cell
def Look (env : Env) (h : Heap) (m : Str → Option Value) (x : Str) (u : Value) : Prop :=
  (env.kindOf x = some .local ∧ m x = some u) ∨ ((env.kindOf x = some .cell ∨ env.kindOf x = some .free) ∧ ∃ c, env.cells.lookup x = some c ∧ h.IsCell c (some u))

structure Cx.Ok (X : Cx) : Prop where
  mod : Mod X.K X.mg X.base
  kind : X.env.scope.kind = .function
  glob : X.env.globals = mainGlobals
  blt : X.env.builtins = builtinsNs
  above : X.s₀.heap.objs.size ≤ X.env.locals
  inj : ∀ x y c, X.env.cells.lookup x = some c → X.env.cells.lookup y = some c → x = y
  has : ∀ x, (X.env.kindOf x = some .cell ∨ X.env.kindOf x = some .free) → ∃ c, X.env.cells.lookup x = some c
  cab : ∀ x c, X.fn x = true → X.env.cells.lookup x = some c → X.s₀.heap.objs.size ≤ c
  hd : X.calm = true → X.A.handled = none
  frames : X.A.frames = some X.stack
  stk : X.stack = X.outer ∨ (X.stack = X.env :: X.outer ∧ X.env.frame = some X.env.locals)
  exf : ∀ b ∈ X.ex, b ≠ X.env.locals ∧ ∀ x c, X.env.cells.lookup x = some c → c ≠ b
  bs : ∀ b o, X.base.get? b = some o → X.s₀.heap.get? b = some o ∧ X.H₀ b = none
  bsz : X.base.objs.size ≤ X.s₀.heap.objs.size
  noex : ∀ b o, X.base.get? b = some o → b ∉ X.ex
  exfs : ∀ b ∈ X.ex, b ∉ X.fs
  funs : X.s₀.heap.FunFrames X.base X.outer
  frf : ∀ b ∈ X.fs, X.H₀ b = none

structure Inv (X : Cx) (pins : List (Addr × Obj)) (σ : List (Option V)) (H : Hp) (s : Shared) : Prop where
  ok : X.Ok
  os : s.os = X.s₀.os
  bare : AllBare s.gens
  base : Un X.fs X.ex X.H₀ H X.s₀.heap s.heap
  loc : ∃ m, s.heap.Ns X.env.locals m ∧ ∀ (i : Nat) (x : Str) (v : V), X.N[i]? = some x → σ[i]? = some (some v) → Vis X.env.scope x → ∃ u, RelV v u ∧ Look X.env s.heap m x u
  cell : ∀ x c, X.env.cells.lookup x = some c → ∃ v, s.heap.IsCell c v
  free : H X.env.locals = none
  freeC : ∀ x c, X.env.cells.lookup x = some c → H c = none
  pin : ∀ p ∈ X.pn ++ pins, s.heap.get? p.1 = some p.2 ∧ H p.1 = none ∧ p.1 ≠ X.env.locals ∧ p.1 ∉ X.fs ∧ ∀ v, p.2.data ≠ .cell v
  hok : HOk X.prog X.w H s.heap
  len : σ.length = X.N.length

section
variable {X : Cx} {pins : List (Addr × Obj)} {σ : List (Option V)} {H H' : Hp} {s : Shared} {h' : Heap}

theorem Cx.Ok.nofr (ok : X.Ok) {b : Addr} {o : Obj} (e : X.base.get? b = some o) : b ∉ X.fs := fun hb => by
  have := (ok.funs.mem hb).1
  rw [e] at this; cases this
theorem Inv.bs (I : Inv X pins σ H s) : ∀ b o, X.base.get? b = some o → s.heap.get? b = some o ∧ H b = none := fun b o e =>
  ⟨I.base.keep b o (I.ok.bs b o e).1 (I.ok.bs b o e).2 (I.ok.nofr e) (I.ok.noex b o e), I.base.free b o (I.ok.bs b o e).1 (I.ok.bs b o e).2 (I.ok.noex b o e)⟩
theorem Inv.bk (I : Inv X pins σ H s) : ∀ b o, X.base.get? b = some o → s.heap.get? b = some o := fun b o e => (I.bs b o e).1
theorem Inv.mod (I : Inv X pins σ H s) : Mod X.K X.mg X.base := I.ok.mod
theorem Inv.kIn (I : Inv X pins σ H s) : X.K.In s.heap := I.ok.mod.kin.keeps I.bk
theorem Inv.nolimit (I : Inv X pins σ H s) : s.heap.NoLimit := I.ok.mod.nolimit.keeps I.bk
/-- the frame over the base: for OpenK's rules (K.In X.base is I.mod.kin) -/
theorem Inv.fr (I : Inv X pins σ H s) : ∃ m, Fr X.base X.env.locals s.heap m :=
  let ⟨m, hn, _⟩ := I.loc
  ⟨m, hn, I.bk, Nat.le_trans I.ok.bsz I.ok.above⟩
theorem Inv.lt (I : Inv X pins σ H s) : X.env.locals < s.heap.objs.size := let ⟨_, hn, _⟩ := I.loc; hn.lt
theorem Inv.sz (I : Inv X pins σ H s) : X.s₀.heap.objs.size ≤ s.heap.objs.size := Nat.le_trans I.ok.above (Nat.le_of_lt I.lt)
theorem Inv.nofs (I : Inv X pins σ H s) {a : Addr} (h : s.heap.objs.size ≤ a) : a ∉ X.fs := fun hb => by
  obtain ⟨_, o, ho, _⟩ := I.ok.funs.mem hb
  exact absurd (Nat.lt_of_lt_of_le (Heap.lt_size ho) (Nat.le_trans I.sz h)) (Nat.lt_irrefl _)
theorem Inv.cne (I : Inv X pins σ H s) : ∀ x c, X.env.cells.lookup x = some c → c ≠ X.env.locals := fun x c e z => by
  obtain ⟨v, o, ho, hd⟩ := I.cell x c e
  obtain ⟨m, ⟨o', es, ep, ho', hd', _⟩, _⟩ := I.loc
  rw [z, ho'] at ho; cases ho; rw [hd'] at hd; cases hd
theorem Inv.funs (I : Inv X pins σ H s) : s.heap.FunFrames X.base X.outer := by
  have all : ∀ (l : List Env), (∀ b ∈ frs l, b ∈ X.fs) → X.s₀.heap.FunFrames X.base l → s.heap.FunFrames X.base l := by
    intro l
    induction l with
    | nil => intro _ _; trivial
    | cons env r ih =>
      intro hs hl
      obtain ⟨hk, ⟨L, o, hf, hn, ho, hd⟩, hr⟩ := hl
      have hL : L ∈ X.fs := hs L (by unfold frs; rw [List.filterMap_cons, hf]; exact List.mem_cons_self)
      obtain ⟨sl, e⟩ := I.base.slot L o ho (I.ok.frf L hL) hL fun z => I.ok.exfs L z hL
      exact ⟨hk, ⟨L, _, hf, hn, e, hd⟩, ih (fun b hb => hs b (by unfold frs; rw [List.filterMap_cons, hf]; exact List.mem_cons_of_mem _ hb)) hr⟩
  exact all X.outer (fun _ hb => hb) I.ok.funs

/-- the frames that run, for a call -/
theorem Inv.stack (I : Inv X pins σ H s) : s.heap.FunFrames X.base X.stack := by
  rcases I.ok.stk with e | ⟨e, hf⟩
  · rw [e]; exact I.funs
  · rw [e]
    obtain ⟨m, hn, _⟩ := I.loc
    refine .cons (by rw [I.ok.kind]; decide) hf hn ?_ I.funs
    exact Heap.get?_none_of_le (Nat.le_trans I.ok.bsz I.ok.above)
theorem Inv.stkSub (I : Inv X pins σ H s) : ∀ b ∈ frs X.stack, b ∈ X.env.locals :: X.fs := fun b hb => by
  rcases I.ok.stk with e | ⟨e, hf⟩
  · rw [e] at hb; exact List.mem_cons_of_mem _ hb
  · rw [e] at hb
    unfold frs at hb
    rw [List.filterMap_cons, hf] at hb
    exact hb
theorem Inv.stkFree (I : Inv X pins σ H s) : ∀ b ∈ frs X.stack, H b = none := fun b hb => by
  rcases List.mem_cons.mp (I.stkSub b hb) with e | hb
  · rw [e]; exact I.free
  · obtain ⟨_, o, ho, _⟩ := I.ok.funs.mem hb
    exact I.base.free b o ho (I.ok.frf b hb) fun z => I.ok.exfs b z hb

/-- THE STEP: the untracked objects but the frame and the records at ch are kept (the callers' frames up to slots), the frame's map is kept, the new abstract heap is held -/
theorem Inv.step {g' : Array GenState} {t' : Nat} {d' : Drawn} {ch : List Addr} (I : Inv X pins σ H s)
    (hch : ∀ b ∈ ch, (b ∈ X.ex ∨ X.s₀.heap.objs.size ≤ b) ∧ b ≠ X.env.locals ∧ (∀ x c, X.env.cells.lookup x = some c → c ≠ b) ∧ ∀ p ∈ X.pn ++ pins, p.1 ≠ b)
    (keep : ∀ b o, b ≠ X.env.locals → b ∉ X.fs → b ∉ ch → s.heap.get? b = some o → H b = none → h'.get? b = some o)
    (slot : ∀ b o, b ≠ X.env.locals → b ∈ X.fs → b ∉ ch → s.heap.get? b = some o → H b = none → ∃ sl, h'.get? b = some { o with slots := sl }) (free : ∀ b o, b ∉ ch → s.heap.get? b = some o → H b = none → H' b = none)
    (there : ∀ b o, b ∉ ch → s.heap.get? b = some o → ∃ o', h'.get? b = some o')
    (tups : ∀ b xs, H b = some (.tup xs) → H' b = some (.tup xs)) (frzs : ∀ b o u, H b = some (.frz o u) → H' b = some (.frz o u)) (tbls : ∀ b ps, H b = some (.tbl ps) → ∃ more, H' b = some (.tbl (ps ++ more)))
    (ns : ∀ m, s.heap.Ns X.env.locals m → h'.Ns X.env.locals m) (hok : HOk X.prog X.w H' h') (hg : AllBare g') :
    Inv X pins σ H' { s with heap := h', gens := g', drawn := d', toks := t' } := by
  have neL : ∀ b o, X.s₀.heap.get? b = some o → b ≠ X.env.locals := fun b o e => Nat.ne_of_lt (Nat.lt_of_lt_of_le (Heap.lt_size e) I.ok.above)
  have neC : ∀ b o, X.s₀.heap.get? b = some o → b ∉ X.ex → b ∉ ch := fun b o e hx hb => by
    rcases (hch b hb).1 with z | z
    · exact hx z
    · exact absurd (Nat.lt_of_lt_of_le (Heap.lt_size e) z) (Nat.lt_irrefl _)
  have cellK : ∀ x c, X.env.cells.lookup x = some c → ∀ v, s.heap.IsCell c v → h'.IsCell c v := fun x c e v ⟨o, ho, hd⟩ => by
    have nch : c ∉ ch := fun z => (hch c z).2.2.1 x c e rfl
    by_cases hc : c ∈ X.fs
    · obtain ⟨sl, q⟩ := slot c o (I.cne x c e) hc nch ho (I.freeC x c e)
      exact ⟨_, q, hd⟩
    · exact ⟨o, keep c o (I.cne x c e) hc nch ho (I.freeC x c e), hd⟩
  refine ⟨I.ok, I.os, hg, ⟨fun b o e n hb hx => ?_, fun b o e n hb hx => ?_, fun b o e n hx => ?_, fun b o e hx => ?_, fun b xs e => tups b xs (I.base.tups b xs e), fun b o xs e => frzs b o xs (I.base.frzs b o xs e), fun b ps e => ?_⟩, ?_, fun x c e => ?_, ?_, fun x c e => ?_, fun p hp => ?_, hok, I.len⟩
  · exact keep b o (neL b o e) hb (neC b o e hx) (I.base.keep b o e n hb hx) (I.base.free b o e n hx)
  · obtain ⟨sl, e1⟩ := I.base.slot b o e n hb hx
    obtain ⟨sl', e2⟩ := slot b _ (neL b o e) hb (neC b o e hx) e1 (I.base.free b o e n hx)
    exact ⟨sl', e2⟩
  · obtain ⟨o', e1⟩ := I.base.there b o e hx
    exact free b o' (neC b o e hx) e1 (I.base.free b o e n hx)
  · obtain ⟨o', e1⟩ := I.base.there b o e hx
    exact there b o' (neC b o e hx) e1
  · obtain ⟨m1, e1⟩ := I.base.tbls b ps e
    obtain ⟨m2, e2⟩ := tbls b _ e1
    exact ⟨m1 ++ m2, by rw [e2, Array.append_assoc]⟩
  · obtain ⟨m, hn, hl⟩ := I.loc
    refine ⟨m, ns m hn, fun i x v e1 e2 e3 => ?_⟩
    obtain ⟨u, r, l⟩ := hl i x v e1 e2 e3
    refine ⟨u, r, ?_⟩
    rcases l with l | ⟨k, c, e, z⟩
    · exact .inl l
    · exact .inr ⟨k, c, e, cellK x c e _ z⟩
  · obtain ⟨v, z⟩ := I.cell x c e
    exact ⟨v, cellK x c e v z⟩
  · obtain ⟨m, ⟨o, _, _, ho, _⟩, _⟩ := I.loc
    exact free _ o (fun z => (hch _ z).2.1 rfl) ho I.free
  · obtain ⟨v, o, ho, hd⟩ := I.cell x c e
    exact free c o (fun z => (hch c z).2.2.1 x c e rfl) ho (I.freeC x c e)
  · obtain ⟨e, n, ne, nf, d⟩ := I.pin p hp
    have nch : p.1 ∉ ch := fun z => (hch p.1 z).2.2.2 p hp rfl
    exact ⟨keep p.1 p.2 ne nf nch e n, free p.1 p.2 nch e n, ne, nf, d⟩
/-- .. where the frame's own object is kept too -/
theorem Inv.un {t' : Nat} (I : Inv X pins σ H s) (u : Un X.fs [] H H' s.heap h') (hok : HOk X.prog X.w H' h') : Inv X pins σ H' { s with heap := h', toks := t' } := by
  obtain ⟨m, ⟨o, es, ep, ho, r⟩, _⟩ := id I.loc
  obtain ⟨sl, hL⟩ := u.any ho I.free (by simp)
  exact I.step (g' := s.gens) (d' := s.drawn) (ch := []) (fun _ z => nomatch z) (fun b o _ hb _ e n => u.keep b o e n hb (by simp)) (fun b o _ hb _ e n => u.slot b o e n hb (by simp)) (fun b o _ e n => u.free b o e n (by simp)) (fun b o _ e => u.there b o e (by simp)) u.tups u.frzs u.tbls (fun m' hm => by
    obtain ⟨o', es', ep', ho', r'⟩ := hm
    rw [ho] at ho'; cases ho'
    exact ⟨_, es', ep', hL, r'⟩) hok I.bare
/-- behind a call (or a comprehension's block): the slots of this frame may have changed too, the records at ch may have turned -/
theorem Inv.call {g' : Array GenState} {t' : Nat} {d' : Drawn} {ch : List Addr} (I : Inv X pins σ H s) (u : Un (frs X.stack) ch H H' s.heap h') (hok : HOk X.prog X.w H' h') (hg : AllBare g')
    (hch : ∀ b ∈ ch, (b ∈ X.ex ∨ X.s₀.heap.objs.size ≤ b) ∧ b ≠ X.env.locals ∧ (∀ x c, X.env.cells.lookup x = some c → c ≠ b) ∧ ∀ p ∈ X.pn ++ pins, p.1 ≠ b) :
    Inv X pins σ H' { s with heap := h', gens := g', drawn := d', toks := t' } := by
  obtain ⟨m, ⟨o, es, ep, ho, r⟩, _⟩ := id I.loc
  obtain ⟨sl, hL⟩ := u.any ho I.free fun z => (hch _ z).2.1 rfl
  exact I.step (ch := ch) hch (fun b o hL hb hc e n => u.keep b o e n (fun z => (List.mem_cons.mp (I.stkSub b z)).elim hL hb) hc) (fun b o _ _ hc e n => u.any e n hc) (fun b o hc e n => u.free b o e n hc) (fun b o hc e => u.there b o e hc) u.tups u.frzs u.tbls (fun m' hm => by
    obtain ⟨o', es', ep', ho', r'⟩ := hm
    rw [ho] at ho'; cases ho'
    exact ⟨_, es', ep', hL, r'⟩) hok hg
/-- an untracked record of ours (an iterator) has turned -/
theorem Inv.turned {t' : Nat} {it : Addr} (I : Inv X pins σ H s) (k : ∀ b o, b ≠ it → s.heap.get? b = some o → h'.get? b = some o) (hn : H it = none) (hL : it ≠ X.env.locals)
    (h1 : it ∈ X.ex ∨ X.s₀.heap.objs.size ≤ it) (h2 : ∀ x c, X.env.cells.lookup x = some c → c ≠ it) (h3 : ∀ p ∈ X.pn ++ pins, p.1 ≠ it) : Inv X pins σ H { s with heap := h', toks := t' } := by
  have nit : ∀ b u, H b = some u → b ≠ it := fun b u e z => by rw [z, hn] at e; cases e
  refine I.step (g' := s.gens) (d' := s.drawn) (ch := [it]) (fun b hb => ?_) (fun b o _ _ hc e _ => k b o (fun z => hc (by simp [z])) e) (fun b o _ _ hc e _ => ⟨o.slots, k b o (fun z => hc (by simp [z])) e⟩) (fun _ _ _ _ n => n)
    (fun b o hc e => ⟨o, k b o (fun z => hc (by simp [z])) e⟩) (fun _ _ e => e) (fun _ _ _ e => e) (fun b ps e => ⟨#[], by rw [e]; simp⟩) (fun m hm => ?_) (fun b u e => ?_) I.bare
  · have e : b = it := by simpa using hb
    subst e
    exact ⟨h1, hL, h2, h3⟩
  · obtain ⟨o, es, ep, ho, r⟩ := hm
    exact ⟨o, es, ep, k _ o (Ne.symm hL) ho, r⟩
  · refine (I.hok b u e).stay (fun c v hc q => k c v ?_ q) (fun _ q => q) fun _ _ q => q
    rcases hc with z | z
    · rw [z]; exact nit b u e
    · exact nit c _ z
theorem Inv.tok (I : Inv X pins σ H s) (t : Nat) : Inv X pins σ H { s with toks := t } := I.un (h' := s.heap) (t' := t) Un.refl I.hok
/-- all objects kept -/
theorem Inv.kept {t' : Nat} (I : Inv X pins σ H s) (k : ∀ b u, s.heap.get? b = some u → h'.get? b = some u) : Inv X pins σ H { s with heap := h', toks := t' } := I.un (Un.kept k) (I.hok.kept k)
/-- a new object laid and tracked -/
theorem Inv.laid {a : Addr} {o : HO} {t' : Nat} (I : Inv X pins σ H s) (k : ∀ b u, s.heap.get? b = some u → h'.get? b = some u) (hp : s.heap.objs.size ≤ a) (new : ObjOk X.prog X.w (upd H a o) h' a o) :
    Inv X pins σ (upd H a o) { s with heap := h', toks := t' } := I.un (Un.laid k hp (I.hok.fresh hp)) (I.hok.laid k hp new)
/-- an object written -/
theorem Inv.write {x e : Addr} {o : HO} {t' : Nat} (I : Inv X pins σ H s) (mu : Mut (H x)) (he : e = x ∨ H e = some (.own x)) (k : ∀ b u, b ≠ e → s.heap.get? b = some u → h'.get? b = some u) (heo : ∃ u, h'.get? e = some u)
    (new : ObjOk X.prog X.w (upd H x o) h' x o) : Inv X pins σ (upd H x o) { s with heap := h', toks := t' } := I.un (Un.write mu he k heo) (I.hok.write mu he k heo new)
/-- forgetting slots, pins -/
theorem Inv.weak {σ' : List (Option V)} (I : Inv X pins σ H s) (hl : σ'.length = σ.length) (w : ∀ (i : Nat) v, σ'[i]? = some (some v) → σ[i]? = some (some v)) : Inv X pins σ' H s :=
  ⟨I.ok, I.os, I.bare, I.base, let ⟨m, hn, hl'⟩ := I.loc; ⟨m, hn, fun i x v e1 e2 e3 => hl' i x v e1 (w i v e2) e3⟩, I.cell, I.free, I.freeC, I.pin, I.hok, hl.trans I.len⟩
theorem Inv.pins_of {pins' : List (Addr × Obj)} (I : Inv X pins σ H s) (h : ∀ p ∈ pins', s.heap.get? p.1 = some p.2 ∧ H p.1 = none ∧ p.1 ≠ X.env.locals ∧ p.1 ∉ X.fs ∧ ∀ v, p.2.data ≠ .cell v) : Inv X pins' σ H s :=
  ⟨I.ok, I.os, I.bare, I.base, I.loc, I.cell, I.free, I.freeC, fun p hp => (List.mem_append.mp hp).elim (fun z => I.pin p (List.mem_append_left _ z)) (h p), I.hok, I.len⟩

theorem nodup_ix {N : List Str} (hN : N.Nodup) {i j : Nat} {x : Str} (a : N[i]? = some x) (b : N[j]? = some x) : i = j := by
  obtain ⟨h1, e1⟩ := List.getElem?_eq_some_iff.mp a
  obtain ⟨h2, e2⟩ := List.getElem?_eq_some_iff.mp b
  exact (List.getElem_inj hN).mp (e1.trans e2.symm)

/-- a name is stored; what changed -/
theorem store_ok2 {M : Model} {A : Around} {E : Value → Shared → Prop} {i : Nat} {x : Str} {v : V} {u : Value} {Q : Unit → Shared → Prop} (I : Inv X pins σ H s) (hN : X.N.Nodup) (hi : X.N[i]? = some x) (hx : Loc X.env.scope x) (r : RelV v u)
    (h : ∀ s', Inv X pins (σ.set i (some v)) H s' → (∃ a, Heap.SameBut a s.heap s'.heap ∧ (a = X.env.locals ∨ X.env.cells.lookup x = some a)) → Q () s') (hf : X.fn x = true ∨ X.env.scope.names.lookup x = some .local := by first | exact .inl rfl | exact .inr rfl | assumption) : wpAny M A (storeName X.env x u) Q E s := by
  obtain ⟨m, hn, hl⟩ := id I.loc
  have hcls : (X.env.scope.kind == .class || (X.env.scope.kind == .module && X.env.locals != X.env.globals)) = false := by rw [I.ok.kind]; rfl
  have hiσ : i < σ.length := by rw [I.len]; exact (List.getElem?_eq_some_iff.mp hi).1
  have cne := I.cne
  have tracked : ∀ {a : Addr} {h' : Heap}, (∃ o, s.heap.get? a = some o ∧ H a = none) → Heap.SameBut a s.heap h' → HOk X.prog X.w H h' := fun {a h'} ha hs b ob e => by
    obtain ⟨_, _, hfree⟩ := ha
    refine (I.hok b ob e).stay (fun c w' hc q => (hs.2 c ?_).trans q) (fun _ q => q) fun _ _ q => q
    rintro rfl
    rcases hc with rfl | hc
    · rw [hfree] at e; cases e
    · rw [hfree] at hc; cases hc
  rcases hx with hk | hk
  · refine wpAny_storeName_local hk hn (fun h' hn' hs => ?_) hcls
    obtain ⟨oL, _, _, hoL, _⟩ := id hn
    refine h _ ⟨I.ok, I.os, I.bare, ⟨fun b o e n hb hx => ?_, fun b o e n hb hx => ?_, I.base.free, fun b o e hx => ?_, I.base.tups, I.base.frzs, I.base.tbls⟩, ⟨_, hn', fun j y v' e1 e2 e3 => ?_⟩, fun y c e => ?_, I.free, I.freeC, fun p hp => ?_, tracked ⟨oL, hoL, I.free⟩ hs, by simpa using I.len⟩ ⟨_, hs, .inl rfl⟩
    · exact (hs.2 b (Nat.ne_of_lt (Nat.lt_of_lt_of_le (Heap.lt_size e) I.ok.above))).trans (I.base.keep b o e n hb hx)
    · obtain ⟨sl, e1⟩ := I.base.slot b o e n hb hx
      exact ⟨sl, (hs.2 b (Nat.ne_of_lt (Nat.lt_of_lt_of_le (Heap.lt_size e) I.ok.above))).trans e1⟩
    · obtain ⟨o', e1⟩ := I.base.there b o e hx
      exact ⟨o', (hs.2 b (Nat.ne_of_lt (Nat.lt_of_lt_of_le (Heap.lt_size e) I.ok.above))).trans e1⟩
    · by_cases hj : j = i
      · subst hj
        rw [hi] at e1; cases e1
        rw [List.getElem?_set_self hiσ] at e2
        cases e2
        exact ⟨u, r, .inl ⟨hk, by simp⟩⟩
      · rw [List.getElem?_set_ne (Ne.symm hj)] at e2
        obtain ⟨u', r', q⟩ := hl j y v' e1 e2 e3
        refine ⟨u', r', ?_⟩
        rcases q with ⟨k, e⟩ | ⟨k, c, e, z⟩
        · refine .inl ⟨k, ?_⟩
          have : y ≠ x := fun e => hj (nodup_ix hN e1 (e ▸ hi))
          simp [this, e]
        · exact .inr ⟨k, c, e, z.sameBut hs (cne y c e)⟩
    · obtain ⟨w', z⟩ := I.cell y c e
      exact ⟨w', z.sameBut hs (cne y c e)⟩
    · obtain ⟨e, n, ne, nf, d⟩ := I.pin p hp
      exact ⟨(hs.2 p.1 ne).trans e, n, ne, nf, d⟩
  · have hfn : X.fn x = true := by
      rcases hf with z | z
      · exact z
      · rw [z] at hk; cases hk
    obtain ⟨c, hc⟩ := I.ok.has x (.inl hk)
    obtain ⟨w', z⟩ := I.cell x c hc
    refine wpAny_storeName_cell I.ok.kind hk hc z (fun h' hc' hs => ?_)
    obtain ⟨oc, hoc, hocd⟩ := id z
    refine h { s with heap := h' } ⟨I.ok, I.os, I.bare, ⟨fun b o e n hb hx => ?_, fun b o e n hb hx => ?_, I.base.free, fun b o e hx => ?_, I.base.tups, I.base.frzs, I.base.tbls⟩, ⟨m, hn.sameBut hs (Ne.symm (cne x c hc)), fun j y v' e1 e2 e3 => ?_⟩, fun y c' e => ?_, I.free, I.freeC, fun p hp => ?_, tracked ⟨oc, hoc, I.freeC x c hc⟩ hs, by simpa using I.len⟩ ⟨c, hs, .inr hc⟩
    · exact (hs.2 b (Nat.ne_of_lt (Nat.lt_of_lt_of_le (Heap.lt_size e) (I.ok.cab x c hfn hc)))).trans (I.base.keep b o e n hb hx)
    · obtain ⟨sl, e1⟩ := I.base.slot b o e n hb hx
      exact ⟨sl, (hs.2 b (Nat.ne_of_lt (Nat.lt_of_lt_of_le (Heap.lt_size e) (I.ok.cab x c hfn hc)))).trans e1⟩
    · obtain ⟨o', e1⟩ := I.base.there b o e hx
      exact ⟨o', (hs.2 b (Nat.ne_of_lt (Nat.lt_of_lt_of_le (Heap.lt_size e) (I.ok.cab x c hfn hc)))).trans e1⟩
    · by_cases hj : j = i
      · subst hj
        rw [hi] at e1; cases e1
        rw [List.getElem?_set_self hiσ] at e2
        cases e2
        exact ⟨u, r, .inr ⟨.inl hk, c, hc, hc'⟩⟩
      · rw [List.getElem?_set_ne (Ne.symm hj)] at e2
        obtain ⟨u', r', q⟩ := hl j y v' e1 e2 e3
        refine ⟨u', r', ?_⟩
        rcases q with q | ⟨k, c', e, z'⟩
        · exact .inl q
        · refine .inr ⟨k, c', e, z'.sameBut hs ?_⟩
          rintro rfl
          exact hj (nodup_ix hN e1 (I.ok.inj _ _ _ e hc ▸ hi))
    · by_cases hcc : c' = c
      · subst hcc; exact ⟨_, hc'⟩
      · obtain ⟨w2, z2⟩ := I.cell y c' e
        exact ⟨w2, z2.sameBut hs hcc⟩
    · obtain ⟨e, n, ne, nf, d⟩ := I.pin p hp
      refine ⟨(hs.2 p.1 ?_).trans e, n, ne, nf, d⟩
      intro q
      rw [q, hoc] at e
      have q' : oc = p.2 := Option.some.inj e
      exact d w' (by rw [← q']; exact hocd)
theorem store_ok {M : Model} {A : Around} {E : Value → Shared → Prop} {i : Nat} {x : Str} {v : V} {u : Value} {Q : Unit → Shared → Prop} (I : Inv X pins σ H s) (hN : X.N.Nodup) (hi : X.N[i]? = some x) (hx : Loc X.env.scope x) (r : RelV v u)
    (h : ∀ s', Inv X pins (σ.set i (some v)) H s' → Q () s') (hf : X.fn x = true ∨ X.env.scope.names.lookup x = some .local := by first | exact .inl rfl | exact .inr rfl | assumption) : wpAny M A (storeName X.env x u) Q E s :=
  store_ok2 I hN hi hx r (fun s' I' _ => h s' I') hf
/-- behind a call or a block, the state as it is -/
theorem Inv.call' {s' : Shared} {ch : List Addr} (I : Inv X pins σ H s) (ho : s'.os = s.os) (u : Un (frs X.stack) ch H H' s.heap s'.heap) (hok : HOk X.prog X.w H' s'.heap) (hg : AllBare s'.gens)
    (hch : ∀ b ∈ ch, (b ∈ X.ex ∨ X.s₀.heap.objs.size ≤ b) ∧ b ≠ X.env.locals ∧ (∀ x c, X.env.cells.lookup x = some c → c ≠ b) ∧ ∀ p ∈ X.pn ++ pins, p.1 ≠ b) : Inv X pins σ H' s' := by
  obtain ⟨h', g', d', t', o'⟩ := s'
  have e : o' = s.os := ho
  subst e
  exact I.call (g' := g') (t' := t') (d' := d') u hok hg hch
end

/-! ### the judgements -/
/-- an exception: its class, its own dict's address (where it has one), the abstract heap behind it -/
abbrev XK := Value → Option Addr → Hp → Prop
abbrev St := List (Option V)
abbrev VK := V → Hp → Prop
/-- an expression's reading; a test's; an argument list's -/
abbrev TE := St → Hp → VK → Prop
abbrev TT := St → Hp → (Bool → Hp → Prop) → Prop
abbrev TA := St → Hp → (List V → Hp → Prop) → Prop
/-- what is wanted behind a statement -/
structure Ends where
  nx : St → Hp → Prop
  rt : VK
  bk : St → Hp → Prop := fun _ _ => False
  ct : St → Hp → Prop := fun _ _ => False
abbrev TS := Ends → St → Hp → Prop

def EP (X : Cx) (pins : List (Addr × Obj)) (σ : St) (Q : VK) (u : Value) (s' : Shared) : Prop := ∃ v H', Inv X pins σ H' s' ∧ RelV v u ∧ Q v H'
def TP (X : Cx) (pins : List (Addr × Obj)) (σ : St) (Q : Bool → Hp → Prop) (b : Bool) (s' : Shared) : Prop := ∃ H', Inv X pins σ H' s' ∧ Q b H'
def AP (X : Cx) (pins : List (Addr × Obj)) (σ : St) (Q : List V → Hp → Prop) (us : List Value) (s' : Shared) : Prop := ∃ vs H', Inv X pins σ H' s' ∧ Vals vs us ∧ Q vs H'
def SP (X : Cx) (pins : List (Addr × Obj)) (D : Ends) (f : Flow) (s' : Shared) : Prop :=
  match f with
  | .next => ∃ σ' H', Inv X pins σ' H' s' ∧ D.nx σ' H'
  | .brk => ∃ σ' H', Inv X pins σ' H' s' ∧ D.bk σ' H'
  | .cont => ∃ σ' H', Inv X pins σ' H' s' ∧ D.ct σ' H'
  | .ret u => ∃ v σ' H', Inv X pins σ' H' s' ∧ RelV v u ∧ D.rt v H'

def PE (X : Cx) (e : Expr) (t : TE) : Prop :=
  ∀ (pins : List (Addr × Obj)) (s : Shared) (σ : St) (H : Hp) (Q : VK), Inv X pins σ H s → t σ H Q → wpAny (model X.prog X.w) X.A (eval e X.env) (EP X pins σ Q) X.xe s
def PT (X : Cx) (e : Expr) (t : TT) : Prop :=
  ∀ (pins : List (Addr × Obj)) (s : Shared) (σ : St) (H : Hp) (Q : Bool → Hp → Prop), Inv X pins σ H s → t σ H Q → wpAny (model X.prog X.w) X.A (isTrue e X.env (eval e X.env)) (TP X pins σ Q) X.xe s
/-- a test whatever its 'whole' is (and, or) -/
def PW (X : Cx) (e : Expr) (t : TT) : Prop :=
  ∀ (whole : Sem Value) (pins : List (Addr × Obj)) (s : Shared) (σ : St) (H : Hp) (Q : Bool → Hp → Prop), Inv X pins σ H s → t σ H Q → wpAny (model X.prog X.w) X.A (isTrue e X.env whole) (TP X pins σ Q) X.xe s
theorem PW.pt {X : Cx} {e : Expr} {t : TT} (h : PW X e t) : PT X e t := h _
/-- an argument list (no star), from the left -/
def PA (X : Cx) (es : List Expr) (t : TA) : Prop :=
  ∀ (pos : Pos) (pins : List (Addr × Obj)) (s : Shared) (σ : St) (H : Hp) (Q : List V → Hp → Prop), Inv X pins σ H s → t σ H Q → wpAny (model X.prog X.w) X.A (spliced (backTo pos (starEach es X.env))) (AP X pins σ Q) X.xe s
def PS (X : Cx) (st : Stmt) (t : TS) : Prop :=
  ∀ (pins : List (Addr × Obj)) (s : Shared) (σ : St) (H : Hp) (D : Ends), Inv X pins σ H s → t D σ H → wpAny (model X.prog X.w) X.A (exec st X.env) (SP X pins D) X.xe s
def PSs (X : Cx) (st : List Stmt) (t : TS) : Prop :=
  ∀ (pins : List (Addr × Obj)) (s : Shared) (σ : St) (H : Hp) (D : Ends), Inv X pins σ H s → t D σ H → wpAny (model X.prog X.w) X.A (execs st X.env) (SP X pins D) X.xe s
/-- weaken the end -/
theorem thn {α : Type} {t : Sem α} {Q Q' : α → Shared → Prop} {M : Model} {A : Around} {E : Value → Shared → Prop} {s : Shared} (h : wpAny M A t Q E s) (hQ : ∀ a s, Q a s → Q' a s) : wpAny M A t Q' E s := wpAny_mono h hQ fun _ _ x => x
end L2

namespace L2
open PySem PySem.Spec PyProof.Rows
section
variable {X : Cx}

/-- two expressions in a row -/
theorem bin {a b : Expr} {ta tb : TE} (ha : PE X a ta) (hb : PE X b tb) {pins : List (Addr × Obj)} {s : Shared} {σ : St} {H : Hp} {R : V → V → Hp → Prop} (I : Inv X pins σ H s) (h : ta σ H fun x H1 => tb σ H1 fun y H2 => R x y H2)
    {α : Type} {Q : α → Shared → Prop} {f : Value → Value → Sem α}
    (hf : ∀ v u s2 x y H2, Inv X pins σ H2 s2 → RelV x v → RelV y u → R x y H2 → wpAny (model X.prog X.w) X.A (f v u) Q X.xe s2) :
    wpAny (model X.prog X.w) X.A (eval a X.env) (fun v s₁ => wpAny (model X.prog X.w) X.A (eval b X.env) (fun u s₂ => wpAny (model X.prog X.w) X.A (f v u) Q X.xe s₂) X.xe s₁) X.xe s := by
  refine thn (ha pins s σ H _ I h) fun v s1 ⟨x, H1, I1, r1, q1⟩ => ?_
  refine thn (hb pins s1 σ H1 _ I1 q1) fun u s2 ⟨y, H2, I2, r2, q2⟩ => ?_
  exact hf v u s2 x y H2 I2 r1 r2 q2

/-! ### names and constants -/
def tVar (i : Nat) : TE := fun σ H Q => ∃ v, σ[i]? = some (some v) ∧ Q v H
def tC (v : V) : TE := fun _ H Q => Q v H
theorem pe_var {i : Nat} {x : Str} {pos : Pos} (hN : X.N[i]? = some x) (hv : Vis X.env.scope x) (hd : (x == ("__debug__" : Str)) = false := by decide) (hcd : (x == ("__classdict__" : Str)) = false := by decide) : PE X (.Name x pos) (tVar i) := by
  intro pins s σ H Q I h
  obtain ⟨v, e, h⟩ := h
  obtain ⟨m, hn, hl⟩ := I.loc
  obtain ⟨u, r, l⟩ := hl i x v hN e hv
  have fin : EP X pins σ Q u s := ⟨v, H, I, r, h⟩
  rcases l with ⟨hk, hm⟩ | ⟨hk, c, hc, hcell⟩
  · exact wpAny_Name (wpAny_loadName_local I.ok.kind hk hn hm fin) hd
  · rcases hk with hk | hk
    · exact wpAny_Name (wpAny_loadName_cell I.ok.kind hk hc hcell fin) hd
    · exact wpAny_Name (wpAny_loadName_free I.ok.kind hk hc hcell fin hcd) hd
theorem pe_int {i j pos} : PE X (.Constant (.int i) j pos) (tC (.int i)) := fun _ _ _ H _ I h => wpAny_Constant_int ⟨.int i, H, I.tok _, ⟨_, rfl⟩, h⟩
theorem pe_bl {b j pos} : PE X (.Constant (.bool b) j pos) (tC (.bl b)) := fun _ _ _ H _ I h => Constant_bool ⟨.bl b, H, I, rfl, h⟩
theorem pe_non {j pos} : PE X (.Constant .none j pos) (tC .non) := fun _ _ _ H _ I h => Constant_none ⟨.non, H, I, rfl, h⟩
theorem pe_str {x j pos} : PE X (.Constant (.str x) j pos) (tC (.str x)) := fun _ _ _ H _ I h => Calls.Constant_str ⟨.str x, H, I.tok _, ⟨_, rfl⟩, h⟩

/-- a global name of the def -/
def Gl (X : Cx) (x : Str) : Prop := X.env.kindOf x = some .globalImplicit
theorem ld_glob {E : Value → Shared → Prop} {pins : List (Addr × Obj)} {s : Shared} {σ : St} {H : Hp} {x : Str} {u : Value} {pos : Pos} {Q : Value → Shared → Prop} (I : Inv X pins σ H s) (hg : Gl X x) (hm : X.mg x = some u) (h : Q u s)
    (hd : (x == ("__debug__" : Str)) = false := by decide) : wpAny (model X.prog X.w) X.A (eval (.Name x pos) X.env) Q E s :=
  Calls.Name_function_global I.ok.kind hg (Calls.loadGlobal_global (by rw [I.ok.glob]; exact I.mod.glob.keeps I.bk) hm h) hd
theorem ld_blt {E : Value → Shared → Prop} {pins : List (Addr × Obj)} {s : Shared} {σ : St} {H : Hp} {x : Str} {u : Value} {pos : Pos} {Q : Value → Shared → Prop} (I : Inv X pins σ H s) (hg : Gl X x) (hm : X.mg x = none) (hv : bootBuiltins x = some u) (h : Q u s)
    (hn : x ≠ "__name__" := by decide) (hd : (x == ("__debug__" : Str)) = false := by decide) : wpAny (model X.prog X.w) X.A (eval (.Name x pos) X.env) Q E s := by
  obtain ⟨mb, h1, h2⟩ := I.mod.blt
  exact Calls.Name_function_global I.ok.kind hg (Calls.loadGlobal_builtin (by rw [I.ok.glob]; exact I.mod.glob.keeps I.bk) hm (by rw [I.ok.blt]; exact h1.keeps I.bk) ((h2 x hn).trans hv) h) hd
/-- a module's constant, a class, a function, as a value -/
theorem pe_glob {x : Str} {v : V} {u : Value} {pos : Pos} (hg : Gl X x) (hm : X.mg x = some u) (r : RelV v u) (hd : (x == ("__debug__" : Str)) = false := by decide) : PE X (.Name x pos) (tC v) :=
  fun _ _ _ H _ I h => ld_glob I hg hm ⟨v, H, I, r, h⟩ hd
theorem pe_bltn {x : Str} {v : V} {u : Value} {pos : Pos} (hg : Gl X x) (hm : X.mg x = none) (hv : bootBuiltins x = some u) (r : RelV v u) (hn : x ≠ "__name__" := by decide) (hd : (x == ("__debug__" : Str)) = false := by decide) : PE X (.Name x pos) (tC v) :=
  fun _ _ _ H _ I h => ld_blt I hg hm hv ⟨v, H, I, r, h⟩ hn hd

/-! ### arithmetic -/
/-- two ints -/
def t2I (ta tb : TE) (k : Int → Int → Hp → Prop) : St → Hp → Prop := fun σ H => ta σ H fun x H1 => tb σ H1 fun y H2 => ∃ i j, x = .int i ∧ y = .int j ∧ k i j H2
def tAdd (ta tb : TE) : TE := fun σ H Q => t2I ta tb (fun i j H2 => Q (.int (i + j)) H2) σ H
def tSub (ta tb : TE) : TE := fun σ H Q => t2I ta tb (fun i j H2 => Q (.int (i - j)) H2) σ H
/-- the left factor below 2^64 -/
def tMul (ta tb : TE) : TE := fun σ H Q => t2I ta tb (fun i j H2 => (-(2 ^ 64) < i ∧ i < 2 ^ 64) ∧ Q (.int (i * j)) H2) σ H
variable {a b : Expr} {ta tb : TE} {pos : Pos}
theorem pe_add (ha : PE X a ta) (hb : PE X b tb) : PE X (.BinOp a .Add b pos) (tAdd ta tb) := by
  intro pins s σ H Q I h
  refine wpAny_BinOp (bin ha hb I h fun v u s2 x y H2 I2 rx ry q => ?_)
  obtain ⟨i, j, rfl, rfl, q⟩ := q
  obtain ⟨t, rfl⟩ := rx
  obtain ⟨t', rfl⟩ := ry
  exact add_int ⟨.int _, H2, I2.tok _, ⟨_, rfl⟩, q⟩
theorem pe_sub (ha : PE X a ta) (hb : PE X b tb) : PE X (.BinOp a .Sub b pos) (tSub ta tb) := by
  intro pins s σ H Q I h
  refine wpAny_BinOp (bin ha hb I h fun v u s2 x y H2 I2 rx ry q => ?_)
  obtain ⟨i, j, rfl, rfl, q⟩ := q
  obtain ⟨t, rfl⟩ := rx
  obtain ⟨t', rfl⟩ := ry
  exact sub_int ⟨.int _, H2, I2.tok _, ⟨_, rfl⟩, q⟩
theorem pe_mul (ha : PE X a ta) (hb : PE X b tb) : PE X (.BinOp a .Mult b pos) (tMul ta tb) := by
  intro pins s σ H Q I h
  refine wpAny_BinOp (bin ha hb I h fun v u s2 x y H2 I2 rx ry q => ?_)
  obtain ⟨i, j, rfl, rfl, ⟨q1, q2⟩, q⟩ := q
  obtain ⟨t, rfl⟩ := rx
  obtain ⟨t', rfl⟩ := ry
  exact mul_int ⟨.int _, H2, I2.tok _, ⟨_, rfl⟩, q⟩ (.of_left (intBits_le_64 q1 q2))

/-! ### comparisons -/
def PC (X : Cx) (op : CmpOp) (a b : Expr) (t : TE) : Prop :=
  ∀ (pins : List (Addr × Obj)) (s : Shared) (σ : St) (H : Hp) (Q : VK), Inv X pins σ H s → t σ H Q →
    wpAny (model X.prog X.w) X.A (eval a X.env) (fun v s₁ => wpAny (model X.prog X.w) X.A (eval b X.env) (fun u s₂ => wpAny (model X.prog X.w) X.A (compareOp op v u) (EP X pins σ Q) X.xe s₂) X.xe s₁) X.xe s
theorem nobehind (b : Expr) {op : CmpOp} (h : op ≠ .In) (h2 : op ≠ .NotIn) : behindInMarks op b = false := by
  have e1 : (op == CmpOp.In) = false := by cases op <;> first | rfl | exact absurd rfl h
  have e2 : (op == CmpOp.NotIn) = false := by cases op <;> first | rfl | exact absurd rfl h2
  cases b <;> simp [behindInMarks, e1, e2]
def tCmp (p : Int → Int → Bool) (ta tb : TE) : TE := fun σ H Q => t2I ta tb (fun i j H2 => Q (.bl (p i j)) H2) σ H
abbrev tLt : TE → TE → TE := tCmp fun i j => decide (i < j)
abbrev tLe : TE → TE → TE := tCmp fun i j => decide (i ≤ j)
abbrev tGt : TE → TE → TE := tCmp fun i j => decide (j < i)
abbrev tGe : TE → TE → TE := tCmp fun i j => decide (j ≤ i)
abbrev tEqI : TE → TE → TE := tCmp fun i j => decide (i = j)
abbrev tNeI : TE → TE → TE := tCmp fun i j => !decide (i = j)
/-- a comparison of two ints, by its rule -/
theorem pc_int {op : CmpOp} {p : Int → Int → Bool} (ha : PE X a ta) (hb : PE X b tb)
    (rule : ∀ (i j : Int) (t u : Tok) (Q : Value → Shared → Prop) (s : Shared), Q (.bool (p i j)) s → wpAny (model X.prog X.w) X.A (compareOp op (.int i t) (.int j u)) Q X.xe s) : PC X op a b (tCmp p ta tb) := by
  intro pins s σ H Q I h
  refine bin ha hb I h fun v u s2 x y H2 I2 rx ry q => ?_
  obtain ⟨i, j, rfl, rfl, q⟩ := q
  obtain ⟨t, rfl⟩ := rx
  obtain ⟨t', rfl⟩ := ry
  exact rule i j t t' _ s2 ⟨.bl _, H2, I2, rfl, q⟩
theorem pc_lt (ha : PE X a ta) (hb : PE X b tb) : PC X .Lt a b (tLt ta tb) := pc_int ha hb fun _ _ _ _ _ _ h => lt_int h
theorem pc_le (ha : PE X a ta) (hb : PE X b tb) : PC X .LtE a b (tLe ta tb) := pc_int ha hb fun _ _ _ _ _ _ h => le_int h
theorem pc_gt (ha : PE X a ta) (hb : PE X b tb) : PC X .Gt a b (tGt ta tb) := pc_int ha hb fun _ _ _ _ _ _ h => gt_int h
theorem pc_ge (ha : PE X a ta) (hb : PE X b tb) : PC X .GtE a b (tGe ta tb) := pc_int ha hb fun _ _ _ _ _ _ h => ge_int h
theorem pc_eqI (ha : PE X a ta) (hb : PE X b tb) : PC X .Eq a b (tEqI ta tb) := pc_int ha hb fun _ _ _ _ _ _ h => eq_int (by rw [Bool.beq_eq_decide_eq]; exact h)
theorem pc_neI (ha : PE X a ta) (hb : PE X b tb) : PC X .NotEq a b (tNeI ta tb) := pc_int ha hb fun _ _ _ _ _ _ h => ne_int (by rw [bne, Bool.beq_eq_decide_eq]; exact h)
/-- is None -/
def tIsN (ta : TE) : TE := fun σ H Q => ta σ H fun x H1 => Q (.bl (decide (x = .non))) H1
def tNotN (ta : TE) : TE := fun σ H Q => ta σ H fun x H1 => Q (.bl (!decide (x = .non))) H1
theorem RelV.none_iff {x : V} {v : Value} (r : RelV x v) : (v == Value.none) = decide (x = .non) := by
  cases x with
  | non => cases r; rfl
  | bl _ => cases r; rfl
  | int _ => obtain ⟨t, rfl⟩ := r; rfl
  | str _ => obtain ⟨t, rfl⟩ := r; rfl
  | byt _ => obtain ⟨t, rfl⟩ := r; rfl
  | flt _ => obtain ⟨t, rfl⟩ := r; rfl
  | ref _ => cases r; rfl
  | ty _ => cases r; rfl
theorem pc_isN {j pos'} (ha : PE X a ta) : PC X .Is a (.Constant .none j pos') (tIsN ta) := by
  intro pins s σ H Q I h
  refine thn (ha pins s σ H _ I h) fun v s1 ⟨x, H1, I1, r1, q1⟩ => ?_
  exact Constant_none (is_none_gen ⟨.bl _, H1, I1, by rw [r1.none_iff]; rfl, q1⟩)
theorem pc_notN {j pos'} (ha : PE X a ta) : PC X .IsNot a (.Constant .none j pos') (tNotN ta) := by
  intro pins s σ H Q I h
  refine thn (ha pins s σ H _ I h) fun v s1 ⟨x, H1, I1, r1, q1⟩ => ?_
  exact Constant_none (isnot_none_gen ⟨.bl _, H1, I1, by rw [r1.none_iff]; rfl, q1⟩)
/-- a comparison as a value, as a test -/
def tB (t : TE) : TT := fun σ H Q => t σ H fun x H1 => ∃ c, x = .bl c ∧ Q c H1
theorem pe_cmp {op : CmpOp} {t : TE} (h : PC X op a b t) (h1 : behindInMarks op b = false := by first | exact nobehind _ (by decide) (by decide) | rfl) : PE X (.Compare a [op] [b] pos) t := fun pins s σ H Q I hw => wpAny_Compare1 (h pins s σ H Q I hw) h1
theorem pt_cmp {op : CmpOp} {t : TE} (h : PC X op a b t) (h1 : behindInMarks op b = false := by first | exact nobehind _ (by decide) (by decide) | rfl) : PT X (.Compare a [op] [b] pos) (tB t) := by
  intro pins s σ H Q I hw
  refine wpAny_isTrue_Compare1 (thn (h pins s σ H _ I hw) fun v s1 h1 => thn h1 fun u s2 h2 => thn h2 fun c s3 ⟨x, H1, I1, r1, q1⟩ => ?_) h1
  obtain ⟨d, rfl, q⟩ := q1
  cases r1
  exact wpAny_truthy_bool ⟨H1, I1, q⟩
/-- an expression whose value is a bool, as a test -/
theorem pt_val {e : Expr} {t : TE} (h : PE X e t) (he : ∀ whole, isTrue e X.env whole = (do let v ← whole; standAt e.pos; holding [v] (truthy v)) := by intro _; rfl) : PT X e (tB t) := by
  intro pins s σ H Q I hw
  refine isTrue_plain (thn (h pins s σ H _ I hw) fun v s1 ⟨x, H1, I1, r1, q1⟩ => ?_) (he _)
  obtain ⟨d, rfl, q⟩ := q1
  cases r1
  exact wpAny_truthy_bool ⟨H1, I1, q⟩

/-! ### and, or, not -/
variable {tA tB' : TT} {rest : List Expr}
def tAnd (t u : TT) : TT := fun σ H Q => t σ H fun c H1 => if c = true then u σ H1 Q else Q false H1
def tOr (t u : TT) : TT := fun σ H Q => t σ H fun c H1 => if c = true then Q true H1 else u σ H1 Q
def tNot (t : TT) : TT := fun σ H Q => t σ H fun c H1 => Q (!c) H1
theorem pw_and1 (ha : PT X a tA) : PW X (.BoolOp .And [a] pos) tA := by
  intro wh pins s σ H Q I h
  refine isTrue_and (thn (ha pins s σ H Q I h) fun c s1 e => ?_)
  cases c with
  | true => exact isTrue_and_nil e
  | false => exact e
theorem pw_or1 (ha : PT X a tA) : PW X (.BoolOp .Or [a] pos) tA := by
  intro wh pins s σ H Q I h
  refine isTrue_or (thn (ha pins s σ H Q I h) fun c s1 e => ?_)
  cases c with
  | false => exact isTrue_or_nil e
  | true => exact e
theorem pw_and (ha : PT X a tA) (hb : PW X (.BoolOp .And (b :: rest) pos) tB') : PW X (.BoolOp .And (a :: b :: rest) pos) (tAnd tA tB') := by
  intro wh pins s σ H Q I h
  refine isTrue_and (thn (ha pins s σ H _ I h) fun c s1 ⟨H1, I1, q1⟩ => ?_)
  cases c with
  | true => exact hb wh pins s1 σ H1 Q I1 q1
  | false => exact ⟨H1, I1, q1⟩
theorem pw_or (ha : PT X a tA) (hb : PW X (.BoolOp .Or (b :: rest) pos) tB') : PW X (.BoolOp .Or (a :: b :: rest) pos) (tOr tA tB') := by
  intro wh pins s σ H Q I h
  refine isTrue_or (thn (ha pins s σ H _ I h) fun c s1 ⟨H1, I1, q1⟩ => ?_)
  cases c with
  | true => exact ⟨H1, I1, q1⟩
  | false => exact hb wh pins s1 σ H1 Q I1 q1
theorem pt_not (ha : PT X a tA) : PT X (.UnaryOp .Not a pos) (tNot tA) := by
  intro pins s σ H Q I h
  exact isTrue_not (ha pins s σ H (fun c H1 => Q (!c) H1) I h)
/-- .. as values (bools) -/
def tAndV (ta tb : TE) : TE := fun σ H Q => ta σ H fun x H1 => ∃ c, x = .bl c ∧ if c = true then tb σ H1 Q else Q (.bl false) H1
def tOrV (ta tb : TE) : TE := fun σ H Q => ta σ H fun x H1 => ∃ c, x = .bl c ∧ if c = true then Q (.bl true) H1 else tb σ H1 Q
def tNotV (ta : TE) : TE := fun σ H Q => ta σ H fun x H1 => ∃ c, x = .bl c ∧ Q (.bl (!c)) H1
theorem pe_one {op} {t : TE} (h : PE X a t) : PE X (.BoolOp op [a] pos) t := fun pins s σ H Q I hw => BoolOp_one (h pins s σ H Q I hw)
theorem pe_and (ha : PE X a ta) (hb : PE X (.BoolOp .And (b :: rest) pos) tb) : PE X (.BoolOp .And (a :: b :: rest) pos) (tAndV ta tb) := by
  intro pins s σ H Q I h
  refine BoolOp_and (thn (ha pins s σ H _ I h) fun v s1 ⟨x, H1, I1, r1, q1⟩ => ?_)
  obtain ⟨c, rfl, q1⟩ := q1
  cases r1
  refine wpAny_truthy_bool ?_
  cases c with
  | true => exact hb pins s1 σ H1 Q I1 q1
  | false => exact ⟨.bl false, H1, I1, rfl, q1⟩
theorem pe_or (ha : PE X a ta) (hb : PE X (.BoolOp .Or (b :: rest) pos) tb) : PE X (.BoolOp .Or (a :: b :: rest) pos) (tOrV ta tb) := by
  intro pins s σ H Q I h
  refine BoolOp_or (thn (ha pins s σ H _ I h) fun v s1 ⟨x, H1, I1, r1, q1⟩ => ?_)
  obtain ⟨c, rfl, q1⟩ := q1
  cases r1
  refine wpAny_truthy_bool ?_
  cases c with
  | false => exact hb pins s1 σ H1 Q I1 q1
  | true => exact ⟨.bl true, H1, I1, rfl, q1⟩
theorem pe_not (ha : PE X a ta) : PE X (.UnaryOp .Not a pos) (tNotV ta) := by
  intro pins s σ H Q I h
  refine UnaryOp_ (thn (ha pins s σ H _ I h) fun v s1 ⟨x, H1, I1, r1, q1⟩ => ?_)
  obtain ⟨c, rfl, q1⟩ := q1
  cases r1
  exact not_of (wpAny_truthy_bool ⟨.bl (!c), H1, I1, rfl, q1⟩)
/-- a if t else b -/
def tIf (t : TT) (ta tb : TE) : TE := fun σ H Q => t σ H fun c H1 => if c = true then ta σ H1 Q else tb σ H1 Q
theorem pe_ifExp {c : Expr} (hc : PT X c tA) (ha : PE X a ta) (hb : PE X b tb) : PE X (.IfExp c a b pos) (tIf tA ta tb) := by
  intro pins s σ H Q I h
  refine wpAny_IfExp (thn (hc pins s σ H _ I h) fun d s1 ⟨H1, I1, q1⟩ => ?_)
  cases d with
  | true => exact ha pins s1 σ H1 Q I1 q1
  | false => exact hb pins s1 σ H1 Q I1 q1
end
end L2

namespace L2
open PySem PySem.Spec PyProof.Rows

/-! ### a list, a tuple that is read: tracked, frozen, or an object of the module -/
def SqL (K : PySem.W.Frag) (H : Hp) (a : Addr) (xs : List V) : Prop :=
  Rd H a (.lst xs) ∨
    ∃ (o : Obj) (its : Array Value) (n : Nat), K.lookup a = some o ∧ o.cls = .type "list" ∧ o.dict = none ∧ o.data = .seq its n ∧ its.size ≤ sizeLine ∧ Vals xs its.toList
def SqT (K : PySem.W.Frag) (H : Hp) (a : Addr) (xs : List V) : Prop :=
  Rd H a (.tup xs) ∨
    ∃ (o : Obj) (its : Array Value) (n : Nat), K.lookup a = some o ∧ o.cls = .type "tuple" ∧ o.data = .seq its n ∧ its.size ≤ sizeLine ∧ Vals xs its.toList
def absV : Value → Option V
  | .none => some .non
  | .bool b => some (.bl b)
  | .int i _ => some (.int i)
  | .str x _ => some (.str x)
  | .bytes b _ => some (.byt b)
  | .float b _ => some (.flt b)
  | .ref a => some (.ref a)
  | .type n => some (.ty n)
  | _ => none
theorem RelV.abs {x : V} {u : Value} (r : RelV x u) : absV u = some x := by
  cases x with
  | non => cases r; rfl
  | bl _ => cases r; rfl
  | int _ => obtain ⟨t, rfl⟩ := r; rfl
  | str _ => obtain ⟨t, rfl⟩ := r; rfl
  | byt _ => obtain ⟨t, rfl⟩ := r; rfl
  | flt _ => obtain ⟨t, rfl⟩ := r; rfl
  | ref _ => cases r; rfl
  | ty _ => cases r; rfl
theorem RelV.inj {x y : V} {u : Value} (r : RelV x u) (q : RelV y u) : x = y := Option.some.inj (r.abs.symm.trans q.abs)
theorem Vals.inj : ∀ {xs ys : List V} {us : List Value}, Vals xs us → Vals ys us → xs = ys
  | _, _, _, .nil, .nil => rfl
  | _, _, _, .cons r t, .cons r' t' => by rw [r.inj r', Vals.inj t t']
section
variable {X : Cx} {pins : List (Addr × Obj)} {σ : St} {H : Hp} {s : Shared} {a : Addr} {xs ys : List V}
theorem SqL.of {K : PySem.W.Frag} (h : H a = some (.lst xs)) : SqL K H a xs := .inl (.inl h)
theorem SqT.of {K : PySem.W.Frag} (h : H a = some (.tup xs)) : SqT K H a xs := .inl (.inl h)
theorem Inv.list (I : Inv X pins σ H s) (h : SqL X.K H a xs) : ∃ its : List Value, Vals xs its ∧ PlainL s.heap a its.toArray ∧ xs.length ≤ sizeLine := by
  rcases h with h | ⟨o, its, n, hk, hc, hd, hs, hz, r⟩
  · obtain ⟨z, its, n, r, e⟩ := h.ok I.hok
    exact ⟨its, r, ⟨_, n, e, rfl, rfl, rfl⟩, z⟩
  · refine ⟨its.toList, r, ⟨o, n, I.kIn a o hk, hc, hd, by simpa using hs⟩, ?_⟩
    have e := r.length
    simp only [Array.length_toList] at e
    omega
theorem Inv.tuple (I : Inv X pins σ H s) (h : SqT X.K H a xs) : ∃ its : List Value, Vals xs its ∧ IsTup s.heap a its.toArray ∧ xs.length ≤ sizeLine := by
  rcases h with h | ⟨o, its, n, hk, hc, hs, hz, r⟩
  · obtain ⟨z, its, r, p⟩ := h.ok I.hok
    exact ⟨its, r, p, z⟩
  · refine ⟨its.toList, r, ⟨o, I.kIn a o hk, hc, n, by simpa using hs⟩, ?_⟩
    have e := r.length
    simp only [Array.length_toList] at e
    omega
theorem Inv.list_inj (I : Inv X pins σ H s) (h : SqL X.K H a xs) (h' : SqL X.K H a ys) : xs = ys := by
  obtain ⟨its, r, ⟨o, n, e, _, _, d⟩, _⟩ := I.list h
  obtain ⟨its', r', ⟨o', n', e', _, _, d'⟩, _⟩ := I.list h'
  rw [e] at e'; cases e'
  rw [d] at d'
  injection d' with d1 _
  have : its = its' := by simpa using congrArg Array.toList d1
  subst this
  exact r.inj r'
theorem Inv.tuple_inj (I : Inv X pins σ H s) (h : SqT X.K H a xs) (h' : SqT X.K H a ys) : xs = ys := by
  obtain ⟨its, r, ⟨o, e, _, n, d⟩, _⟩ := I.tuple h
  obtain ⟨its', r', ⟨o', e', _, n', d'⟩, _⟩ := I.tuple h'
  rw [e] at e'; cases e'
  rw [d] at d'
  injection d' with d1 _
  have : its = its' := by simpa using congrArg Array.toList d1
  subst this
  exact r.inj r'
end

/-! ### another wish about exceptions -/
abbrev Cx.wish (X : Cx) (E : Value → Shared → Prop) : Cx := { X with xe := E }
/-- no exception leaves -/
abbrev Cx.nox (X : Cx) : Cx := X.wish fun _ _ => False
theorem Cx.Ok.wish {X : Cx} (ok : X.Ok) (E : Value → Shared → Prop) : (X.wish E).Ok :=
  ⟨ok.mod, ok.kind, ok.glob, ok.blt, ok.above, ok.inj, ok.has, ok.cab, ok.hd, ok.frames, ok.stk, ok.exf, ok.bs, ok.bsz, ok.noex, ok.exfs, ok.funs, ok.frf⟩
theorem Cx.Ok.unwish {X : Cx} {E : Value → Shared → Prop} (ok : (X.wish E).Ok) : X.Ok :=
  ⟨ok.mod, ok.kind, ok.glob, ok.blt, ok.above, ok.inj, ok.has, ok.cab, ok.hd, ok.frames, ok.stk, ok.exf, ok.bs, ok.bsz, ok.noex, ok.exfs, ok.funs, ok.frf⟩
section
variable {X : Cx} {pins : List (Addr × Obj)} {σ : St} {H : Hp} {s : Shared} {E : Value → Shared → Prop}
theorem Inv.wish (I : Inv X pins σ H s) (E : Value → Shared → Prop) : Inv (X.wish E) pins σ H s := ⟨I.ok.wish E, I.os, I.bare, I.base, I.loc, I.cell, I.free, I.freeC, I.pin, I.hok, I.len⟩
theorem Inv.unwish (I : Inv (X.wish E) pins σ H s) : Inv X pins σ H s := ⟨I.ok.unwish, I.os, I.bare, I.base, I.loc, I.cell, I.free, I.freeC, I.pin, I.hok, I.len⟩
theorem SP.unwish {D : Ends} {f : Flow} {s' : Shared} (h : SP (X.wish E) pins D f s') : SP X pins D f s' := by
  cases f with
  | next => obtain ⟨σ', H', I, q⟩ := h; exact ⟨σ', H', I.unwish, q⟩
  | brk => obtain ⟨σ', H', I, q⟩ := h; exact ⟨σ', H', I.unwish, q⟩
  | cont => obtain ⟨σ', H', I, q⟩ := h; exact ⟨σ', H', I.unwish, q⟩
  | ret u => obtain ⟨v, σ', H', I, r, q⟩ := h; exact ⟨v, σ', H', I.unwish, r, q⟩
theorem PE.nox {e : Expr} {t : TE} (h : PE X.nox e t) : PE X e t := fun pins s σ H Q I hw =>
  wpAny_mono (h pins s σ H Q (I.wish _) hw) (fun _ _ ⟨v, H', I', r, q⟩ => ⟨v, H', I'.unwish, r, q⟩) fun _ _ z => False.elim z
theorem PT.nox {e : Expr} {t : TT} (h : PT X.nox e t) : PT X e t := fun pins s σ H Q I hw =>
  wpAny_mono (h pins s σ H Q (I.wish _) hw) (fun _ _ ⟨H', I', q⟩ => ⟨H', I'.unwish, q⟩) fun _ _ z => False.elim z
theorem PSs.nox {st : List Stmt} {t : TS} (h : PSs X.nox st t) : PSs X st t := fun pins s σ H D I hw =>
  wpAny_mono (h pins s σ H D (I.wish _) hw) (fun _ _ q => q.unwish) fun _ _ z => False.elim z
end

/-! ### blocks and small statements -/
section
variable {X : Cx} {st : Stmt} {rest : List Stmt} {t u : TS} {e : Expr} {te : TE} {pos : Pos}
def tNext : TS := fun D σ H => D.nx σ H
def tSeq (t u : TS) : TS := fun D σ H => t { D with nx := u D } σ H
theorem pss_nil : PSs X [] tNext := fun _ _ σ H _ I h => wpAny_execs_nil ⟨σ, H, I, h⟩
theorem pss_cons (h1 : PS X st t) (h2 : PSs X rest u) : PSs X (st :: rest) (tSeq t u) := by
  intro pins s σ H D I h
  refine wpAny_execs_cons (thn (h1 pins s σ H { D with nx := u D } I h) fun f s1 q => ?_)
  cases f with
  | next =>
    obtain ⟨σ', H', I', q⟩ := q
    exact h2 pins s1 σ' H' D I' q
  | ret v => exact q
  | brk => exact q
  | cont => exact q
theorem pss_one (h1 : PS X st t) : PSs X [st] t := by
  intro pins s σ H D I h
  refine wpAny_execs_cons (thn (h1 pins s σ H D I h) fun f s1 q => ?_)
  cases f with
  | next => exact wpAny_execs_nil q
  | ret v => exact q
  | brk => exact q
  | cont => exact q
def tBreak : TS := fun D σ H => D.bk σ H
def tCont : TS := fun D σ H => D.ct σ H
theorem ps_pass : PS X (.Pass pos) tNext := fun _ _ σ H _ I h => wpAny_Pass ⟨σ, H, I, h⟩
theorem ps_break : PS X (.Break pos) tBreak := fun _ _ σ H _ I h => wpAny_Break ⟨σ, H, I, h⟩
theorem ps_continue : PS X (.Continue pos) tCont := fun _ _ σ H _ I h => wpAny_Continue ⟨σ, H, I, h⟩
/-- in a def's body nothing is shown -/
theorem Inv.quiet {pins : List (Addr × Obj)} {σ : St} {H : Hp} {s : Shared} (I : Inv X pins σ H s) : interactive X.env = false := by simp [interactive, I.ok.kind]
/-- a docstring -/
theorem ps_doc {x j pos pos'} : PS X (.Expr (.Constant (.str x) j pos) pos') tNext := fun _ s σ H _ I h => wpAny_Expr (Calls.Constant_str (show SP X _ _ .next { s with toks := s.toks + 1 } from ⟨σ, H, I.tok _, h⟩)) I.quiet
/-- an expression whose value is dropped -/
def tDrop (te : TE) : TS := fun D σ H => te σ H fun _ H1 => D.nx σ H1
theorem ps_expr (he : PE X e te) (hs : swapsWith e none pos.line X.env = pure false := by rfl) : PS X (.Expr e pos) (tDrop te) := by
  intro pins s σ H D I h
  exact wpAny_Expr_any (thn (he pins s σ H _ I h) fun v s1 ⟨x, H1, I1, r1, q1⟩ => ⟨σ, H1, I1, q1⟩) I.quiet hs
def tRet (te : TE) : TS := fun D σ H => te σ H D.rt
theorem ps_ret (he : PE X e te) : PS X (.Return (some e) pos) (tRet te) := by
  intro pins s σ H D I h
  exact wpAny_Return_some (thn (he pins s σ H _ I h) fun v s1 ⟨x, H1, I1, r1, q1⟩ => ⟨x, σ, H1, I1, r1, q1⟩)
def tRetN : TS := fun D _ H => D.rt .non H
theorem ps_retN : PS X (.Return none pos) tRetN := fun _ _ σ H _ I h => wpAny_Return_none ⟨.non, σ, H, I, rfl, h⟩
def tIfS (c : TT) (t u : TS) : TS := fun D σ H => c σ H fun b H1 => if b = true then t D σ H1 else u D σ H1
theorem ps_if {c : Expr} {a b : List Stmt} {tc : TT} (hc : PT X c tc) (ha : PSs X a t) (hb : PSs X b u) : PS X (.If c a b pos) (tIfS tc t u) := by
  intro pins s σ H D I h
  refine wpAny_If (thn (hc pins s σ H _ I h) fun d s1 ⟨H1, I1, q1⟩ => ?_)
  cases d with
  | true => exact ha pins s1 σ H1 D I1 q1
  | false => exact hb pins s1 σ H1 D I1 q1
/-- code that the proof never comes to -/
def tNever : TS := fun _ _ _ => False
theorem ps_never : PS X st tNever := fun _ _ _ _ _ _ h => h.elim
theorem pss_never {sts : List Stmt} : PSs X sts tNever := fun _ _ _ _ _ _ h => h.elim
end

/-! ### targets -/
abbrev TG := V → St → Hp → (St → Hp → Prop) → Prop
abbrev TGs := List V → St → Hp → (St → Hp → Prop) → Prop
def PG (X : Cx) (target : Expr) (t : TG) : Prop :=
  ∀ (pins : List (Addr × Obj)) (s : Shared) (σ : St) (H : Hp) (v : V) (u : Value) (Q : St → Hp → Prop), Inv X pins σ H s → RelV v u → t v σ H Q →
    wpAny (model X.prog X.w) X.A (assign target X.env u) (fun _ s' => ∃ σ' H', Inv X pins σ' H' s' ∧ Q σ' H') X.xe s
/-- several targets, one after another -/
def PGs (X : Cx) (ts : List Expr) (t : TGs) : Prop :=
  ∀ (pins : List (Addr × Obj)) (s : Shared) (σ : St) (H : Hp) (vs : List V) (us : List Value) (Q : St → Hp → Prop), Inv X pins σ H s → Vals vs us → t vs σ H Q →
    wpAny (model X.prog X.w) X.A (assignInOrder ((assignEach ts X.env).map (·.2)) us) (fun _ s' => ∃ σ' H', Inv X pins σ' H' s' ∧ Q σ' H') X.xe s
/-- o[i] = v, by values -/
abbrev TSet := V → V → V → Hp → (Hp → Prop) → Prop
def PSet (X : Cx) (t : TSet) : Prop :=
  ∀ (pins : List (Addr × Obj)) (s : Shared) (σ : St) (H : Hp) (o i v : V) (ov iv u : Value) (Q : Hp → Prop), Inv X pins σ H s → RelV o ov → RelV i iv → RelV v u → t o i v H Q →
    wpAny (model X.prog X.w) X.A (setItem ov iv u) (fun _ s' => ∃ H', Inv X pins σ H' s' ∧ Q H') X.xe s
/-- a op= b, by values -/
abbrev TIp := V → V → Hp → VK → Prop
def PIp (X : Cx) (op : Operator) (t : TIp) : Prop :=
  ∀ (pins : List (Addr × Obj)) (s : Shared) (σ : St) (H : Hp) (x y : V) (v u : Value) (Q : VK), Inv X pins σ H s → RelV x v → RelV y u → t x y H Q →
    wpAny (model X.prog X.w) X.A (inplaceOp op v u) (EP X pins σ Q) X.xe s
section
variable {X : Cx} {pos : Pos}
def gName (i : Nat) : TG := fun v σ H Q => Q (σ.set i (some v)) H
theorem pg_name {i : Nat} {x : Str} (hN : X.N.Nodup) (hi : X.N[i]? = some x) (hx : Loc X.env.scope x) (hf : X.fn x = true ∨ X.env.scope.names.lookup x = some .local := by first | exact .inl rfl | exact .inr rfl | assumption) : PG X (.Name x pos) (gName i) := by
  intro pins s σ H v u Q I r h
  exact wpAny_assign_Name (store_ok I hN hi hx r (fun s' I' => ⟨_, H, I', h⟩) hf)
def gNil : TGs := fun vs σ H Q => vs = [] ∧ Q σ H
def gCons (t : TG) (u : TGs) : TGs := fun vs σ H Q => ∃ v r, vs = v :: r ∧ t v σ H fun σ' H' => u r σ' H' Q
theorem pgs_nil : PGs X [] gNil := by
  intro pins s σ H vs us Q I r h
  obtain ⟨e, h⟩ := h
  subst e
  cases r
  exact assignInOrder_nil ⟨σ, H, I, h⟩
theorem pgs_cons {e : Expr} {es : List Expr} {t : TG} {u : TGs} (h1 : PG X e t) (h2 : PGs X es u)
    (hs : (assignEach (e :: es) X.env).map (·.2) = assign e X.env :: (assignEach es X.env).map (·.2) := by rfl) : PGs X (e :: es) (gCons t u) := by
  intro pins s σ H vs us Q I r h
  obtain ⟨v, vr, e1, h⟩ := h
  subst e1
  cases r with
  | cons r rr =>
    rw [hs]
    refine assignInOrder_cons (thn (h1 pins s σ H _ _ _ I r h) fun _ s1 ⟨σ1, H1, I1, q1⟩ => ?_)
    exact h2 pins s1 σ1 H1 _ _ Q I1 rr q1
/-- (a, b, ..) = a tuple of that length -/
def gTup (K : PySem.W.Frag) (n : Nat) (t : TGs) : TG := fun v σ H Q => ∃ a xs, v = .ref a ∧ SqT K H a xs ∧ xs.length = n ∧ t xs σ H Q
theorem pg_tup {es : List Expr} {k : Nat} {t : TGs} {n : Nat} (hc : X.calm = true) (h : PGs X es t)
    (hn : (assignEach es X.env).length = n := by rfl) (hst : (assignEach es X.env).findIdx? (·.1) = none := by rfl) : PG X (.Tuple es k pos) (gTup X.K n t) := by
  intro pins s σ H v u Q I r hw
  obtain ⟨a, xs, e1, hq, hl, hw⟩ := hw
  subst e1
  cases r
  obtain ⟨its, rv, ht, hz⟩ := I.tuple hq
  refine assign_Tuple_tuple (I.ok.hd hc) ht (by simp [hn, ← hl, rv.length]) hst fun h' hx => ?_
  have I1 : Inv X pins σ H { s with heap := h' } := I.kept (t' := s.toks) fun b o e => hx b o (Nat.ne_of_lt (Heap.lt_size e)) e
  exact h pins _ σ H xs _ Q I1 (by simpa using rv) hw
/-- o[i] = .. -/
def gSub (to ti : TE) (t : TSet) : TG := fun v σ H Q => to σ H fun o H1 => ti σ H1 fun i H2 => t o i v H2 fun H3 => Q σ H3
theorem pg_sub {o i : Expr} {to ti : TE} {t : TSet} (ho : PE X o to) (hi : PE X i ti) (hs : PSet X t)
    (ha : ∀ v, assign (.Subscript o i pos) X.env v = (do
      let ov ← holding [v] (eval o X.env)
      let iv ← holding [v, ov] (eval i X.env)
      standAt pos
      holding [v, ov, iv] (setItem ov iv v)
      release [v, ov, iv] []) := by intro _; rfl) : PG X (.Subscript o i pos) (gSub to ti t) := by
  intro pins s σ H v u Q I r h
  rw [ha]
  refine wpAny_bind (wpAny_holding (thn (ho pins s σ H _ I h) fun ov s1 ⟨x, H1, I1, r1, q1⟩ => ?_))
  refine wpAny_bind (wpAny_holding (thn (hi pins s1 σ H1 _ I1 q1) fun iv s2 ⟨y, H2, I2, r2, q2⟩ => ?_))
  refine wpAny_bind (wpAny_standAt (wpAny_bind (wpAny_holding (thn (hs pins s2 σ H2 x y v ov iv u _ I2 r1 r2 r q2) fun _ s3 ⟨H3, I3, q3⟩ => ?_))))
  exact wpAny_release ⟨σ, H3, I3, q3⟩
/-- target = value -/
def tAsg (te : TE) (g : TG) : TS := fun D σ H => te σ H fun x H1 => g x σ H1 D.nx
theorem ps_asg {tg e : Expr} {te : TE} {g : TG} (he : PE X e te) (hg : PG X tg g) (hs : swapsWithSole [tg] e pos.line X.env = pure false := by rfl) (hw : swappedStores [tg] e X.env = pure none := by rfl)
    (h1 : (assignEach [tg] X.env).map (·.2) = [assign tg X.env] := by rfl) : PS X (.Assign [tg] e pos) (tAsg te g) := by
  intro pins s σ H D I h
  refine wpAny_Assign_stores (thn (he pins s σ H _ I h) fun v s1 ⟨x, H1, I1, r1, q1⟩ => ?_) hs hw
  rw [h1]
  exact thn (hg pins s1 σ H1 x v _ I1 r1 q1) fun _ s2 q => q
/-- name = value -/
theorem ps_set {i : Nat} {x : Str} {e : Expr} {te : TE} {pos' : Pos} (hN : X.N.Nodup) (hi : X.N[i]? = some x) (hx : Loc X.env.scope x) (he : PE X e te) (hs : swapsWith e (some (.Name x pos')) pos.line X.env = pure false := by rfl) (hf : X.fn x = true ∨ X.env.scope.names.lookup x = some .local := by first | exact .inl rfl | exact .inr rfl | assumption) :
    PS X (.Assign [.Name x pos'] e pos) (tAsg te (gName i)) := by
  intro pins s σ H D I h
  refine wpAny_Assign_Name (thn (he pins s σ H _ I h) fun v s1 ⟨y, H1, I1, r1, q1⟩ => ?_) hs
  exact store_ok I1 hN hi hx r1 (fun s2 I2 => ⟨_, H1, I2, q1⟩) hf
/-- a, b = x, y with plain local names: stored from the right; the pair itself is not tracked (the opening rows as in PyProof/Rows/TupAssign.lean:23) -/
def tPar (i j : Nat) (ta : TA) : TS := fun D σ H => ta σ H fun vs H1 => ∃ v w, vs = [v, w] ∧ D.nx ((σ.set i (some v)).set j (some w)) H1
theorem ps_par {i j : Nat} {x y : Str} {a b : Expr} {ta : TA} {px py pt : Pos} {kt k2 pt2} (hc : X.calm = true) (hN : X.N.Nodup) (hi : X.N[i]? = some x) (hj : X.N[j]? = some y) (hij : i ≠ j)
    (hx : X.env.scope.names.lookup x = some .local) (hy : X.env.scope.names.lookup y = some .local) (ha : PA X [a, b] ta)
    (hw : swappedStores [.Tuple [.Name x px, .Name y py] kt pt] (.Tuple [a, b] k2 pt2) X.env = pure (some [x, y]))
    (hs : swapsWithSole [.Tuple [.Name x px, .Name y py] kt pt] (.Tuple [a, b] k2 pt2) pos.line X.env = pure false := by rfl) :
    PS X (.Assign [.Tuple [.Name x px, .Name y py] kt pt] (.Tuple [a, b] k2 pt2) pos) (tPar i j ta) := by
  intro pins s σ H D I h
  rw [exec_Assign_arm]
  refine wpAny_bind (wpAny_standAt ?_)
  rw [hs]
  refine wpAny_bind (wpAny_pure ?_)
  rw [if_neg (by decide)]
  refine wpAny_bind (Tuple_ (thn (ha _ pins s σ H _ I h) fun us s1 ⟨vs, H1, I1, r1, q1⟩ => ?_))
  obtain ⟨v, w, e1, q1⟩ := q1
  subst e1
  obtain ⟨u1, u2, rfl, rv, rw'⟩ : ∃ u1 u2, us = [u1, u2] ∧ RelV v u1 ∧ RelV w u2 := by
    cases r1 with
    | cons p q =>
      cases q with
      | cons p' q' =>
        cases q'
        exact ⟨_, _, rfl, p, p'⟩
  refine wpAny_newObj_type ?_ (by show 2 ≤ sizeLine; decide)
  have I2 : Inv X pins σ H1 { s1 with heap := s1.heap.push { cls := .type "tuple", data := .seq [u1, u2].toArray } } := I1.kept (t' := s1.toks) fun b o e => Heap.get?_push_of_some _ e
  rw [hw]
  refine wpAny_bind (wpAny_pure ?_)
  show wpAny (model X.prog X.w) X.A (do rule "assign.swapped-stores"; let items ← unpackItems (.ref s1.heap.objs.size) 2 none; assignInOrder [fun v => bindName X.env y v, fun v => bindName X.env x v] items.reverse; pure Flow.next) _ _ _
  refine wpAny_bind (wpAny_rule (wpAny_bind (unpackItems_tuple (items := #[u1, u2]) (I.ok.hd hc) (IsTup.new s1.heap _) fun h' hx' => ?_)))
  have I3 := I2.kept (h' := h') (t' := s1.toks) fun b o e => hx' b o (Nat.ne_of_lt (Heap.lt_size e)) e
  show wpAny _ _ (assignInOrder [fun v => bindName X.env y v, fun v => bindName X.env x v] [u2, u1] >>= fun _ => pure Flow.next) _ _ _
  refine wpAny_bind (assignInOrder_cons (wpAny_bindName (store_ok I3 hN hj (.inl hy) rw' (fun s2 I4 => ?_) (.inr hy))))
  refine assignInOrder_cons (wpAny_bindName (store_ok I4 hN hi (.inl hx) rv (fun s3 I5 => assignInOrder_nil (wpAny_pure ?_)) (.inr hx)))
  rw [List.set_comm _ _ (Ne.symm hij)] at I5
  exact ⟨_, H1, I5, q1⟩
/-- name op= e -/
def tAug (i : Nat) (te : TE) (ti : TIp) : TS := fun D σ H => ∃ x, σ[i]? = some (some x) ∧ te σ H fun y H1 => ti x y H1 fun z H2 => D.nx (σ.set i (some z)) H2
theorem ps_aug {i : Nat} {x : Str} {e : Expr} {te : TE} {op : Operator} {ti : TIp} {pos' : Pos} (hN : X.N.Nodup) (hi : X.N[i]? = some x) (hx : Loc X.env.scope x) (he : PE X e te) (ho : PIp X op ti) (hf : X.fn x = true ∨ X.env.scope.names.lookup x = some .local := by first | exact .inl rfl | exact .inr rfl | assumption) :
    PS X (.AugAssign (.Name x pos') op e pos) (tAug i te ti) := by
  intro pins s σ H D I h
  obtain ⟨v, e1, h⟩ := h
  obtain ⟨m, hn, hl⟩ := I.loc
  have vis : Vis X.env.scope x := by rcases hx with k | k; exact .inl k; exact .inr (.inl k)
  obtain ⟨u, r, l⟩ := hl i x v hi e1 vis
  refine wpAny_AugAssign_Name ?_
  have go : wpAny (model X.prog X.w) X.A (eval e X.env) (fun w s₂ => wpAny (model X.prog X.w) X.A (inplaceOp op u w) (fun r s₃ => wpAny (model X.prog X.w) X.A (storeName X.env x r) (fun _ => SP X pins D .next) X.xe s₃) X.xe s₂) X.xe s := by
    refine thn (he pins s σ H _ I h) fun w s1 ⟨y, H1, I1, r1, q1⟩ => ?_
    refine thn (ho pins s1 σ H1 v y u w _ I1 r r1 q1) fun z s2 ⟨zv, H2, I2, r2, q2⟩ => ?_
    exact store_ok I2 hN hi hx r2 (fun s3 I3 => ⟨_, H2, I3, q2⟩) hf
  rcases l with ⟨hk, hm⟩ | ⟨hk, c, hc, hcell⟩
  · exact wpAny_loadName_local I.ok.kind hk hn hm go
  · rcases hk with hk | hk
    · exact wpAny_loadName_cell I.ok.kind hk hc hcell go
    · rcases hx with k | k
      · have : X.env.scope.names.lookup x = some .free := hk
        rw [k] at this; cases this
      · have : X.env.scope.names.lookup x = some .free := hk
        rw [k] at this; cases this
/-- o[i] op= e -/
def tAugS (to ti te : TE) (tget : V → V → Hp → VK → Prop) (tip : TIp) (tset : TSet) : TS := fun D σ H => to σ H fun o H1 => ti σ H1 fun i H2 => tget o i H2 fun x H3 => te σ H3 fun y H4 => tip x y H4 fun z H5 => tset o i z H5 fun H6 => D.nx σ H6
/-- o[i], by values -/
def PGet (X : Cx) (t : V → V → Hp → VK → Prop) : Prop :=
  ∀ (pins : List (Addr × Obj)) (s : Shared) (σ : St) (H : Hp) (o i : V) (ov iv : Value) (Q : VK), Inv X pins σ H s → RelV o ov → RelV i iv → t o i H Q →
    wpAny (model X.prog X.w) X.A (getItem ov iv) (EP X pins σ Q) X.xe s
theorem ps_augS {o i e : Expr} {to ti te : TE} {tget : V → V → Hp → VK → Prop} {tip : TIp} {tset : TSet} {op : Operator} {tpos : Pos} (ho : PE X o to) (hi : PE X i ti) (hg : PGet X tget) (he : PE X e te) (hp : PIp X op tip) (hs : PSet X tset)
    (ha : ∀ ov iv new, augStore i ov iv new = (do holding [new, ov, iv] (setItem ov iv new); release [new, ov, iv] []; pure .next) := by intros; rfl) : PS X (.AugAssign (.Subscript o i tpos) op e pos) (tAugS to ti te tget tip tset) := by
  intro pins s σ H D I h
  refine wpAny_AugAssign_SubscriptAny (thn (ho pins s σ H _ I h) fun ov s1 ⟨x1, H1, I1, r1, q1⟩ => ?_) ha
  refine thn (hi pins s1 σ H1 _ I1 q1) fun iv s2 ⟨x2, H2, I2, r2, q2⟩ => ?_
  refine thn (hg pins s2 σ H2 x1 x2 ov iv _ I2 r1 r2 q2) fun old s3 ⟨x3, H3, I3, r3, q3⟩ => ?_
  refine thn (he pins s3 σ H3 _ I3 q3) fun v s4 ⟨x4, H4, I4, r4, q4⟩ => ?_
  refine thn (hp pins s4 σ H4 x3 x4 old v _ I4 r3 r4 q4) fun new s5 ⟨x5, H5, I5, r5, q5⟩ => ?_
  exact thn (hs pins s5 σ H5 x1 x2 x5 ov iv new _ I5 r1 r2 r5 q5) fun _ s6 ⟨H6, I6, q6⟩ => ⟨σ, H6, I6, q6⟩
/-- ints -/
def ipI (f : Int → Int → Int) : TIp := fun x y H Q => ∃ i j, x = .int i ∧ y = .int j ∧ Q (.int (f i j)) H
theorem ip_add : PIp X .Add (ipI fun i j => i + j) := by
  intro pins s σ H x y v u Q I r1 r2 h
  obtain ⟨i, j, e1, e2, q⟩ := h
  subst e1; subst e2
  obtain ⟨t, rfl⟩ := r1
  obtain ⟨t', rfl⟩ := r2
  exact iadd_int ⟨.int _, H, I.tok _, ⟨_, rfl⟩, q⟩
theorem ip_sub : PIp X .Sub (ipI fun i j => i - j) := by
  intro pins s σ H x y v u Q I r1 r2 h
  obtain ⟨i, j, e1, e2, q⟩ := h
  subst e1; subst e2
  obtain ⟨t, rfl⟩ := r1
  obtain ⟨t', rfl⟩ := r2
  exact isub_int ⟨.int _, H, I.tok _, ⟨_, rfl⟩, q⟩
end

/-! ### while -/
section
variable {X : Cx} {pos : Pos}
/-- the invariant W with its measure -/
def tWhile (c : TT) (tb : TS) : TS := fun D σ H => ∃ W : Nat → St → Hp → Prop, (∃ m, W m σ H) ∧ ∀ m σ H, W m σ H →
  c σ H fun b H1 => if b = true then ∃ N : St → Hp → Prop, (∀ σ' H', N σ' H' → ∃ m', m' < m ∧ W m' σ' H') ∧ tb { D with nx := N, ct := N, bk := D.nx } σ H1 else D.nx σ H1
theorem ps_while {c : Expr} {body : List Stmt} {tc : TT} {tb : TS} (hp : PassesOwn (model X.prog X.w) X.A X.env X.xe) (hc : PT X c tc) (hb : PSs X body tb) : PS X (.While c body [] pos) (tWhile tc tb) := by
  intro pins s σ H D I h
  obtain ⟨W, ⟨m0, w0⟩, turn⟩ := h
  refine wpAny_While (codeAny_whileLoop (fun n s' => ∃ σ' H', Inv X pins σ' H' s' ∧ W n σ' H') ?_ m0 ⟨σ, H, I, w0⟩)
  rintro n s1 ⟨σ1, H1, I1, w1⟩
  refine wpAny_passesOwn hp (thn (hc pins s1 σ1 H1 _ I1 (turn n σ1 H1 w1)) fun b s2 ⟨H2, I2, q2⟩ => ?_)
  cases b with
  | true =>
    obtain ⟨N, hN, q2⟩ := q2
    rw [if_pos rfl]
    refine wpAny_passesOwn hp (thn (hb pins s2 σ1 H2 _ I2 q2) fun f s3 q3 => ?_)
    cases f with
    | next =>
      obtain ⟨σ3, H3, I3, n3⟩ := q3
      obtain ⟨m', hm, w3⟩ := hN σ3 H3 n3
      exact ⟨m', hm, σ3, H3, I3, w3⟩
    | cont =>
      obtain ⟨σ3, H3, I3, n3⟩ := q3
      obtain ⟨m', hm, w3⟩ := hN σ3 H3 n3
      exact ⟨m', hm, σ3, H3, I3, w3⟩
    | brk => exact q3
    | ret v => exact q3
  | false =>
    rw [if_neg Bool.false_ne_true]
    exact wpAny_execs_nil ⟨σ1, H2, I2, q2⟩
end

/-! ### what a loop or a comprehension walks -/
/-- at turn i: it yields x (the heap may grow), or it stops -/
structure It where
  go : Nat → Hp → Prop
  yld : Nat → Hp → V → Hp → Prop
  stop : Nat → Hp → Prop
/-- the iterator's own objects may turn: they are not the frame's, not pinned, younger than the entry (or a comprehension's own) -/
def FpOk (X : Cx) (pins : List (Addr × Obj)) (H : Hp) (b : Addr) : Prop :=
  H b = none ∧ b ≠ X.env.locals ∧ b ∉ X.fs ∧ (b ∈ X.ex ∨ X.s₀.heap.objs.size ≤ b) ∧ (∀ x c, X.env.cells.lookup x = some c → c ≠ b) ∧ ∀ p ∈ X.pn ++ pins, p.1 ≠ b
theorem Inv.fpOk {X : Cx} {pins : List (Addr × Obj)} {σ : St} {H H' : Hp} {s : Shared} {b : Addr} (I : Inv X pins σ H s) (hb : s.heap.objs.size ≤ b) (hn : H' b = none) : FpOk X pins H' b := by
  refine ⟨hn, Nat.ne_of_gt (Nat.lt_of_lt_of_le I.lt hb), I.nofs hb, .inr (Nat.le_trans I.sz hb), fun x c e z => ?_, fun p hp z => ?_⟩
  · obtain ⟨v, q⟩ := I.cell x c e
    exact absurd (Nat.lt_of_lt_of_le q.lt (by rw [z]; exact hb)) (Nat.lt_irrefl _)
  · exact absurd (Nat.lt_of_lt_of_le (Heap.lt_size (I.pin p hp).1) (by rw [z]; exact hb)) (Nat.lt_irrefl _)
structure Turn (P : Program) (w : World) (K : PySem.W.Frag) (tg : Expr) (J : It) (fp : List Addr) (it : Addr) (tn : Nat → Heap → Prop) : Prop where
  mem : it ∈ fp
  obj : ∀ i h, tn i h → ∀ b ∈ fp, ∃ o, h.get? b = some o ∧ ∀ v, o.data ≠ .cell v
  keep : ∀ i h h', tn i h → (∀ b ∈ fp, ∀ o, h.get? b = some o → h'.get? b = some o) → tn i h'
  item : ∀ (X : Cx), X.prog = P → X.w = w → X.K = K → X.calm = true → ∀ (i : Nat) (pins : List (Addr × Obj)) (s : Shared) (σ : St) (H : Hp) (E : Value → Shared → Prop), Inv X pins σ H s → (∀ b ∈ fp, FpOk X pins H b) → tn i s.heap → J.go i H →
    wpAny (model P w) X.A (pyNext (.ref it)) (fun r s1 => ∃ u, r = some u ∧
      wpAny (model P w) X.A (letOwnedTupleGo tg (.ref it) u) (fun _ s2 => ∃ x H', Inv X pins σ H' s2 ∧ RelV x u ∧ J.yld i H x H' ∧ tn (i + 1) s2.heap ∧ ∀ b ∈ fp, H' b = none) E s1) E s
  done : ∀ (X : Cx), X.prog = P → X.w = w → X.K = K → X.calm = true → ∀ (i : Nat) (pins : List (Addr × Obj)) (s : Shared) (σ : St) (H : Hp) (E : Value → Shared → Prop), Inv X pins σ H s → (∀ b ∈ fp, FpOk X pins H b) → tn i s.heap → J.stop i H →
    wpAny (model P w) X.A (pyNext (.ref it)) (fun r s1 => r = none ∧ Inv X pins σ H s1) E s
  self : ∀ (A : Around) (i : Nat) (s : Shared) (Q : Value → Shared → Prop) (E : Value → Shared → Prop), tn i s.heap → Q (.ref it) s → wpAny (model P w) A (pyIter (.ref it)) Q E s
abbrev TI := St → Hp → (It → Hp → Prop) → Prop
/-- an iterator has come -/
def PIE (X : Cx) (pins : List (Addr × Obj)) (σ : St) (tg : Expr) (R : It → Hp → Prop) (itv : Value) (s2 : Shared) : Prop :=
  ∃ (it : Addr) (fp : List Addr) (tn : Nat → Heap → Prop) (J : It) (H' : Hp), itv = .ref it ∧ Inv X pins σ H' s2 ∧ Turn X.prog X.w X.K tg J fp it tn ∧ tn 0 s2.heap ∧ (∀ b ∈ fp, FpOk X pins H' b) ∧ R J H'
def PI (X : Cx) (tg iter : Expr) (wi : TI) : Prop :=
  ∀ (pins : List (Addr × Obj)) (s : Shared) (σ : St) (H : Hp) (R : It → Hp → Prop), Inv X pins σ H s → wi σ H R →
    wpAny (model X.prog X.w) X.A (eval iter X.env) (fun v s1 => wpAny (model X.prog X.w) X.A (pyIter v) (PIE X pins σ tg R) X.xe s1) X.xe s

/-- the step ahead of the store is nothing for an iterator that keeps no tuple -/
theorem go_of {M : Model} {A : Around} {E : Value → Shared → Prop} {s : Shared} {tg : Expr} {it : Addr} {u : Value} {o : Obj} {n : String} {vs : Array Value} {Q : Unit → Shared → Prop} (ho : s.heap.get? it = some o) (hc : o.cls = .type n) (hd : o.data = .fields vs)
    (hn : ["enumerate", "zip", "dict_itemiterator", "dict_reverseitemiterator", "odict_iterator", "itertools.zip_longest", "itertools.pairwise"].contains n = false) (hQ : Q () s) : wpAny M A (letOwnedTupleGo tg (.ref it) u) Q E s := by
  unfold letOwnedTupleGo
  cases tg <;> first
    | exact wpAny_pure hQ
    | (cases u <;> first
        | exact wpAny_pure hQ
        | (refine wpAny_bind (wpAny_load ho ?_)
           rw [hc, hd]
           show wpAny M A (if (["enumerate", "zip", "dict_itemiterator", "dict_reverseitemiterator", "odict_iterator", "itertools.zip_longest", "itertools.pairwise"].contains n && vs[0]? == some (rawInt _)) = true then _ else _) Q E s
           rw [if_neg (by intro h; rw [hn, Bool.false_and] at h; cases h)]
           exact wpAny_pure hQ))

/-- the list at a, as it stands at each turn (a loop may append to it) -/
def Itl (K : PySem.W.Frag) (a : Addr) : It :=
  ⟨fun i H => ∃ xs x, SqL K H a xs ∧ xs[i]? = some x, fun i H x H' => H' = H ∧ ∀ xs, SqL K H a xs → xs[i]? = some x, fun i H => ∃ xs, SqL K H a xs ∧ xs.length ≤ i⟩
def Itt (K : PySem.W.Frag) (a : Addr) : It :=
  ⟨fun i H => ∃ xs x, SqT K H a xs ∧ xs[i]? = some x, fun i H x H' => H' = H ∧ ∀ xs, SqT K H a xs → xs[i]? = some x, fun i H => ∃ xs, SqT K H a xs ∧ xs.length ≤ i⟩
/-- lo, lo + 1, .. (n of them) -/
def Itr (lo : Int) (n : Nat) : It := ⟨fun i _ => i < n, fun i H x H' => H' = H ∧ x = .int (lo + i), fun i _ => n ≤ i⟩
theorem turn_list {P : Program} {w : World} {K : PySem.W.Frag} {tg : Expr} (a it : Addr) : Turn P w K tg (Itl K a) [it] it (fun i h => h.IsListIter it a i) where
  mem := by simp
  obj := fun i h st b hb => by
    have e : b = it := by simpa using hb
    subst e
    obtain ⟨o, e, c, d⟩ := st
    exact ⟨o, e, fun v z => by rw [d] at z; cases z⟩
  keep := fun i h h' st k => st.at fun o e => k it (by simp) o e
  item := by
    intro X hP hw hK hc i pins s σ H E I hf st hg
    subst hP hw hK
    obtain ⟨xs, x, hq, hx⟩ := hg
    obtain ⟨its, rv, p, hz⟩ := I.list hq
    obtain ⟨u, hu, ru⟩ := rv.get hx
    obtain ⟨f0, f1, f2, f3, f4, f5⟩ := hf it (by simp)
    refine wpAny_pyNext_list_item st p.isList (x := u) (by simpa using hu) fun h' st' sb => ?_
    have I1 : Inv X pins σ H { s with heap := h' } := I.turned (t' := s.toks) (fun b o hb e => (sb.2 b hb).trans e) f0 f1 f3 f4 f5
    obtain ⟨o, e, c, d⟩ := id st'
    exact ⟨u, rfl, go_of (s := { s with heap := h' }) e c d (by decide) ⟨x, H, I1, ru, ⟨rfl, fun ys hy => by rw [I.list_inj hy hq]; exact hx⟩, st', fun b hb => (hf b hb).1⟩⟩
  done := by
    intro X hP hw hK hc i pins s σ H E I hf st hg
    subst hP hw hK
    obtain ⟨xs, hq, hx⟩ := hg
    obtain ⟨its, rv, p, hz⟩ := I.list hq
    obtain ⟨f0, f1, f2, f3, f4, f5⟩ := hf it (by simp)
    have hl := rv.length
    exact wpAny_pyNext_list_end (I.ok.hd hc) st p.isList (by simp; omega) fun h' eb => ⟨rfl, I.turned (t' := s.toks) (fun b o hb e => eb b o hb e) f0 f1 f3 f4 f5⟩
  self := fun _ _ _ _ _ st h => wpAny_pyIter_listiter st h
theorem turn_tuple {P : Program} {w : World} {K : PySem.W.Frag} {tg : Expr} (a it : Addr) : Turn P w K tg (Itt K a) [it] it (fun i h => h.IsTupleIter it a i) where
  mem := by simp
  obj := fun i h st b hb => by
    have e : b = it := by simpa using hb
    subst e
    obtain ⟨o, e, c, d⟩ := st
    exact ⟨o, e, fun v z => by rw [d] at z; cases z⟩
  keep := fun i h h' st k => st.at fun o e => k it (by simp) o e
  item := by
    intro X hP hw hK hc i pins s σ H E I hf st hg
    subst hP hw hK
    obtain ⟨xs, x, hq, hx⟩ := hg
    obtain ⟨its, rv, p, hz⟩ := I.tuple hq
    obtain ⟨u, hu, ru⟩ := rv.get hx
    obtain ⟨f0, f1, f2, f3, f4, f5⟩ := hf it (by simp)
    refine wpAny_pyNext_tuple_item st (show s.heap.IsTuple a its.toArray from p) (x := u) (by simpa using hu) fun h' st' sb => ?_
    have I1 : Inv X pins σ H { s with heap := h' } := I.turned (t' := s.toks) (fun b o hb e => (sb.2 b hb).trans e) f0 f1 f3 f4 f5
    obtain ⟨o, e, c, d⟩ := id st'
    exact ⟨u, rfl, go_of (s := { s with heap := h' }) e c d (by decide) ⟨x, H, I1, ru, ⟨rfl, fun ys hy => by rw [I.tuple_inj hy hq]; exact hx⟩, st', fun b hb => (hf b hb).1⟩⟩
  done := by
    intro X hP hw hK hc i pins s σ H E I hf st hg
    subst hP hw hK
    obtain ⟨xs, hq, hx⟩ := hg
    obtain ⟨its, rv, p, hz⟩ := I.tuple hq
    obtain ⟨f0, f1, f2, f3, f4, f5⟩ := hf it (by simp)
    have hl := rv.length
    exact wpAny_pyNext_tuple_end (I.ok.hd hc) st (show s.heap.IsTuple a its.toArray from p) (by simp; omega) fun h' eb => ⟨rfl, I.turned (t' := s.toks) (fun b o hb e => eb b o hb e) f0 f1 f3 f4 f5⟩
  self := fun _ _ _ _ _ st h => wpAny_pyIter_tupleiter st h
theorem turn_range {P : Program} {w : World} {K : PySem.W.Frag} {tg : Expr} (it : Addr) (lo : Int) (n : Nat) : Turn P w K tg (Itr lo n) [it] it (fun i h => IsRangeIter h it (lo + (i : Nat) * 1) ((n : Int) - (i : Nat)) 1) where
  mem := by simp
  obj := fun i h st b hb => by
    have e : b = it := by simpa using hb
    subst e
    exact ⟨_, st, fun v z => by
      have z' : Data.fields _ = Data.cell v := z
      cases z'⟩
  keep := fun i h h' st k => k it (by simp) _ st
  item := by
    intro X hP hw hK hc i pins s σ H E I hf st hg
    subst hP hw hK
    obtain ⟨f0, f1, f2, f3, f4, f5⟩ := hf it (by simp)
    have W := Walks.range (prog := X.prog) (w := X.w) (I.ok.hd hc) it lo 1 n
    refine W.item i s _ _ hg st fun v h' tk hv st' kk => ?_
    obtain ⟨t, rfl⟩ := hv
    have I1 : Inv X pins σ H { s with heap := h', toks := tk } := I.turned (fun b o hb e => kk b o (by simpa using hb) e) f0 f1 f3 f4 f5
    refine ⟨_, rfl, go_of (s := { s with heap := h', toks := tk }) (n := "range_iterator") st' rfl rfl (by decide) ⟨.int (lo + i), H, I1, ⟨t, ?_⟩, ⟨rfl, rfl⟩, st', fun b hb => (hf b hb).1⟩⟩
    rw [Int.mul_one]
  done := by
    intro X hP hw hK hc i pins s σ H E I hf st hg
    subst hP hw hK
    obtain ⟨f0, f1, f2, f3, f4, f5⟩ := hf it (by simp)
    exact wpAny_pyNext_range_end (I.ok.hd hc) st (by have : n ≤ i := hg; omega) fun h' eb => ⟨rfl, I.turned (t' := s.toks) (fun b o hb e => eb b o hb e) f0 f1 f3 f4 f5⟩
  self := fun _ _ _ _ _ st h => wpAny_pyIter_rangeiter st h
end L2

namespace L2
open PySem PySem.Spec PyProof.Rows
section
variable {X : Cx} {tg : Expr}
def iList (K : PySem.W.Frag) (tl : TE) : TI := fun σ H R => tl σ H fun x H1 => ∃ a, x = .ref a ∧ (∃ xs, SqL K H1 a xs) ∧ R (Itl K a) H1
def iTup (K : PySem.W.Frag) (tl : TE) : TI := fun σ H R => tl σ H fun x H1 => ∃ a, x = .ref a ∧ (∃ xs, SqT K H1 a xs) ∧ R (Itt K a) H1
theorem pi_list {l : Expr} {tl : TE} (hl : PE X l tl) : PI X tg l (iList X.K tl) := by
  intro pins s σ H R I h
  refine thn (hl pins s σ H _ I h) fun v s1 ⟨x, H1, I1, r1, q1⟩ => ?_
  obtain ⟨a, e, ⟨xs, hq⟩, q⟩ := q1
  subst e
  cases r1
  obtain ⟨its, rv, p, hz⟩ := I1.list hq
  refine wpAny_pyIter_list p.isList ?_
  refine ⟨s1.heap.objs.size, [s1.heap.objs.size], _, _, H1, rfl, I1.kept (t' := s1.toks) fun b o e => Heap.get?_push_of_some _ e, turn_list a _, ⟨_, Heap.get?_push_size _ rfl, rfl, rfl⟩, fun b hb => ?_, q⟩
  have e : b = s1.heap.objs.size := by simpa using hb
  subst e
  exact I1.fpOk (Nat.le_refl _) (I1.hok.fresh (Nat.le_refl _))
theorem pi_tup {l : Expr} {tl : TE} (hl : PE X l tl) : PI X tg l (iTup X.K tl) := by
  intro pins s σ H R I h
  refine thn (hl pins s σ H _ I h) fun v s1 ⟨x, H1, I1, r1, q1⟩ => ?_
  obtain ⟨a, e, ⟨xs, hq⟩, q⟩ := q1
  subst e
  cases r1
  obtain ⟨its, rv, p, hz⟩ := I1.tuple hq
  refine wpAny_pyIter_tuple (show s1.heap.IsTuple a its.toArray from p) ?_
  refine ⟨s1.heap.objs.size, [s1.heap.objs.size], _, _, H1, rfl, I1.kept (t' := s1.toks) fun b o e => Heap.get?_push_of_some _ e, turn_tuple a _, ⟨_, Heap.get?_push_size _ rfl, rfl, rfl⟩, fun b hb => ?_, q⟩
  have e : b = s1.heap.objs.size := by simpa using hb
  subst e
  exact I1.fpOk (Nat.le_refl _) (I1.hok.fresh (Nat.le_refl _))
/-- a range object just made, walked -/
theorem range_it {pins : List (Addr × Obj)} {σ : St} {H : Hp} {s : Shared} {R : It → Hp → Prop} {E : Value → Shared → Prop} {lo hi : Int} {t u v : Tok} {tk : Nat} (I : Inv X pins σ H s) (h1 : -(2 ^ 62) ≤ lo) (h2 : lo < 2 ^ 62) (h3 : -(2 ^ 62) ≤ hi) (h4 : hi < 2 ^ 62)
    (q : R (Itr lo (hi - lo).toNat) H) : wpAny (model X.prog X.w) X.A (pyIter (.ref s.heap.objs.size)) (PIE X pins σ tg R) E { s with heap := s.heap.push { cls := .type "range", data := .fields #[.int lo t, .int hi u, .int 1 v] }, toks := tk } := by
  refine wpAny_pyIter_range (IsRange.new ..) (small_one h1 h2 h3 h4) ?_
  have I1 : Inv X pins σ H { s with heap := s.heap.push { cls := .type "range", data := .fields #[.int lo t, .int hi u, .int 1 v] }, toks := tk } := I.kept fun b o e => Heap.get?_push_of_some _ e
  refine ⟨(s.heap.push { cls := .type "range", data := .fields #[.int lo t, .int hi u, .int 1 v] }).objs.size, [(s.heap.push { cls := .type "range", data := .fields #[.int lo t, .int hi u, .int 1 v] }).objs.size], _, _, H, rfl,
    I1.kept (t' := tk) fun b o e => Heap.get?_push_of_some _ e, turn_range _ lo (hi - lo).toNat, ?_, fun b hb => ?_, q⟩
  · have e1 : lo + ((0 : Nat) : Int) * 1 = lo := by simp
    have e2 : (((hi - lo).toNat : Nat) : Int) - ((0 : Nat) : Int) = Builtin.Range.rangeSize lo hi 1 := by rw [rangeSize_one]; split <;> omega
    show IsRangeIter _ _ (lo + ((0 : Nat) : Int) * 1) ((((hi - lo).toNat : Nat) : Int) - ((0 : Nat) : Int)) 1
    rw [e1, e2]
    exact Heap.get?_push_size _ rfl
  · have e : b = (s.heap.push { cls := .type "range", data := .fields #[.int lo t, .int hi u, .int 1 v] }).objs.size := by simpa using hb
    subst e
    exact I1.fpOk (Nat.le_refl _) (I1.hok.fresh (Nat.le_refl _))
def iRng1 (ta : TA) : TI := fun σ H R => ta σ H fun vs H1 => ∃ j : Int, vs = [.int j] ∧ -(2 ^ 62) ≤ j ∧ j < 2 ^ 62 ∧ R (Itr 0 j.toNat) H1
def iRng2 (ta : TA) : TI := fun σ H R => ta σ H fun vs H1 => ∃ i j : Int, vs = [.int i, .int j] ∧ (-(2 ^ 62) ≤ i ∧ i < 2 ^ 62 ∧ -(2 ^ 62) ≤ j ∧ j < 2 ^ 62) ∧ R (Itr i (j - i).toNat) H1
theorem pi_range1 {a : Expr} {ta : TA} {p pos : Pos} (hg : Gl X "range") (hm : X.mg "range" = none) (ha : PA X [a] ta) (hs : starEach [a] X.env = [(false, eval a X.env)] := by rfl) : PI X tg (.Call (.Name "range" p) [a] [] pos) (iRng1 ta) := by
  intro pins s σ H R I h
  refine Call_ (ld_blt I hg hm boot_range (PyProof.Rows.callWith_type1 (thn (ha pos pins s σ H _ I h) fun us s1 ⟨vs, H1, I1, r1, q1⟩ => ?_) hs rfl))
  obtain ⟨j, e, q1, q2, q⟩ := q1
  subst e
  cases r1 with
  | cons r rr =>
    cases rr
    obtain ⟨t, rfl⟩ := r
    exact call_range_1 (range_it I1 (by omega) (by omega) q1 q2 (by simpa using q))
theorem pi_range2 {a b : Expr} {ta : TA} {p pos : Pos} (hg : Gl X "range") (hm : X.mg "range" = none) (ha : PA X [a, b] ta) (hs : starEach [a, b] X.env = [(false, eval a X.env), (false, eval b X.env)] := by rfl) (hs2 : starEach [b] X.env = [(false, eval b X.env)] := by rfl) :
    PI X tg (.Call (.Name "range" p) [a, b] [] pos) (iRng2 ta) := by
  intro pins s σ H R I h
  refine Call_ (ld_blt I hg hm boot_range (PyProof.Rows.callWith_type1 (thn (ha pos pins s σ H _ I h) fun us s1 ⟨vs, H1, I1, r1, q1⟩ => ?_) (by rw [hs, hs2]) (by rw [hs2]; rfl)))
  obtain ⟨i, j, e, ⟨q1, q2, q3, q4⟩, q⟩ := q1
  subst e
  cases r1 with
  | cons r rr =>
    cases rr with
    | cons r' rr =>
      cases rr
      obtain ⟨t, rfl⟩ := r
      obtain ⟨t', rfl⟩ := r'
      exact call_range_2 (range_it I1 q1 q2 q3 q4 q)

/-! ### for -/
/-- W: the invariant by the turn and a measure; N: what the body is to reach -/
def tFor (wi : TI) (g : TG) (tb : TS) : TS := fun D σ H => wi σ H fun J H1 => ∃ W : Nat → Nat → St → Hp → Prop, (∃ m, W 0 m σ H1) ∧ ∀ i m σ H, W i m σ H →
  (J.stop i H ∧ D.nx σ H) ∨ (J.go i H ∧ ∃ N : St → Hp → Prop, (∀ σ' H', N σ' H' → ∃ m', m' < m ∧ W (i + 1) m' σ' H') ∧ ∀ x H', J.yld i H x H' → g x σ H' fun σ2 H2 => tb { D with nx := N, ct := N, bk := D.nx } σ2 H2)
/-- the records at fp as they stand -/
def pinsAt (fp : List Addr) (h : Heap) : List (Addr × Obj) := fp.filterMap fun b => (h.get? b).map fun o => (b, o)
theorem mem_pinsAt {fp : List Addr} {h : Heap} {b : Addr} {o : Obj} (hb : b ∈ fp) (e : h.get? b = some o) : (b, o) ∈ pinsAt fp h := List.mem_filterMap.mpr ⟨b, hb, by rw [e]; rfl⟩
theorem of_pinsAt {fp : List Addr} {h : Heap} {p : Addr × Obj} (hp : p ∈ pinsAt fp h) : p.1 ∈ fp ∧ h.get? p.1 = some p.2 := by
  obtain ⟨b, hb, e⟩ := List.mem_filterMap.mp hp
  cases q : h.get? b with
  | none => rw [q] at e; cases e
  | some o =>
    rw [q] at e
    have e' : (b, o) = p := Option.some.inj e
    subst e'
    exact ⟨hb, q⟩
theorem Inv.pinned {pins : List (Addr × Obj)} {σ : St} {H : Hp} {s : Shared} {fp : List Addr} (I : Inv X pins σ H s) (hf : ∀ b ∈ fp, FpOk X pins H b) (ho : ∀ b ∈ fp, ∃ o, s.heap.get? b = some o ∧ ∀ v, o.data ≠ .cell v) : Inv X (pins ++ pinsAt fp s.heap) σ H s :=
  I.pins_of fun p hp => (List.mem_append.mp hp).elim (fun z => I.pin p (List.mem_append_right _ z)) fun z => by
    obtain ⟨hb, e⟩ := of_pinsAt z
    obtain ⟨f0, f1, f2, _⟩ := hf p.1 hb
    obtain ⟨o, e', d⟩ := ho p.1 hb
    rw [e] at e'; cases e'
    exact ⟨e, f0, f1, f2, d⟩
theorem Inv.unpinned {pins pl : List (Addr × Obj)} {σ : St} {H : Hp} {s : Shared} (I : Inv X (pins ++ pl) σ H s) : Inv X pins σ H s := I.pins_of fun p hp => I.pin p (List.mem_append_right _ (List.mem_append_left _ hp))
theorem ps_for {iter : Expr} {body : List Stmt} {wi : TI} {g : TG} {tb : TS} {pos : Pos} (hp : PassesOwn (model X.prog X.w) X.A X.env X.xe) (hc : X.calm = true) (hi : PI X tg iter wi) (hg : PG X tg g) (hb : PSs X body tb)
    (hs : ∀ x, foldedSetIterable iter X.env x = pure x := by intro _; rfl) : PS X (.For tg iter body [] pos) (tFor wi g tb) := by
  intro pins s σ H D I h
  refine wpAny_For (thn (hi pins s σ H _ I h) fun v s1 h1 => thn h1 fun itv s2 h2 => ?_) hs
  obtain ⟨it, fp, tn, J, H2, e, I2, T, st2, f2, W, ⟨m0, w0⟩, turn⟩ := h2
  subst e
  -- what stays true of the iterator's objects through the loop
  have stat : ∀ {H' : Hp}, (∀ b ∈ fp, H' b = none) → ∀ b ∈ fp, FpOk X pins H' b := fun hn b hb => ⟨hn b hb, (f2 b hb).2⟩
  refine codeAny_forLoop_any (fun n s' => ∃ i σ' H', Inv X pins σ' H' s' ∧ tn i s'.heap ∧ (∀ b ∈ fp, H' b = none) ∧ W i n σ' H') ?_ m0 ⟨0, σ, H2, I2, st2, fun b hb => (f2 b hb).1, w0⟩
  rintro n s3 ⟨i, σ3, H3, I3, st3, fr3, w3⟩
  rcases turn i n σ3 H3 w3 with ⟨stop, qn⟩ | ⟨go, N, hN, step⟩
  · refine wpAny_passesOwn hp (thn (T.done X rfl rfl rfl hc i pins s3 σ3 H3 X.xe I3 (stat fr3) st3 stop) fun r s4 ⟨hr, I4⟩ => ?_)
    subst hr
    exact wpAny_execs_nil ⟨σ3, H3, I4, qn⟩
  · refine wpAny_passesOwn hp (thn (T.item X rfl rfl rfl hc i pins s3 σ3 H3 X.xe I3 (stat fr3) st3 go) fun r s4 ⟨u, hr, h4⟩ => ?_)
    subst hr
    refine wpAny_passesOwn hp (thn h4 fun _ s5 ⟨x, H5, I5, r5, y5, st5, fr5⟩ => ?_)
    have I5' := I5.pinned (stat fr5) (T.obj _ _ st5)
    refine wpAny_passesOwn hp (thn (hg _ s5 σ3 H5 x u _ I5' r5 (step x H5 y5)) fun _ s6 ⟨σ6, H6, I6, q6⟩ => ?_)
    refine wpAny_passesOwn hp (thn (hb _ s6 σ6 H6 _ I6 q6) fun f s7 q7 => ?_)
    have again : ∀ {σ7 : St} {H7 : Hp}, Inv X (pins ++ pinsAt fp s5.heap) σ7 H7 s7 → N σ7 H7 → ∃ m, m < n ∧ ∃ i σ' H', Inv X pins σ' H' s7 ∧ tn i s7.heap ∧ (∀ b ∈ fp, H' b = none) ∧ W i m σ' H' := fun {σ7 H7} I7 n7 => by
      obtain ⟨m', hm, w7⟩ := hN σ7 H7 n7
      refine ⟨m', hm, i + 1, σ7, H7, I7.unpinned, T.keep _ _ _ st5 fun b hb o e => (I7.pin (b, o) (List.mem_append_right _ (List.mem_append_right _ (mem_pinsAt hb e)))).1, fun b hb => ?_, w7⟩
      obtain ⟨o, e, d⟩ := T.obj _ _ st5 b hb
      exact (I7.pin (b, o) (List.mem_append_right _ (List.mem_append_right _ (mem_pinsAt hb e)))).2.1
    cases f with
    | next => obtain ⟨σ7, H7, I7, n7⟩ := q7; exact again I7 n7
    | cont => obtain ⟨σ7, H7, I7, n7⟩ := q7; exact again I7 n7
    | brk => obtain ⟨σ7, H7, I7, q7⟩ := q7; exact ⟨σ7, H7, I7.unpinned, q7⟩
    | ret v => obtain ⟨x7, σ7, H7, I7, r7, q7⟩ := q7; exact ⟨x7, σ7, H7, I7.unpinned, r7, q7⟩
end

/-! ### the forms one uses -/
/-- over a list that the body leaves as it is -/
theorem for_list {K : PySem.W.Frag} {a : Addr} {xs : List V} {g : TG} {tb : TS} {D : Ends} {σ : St} {H : Hp} (Pv : Nat → St → Hp → Prop) (h0 : Pv 0 σ H) (hl : ∀ i σ H, i ≤ xs.length → Pv i σ H → SqL K H a xs)
    (hs : ∀ i x σ H, xs[i]? = some x → Pv i σ H → g x σ H fun σ2 H2 => tb { D with nx := Pv (i + 1), ct := Pv (i + 1), bk := D.nx } σ2 H2) (hd : ∀ σ H, Pv xs.length σ H → D.nx σ H) :
    ∃ W : Nat → Nat → St → Hp → Prop, (∃ m, W 0 m σ H) ∧ ∀ i m σ H, W i m σ H →
      ((Itl K a).stop i H ∧ D.nx σ H) ∨ ((Itl K a).go i H ∧ ∃ N : St → Hp → Prop, (∀ σ' H', N σ' H' → ∃ m', m' < m ∧ W (i + 1) m' σ' H') ∧ ∀ x H', (Itl K a).yld i H x H' → g x σ H' fun σ2 H2 => tb { D with nx := N, ct := N, bk := D.nx } σ2 H2) := by
  refine ⟨fun i m σ H => m = xs.length - i ∧ i ≤ xs.length ∧ Pv i σ H, ⟨xs.length, by simp, Nat.zero_le _, h0⟩, ?_⟩
  rintro i m σ H ⟨rfl, hi, p⟩
  have q := hl i σ H hi p
  by_cases hlt : i < xs.length
  · refine .inr ⟨⟨xs, xs[i], q, by simp [hlt]⟩, Pv (i + 1), fun σ' H' p' => ⟨xs.length - (i + 1), by omega, rfl, hlt, p'⟩, fun x H' y => ?_⟩
    obtain ⟨e, y⟩ := y
    subst e
    exact hs i x σ _ (y xs q) p
  · have e : i = xs.length := by omega
    subst e
    exact .inl ⟨⟨xs, q, Nat.le_refl _⟩, hd σ H p⟩
theorem for_tup {K : PySem.W.Frag} {a : Addr} {xs : List V} {g : TG} {tb : TS} {D : Ends} {σ : St} {H : Hp} (Pv : Nat → St → Hp → Prop) (h0 : Pv 0 σ H) (hl : ∀ i σ H, i ≤ xs.length → Pv i σ H → SqT K H a xs)
    (hs : ∀ i x σ H, xs[i]? = some x → Pv i σ H → g x σ H fun σ2 H2 => tb { D with nx := Pv (i + 1), ct := Pv (i + 1), bk := D.nx } σ2 H2) (hd : ∀ σ H, Pv xs.length σ H → D.nx σ H) :
    ∃ W : Nat → Nat → St → Hp → Prop, (∃ m, W 0 m σ H) ∧ ∀ i m σ H, W i m σ H →
      ((Itt K a).stop i H ∧ D.nx σ H) ∨ ((Itt K a).go i H ∧ ∃ N : St → Hp → Prop, (∀ σ' H', N σ' H' → ∃ m', m' < m ∧ W (i + 1) m' σ' H') ∧ ∀ x H', (Itt K a).yld i H x H' → g x σ H' fun σ2 H2 => tb { D with nx := N, ct := N, bk := D.nx } σ2 H2) := by
  refine ⟨fun i m σ H => m = xs.length - i ∧ i ≤ xs.length ∧ Pv i σ H, ⟨xs.length, by simp, Nat.zero_le _, h0⟩, ?_⟩
  rintro i m σ H ⟨rfl, hi, p⟩
  have q := hl i σ H hi p
  by_cases hlt : i < xs.length
  · refine .inr ⟨⟨xs, xs[i], q, by simp [hlt]⟩, Pv (i + 1), fun σ' H' p' => ⟨xs.length - (i + 1), by omega, rfl, hlt, p'⟩, fun x H' y => ?_⟩
    obtain ⟨e, y⟩ := y
    subst e
    exact hs i x σ _ (y xs q) p
  · have e : i = xs.length := by omega
    subst e
    exact .inl ⟨⟨xs, q, Nat.le_refl _⟩, hd σ H p⟩
theorem for_range {lo : Int} {n : Nat} {g : TG} {tb : TS} {D : Ends} {σ : St} {H : Hp} (Pv : Nat → St → Hp → Prop) (h0 : Pv 0 σ H)
    (hs : ∀ i σ H, i < n → Pv i σ H → g (.int (lo + i)) σ H fun σ2 H2 => tb { D with nx := Pv (i + 1), ct := Pv (i + 1), bk := D.nx } σ2 H2) (hd : ∀ σ H, Pv n σ H → D.nx σ H) :
    ∃ W : Nat → Nat → St → Hp → Prop, (∃ m, W 0 m σ H) ∧ ∀ i m σ H, W i m σ H →
      ((Itr lo n).stop i H ∧ D.nx σ H) ∨ ((Itr lo n).go i H ∧ ∃ N : St → Hp → Prop, (∀ σ' H', N σ' H' → ∃ m', m' < m ∧ W (i + 1) m' σ' H') ∧ ∀ x H', (Itr lo n).yld i H x H' → g x σ H' fun σ2 H2 => tb { D with nx := N, ct := N, bk := D.nx } σ2 H2) := by
  refine ⟨fun i m σ H => m = n - i ∧ i ≤ n ∧ Pv i σ H, ⟨n, by simp, Nat.zero_le _, h0⟩, ?_⟩
  rintro i m σ H ⟨rfl, hi, p⟩
  by_cases hlt : i < n
  · refine .inr ⟨hlt, Pv (i + 1), fun σ' H' p' => ⟨n - (i + 1), by omega, rfl, hlt, p'⟩, fun x H' y => ?_⟩
    obtain ⟨e, y⟩ := y
    subst e y
    exact hs i σ _ hlt p
  · have e : i = n := by omega
    subst e
    exact .inl ⟨Nat.le_refl _, hd σ H p⟩
/-- while, by a word and a measure of the state -/
theorem while_by {c : TT} {tb : TS} {D : Ends} {σ : St} {H : Hp} (Pv : St → Hp → Prop) (μ : St → Hp → Nat) (h0 : Pv σ H)
    (hs : ∀ σ H, Pv σ H → c σ H fun b H1 => if b = true then tb { D with nx := fun σ' H' => Pv σ' H' ∧ μ σ' H' < μ σ H, ct := fun σ' H' => Pv σ' H' ∧ μ σ' H' < μ σ H, bk := D.nx } σ H1 else D.nx σ H1)
    (mono : ∀ σ H Q Q', (∀ b H1, Q b H1 → Q' b H1) → c σ H Q → c σ H Q') : tWhile c tb D σ H := by
  refine ⟨fun m σ H => m = μ σ H ∧ Pv σ H, ⟨_, rfl, h0⟩, ?_⟩
  rintro m σ H ⟨rfl, p⟩
  refine mono σ H _ _ (fun b H1 q => ?_) (hs σ H p)
  cases b with
  | true => exact ⟨_, fun σ' H' ⟨p', l⟩ => ⟨_, l, rfl, p'⟩, q⟩
  | false => exact q
end L2

namespace L2
open PySem PySem.Spec PyProof.Rows

abbrev R2 := V → V → Hp → VK → Prop
/-- a two-place operation on values: f is binaryOp op, inplaceOp op or compareOp op -/
def OpR (X : Cx) (f : Value → Value → Sem Value) (r : R2) : Prop :=
  ∀ (pins : List (Addr × Obj)) (s : Shared) (σ : St) (H : Hp) (x y : V) (v u : Value) (Q : VK), Inv X pins σ H s → RelV x v → RelV y u → r x y H Q →
    wpAny (model X.prog X.w) X.A (f v u) (EP X pins σ Q) X.xe s
/-- a one-place operation -/
def UnR (X : Cx) (f : Value → Sem Value) (r : V → Hp → VK → Prop) : Prop :=
  ∀ (pins : List (Addr × Obj)) (s : Shared) (σ : St) (H : Hp) (x : V) (v : Value) (Q : VK), Inv X pins σ H s → RelV x v → r x H Q →
    wpAny (model X.prog X.w) X.A (f v) (EP X pins σ Q) X.xe s
/-- a call of a value that is known (a builtin, a type) with values -/
def CallR (X : Cx) (f : Value) (r : List V → Hp → VK → Prop) : Prop :=
  ∀ (pins : List (Addr × Obj)) (s : Shared) (σ : St) (H : Hp) (xs : List V) (us : List Value) (Q : VK), Inv X pins σ H s → Vals xs us → r xs H Q →
    wpAny (model X.prog X.w) X.A (call f us) (EP X pins σ Q) X.xe s
/-- a value's truth -/
def TruR (X : Cx) (r : V → Hp → (Bool → Hp → Prop) → Prop) : Prop :=
  ∀ (pins : List (Addr × Obj)) (s : Shared) (σ : St) (H : Hp) (x : V) (v : Value) (Q : Bool → Hp → Prop), Inv X pins σ H s → RelV x v → r x H Q →
    wpAny (model X.prog X.w) X.A (truthy v) (TP X pins σ Q) X.xe s

def tOp (r : R2) (ta tb : TE) : TE := fun σ H Q => ta σ H fun x H1 => tb σ H1 fun y H2 => r x y H2 Q
def tUn (r : V → Hp → VK → Prop) (ta : TE) : TE := fun σ H Q => ta σ H fun x H1 => r x H1 Q
/-- ints in, under C, and a value out -/
def rI (C : Int → Int → Prop) (g : Int → Int → V) : R2 := fun x y H Q => ∃ i j, x = .int i ∧ y = .int j ∧ C i j ∧ Q (g i j) H
def rI0 (g : Int → Int → V) : R2 := fun x y H Q => ∃ i j, x = .int i ∧ y = .int j ∧ Q (g i j) H
def rU (g : Int → V) : V → Hp → VK → Prop := fun x H Q => ∃ i, x = .int i ∧ Q (g i) H

section
variable {X : Cx} {a b c : Expr} {ta tb tc : TE} {pos : Pos}

theorem binT (ha : PE X a ta) (hb : PE X b tb) {pins : List (Addr × Obj)} {s : Shared} {σ : St} {H : Hp} {R : V → V → Hp → Prop} (I : Inv X pins σ H s)
    (h : ta σ H fun x H1 => tb σ H1 fun y H2 => R x y H2) {Q : Value → Shared → Prop} {f : Value → Value → Sem Value}
    (hf : ∀ v u s2 x y H2, Inv X pins σ H2 s2 → RelV x v → RelV y u → R x y H2 → wpAny (model X.prog X.w) X.A (f v u) Q X.xe s2) :
    wpAny (model X.prog X.w) X.A (eval a X.env) (fun v s₁ => wpAny (model X.prog X.w) X.A (eval b X.env) (fun u s₂ => wpAny (model X.prog X.w) X.A (f v u) Q X.xe s₂) X.xe s₁) X.xe s := by
  refine thn (ha pins s σ H _ I h) fun v s1 ⟨x, H1, I1, r1, q1⟩ => ?_
  refine thn (hb pins s1 σ H1 _ I1 q1) fun u s2 ⟨y, H2, I2, r2, q2⟩ => ?_
  exact hf v u s2 x y H2 I2 r1 r2 q2

theorem pe_op {op : Operator} {r : R2} (ho : OpR X (binaryOp op) r) (ha : PE X a ta) (hb : PE X b tb) : PE X (.BinOp a op b pos) (tOp r ta tb) := by
  intro pins s σ H Q I h
  exact wpAny_BinOp (binT ha hb I h fun v u s2 x y H2 I2 rx ry q => ho pins s2 σ H2 x y v u Q I2 rx ry q)
theorem pe_un {op : UnaryOp} {r : V → Hp → VK → Prop} (ho : UnR X (unaryOp op) r) (ha : PE X a ta) : PE X (.UnaryOp op a pos) (tUn r ta) := by
  intro pins s σ H Q I h
  exact UnaryOp_ (thn (ha pins s σ H _ I h) fun v s1 ⟨x, H1, I1, r1, q1⟩ => ho pins s1 σ H1 x v Q I1 r1 q1)
/-- a op= e at a name: the name's slot i -/
theorem augR {op : Operator} {r : R2} (ho : OpR X (inplaceOp op) r) {pins : List (Addr × Obj)} {s : Shared} {σ : St} {H : Hp} {x y : V} {v u : Value} {Q : VK} (I : Inv X pins σ H s)
    (rx : RelV x v) (ry : RelV y u) (q : r x y H Q) : wpAny (model X.prog X.w) X.A (inplaceOp op v u) (EP X pins σ Q) X.xe s := ho pins s σ H x y v u Q I rx ry q

/-! ### ints -/
theorem opI {f : Value → Value → Sem Value} {C : Int → Int → Prop} {g : Int → Int → Int}
    (rule : ∀ (i j : Int) (t u : Tok) (s : Shared) (Q : Value → Shared → Prop) (E : Value → Shared → Prop), C i j → Q (.int (g i j) s.toks) { s with toks := s.toks + 1 } → wpAny (model X.prog X.w) X.A (f (.int i t) (.int j u)) Q E s) :
    OpR X f (rI C fun i j => .int (g i j)) := by
  intro pins s σ H x y v u Q I rx ry h
  obtain ⟨i, j, rfl, rfl, hc, q⟩ := h
  obtain ⟨t, rfl⟩ := rx
  obtain ⟨t', rfl⟩ := ry
  exact rule i j t t' s _ _ hc ⟨.int (g i j), H, I.tok _, ⟨_, rfl⟩, q⟩
theorem opI0 {f : Value → Value → Sem Value} {g : Int → Int → Int}
    (rule : ∀ (i j : Int) (t u : Tok) (s : Shared) (Q : Value → Shared → Prop) (E : Value → Shared → Prop), Q (.int (g i j) s.toks) { s with toks := s.toks + 1 } → wpAny (model X.prog X.w) X.A (f (.int i t) (.int j u)) Q E s) :
    OpR X f (rI0 fun i j => .int (g i j)) := by
  intro pins s σ H x y v u Q I rx ry h
  obtain ⟨i, j, rfl, rfl, q⟩ := h
  obtain ⟨t, rfl⟩ := rx
  obtain ⟨t', rfl⟩ := ry
  exact rule i j t t' s _ _ ⟨.int (g i j), H, I.tok _, ⟨_, rfl⟩, q⟩
theorem opB0 {f : Value → Value → Sem Value} {g : Int → Int → Bool}
    (rule : ∀ (i j : Int) (t u : Tok) (s : Shared) (Q : Value → Shared → Prop) (E : Value → Shared → Prop), Q (.bool (g i j)) s → wpAny (model X.prog X.w) X.A (f (.int i t) (.int j u)) Q E s) :
    OpR X f (rI0 fun i j => .bl (g i j)) := by
  intro pins s σ H x y v u Q I rx ry h
  obtain ⟨i, j, rfl, rfl, q⟩ := h
  obtain ⟨t, rfl⟩ := rx
  obtain ⟨t', rfl⟩ := ry
  exact rule i j t t' s _ _ ⟨.bl (g i j), H, I, rfl, q⟩

def CDiv (i j : Int) : Prop := 0 < j ∧ j < 1073741824
def CDivN (i j : Int) : Prop := j ≠ 0 ∧ j.natAbs < 1073741824
def CPow (i j : Int) : Prop := 0 ≤ j ∧ j ≤ 1000000 ∧ i.natAbs < 2 ^ 64
def CMul (i j : Int) : Prop := (-(2 ^ 64) < i ∧ i < 2 ^ 64) ∨ (-(2 ^ 64) < j ∧ j < 2 ^ 64)
theorem CMul.ok {i j : Int} (h : CMul i j) : IntMulOk i j := by
  rcases h with ⟨h1, h2⟩ | ⟨h1, h2⟩
  · exact .of_left (intBits_le_64 h1 h2)
  · exact .of_right (intBits_le_64 h1 h2)
theorem two_pow_nn (k : Nat) : (0 : Int) ≤ 2 ^ k := by
  rw [two_pow_cast]
  exact Int.natCast_nonneg _

theorem op_add : OpR X (binaryOp .Add) (rI0 fun i j => .int (i + j)) := opI0 fun _ _ _ _ _ _ _ q => add_int q
theorem op_sub : OpR X (binaryOp .Sub) (rI0 fun i j => .int (i - j)) := opI0 fun _ _ _ _ _ _ _ q => sub_int q
theorem op_mul : OpR X (binaryOp .Mult) (rI CMul fun i j => .int (i * j)) := opI fun _ _ _ _ _ _ _ hc q => mul_int q hc.ok
/-- // by a positive divisor -/
theorem op_fdiv : OpR X (binaryOp .FloorDiv) (rI CDiv fun i j => .int (i / j)) := opI fun i j _ _ _ _ _ hc q => by
  have h1 : (0 : Int) < j := hc.1
  have h2 : j < 1073741824 := hc.2
  exact floordiv_int (by omega) (by rw [Int.fdiv_eq_ediv_of_nonneg i (by omega)]; exact q) (.inl (PyProof.noPylong_small (by omega)))
theorem op_fdivN : OpR X (binaryOp .FloorDiv) (rI CDivN fun i j => .int (i.fdiv j)) := opI fun _ _ _ _ _ _ _ hc q => floordiv_int hc.1 q (.inl (PyProof.noPylong_small hc.2))
/-- % by a positive divisor of any size -/
theorem op_mod : OpR X (binaryOp .Mod) (rI (fun _ j => 0 < j) fun i j => .int (i % j)) := opI fun i j _ _ _ _ _ hc q => by
  have h1 : (0 : Int) < j := hc
  exact mod_int' (by omega) (by rw [Int.fmod_eq_emod_of_nonneg i (by omega)]; exact q)
theorem op_modN : OpR X (binaryOp .Mod) (rI (fun _ j => j ≠ 0) fun i j => .int (i.fmod j)) := opI fun _ _ _ _ _ _ _ hc q => mod_int' hc q
theorem op_pow : OpR X (binaryOp .Pow) (rI CPow fun i j => .int (i ^ j.toNat)) := opI fun _ _ _ _ _ _ _ hc q => pow_int_small hc.1 hc.2.1 hc.2.2 q
theorem op_shl : OpR X (binaryOp .LShift) (rI CPow fun i j => .int (i * 2 ^ j.toNat)) := opI fun _ _ _ _ _ _ _ hc q => lshift_int_small hc.1 hc.2.1 hc.2.2 q
theorem op_shr : OpR X (binaryOp .RShift) (rI (fun _ j => 0 ≤ j) fun i j => .int (i / 2 ^ j.toNat)) := opI fun i j _ _ _ _ _ hc q =>
  rshift_int hc (by rw [Int.fdiv_eq_ediv_of_nonneg i (two_pow_nn _)]; exact q)
theorem op_and : OpR X (binaryOp .BitAnd) (rI0 fun i j => .int (Builtin.bitAnd i j)) := opI0 fun _ _ _ _ _ _ _ q => and_int q
theorem op_or : OpR X (binaryOp .BitOr) (rI0 fun i j => .int (Builtin.bitOr i j)) := opI0 fun _ _ _ _ _ _ _ q => or_int q
theorem op_xor : OpR X (binaryOp .BitXor) (rI0 fun i j => .int (Builtin.bitXor i j)) := opI0 fun _ _ _ _ _ _ _ q => xor_int q

theorem iop_add : OpR X (inplaceOp .Add) (rI0 fun i j => .int (i + j)) := opI0 fun _ _ _ _ _ _ _ q => iadd_int q
theorem iop_sub : OpR X (inplaceOp .Sub) (rI0 fun i j => .int (i - j)) := opI0 fun _ _ _ _ _ _ _ q => isub_int q
theorem iop_mul : OpR X (inplaceOp .Mult) (rI CMul fun i j => .int (i * j)) := opI fun _ _ _ _ _ _ _ hc q => imul_int q hc.ok
theorem iop_fdiv : OpR X (inplaceOp .FloorDiv) (rI CDiv fun i j => .int (i / j)) := opI fun i j _ _ _ _ _ hc q => by
  have h1 : (0 : Int) < j := hc.1
  have h2 : j < 1073741824 := hc.2
  exact ifloordiv_int (by omega) (by rw [Int.fdiv_eq_ediv_of_nonneg i (by omega)]; exact q) (.inl (PyProof.noPylong_small (by omega)))
theorem iop_mod : OpR X (inplaceOp .Mod) (rI (fun _ j => 0 < j) fun i j => .int (i % j)) := opI fun i j _ _ _ _ _ hc q => by
  have h1 : (0 : Int) < j := hc
  exact imod_int (by omega) (by rw [Int.fmod_eq_emod_of_nonneg i (by omega)]; exact q)
theorem iop_shl : OpR X (inplaceOp .LShift) (rI CPow fun i j => .int (i * 2 ^ j.toNat)) := opI fun _ _ _ _ _ _ _ hc q => ilshift_int_small hc.1 hc.2.1 hc.2.2 q
theorem iop_shr : OpR X (inplaceOp .RShift) (rI (fun _ j => 0 ≤ j) fun i j => .int (i / 2 ^ j.toNat)) := opI fun i j _ _ _ _ _ hc q =>
  irshift_int hc (by rw [Int.fdiv_eq_ediv_of_nonneg i (two_pow_nn _)]; exact q)
theorem iop_and : OpR X (inplaceOp .BitAnd) (rI0 fun i j => .int (Builtin.bitAnd i j)) := opI0 fun _ _ _ _ _ _ _ q => iand_int q
theorem iop_or : OpR X (inplaceOp .BitOr) (rI0 fun i j => .int (Builtin.bitOr i j)) := opI0 fun _ _ _ _ _ _ _ q => ior_int q
theorem iop_xor : OpR X (inplaceOp .BitXor) (rI0 fun i j => .int (Builtin.bitXor i j)) := opI0 fun _ _ _ _ _ _ _ q => ixor_int q

theorem unI {f : Value → Sem Value} {g : Int → Int}
    (rule : ∀ (i : Int) (t : Tok) (s : Shared) (Q : Value → Shared → Prop) (E : Value → Shared → Prop), Q (.int (g i) s.toks) { s with toks := s.toks + 1 } → wpAny (model X.prog X.w) X.A (f (.int i t)) Q E s) :
    UnR X f (rU fun i => .int (g i)) := by
  intro pins s σ H x v Q I rx h
  obtain ⟨i, rfl, q⟩ := h
  obtain ⟨t, rfl⟩ := rx
  exact rule i t s _ _ ⟨.int (g i), H, I.tok _, ⟨_, rfl⟩, q⟩
theorem un_neg : UnR X (unaryOp .USub) (rU fun i => .int (-i)) := unI fun _ _ _ _ _ q => neg_int q
theorem un_inv : UnR X (unaryOp .Invert) (rU fun i => .int (Builtin.bitNot i)) := unI fun _ _ _ _ _ q => invert_int q

/-! ### bools among ints: n += (a < b) -/
theorem op_add_ib : OpR X (binaryOp .Add) (fun x y H Q => ∃ i k, x = .int i ∧ y = .bl k ∧ Q (.int (i + b2i k)) H) := by
  intro pins s σ H x y v u Q I rx ry h
  obtain ⟨i, k, rfl, rfl, q⟩ := h
  obtain ⟨t, rfl⟩ := rx
  cases ry
  exact add_int_bool ⟨.int (i + b2i k), H, I.tok _, ⟨_, rfl⟩, q⟩
end

/-! ### comparisons -/
/-- the scalars that == tells apart as data does -/
def scal : V → V → Bool
  | .non, .non => true | .non, .int _ => true | .int _, .non => true | .non, .bl _ => true | .bl _, .non => true | .non, .str _ => true | .str _, .non => true
  | .int _, .int _ => true | .bl _, .bl _ => true | .str _, .str _ => true | .byt _, .byt _ => true
  | .int _, .str _ => true | .str _, .int _ => true | .bl _, .str _ => true | .str _, .bl _ => true
  | _, _ => false
def rEq : R2 := fun x y H Q => scal x y = true ∧ Q (.bl (decide (x = y))) H
def rNe : R2 := fun x y H Q => scal x y = true ∧ Q (.bl (!decide (x = y))) H

theorem dec_int {i j : Int} : decide (V.int i = V.int j) = (i == j) := by
  rw [Bool.eq_iff_iff]
  simp
theorem dec_bl {i j : Bool} : decide (V.bl i = V.bl j) = (i == j) := by
  rw [Bool.eq_iff_iff]
  simp
theorem dec_str {i j : Str} : decide (V.str i = V.str j) = (i == j) := by
  rw [Bool.eq_iff_iff]
  simp
theorem dec_byt {i j : Array UInt8} : decide (V.byt i = V.byt j) = (i.toList == j.toList) := by
  rw [Bool.eq_iff_iff]
  cases i
  cases j
  simp

section
variable {X : Cx} {a b c : Expr} {ta tb tc : TE} {pos : Pos}
theorem fin_bl {pins : List (Addr × Obj)} {σ : St} {H : Hp} {s : Shared} {Q : VK} {k k' : Bool} (I : Inv X pins σ H s) (q : Q (.bl k) H) (e : k = k') : EP X pins σ Q (.bool k') s := by
  subst e
  exact ⟨.bl k, H, I, rfl, q⟩
theorem op_eq : OpR X (compareOp .Eq) rEq := by
  intro pins s σ H x y v u Q I rx ry h
  obtain ⟨hs, q⟩ := h
  cases x with
  | non =>
    cases rx
    cases y with
    | non => cases ry; exact PySem.EqNone.eq_none_none (fin_bl I q (by simp))
    | bl j => cases ry; exact PySem.EqNone.eq_none_bool (fin_bl I q (by simp))
    | int j => obtain ⟨t', rfl⟩ := ry; exact PySem.EqNone.eq_none_int (fin_bl I q (by simp))
    | str j => obtain ⟨t', rfl⟩ := ry; exact PySem.EqNone.eq_none_str (fin_bl I q (by simp))
    | _ => exact absurd (show false = true from hs) Bool.false_ne_true
  | bl i =>
    cases rx
    cases y with
    | non => cases ry; exact PySem.EqNone.eq_bool_none (fin_bl I q (by simp))
    | bl j => cases ry; exact eq_bool (fin_bl I q dec_bl)
    | str j => obtain ⟨t', rfl⟩ := ry; exact PySem.EqMixed.eq_bool_str (fin_bl I q (by simp))
    | _ => exact absurd (show false = true from hs) Bool.false_ne_true
  | int i =>
    obtain ⟨t, rfl⟩ := rx
    cases y with
    | non => cases ry; exact PySem.EqNone.eq_int_none (fin_bl I q (by simp))
    | int j => obtain ⟨t', rfl⟩ := ry; exact eq_int (fin_bl I q dec_int)
    | str j => obtain ⟨t', rfl⟩ := ry; exact PySem.EqMixed.eq_int_str (fin_bl I q (by simp))
    | _ => exact absurd (show false = true from hs) Bool.false_ne_true
  | str i =>
    obtain ⟨t, rfl⟩ := rx
    cases y with
    | non => cases ry; exact PySem.EqNone.eq_str_none (fin_bl I q (by simp))
    | bl j => cases ry; exact PySem.EqMixed.eq_str_bool (fin_bl I q (by simp))
    | int j => obtain ⟨t', rfl⟩ := ry; exact PySem.EqMixed.eq_str_int (fin_bl I q (by simp))
    | str j => obtain ⟨t', rfl⟩ := ry; exact eq_str (fin_bl I q dec_str)
    | _ => exact absurd (show false = true from hs) Bool.false_ne_true
  | byt i =>
    obtain ⟨t, rfl⟩ := rx
    cases y with
    | byt j => obtain ⟨t', rfl⟩ := ry; exact PySem.W.eq_bytes (fin_bl I q dec_byt)
    | _ => exact absurd (show false = true from hs) Bool.false_ne_true
  | _ => cases y <;> exact absurd (show false = true from hs) Bool.false_ne_true
theorem op_ne : OpR X (compareOp .NotEq) rNe := by
  intro pins s σ H x y v u Q I rx ry h
  obtain ⟨hs, q⟩ := h
  cases x with
  | non =>
    cases rx
    cases y with
    | non => cases ry; exact PySem.EqNone.ne_none_none (fin_bl I q (by simp))
    | bl j => cases ry; exact PySem.EqNone.ne_none_bool (fin_bl I q (by simp))
    | int j => obtain ⟨t', rfl⟩ := ry; exact PySem.EqNone.ne_none_int (fin_bl I q (by simp))
    | str j => obtain ⟨t', rfl⟩ := ry; exact PySem.EqNone.ne_none_str (fin_bl I q (by simp))
    | _ => exact absurd (show false = true from hs) Bool.false_ne_true
  | bl i =>
    cases rx
    cases y with
    | non => cases ry; exact PySem.EqNone.ne_bool_none (fin_bl I q (by simp))
    | bl j => cases ry; exact ne_bool (fin_bl I q (congrArg not dec_bl))
    | str j => obtain ⟨t', rfl⟩ := ry; exact PySem.EqMixed.ne_bool_str (fin_bl I q (by simp))
    | _ => exact absurd (show false = true from hs) Bool.false_ne_true
  | int i =>
    obtain ⟨t, rfl⟩ := rx
    cases y with
    | non => cases ry; exact PySem.EqNone.ne_int_none (fin_bl I q (by simp))
    | int j => obtain ⟨t', rfl⟩ := ry; exact ne_int (fin_bl I q (congrArg not dec_int))
    | str j => obtain ⟨t', rfl⟩ := ry; exact PySem.EqMixed.ne_int_str (fin_bl I q (by simp))
    | _ => exact absurd (show false = true from hs) Bool.false_ne_true
  | str i =>
    obtain ⟨t, rfl⟩ := rx
    cases y with
    | non => cases ry; exact PySem.EqNone.ne_str_none (fin_bl I q (by simp))
    | bl j => cases ry; exact PySem.EqMixed.ne_str_bool (fin_bl I q (by simp))
    | int j => obtain ⟨t', rfl⟩ := ry; exact PySem.EqMixed.ne_str_int (fin_bl I q (by simp))
    | str j => obtain ⟨t', rfl⟩ := ry; exact ne_str (fin_bl I q (congrArg not dec_str))
    | _ => exact absurd (show false = true from hs) Bool.false_ne_true
  | byt i =>
    obtain ⟨t, rfl⟩ := rx
    cases y with
    | byt j => obtain ⟨t', rfl⟩ := ry; exact PySem.W.ne_bytes (fin_bl I q (congrArg not dec_byt))
    | _ => exact absurd (show false = true from hs) Bool.false_ne_true
  | _ => cases y <;> exact absurd (show false = true from hs) Bool.false_ne_true

theorem op_lt : OpR X (compareOp .Lt) (rI0 fun i j => .bl (decide (i < j))) := opB0 fun _ _ _ _ _ _ _ q => lt_int q
theorem op_le : OpR X (compareOp .LtE) (rI0 fun i j => .bl (decide (i ≤ j))) := opB0 fun _ _ _ _ _ _ _ q => le_int q
theorem op_gt : OpR X (compareOp .Gt) (rI0 fun i j => .bl (decide (j < i))) := opB0 fun _ _ _ _ _ _ _ q => gt_int q
theorem op_ge : OpR X (compareOp .GtE) (rI0 fun i j => .bl (decide (j ≤ i))) := opB0 fun _ _ _ _ _ _ _ q => ge_int q
theorem op_lt_str : OpR X (compareOp .Lt) (fun x y H Q => ∃ i j, x = .str i ∧ y = .str j ∧ Q (.bl (decide (i.cps.toList < j.cps.toList))) H) := by
  intro pins s σ H x y v u Q I rx ry h
  obtain ⟨i, j, rfl, rfl, q⟩ := h
  obtain ⟨t, rfl⟩ := rx
  obtain ⟨t', rfl⟩ := ry
  exact lt_str (fin_bl I q rfl)
/-- the one string within the other -/
theorem op_in_str : OpR X (compareOp .In) (fun x y H Q => ∃ i j, x = .str i ∧ y = .str j ∧ Q (.bl (!(Builtin.Str.occurrences j i 0 j.length 1).isEmpty)) H) := by
  intro pins s σ H x y v u Q I rx ry h
  obtain ⟨i, j, rfl, rfl, q⟩ := h
  obtain ⟨t, rfl⟩ := rx
  obtain ⟨t', rfl⟩ := ry
  exact in_str (fin_bl I q rfl)

/-- is None, is not None: the right side a value none -/
theorem op_isN : OpR X (compareOp .Is) (fun x y H Q => y = .non ∧ Q (.bl (decide (x = .non))) H) := by
  intro pins s σ H x y v u Q I rx ry h
  obtain ⟨rfl, q⟩ := h
  cases ry
  refine is_none_gen (fin_bl I q ?_)
  cases x <;> first
    | (cases rx; rfl)
    | (obtain ⟨t, rfl⟩ := rx; rfl)
theorem op_notN : OpR X (compareOp .IsNot) (fun x y H Q => y = .non ∧ Q (.bl (!decide (x = .non))) H) := by
  intro pins s σ H x y v u Q I rx ry h
  obtain ⟨rfl, q⟩ := h
  cases ry
  refine isnot_none_gen (fin_bl I q ?_)
  cases x <;> first
    | (cases rx; rfl)
    | (obtain ⟨t, rfl⟩ := rx; rfl)

theorem op_notin_str : OpR X (compareOp .NotIn) (fun x y H Q => ∃ i j, x = .str i ∧ y = .str j ∧ Q (.bl (!(!(Builtin.Str.occurrences j i 0 j.length 1).isEmpty))) H) := by
  intro pins s σ H x y v u Q I rx ry h
  obtain ⟨i, j, rfl, rfl, q⟩ := h
  obtain ⟨t, rfl⟩ := rx
  obtain ⟨t', rfl⟩ := ry
  exact notIn_str (fin_bl I q rfl)
/-- is, is not of two objects that are tracked lists or instances -/
def isObj : HO → Bool
  | .lst _ => true
  | .ins _ _ _ => true
  | _ => false
theorem obj_there {pins : List (Addr × Obj)} {s : Shared} {σ : St} {H : Hp} {a : Addr} {o : HO} (I : Inv X pins σ H s) (h : H a = some o) (p : isObj o = true) : ∃ ob, s.heap.get? a = some ob ∧ ob.cls ≠ .type "tuple" := by
  cases o with
  | lst xs =>
    obtain ⟨_, its, n, _, e⟩ : xs.length ≤ sizeLine ∧ ∃ (its : List Value) (n : Nat), Vals xs its ∧ s.heap.get? a = some { cls := .type "list", data := .seq its.toArray n } := I.hok a _ h
    exact ⟨_, e, (by show Value.type "list" ≠ .type "tuple"; decide +kernel)⟩
  | ins C dx fs =>
    have x := I.hok a _ h
    obtain ⟨_, _, _, e, _⟩ := x
    exact ⟨_, e, (by show Value.ref C ≠ .type "tuple"; exact fun z => by cases z)⟩
  | _ => exact absurd (show false = true from p) Bool.false_ne_true
theorem op_is_ref : OpR X (compareOp .Is) (fun x y H Q => ∃ a b oa ob, x = .ref a ∧ y = .ref b ∧ H a = some oa ∧ isObj oa = true ∧ H b = some ob ∧ isObj ob = true ∧ Q (.bl (decide (a = b))) H) := by
  intro pins s σ H x y v u Q I rx ry h
  obtain ⟨a, b, oa, ob, rfl, rfl, ha, pa, hb, pb, q⟩ := h
  cases rx
  cases ry
  obtain ⟨o1, e1, n1⟩ := obj_there I ha pa
  obtain ⟨o2, e2, _⟩ := obj_there I hb pb
  by_cases z : a = b
  · subst z
    exact wpAny_is_ref_self (fin_bl I q (by simp))
  · exact wpAny_is_ref_other z e1 e2 n1 (fin_bl I q (by simp [z]))
theorem op_isnot_ref : OpR X (compareOp .IsNot) (fun x y H Q => ∃ a b oa ob, x = .ref a ∧ y = .ref b ∧ H a = some oa ∧ isObj oa = true ∧ H b = some ob ∧ isObj ob = true ∧ Q (.bl (!decide (a = b))) H) := by
  intro pins s σ H x y v u Q I rx ry h
  obtain ⟨a, b, oa, ob, rfl, rfl, ha, pa, hb, pb, q⟩ := h
  cases rx
  cases ry
  obtain ⟨o1, e1, n1⟩ := obj_there I ha pa
  obtain ⟨o2, e2, _⟩ := obj_there I hb pb
  by_cases z : a = b
  · subst z
    exact wpAny_isNot_ref_self (fin_bl I q (by simp))
  · exact wpAny_isNot_ref_other z e1 e2 n1 (fin_bl I q (by simp [z]))

/-- two rules for one operation: by cases -/
theorem OpR.or {f : Value → Value → Sem Value} {r r' : R2} (h : OpR X f r) (h' : OpR X f r') : OpR X f (fun x y H Q => r x y H Q ∨ r' x y H Q) := by
  intro pins s σ H x y v u Q I rx ry q
  rcases q with q | q
  · exact h pins s σ H x y v u Q I rx ry q
  · exact h' pins s σ H x y v u Q I rx ry q

theorem nomark (b : Expr) {op : CmpOp} (h : op ≠ .In := by decide) (h2 : op ≠ .NotIn := by decide) : behindInMarks op b = false := by
  have e1 : (op == CmpOp.In) = false := by cases op <;> first | rfl | exact absurd rfl h
  have e2 : (op == CmpOp.NotIn) = false := by cases op <;> first | rfl | exact absurd rfl h2
  cases b <;> simp [behindInMarks, e1, e2]
/-- a comparison as a value; hm: nomark b, or (for in, not in) by with_unfolding_all rfl -/
theorem pe_cmpR {op : CmpOp} {r : R2} (ho : OpR X (compareOp op) r) (ha : PE X a ta) (hb : PE X b tb) (hm : behindInMarks op b = false) : PE X (.Compare a [op] [b] pos) (tOp r ta tb) := by
  intro pins s σ H Q I h
  exact wpAny_Compare1 (binT ha hb I h fun v u s2 x y H2 I2 rx ry q => ho pins s2 σ H2 x y v u Q I2 rx ry q) hm
/-- a reading of a value as a test -/
def tTest (t : TE) : TT := fun σ H Q => t σ H fun x H' => ∃ k, x = .bl k ∧ Q k H'
theorem pt_cmpR {op : CmpOp} {r : R2} (ho : OpR X (compareOp op) r) (ha : PE X a ta) (hb : PE X b tb) (hm : behindInMarks op b = false) : PT X (.Compare a [op] [b] pos) (tTest (tOp r ta tb)) := by
  intro pins s σ H Q I h
  refine wpAny_isTrue_Compare1 (thn (ha pins s σ H _ I h) fun v s1 ⟨x, H1, I1, r1, q1⟩ => thn (hb pins s1 σ H1 _ I1 q1) fun u s2 ⟨y, H2, I2, r2, q2⟩ =>
    thn (ho pins s2 σ H2 x y v u _ I2 r1 r2 q2) fun c s3 ⟨z, H3, I3, r3, k, e, q3⟩ => ?_) hm
  subst e
  cases r3
  exact wpAny_truthy_bool ⟨H3, I3, q3⟩
/-- a op1 b op2 c -/
def tChain (r r' : R2) (ta tb tc : TE) : TE := fun σ H Q => ta σ H fun x H1 => tb σ H1 fun y H2 => r x y H2 fun z H3 => ∃ k, z = .bl k ∧
  (if k = true then tc σ H3 fun w' H4 => r' y w' H4 Q else Q (.bl false) H3)
theorem pe_chain {op op' : CmpOp} {r r' : R2} (ho : OpR X (compareOp op) r) (ho' : OpR X (compareOp op') r') (ha : PE X a ta) (hb : PE X b tb) (hc : PE X c tc)
    (hm : lastMarks [op, op'] [b, c] = false := by with_unfolding_all rfl) : PE X (.Compare a [op, op'] [b, c] pos) (tChain r r' ta tb tc) := by
  intro pins s σ H Q I h
  refine Compare_chain (thn (ha pins s σ H _ I h) fun v s1 ⟨x, H1, I1, r1, q1⟩ => chain_link (thn (hb pins s1 σ H1 _ I1 q1) fun u s2 ⟨y, H2, I2, r2, q2⟩ =>
    thn (ho pins s2 σ H2 x y v u _ I2 r1 r2 q2) fun d s3 ⟨z, H3, I3, r3, k, e, q3⟩ => ?_)) hm
  subst e
  cases r3
  refine wpAny_truthy_bool ?_
  cases k with
  | false => exact ite_ff ⟨.bl false, H3, I3, rfl, q3⟩
  | true => exact ite_tt (chain_last (thn (hc pins s3 σ H3 _ I3 q3) fun w' s4 ⟨z', H4, I4, r4, q4⟩ => ho' pins s4 σ H4 y z' u w' Q I4 r2 r4 q4))
theorem pt_chain {op op' : CmpOp} {r r' : R2} (ho : OpR X (compareOp op) r) (ho' : OpR X (compareOp op') r') (ha : PE X a ta) (hb : PE X b tb) (hc : PE X c tc)
    (hm : lastMarks [op, op'] [b, c] = false := by with_unfolding_all rfl) : PT X (.Compare a [op, op'] [b, c] pos) (tTest (tChain r r' ta tb tc)) := by
  intro pins s σ H Q I h
  refine isTrue_chain (thn (ha pins s σ H _ I h) fun v s1 ⟨x, H1, I1, r1, q1⟩ => test_link (thn (hb pins s1 σ H1 _ I1 q1) fun u s2 ⟨y, H2, I2, r2, q2⟩ =>
    thn (ho pins s2 σ H2 x y v u _ I2 r1 r2 q2) fun d s3 ⟨z, H3, I3, r3, k, e, q3⟩ => ?_)) hm
  subst e
  cases r3
  refine wpAny_truthy_bool ?_
  cases k with
  | false =>
    obtain ⟨k', e', q'⟩ := q3
    cases e'
    exact ite_ff ⟨H3, I3, q'⟩
  | true =>
    refine ite_tt (test_last (thn (hc pins s3 σ H3 _ I3 q3) fun w' s4 ⟨z', H4, I4, r4, q4⟩ => thn (ho' pins s4 σ H4 y z' u w' _ I4 r2 r4 q4) fun d' s5 ⟨z2, H5, I5, r5, k2, e2, q5⟩ => ?_))
    subst e2
    cases r5
    exact wpAny_truthy_bool ⟨H5, I5, q5⟩

/-! ### truth -/
/-- a value's truth by the abstract heap -/
def TruV (K : PySem.W.Frag) (x : V) (H : Hp) (k : Bool) : Prop :=
  match x with
  | .non => k = false
  | .bl b => k = b
  | .int i => k = (i != 0)
  | .str y => y.length ≤ sizeLine ∧ k = ((y.length : Int) != 0)
  | .byt y => y.size ≤ sizeLine ∧ k = ((y.size : Int) != 0)
  | .ref p => (∃ xs, SqL K H p xs ∧ k = !xs.isEmpty) ∨ (∃ xs, SqT K H p xs ∧ k = !xs.isEmpty) ∨ ∃ kvs, H p = some (.dK kvs) ∧ k = !kvs.isEmpty
  | _ => False
theorem isEmpty_kv {κ : Type} {kvs : List (κ × V)} {vs : List (κ × Value)} (r : KV kvs vs) : (!vs.isEmpty) = !kvs.isEmpty := by
  cases r <;> rfl
theorem isEmpty_of {xs : List V} {its : List Value} (r : Vals xs its) : (!its.toArray.isEmpty) = !xs.isEmpty := by
  cases r <;> simp
theorem line63 : (sizeLine : Nat) < 2 ^ 63 := by rw [sizeLine_eq]; decide
theorem tru_ok : TruR X (fun x H Q => ∃ k, TruV X.K x H k ∧ Q k H) := by
  intro pins s σ H x v Q I rx h
  obtain ⟨k, e, q⟩ := h
  have hl := line63
  have hs : sizeLine = 16777216 := sizeLine_eq
  cases x with
  | non =>
    cases rx
    have e' : k = false := e
    subst e'
    exact truthy_none ⟨H, I, q⟩
  | bl b =>
    cases rx
    have e' : k = b := e
    subst e'
    exact wpAny_truthy_bool ⟨H, I, q⟩
  | int i =>
    obtain ⟨t, rfl⟩ := rx
    have e' : k = (i != 0) := e
    subst e'
    exact PySem.P.truthy_int ⟨H, I, q⟩
  | str y =>
    obtain ⟨t, rfl⟩ := rx
    obtain ⟨hy, e'⟩ : y.length ≤ sizeLine ∧ k = ((y.length : Int) != 0) := e
    subst e'
    exact PySem.P.truthy_str (by omega) ⟨H, I.tok _, q⟩
  | byt y =>
    obtain ⟨t, rfl⟩ := rx
    obtain ⟨hy, e'⟩ : y.size ≤ sizeLine ∧ k = ((y.size : Int) != 0) := e
    subst e'
    exact PySem.W.truthy_bytes (by omega) ⟨H, I.tok _, q⟩
  | ref p =>
    cases rx
    have e' : (∃ xs, SqL X.K H p xs ∧ k = !xs.isEmpty) ∨ (∃ xs, SqT X.K H p xs ∧ k = !xs.isEmpty) ∨ ∃ kvs, H p = some (.dK kvs) ∧ k = !kvs.isEmpty := e
    rcases e' with ⟨xs, hx, e'⟩ | ⟨xs, hx, e'⟩ | ⟨kvs, hx, e'⟩
    · subst e'
      obtain ⟨its, r, pl, hz⟩ := I.list hx
      have hlen := r.length
      exact wpAny_truthy_list pl.isList (by simp only [List.size_toArray]; omega) ⟨H, I.tok _, by rw [isEmpty_of r]; exact q⟩
    · subst e'
      obtain ⟨its, r, pl, hz⟩ := I.tuple hx
      have hlen := r.length
      exact truthy_tuple pl (by simp only [List.size_toArray]; omega) ⟨H, I.tok _, by rw [isEmpty_of r]; exact q⟩
    · subst e'
      obtain ⟨hz, hS, vs, r, m⟩ : kvs.length ≤ sizeLine ∧ (p == sysModules) = false ∧ ∃ vs, KV kvs vs ∧ s.heap.DictOf (mixKind X.prog X.w) p vs := I.hok p _ hx
      have hlen : kvs.length = vs.length := Paired.length r
      exact wpAny_truthy_dict hS m (by omega) ⟨H, I.tok _, by rw [isEmpty_kv r]; exact q⟩
  | _ => exact (show False from e).elim
/-- any expression whose test is its value's truth (a name, a call, a subscript, a field ..: he by fun _ => rfl) -/
theorem pt_truth (ha : PE X a ta) (he : ∀ whole, isTrue a X.env whole = (do let v ← whole; standAt a.pos; holding [v] (truthy v))) :
    PT X a (fun σ H Q => ta σ H fun x H' => ∃ k, TruV X.K x H' k ∧ Q k H') := by
  intro pins s σ H Q I h
  exact isTrue_plain (thn (ha pins s σ H _ I h) fun v s1 ⟨x, H1, I1, r1, q1⟩ => tru_ok pins s1 σ H1 x v Q I1 r1 q1) (he _)

/-! ### strs and bytes -/
theorem pe_byt {x : List UInt8} {k : Nat} : PE X (.Constant (.bytes x) k pos) (fun _ H Q => Q (.byt x.toArray) H) := fun _ _ _ H _ I h => PySem.W.Constant_bytes ⟨.byt x.toArray, H, I.tok _, ⟨_, rfl⟩, h⟩
theorem op_add_str : OpR X (binaryOp .Add) (fun x y H Q => ∃ i j, x = .str i ∧ y = .str j ∧ i.length + j.length ≤ sizeLine ∧ Q (.str (i ++ j)) H) := by
  intro pins s σ H x y v u Q I rx ry h
  obtain ⟨i, j, rfl, rfl, hz, q⟩ := h
  obtain ⟨t, rfl⟩ := rx
  obtain ⟨t', rfl⟩ := ry
  exact add_str (fun t' tk => ⟨.str (i ++ j), H, I.tok _, ⟨_, rfl⟩, q⟩) hz
theorem iop_add_str : OpR X (inplaceOp .Add) (fun x y H Q => ∃ i j, x = .str i ∧ y = .str j ∧ i.length + j.length ≤ sizeLine ∧ Q (.str (i ++ j)) H) := by
  intro pins s σ H x y v u Q I rx ry h
  obtain ⟨i, j, rfl, rfl, hz, q⟩ := h
  obtain ⟨t, rfl⟩ := rx
  obtain ⟨t', rfl⟩ := ry
  exact iadd_str (fun t' tk => ⟨.str (i ++ j), H, I.tok _, ⟨_, rfl⟩, q⟩) hz
theorem op_add_byt : OpR X (binaryOp .Add) (fun x y H Q => ∃ i j, x = .byt i ∧ y = .byt j ∧ i.size + j.size ≤ 16777216 ∧ Q (.byt (i ++ j)) H) := by
  intro pins s σ H x y v u Q I rx ry h
  obtain ⟨i, j, rfl, rfl, hz, q⟩ := h
  obtain ⟨t, rfl⟩ := rx
  obtain ⟨t', rfl⟩ := ry
  exact PySem.W.KBy.add_bytes hz (fun t' tk => ⟨.byt (i ++ j), H, I.tok _, ⟨_, rfl⟩, q⟩)

def PlainIxT (b : Expr) : Prop := ∀ o i, subscripted b false o i = operate [o, i] (getItem o i)
/-- s[i], 0 ≤ i < len -/
theorem pe_item_str (ha : PE X a ta) (hb : PE X b tb) (hs : PlainIxT b) :
    PE X (.Subscript a b pos) (tOp (fun x y H Q => ∃ z i c, x = .str z ∧ y = .int i ∧ 0 ≤ i ∧ i < 2 ^ 63 ∧ i < z.length ∧ z.cps[i.toNat]? = some c ∧ Q (.str ⟨#[c]⟩) H) ta tb) := by
  intro pins s σ H Q I h
  refine Subscript_ (binT ha hb I h fun v u s2 x y H2 I2 rx ry q => ?_)
  obtain ⟨z, i, c, rfl, rfl, h0, h63, h1, hc, q⟩ := q
  obtain ⟨t, rfl⟩ := rx
  obtain ⟨t', rfl⟩ := ry
  have e : seqIndex? i z.length = some i.toNat := PySem.StrLaws.seqIndex_nonneg h0 h1
  exact tail_any (typeIs_str s2 z t) slot_str_getitem.lookup (getItem_str (c := c) (by
    have e1 : decide (i < -(2 ^ 63 : Int)) = false := decide_eq_false (by omega)
    have e2 : decide (i ≥ 2 ^ 63) = false := decide_eq_false (by omega)
    rw [e1, e2] <;> rfl) (by rw [e]; exact hc) ⟨.str ⟨#[c]⟩, H2, I2.tok _, ⟨_, rfl⟩, q⟩) (hs _ _)
/-- b[i], 0 ≤ i < len -/
theorem pe_item_byt (ha : PE X a ta) (hb : PE X b tb) (hs : PlainIxT b) :
    PE X (.Subscript a b pos) (tOp (fun x y H Q => ∃ (z : List UInt8) (i : Int), x = .byt z.toArray ∧ y = .int i ∧ z.length ≤ sizeLine ∧ 0 ≤ i ∧ i < z.length ∧ Q (.int ((z.getD i.toNat 0).toNat : Nat)) H) ta tb) := by
  intro pins s σ H Q I h
  refine Subscript_ (binT ha hb I h fun v u s2 x y H2 I2 rx ry q => ?_)
  obtain ⟨z, i, rfl, rfl, hz, h0, h1, q⟩ := q
  obtain ⟨t, rfl⟩ := rx
  obtain ⟨t', rfl⟩ := ry
  have hl : sizeLine = 16777216 := sizeLine_eq
  exact tail_any (PySem.W.typeIs_bytes s2 z.toArray t) PySem.W.FB.slot_bytes_getitem.lookup (PySem.W.getItem_bytes (by omega) h0 h1 ⟨.int ((z.getD i.toNat 0).toNat : Nat), H2, I2.tok _, ⟨_, rfl⟩, q⟩) (hs _ _)

/-! ### scalar builtins, by CallR -/
theorem vals1 {x : V} {us : List Value} (r : Vals [x] us) : ∃ u, us = [u] ∧ RelV x u := by
  cases r with
  | cons r1 r2 => cases r2; exact ⟨_, rfl, r1⟩
theorem vals2 {x y : V} {us : List Value} (r : Vals [x, y] us) : ∃ u w', us = [u, w'] ∧ RelV x u ∧ RelV y w' := by
  cases r with
  | cons r1 r2 =>
    cases r2 with
    | cons r3 r4 => cases r4; exact ⟨_, _, rfl, r1, r3⟩
theorem call_abs : CallR X (.builtin "abs") (fun xs H Q => ∃ i, xs = [.int i] ∧ Q (.int (if i < 0 then -i else i)) H) := by
  intro pins s σ H xs us Q I r h
  obtain ⟨i, rfl, q⟩ := h
  obtain ⟨u, rfl, t, rfl⟩ := vals1 r
  exact call_abs_int fun u tk => ⟨.int (if i < 0 then -i else i), H, I.tok _, ⟨_, rfl⟩, q⟩
theorem call_max2 (hc : X.calm = true) : CallR X (.builtin "max") (fun xs H Q => ∃ i j, xs = [.int i, .int j] ∧ Q (.int (if j > i then j else i)) H) := by
  intro pins s σ H xs us Q I r h
  obtain ⟨i, j, rfl, q⟩ := h
  obtain ⟨u, w', rfl, ⟨t, rfl⟩, ⟨t', rfl⟩⟩ := vals2 r
  refine max_two_ints (I.ok.hd hc) fun h' tk k => ⟨_, H, I.kept k, ?_, q⟩
  by_cases hj : j > i
  · rw [if_pos hj, if_pos hj]; exact ⟨_, rfl⟩
  · rw [if_neg hj, if_neg hj]; exact ⟨_, rfl⟩
theorem call_min2 (hc : X.calm = true) : CallR X (.builtin "min") (fun xs H Q => ∃ i j, xs = [.int i, .int j] ∧ Q (.int (if j < i then j else i)) H) := by
  intro pins s σ H xs us Q I r h
  obtain ⟨i, j, rfl, q⟩ := h
  obtain ⟨u, w', rfl, ⟨t, rfl⟩, ⟨t', rfl⟩⟩ := vals2 r
  refine min_two_ints (I.ok.hd hc) fun h' tk k => ⟨_, H, I.kept k, ?_, q⟩
  by_cases hj : j < i
  · rw [if_pos hj, if_pos hj]; exact ⟨_, rfl⟩
  · rw [if_neg hj, if_neg hj]; exact ⟨_, rfl⟩
theorem call_int1 : CallR X (.type "int") (fun xs H Q => (∃ i, xs = [.int i] ∧ Q (.int i) H) ∨ ∃ k, xs = [.bl k] ∧ Q (.int (if k then 1 else 0)) H) := by
  intro pins s σ H xs us Q I r h
  rcases h with ⟨i, rfl, q⟩ | ⟨k, rfl, q⟩
  · obtain ⟨u, rfl, t, rfl⟩ := vals1 r
    exact call_int_int ⟨.int i, H, I, ⟨_, rfl⟩, q⟩
  · obtain ⟨u, rfl, r1⟩ := vals1 r
    cases r1
    exact call_int_bool ⟨.int (if k then 1 else 0), H, I.tok _, ⟨_, rfl⟩, q⟩
theorem call_bool1 : CallR X (.type "bool") (fun xs H Q => (∃ i, xs = [.int i] ∧ Q (.bl (i != 0)) H) ∨ ∃ k, xs = [.bl k] ∧ Q (.bl k) H) := by
  intro pins s σ H xs us Q I r h
  rcases h with ⟨i, rfl, q⟩ | ⟨k, rfl, q⟩
  · obtain ⟨u, rfl, t, rfl⟩ := vals1 r
    exact call_bool_int ⟨.bl (i != 0), H, I, rfl, q⟩
  · obtain ⟨u, rfl, r1⟩ := vals1 r
    cases r1
    exact call_bool_bool ⟨.bl k, H, I, rfl, q⟩
theorem call_str_int : CallR X (.type "str") (fun xs H Q => ∃ i, xs = [.int i] ∧ i.natAbs.log2 < 1920 ∧ Q (.str (toString i)) H) := by
  intro pins s σ H xs us Q I r h
  obtain ⟨i, rfl, hz, q⟩ := h
  obtain ⟨u, rfl, t, rfl⟩ := vals1 r
  exact PySem.P.str_of_int hz ⟨.str _, H, I.tok _, ⟨_, rfl⟩, q⟩
theorem call_ord : CallR X (.builtin "ord") (fun xs H Q => ∃ x, xs = [.str x] ∧ x.length = 1 ∧ Q (.int (x.cps.getD 0 0 : Nat)) H) := by
  intro pins s σ H xs us Q I r h
  obtain ⟨x, rfl, hz, q⟩ := h
  obtain ⟨u, rfl, t, rfl⟩ := vals1 r
  exact ord_of_one hz ⟨.int _, H, I.tok _, ⟨_, rfl⟩, q⟩
theorem call_chr : CallR X (.builtin "chr") (fun xs H Q => ∃ i, xs = [.int i] ∧ 0 ≤ i ∧ i ≤ 1114111 ∧ Q (.str ⟨#[i.toNat]⟩) H) := by
  intro pins s σ H xs us Q I r h
  obtain ⟨i, rfl, h0, h1, q⟩ := h
  obtain ⟨u, rfl, t, rfl⟩ := vals1 r
  exact chr_of_range h0 h1 ⟨.str _, H, I.tok _, ⟨_, rfl⟩, q⟩
/-- len of a str, a bytes, a list, a tuple -/
def LenV (K : PySem.W.Frag) (x : V) (H : Hp) (n : Nat) : Prop :=
  match x with
  | .str y => y.length ≤ sizeLine ∧ n = y.length
  | .byt y => y.size ≤ sizeLine ∧ n = y.size
  | .ref p => (∃ xs, SqL K H p xs ∧ n = xs.length) ∨ ∃ xs, SqT K H p xs ∧ n = xs.length
  | _ => False
theorem call_len : CallR X (.builtin "len") (fun xs H Q => ∃ x n, xs = [x] ∧ LenV X.K x H n ∧ Q (.int n) H) := by
  intro pins s σ H xs us Q I r h
  obtain ⟨x, n, rfl, e, q⟩ := h
  obtain ⟨u, rfl, rx⟩ := vals1 r
  have hl := line63
  have hs : sizeLine = 16777216 := sizeLine_eq
  cases x with
  | str y =>
    obtain ⟨t, rfl⟩ := rx
    obtain ⟨hy, e'⟩ : y.length ≤ sizeLine ∧ n = y.length := e
    subst e'
    exact len_str (by omega) ⟨.int _, H, I.tok _, ⟨_, rfl⟩, q⟩
  | byt y =>
    obtain ⟨t, rfl⟩ := rx
    obtain ⟨hy, e'⟩ : y.size ≤ sizeLine ∧ n = y.size := e
    subst e'
    exact PySem.W.len_bytes (by omega) ⟨.int _, H, I.tok _, ⟨_, rfl⟩, q⟩
  | ref p =>
    cases rx
    have e' : (∃ xs, SqL X.K H p xs ∧ n = xs.length) ∨ ∃ xs, SqT X.K H p xs ∧ n = xs.length := e
    rcases e' with ⟨xs, hx, e'⟩ | ⟨xs, hx, e'⟩
    · subst e'
      obtain ⟨its, r', pl, hz⟩ := I.list hx
      have hlen := r'.length
      exact Calls.call_len_list pl.isList (by simp only [List.size_toArray]; omega) ⟨.int xs.length, H, I.tok _, ⟨_, by simp only [List.size_toArray]; rw [hlen]⟩, q⟩
    · subst e'
      obtain ⟨its, r', pl, hz⟩ := I.tuple hx
      have hlen := r'.length
      exact len_tuple pl (by simp only [List.size_toArray]; omega) ⟨.int xs.length, H, I.tok _, ⟨_, by simp only [List.size_toArray]; rw [hlen]⟩, q⟩
  | _ => exact (show False from e).elim
/-- divmod: a new tuple -/
theorem call_divmod : CallR X (.builtin "divmod") (fun xs H Q => ∃ i j, xs = [.int i, .int j] ∧ CDiv i j ∧ ∀ p, H p = none → Q (.ref p) (upd H p (.tup [.int (i / j), .int (i % j)]))) := by
  intro pins s σ H xs us Q I r h
  obtain ⟨i, j, rfl, ⟨h1, h2⟩, q⟩ := h
  obtain ⟨u, w', rfl, ⟨t, rfl⟩, ⟨t', rfl⟩⟩ := vals2 r
  refine divmod_int (by omega) ?_ (.inl (PyProof.noPylong_small (by omega)))
  rw [Int.fdiv_eq_ediv_of_nonneg i (by omega), Int.fmod_eq_emod_of_nonneg i (by omega)]
  have hn : H s.heap.objs.size = none := I.hok.fresh (Nat.le_refl _)
  refine ⟨.ref s.heap.objs.size, _, ?_, rfl, q _ hn⟩
  refine I.laid (fun b o e => Heap.get?_push_of_some _ e) (Nat.le_refl _) ⟨by simp only [List.length_cons, List.length_nil]; rw [sizeLine_eq]; decide, [.int (i / j) s.toks, .int (i % j) (s.toks + 1)], .cons ⟨_, rfl⟩ (.cons ⟨_, rfl⟩ .nil), ?_⟩
  exact ⟨_, Heap.get?_push_size s.heap rfl, rfl, 0, rfl⟩
end
end L2

namespace L2
open PySem PySem.Spec PyProof.Rows

/-! ### an instance, its attributes a map -/
structure ObjM (h : Heap) (x dx C : Addr) (mA : Str → Option Value) : Prop where
  obj : h.get? x = some (PySem.W.instObj C dx)
  ns : h.Ns1 dx mA
  ne : dx ≠ x

theorem lookIn_ns {h : Heap} {dx : Addr} {mA : Str → Option Value} (n : h.Ns1 dx mA) : ∃ od, h.get? dx = some od ∧ ∀ name, PySem.W.lookIn name od = some (mA name) := by
  obtain ⟨o, es, ep, ho, hd, hk, _, hm⟩ := n
  refine ⟨o, ho, fun name => ?_⟩
  have e := hm name
  unfold nsFind findBy at e
  rw [← Array.find?_toList] at e
  unfold PySem.W.lookIn
  rw [hd]
  dsimp only
  split
  · rename_i y q
    rw [q] at e
    exact congrArg some e
  · rename_i q
    rw [q] at e
    have a : es.toList.any (·.refKey) = false := by
      rw [List.any_eq_false]
      intro y hy
      obtain ⟨z, t, hkey⟩ := hk y (Array.mem_toList_iff.mp hy)
      simp [DictEntry.refKey, hkey]
    have a' : ¬ es.toList.any (·.refKey) = true := by rw [a]; exact Bool.false_ne_true
    rw [if_neg a']
    exact congrArg some e

theorem ObjM.look {h : Heap} {x dx C : Addr} {mA : Str → Option Value} (I : ObjM h x dx C mA) : ∃ od, PySem.W.InstAt h x (PySem.W.instObj C dx) C (some od) ∧ ∀ name, PySem.W.lookIn name od = some (mA name) :=
  let ⟨od, ho, hl⟩ := lookIn_ns I.ns
  ⟨od, ⟨I.obj, rfl, rfl, ho⟩, hl⟩

section
variable {prog : Program} {w : World} {A : Around} {E : Value → Shared → Prop} {s : Shared} {K : PySem.W.Frag} {x dx C f : Addr} {mA : Str → Option Value} {name : Str} {v : Value}

theorem get_map {expr : Bool} {Q : Value → Shared → Prop} (X : K.In s.heap) (I : ObjM s.heap x dx C mA) (hg : PySem.W.plainGet K C name = true) (hh : PySem.W.hasDictIn K C = true)
    (ha : PySem.W.findIn K (.ref C) name = some none) (hv : mA name = some v) (hv' : PySem.W.handedIn v = true) (h : Q v { s with toks := s.toks + 1 }) :
    wpAny (model prog w) A (getAttr (.ref x) name expr) Q E s := by
  obtain ⟨od, J, hl⟩ := I.look
  exact PySem.W.get_value X J (PySem.W.plainGet_of hg).1 (PySem.W.findObj_own hh ha rfl (by rw [hl, hv])) hv' h

theorem get_const {expr : Bool} {a : Value} {Q : Value → Shared → Prop} (X : K.In s.heap) (I : ObjM s.heap x dx C mA) (hg : PySem.W.plainGet K C name = true) (hh : PySem.W.hasDictIn K C = true)
    (ha : PySem.W.findIn K (.ref C) name = some (some a)) (hn : PySem.W.specialIn K a "__get__" = some none) (hc : PySem.W.copiedNames.contains name = false) (hv : mA name = none) (hv' : PySem.W.handedIn a = true)
    (h : Q a { s with toks := s.toks + 1 }) : wpAny (model prog w) A (getAttr (.ref x) name expr) Q E s := by
  obtain ⟨od, J, hl⟩ := I.look
  exact PySem.W.get_value X J (PySem.W.plainGet_of hg).1 (PySem.W.findObj_cls hh ha hn hv' hc (by rw [hl, hv])) hv' h

theorem get_meth {pl : Sem Bool} {Q : Value × List Value → Shared → Prop} (X : K.In s.heap) (I : ObjM s.heap x dx C mA) (hg : PySem.W.plainGet K C name = true)
    (hf : PySem.W.findIn K (.ref C) name = some (some (.ref f))) (ht : PySem.W.isFn K (.ref f) = true) (hv : mA name = none) (h : Q (.ref f, [.ref x]) s) :
    wpAny (model prog w) A (getMethod (.ref x) name pl) Q E s := by
  obtain ⟨od, J, hl⟩ := I.look
  exact PySem.W.method_fn X J (PySem.W.plainGet_of hg).1 (PySem.W.plainGet_of hg).2 hf (beq_iff_eq.mp ht) (by show (PySem.W.lookIn name od).map (·.isSome) = some false; rw [hl, hv]; rfl) h

theorem set_map {ns : List Str} {Q : Unit → Shared → Prop} (X : K.In s.heap) (I : ObjM s.heap x dx C mA)
    (hs : PySem.W.findIn K (.ref C) "__setattr__" = some (some (.builtin "object.__setattr__"))) (hp : PySem.W.plainOver K C = true) (ht : PySem.W.takerIn K C name = some none) (hh : PySem.W.hasDictIn K C = true)
    (hw : PySem.Within mA ns) (hsz : ns.length ≤ sizeLine)
    (h : ∀ h', ObjM h' x dx C (fun y => if y = name then some v else mA y) → Heap.SameBut dx s.heap h' → Q () { s with heap := h', toks := s.toks + 2 }) :
    wpAny (model prog w) A (setAttr (.ref x) name v) Q E s := by
  obtain ⟨od, J, hl⟩ := I.look
  refine PySem.W.set_plain X J hs (PySem.W.osa_open (s := { s with toks := s.toks + 1 }) (r := none) X J hp ht fun b => ?_)
  obtain ⟨cd, hc, hd'⟩ := PySem.W.any_some hh
  have hx : s.heap.get? x = some ⟨.ref C, some dx, .plain, #[]⟩ := I.obj
  refine wpAny_bind (wpAny_pure (wpAny_bind (wpAny_bind (wpAny_loadPart hx (wpAny_bind (PySem.W.Looks.here (s := { s with toks := s.toks + 1 }) (PySem.W.looks_clsIn X hc) ?_))))))
  rw [hd']
  refine wpAny_pure (a := some dx) (wpAny_bind (wpAny_pure (wpAny_bind ?_)))
  refine wpAny_nsSet1 (s := { s with toks := s.toks + 1 }) I.ns fun h' hn2 hs2 => ?_
  obtain ⟨oD, esD, epD, hoD, hdD, hcD⟩ := hn2.count (PySem.Within.cons name v hw)
  refine wpAny_bind (wpAny_lookBehind hoD (by rw [hdD]; exact pastItsLine_dict (Nat.le_trans hcD (by rw [List.length_cons]; omega))) ?_)
  exact wpAny_pure (h _ ⟨(hs2.2 _ (Ne.symm I.ne)).trans I.obj, hn2, I.ne⟩ hs2)

/-- C(..): the dict at the heap's end, the instance behind it; then its __init__ -/
theorem make_map {R : Result → Shared → Prop} {vs : List Value} {kw : List (Str × Value)} (X : K.In s.heap) (hm : PySem.W.makesIn K C = true)
    (hi : PySem.W.findIn K (.ref C) "__init__" = some (some (.ref f))) (hf : PySem.W.typeIn K (.ref f) = some (.type "function"))
    (h : codeAny (model prog w) (A.under (.builtin "type.__call__" ⟨.ref C :: vs, kw⟩)) (.call (.ref f) ⟨.ref (s.heap.objs.size + 1) :: vs, kw⟩) (PySem.W.InitBack (s.heap.objs.size + 1) R)
      { s with heap := (s.heap.push PySem.W.emptyDict).push (PySem.W.instObj C s.heap.objs.size) }) :
    codeAny (model prog w) A (.call (.ref C) ⟨vs, kw⟩) R s := by
  obtain ⟨hh, g, d, t, os⟩ := s
  exact PySem.W.make_core (PySem.W.makes_of X hm) (PySem.W.looks_findIn X hi) (fun self => PySem.W.bind_fn X self hf) (.inl rfl) h
/-- C() where there is no __init__ but object's -/
theorem make_map0 {R : Result → Shared → Prop} (X : K.In s.heap) (hm : PySem.W.makesIn K C = true)
    (hi : PySem.W.findIn K (.ref C) "__init__" = some (some (.builtin "object.__init__")))
    (hb : ∀ self, PySem.W.Looks (model prog w) s.heap (bindSpecial (.builtin "object.__init__") self) (.builtin "object.__init__", [self]))
    (h : codeAny (model prog w) (A.under (.builtin "type.__call__" ⟨[.ref C], []⟩)) (.call (.builtin "object.__init__") ⟨[.ref (s.heap.objs.size + 1)], []⟩) (PySem.W.InitBack (s.heap.objs.size + 1) R)
      { s with heap := (s.heap.push PySem.W.emptyDict).push (PySem.W.instObj C s.heap.objs.size) }) :
    codeAny (model prog w) A (.call (.ref C) ⟨[], []⟩) R s := by
  obtain ⟨hh, g, d, t, os⟩ := s
  exact PySem.W.make_core (PySem.W.makes_of X hm) (PySem.W.looks_findIn X hi) hb (.inr ⟨rfl, rfl⟩) h
end

/-! ### the attributes as a list of pairs -/
def putF (f : Str) (v : V) : List (Str × V) → List (Str × V)
  | [] => [(f, v)]
  | (g, x) :: r => if g = f then (g, v) :: r else (g, x) :: putF f v r
theorem lookup_putF (f g : Str) (v : V) : ∀ fs : List (Str × V), (putF f v fs).lookup g = if g = f then some v else fs.lookup g
  | [] => by
    show List.lookup g [(f, v)] = _
    by_cases h : g = f
    · have hb : (g == f) = true := beq_iff_eq.mpr h
      simp only [List.lookup, hb, if_pos h]
    · have hb : (g == f) = false := beq_eq_false_iff_ne.mpr h
      simp only [List.lookup, hb, if_neg h]
  | (k, x) :: r => by
    have ih := lookup_putF f g v r
    rw [show putF f v ((k, x) :: r) = (if k = f then (k, v) :: r else (k, x) :: putF f v r) from rfl]
    by_cases hk : k = f
    · rw [if_pos hk]
      by_cases h : g = k
      · have hb : (g == k) = true := beq_iff_eq.mpr h
        simp only [List.lookup, hb, if_pos (h.trans hk)]
      · have hb : (g == k) = false := beq_eq_false_iff_ne.mpr h
        simp only [List.lookup, hb, if_neg (fun e : g = f => h (e.trans hk.symm))]
    · rw [if_neg hk]
      by_cases h : g = k
      · have hb : (g == k) = true := beq_iff_eq.mpr h
        simp only [List.lookup, hb, if_neg (fun e : g = f => hk (h.symm.trans e))]
      · have hb : (g == k) = false := beq_eq_false_iff_ne.mpr h
        simp only [List.lookup, hb]
        exact ih
theorem keys_putF (f : Str) (v : V) : ∀ fs : List (Str × V), f ∈ (putF f v fs).map (·.1) ∧ ∀ g, g ∈ fs.map (·.1) → g ∈ (putF f v fs).map (·.1)
  | [] => ⟨by simp [putF], fun g h => by simp at h⟩
  | (k, x) :: r => by
    obtain ⟨i1, i2⟩ := keys_putF f v r
    rw [show putF f v ((k, x) :: r) = (if k = f then (k, v) :: r else (k, x) :: putF f v r) from rfl]
    by_cases hk : k = f
    · rw [if_pos hk]
      subst hk
      exact ⟨by simp, fun g h => by simpa using h⟩
    · rw [if_neg hk]
      refine ⟨?_, fun g h => ?_⟩
      · rw [List.map_cons]
        exact List.mem_cons_of_mem _ i1
      · rw [List.map_cons] at h ⊢
        rcases List.mem_cons.mp h with e | e
        · exact List.mem_cons.mpr (.inl e)
        · exact List.mem_cons_of_mem _ (i2 g e)
theorem length_putF (f : Str) (v : V) : ∀ fs : List (Str × V), (putF f v fs).length ≤ fs.length + 1
  | [] => by simp [putF]
  | (k, x) :: r => by
    have ih := length_putF f v r
    rw [show putF f v ((k, x) :: r) = (if k = f then (k, v) :: r else (k, x) :: putF f v r) from rfl]
    by_cases hk : k = f
    · rw [if_pos hk, List.length_cons, List.length_cons]; omega
    · rw [if_neg hk, List.length_cons, List.length_cons]; omega

theorem RelO.some_of {v : V} {o : Option Value} (r : RelO (some v) o) : ∃ u, o = some u ∧ RelV v u := by
  cases o with
  | none => exact (show False from r).elim
  | some u => exact ⟨u, rfl, r⟩
theorem RelO.none_of {o : Option Value} (r : RelO none o) : o = none := by
  cases o with
  | none => rfl
  | some u => exact (show False from r).elim
theorem handed_of {v : V} {u : Value} (r : RelV v u) : PySem.W.handedIn u = true := by
  cases v with
  | non => cases (show u = Value.none from r); rfl
  | bl b => cases (show u = Value.bool b from r); rfl
  | int i => obtain ⟨t, e⟩ := (show ∃ t, u = Value.int i t from r); cases e; rfl
  | str x => obtain ⟨t, e⟩ := (show ∃ t, u = Value.str x t from r); cases e; rfl
  | byt b => obtain ⟨t, e⟩ := (show ∃ t, u = Value.bytes b t from r); cases e; rfl
  | flt b => obtain ⟨t, e⟩ := (show ∃ t, u = Value.float b t from r); cases e; rfl
  | ref a => cases (show u = Value.ref a from r); rfl
  | ty n => cases (show u = Value.type n from r); rfl

section
variable {P : Program} {w : World} {H H' : Hp} {h h' : Heap} {a C dx : Addr} {fs fs' : List (Str × V)}
theorem ins_get (hok : HOk P w H h) (e : H a = some (.ins C dx fs)) : ∃ mA, ObjM h a dx C mA ∧ (∀ f, RelO (fs.lookup f) (mA f)) ∧ PySem.Within mA (fs.map (·.1)) ∧ fs.length ≤ 1000 ∧ H dx = some (.own a) := by
  obtain ⟨d, z, ne, ob, mA, n, r, q⟩ := (show ObjOk P w H h a (.ins C dx fs) from hok a _ e)
  exact ⟨mA, ⟨ob, n, ne⟩, r, q, z, d⟩
end

/-! ### what of the text a class must have -/
structure Cls (K : PySem.W.Frag) (C : Addr) : Prop where
  pg : PySem.W.plainGet K C Str.empty = true
  hd : PySem.W.hasDictIn K C = true
  po : PySem.W.plainOver K C = true
  sa : PySem.W.findIn K (.ref C) "__setattr__" = some (some (.builtin "object.__setattr__"))
theorem Cls.get {K : PySem.W.Frag} {C : Addr} (c : Cls K C) (f : Str) : PySem.W.plainGet K C f = true := c.pg
/-- no class of it has the name -/
def NoAttr (K : PySem.W.Frag) (C : Addr) (f : Str) : Prop := PySem.W.findIn K (.ref C) f = some none
theorem NoAttr.taker {K : PySem.W.Frag} {C : Addr} {f : Str} (n : NoAttr K C f) : PySem.W.takerIn K C f = some none := by
  unfold PySem.W.takerIn
  rw [show PySem.W.findIn K (.ref C) f = some none from n]
  rfl
/-- a constant of the class -/
structure Con (K : PySem.W.Frag) (C : Addr) (f : Str) (v : V) (u : Value) : Prop where
  at_ : PySem.W.findIn K (.ref C) f = some (some u)
  rel : RelV v u
  get : PySem.W.specialIn K u "__get__" = some none
  cp : PySem.W.copiedNames.contains f = false
/-- a method: a plain def of the class or of one above it -/
structure Meth (K : PySem.W.Frag) (C : Addr) (m : Str) (f : Addr) : Prop where
  at_ : PySem.W.findIn K (.ref C) m = some (some (.ref f))
  fn : PySem.W.isFn K (.ref f) = true
  kp : PySem.W.keepIn K (.ref f) = true

section
variable {X : Cx} {pins : List (Addr × Obj)} {σ : St} {H : Hp} {s : Shared} {a C dx : Addr} {fs : List (Str × V)} {f : Str} {v : V} {A : Around} {E : Value → Shared → Prop}

theorem getattr_ok {b : Bool} {Q : Value → Shared → Prop} (I : Inv X pins σ H s) (e : H a = some (.ins C dx fs)) (c : Cls X.K C) (n : NoAttr X.K C f) (l : fs.lookup f = some v)
    (h : ∀ u s', Inv X pins σ H s' → RelV v u → Q u s') : wpAny (model X.prog X.w) A (getAttr (.ref a) f b) Q E s := by
  obtain ⟨mA, O, r, _, _, _⟩ := ins_get I.hok e
  obtain ⟨u, hu, ru⟩ := RelO.some_of (v := v) (o := mA f) (by rw [← l]; exact r f)
  exact get_map I.kIn O (c.get f) c.hd n hu (handed_of ru) (h u _ (I.tok _) ru)

theorem getcon_ok {b : Bool} {u : Value} {Q : Value → Shared → Prop} (I : Inv X pins σ H s) (e : H a = some (.ins C dx fs)) (c : Cls X.K C) (k : Con X.K C f v u) (l : fs.lookup f = none)
    (h : ∀ s', Inv X pins σ H s' → Q u s') : wpAny (model X.prog X.w) A (getAttr (.ref a) f b) Q E s := by
  obtain ⟨mA, O, r, _, _, _⟩ := ins_get I.hok e
  have hn : mA f = none := RelO.none_of (by rw [← l]; exact r f)
  exact get_const I.kIn O (c.get f) c.hd k.at_ k.get k.cp hn (handed_of k.rel) (h _ (I.tok _))

theorem getmeth_ok {m : Str} {g : Addr} {pl : Sem Bool} {Q : Value × List Value → Shared → Prop} (I : Inv X pins σ H s) (e : H a = some (.ins C dx fs)) (c : Cls X.K C) (k : Meth X.K C m g) (l : fs.lookup m = none)
    (h : Q (.ref g, [.ref a]) s) : wpAny (model X.prog X.w) A (getMethod (.ref a) m pl) Q E s := by
  obtain ⟨mA, O, r, _, _, _⟩ := ins_get I.hok e
  have hn : mA m = none := RelO.none_of (by rw [← l]; exact r m)
  exact get_meth I.kIn O (c.get m) k.at_ k.fn hn h

theorem setattr_ok {y : V} {u : Value} {Q : Unit → Shared → Prop} (I : Inv X pins σ H s) (e : H a = some (.ins C dx fs)) (c : Cls X.K C) (n : NoAttr X.K C f) (hl : fs.length < 1000) (ry : RelV y u)
    (h : ∀ s', Inv X pins σ (upd H a (.ins C dx (putF f y fs))) s' → Q () s') : wpAny (model X.prog X.w) A (setAttr (.ref a) f u) Q E s := by
  obtain ⟨mA, O, r, wi, _, ho⟩ := ins_get I.hok e
  have hz : (fs.map (·.1)).length ≤ sizeLine := by rw [List.length_map, sizeLine_eq]; omega
  refine set_map I.kIn O c.sa c.po n.taker c.hd wi hz fun h' O' sb => h _ ?_
  have hd : ∃ o, h'.get? dx = some o := let ⟨o, _, _, e', _⟩ := O'.ns; ⟨o, e'⟩
  refine I.write (x := a) (e := dx) (by rw [e]; exact True.intro) (.inr ho) (fun b q hb z => (sb.2 b hb).trans z) hd ?_
  refine ⟨by rw [upd_ne O.ne]; exact ho, ?_, O.ne, O'.obj, _, O'.ns, fun g => ?_, fun g hg => ?_⟩
  · have := length_putF f y fs; omega
  · show RelO ((putF f y fs).lookup g) (if g = f then some u else mA g)
    rw [lookup_putF]
    by_cases q : g = f
    · rw [if_pos q, if_pos q]; exact ry
    · rw [if_neg q, if_neg q]; exact r g
  · by_cases q : g = f
    · rw [q]; exact (keys_putF f y fs).1
    · refine (keys_putF f y fs).2 g (wi g fun z => hg ?_)
      show (if g = f then some u else mA g) = none
      rw [if_neg q]; exact z

/-- a new instance, tracked, without attributes -/
theorem Inv.made (I : Inv X pins σ H s) : Inv X pins σ (upd (upd H s.heap.objs.size (.own (s.heap.objs.size + 1))) (s.heap.objs.size + 1) (.ins C s.heap.objs.size []))
    { s with heap := (s.heap.push PySem.W.emptyDict).push (PySem.W.instObj C s.heap.objs.size) } := by
  have e1 : (s.heap.push PySem.W.emptyDict).get? s.heap.objs.size = some PySem.W.emptyDict := Heap.get?_push_size s.heap rfl
  have e2 : ((s.heap.push PySem.W.emptyDict).push (PySem.W.instObj C s.heap.objs.size)).get? (s.heap.objs.size + 1) = some (PySem.W.instObj C s.heap.objs.size) := by
    have := Heap.get?_push_size (s.heap.push PySem.W.emptyDict) (o := PySem.W.instObj C s.heap.objs.size) rfl
    rwa [Heap.size_push] at this
  have e3 : (s.heap.push PySem.W.emptyDict).Ns s.heap.objs.size (fun _ => none) := ⟨PySem.W.emptyDict, #[], _, e1, rfl, (fun e he => absurd he (by simp)), fun _ => rfl⟩
  have I1 := I.laid (a := s.heap.objs.size) (o := .own (s.heap.objs.size + 1)) (h' := s.heap.push PySem.W.emptyDict) (t' := s.toks) (fun b u q => Heap.get?_push_of_some _ q) (Nat.le_refl _) ⟨_, e1⟩
  refine I1.laid (a := s.heap.objs.size + 1) (o := .ins C s.heap.objs.size []) (t' := s.toks) (fun b u q => Heap.get?_push_of_some _ q) (Nat.le_of_eq (Heap.size_push _ _)) ?_
  have ne : s.heap.objs.size ≠ s.heap.objs.size + 1 := Nat.ne_of_lt (Nat.lt_succ_self _)
  refine ⟨by rw [upd_ne ne, upd_same], Nat.zero_le _, ne, e2, fun _ => none, (Heap.Ns1.of_empty e3).at fun o q => Heap.get?_push_of_some _ q, fun _ => True.intro, fun y hy => absurd rfl hy⟩

/-- e.f where nothing but the object is asked: through attributeBase (super) and the last hold -/
theorem attr_of {prog : Program} {w : World} {env : Env} {e : Expr} {f : Str} {pos : Pos} {s : Shared} {Q : Value → Shared → Prop} (hb : attributeBase e f env (eval e env) = eval e env)
    (h : wpAny (model prog w) A (eval e env) (fun o s₁ => wpAny (model prog w) A (getAttr o f true) Q E s₁) E s) : wpAny (model prog w) A (eval (.Attribute e f pos) env) Q E s :=
  Attribute_any_ h (by rw [arm_eval_Attribute, hb])
end

/-! ### readings and rules -/
/-- e.f, an attribute of the instance -/
def tFld (K : PySem.W.Frag) (ta : TE) (f : Str) : TE := fun σ H Q => ta σ H fun x H1 => ∃ a C dx fs v, x = .ref a ∧ H1 a = some (.ins C dx fs) ∧ Cls K C ∧ NoAttr K C f ∧ fs.lookup f = some v ∧ Q v H1
/-- e.f, a constant of the class -/
def tCon (K : PySem.W.Frag) (ta : TE) (f : Str) : TE := fun σ H Q => ta σ H fun x H1 => ∃ a C dx fs v u, x = .ref a ∧ H1 a = some (.ins C dx fs) ∧ Cls K C ∧ Con K C f v u ∧ fs.lookup f = none ∧ Q v H1
/-- e.f = value -/
def sFld (K : PySem.W.Frag) (ta tv : TE) (f : Str) : TS := fun D σ H => tv σ H fun y H1 => ta σ H1 fun x H2 => ∃ a C dx fs, x = .ref a ∧ H2 a = some (.ins C dx fs) ∧ Cls K C ∧ NoAttr K C f ∧ fs.length < 1000 ∧
  D.nx σ (upd H2 a (.ins C dx (putF f y fs)))
/-- an augmented operator on two values -/
def InOp (X : Cx) (op : Operator) (rd : V → V → Hp → VK → Prop) : Prop :=
  ∀ (pins : List (Addr × Obj)) (s : Shared) (σ : St) (H : Hp) (x y : V) (u v : Value) (Q : VK), Inv X pins σ H s → RelV x u → RelV y v → rd x y H Q → wpAny (model X.prog X.w) X.A (inplaceOp op u v) (EP X pins σ Q) X.xe s
/-- e.f op= value -/
def sFldAug (K : PySem.W.Frag) (ta tv : TE) (rd : V → V → Hp → VK → Prop) (f : Str) : TS := fun D σ H => ta σ H fun x H1 => ∃ a C dx fs v, x = .ref a ∧ H1 a = some (.ins C dx fs) ∧ Cls K C ∧ NoAttr K C f ∧ fs.lookup f = some v ∧
  tv σ H1 fun y H2 => rd v y H2 fun z H3 => ∃ dx' fs', H3 a = some (.ins C dx' fs') ∧ fs'.length < 1000 ∧ D.nx σ (upd H3 a (.ins C dx' (putF f z fs')))

section
variable {X : Cx} {o e value : Expr} {f : Str} {pos pos' tpos : Pos} {ta tv : TE}
theorem pe_fld (he : PE X e ta) (hb : attributeBase e f X.env (eval e X.env) = eval e X.env) : PE X (.Attribute e f pos) (tFld X.K ta f) := by
  intro pins s σ H Q I h
  refine attr_of hb (thn (he pins s σ H _ I h) fun u s1 ⟨x, H1, I1, rx, a, C, dx, fs, v, ex, ea, c, n, l, q⟩ => ?_)
  subst ex
  obtain rfl : u = Value.ref a := rx
  exact getattr_ok I1 ea c n l fun u' s2 I2 ru => ⟨v, H1, I2, ru, q⟩
theorem pe_con (he : PE X e ta) (hb : attributeBase e f X.env (eval e X.env) = eval e X.env) : PE X (.Attribute e f pos) (tCon X.K ta f) := by
  intro pins s σ H Q I h
  refine attr_of hb (thn (he pins s σ H _ I h) fun u s1 ⟨x, H1, I1, rx, a, C, dx, fs, v, u0, ex, ea, c, k, l, q⟩ => ?_)
  subst ex
  obtain rfl : u = Value.ref a := rx
  exact getcon_ok I1 ea c k l fun s2 I2 => ⟨v, H1, I2, k.rel, q⟩
theorem ps_fld (ha : PE X o ta) (hv : PE X value tv) (hs : swapsWith value (some (.Attribute o f pos')) pos.line X.env = pure false) : PS X (.Assign [.Attribute o f pos'] value pos) (sFld X.K ta tv f) := by
  intro pins s σ H D I h
  refine plainObj_wpAny_Assign_Attribute (thn (hv pins s σ H _ I h) fun u s1 ⟨y, H1, I1, ry, q⟩ => thn (ha pins s1 σ H1 _ I1 q) fun ov s2 ⟨x, H2, I2, rx, a, C, dx, fs, ex, ea, c, n, l, q2⟩ => ?_) hs
  subst ex
  obtain rfl : ov = Value.ref a := rx
  exact setattr_ok I2 ea c n l ry fun s3 I3 => ⟨σ, _, I3, q2⟩
theorem ps_fldaug {op : Operator} {rd : V → V → Hp → VK → Prop} (ha : PE X o ta) (hv : PE X value tv) (hop : InOp X op rd) : PS X (.AugAssign (.Attribute o f tpos) op value pos) (sFldAug X.K ta tv rd f) := by
  intro pins s σ H D I h
  refine wpAny_AugAssign_AttributeAny (thn (ha pins s σ H _ I h) fun ov s1 ⟨x, H1, I1, rx, a, C, dx, fs, v, ex, ea, c, n, l, q⟩ => ?_)
  subst ex
  obtain rfl : ov = Value.ref a := rx
  refine getattr_ok I1 ea c n l fun u s2 I2 ru => thn (hv pins s2 σ H1 _ I2 q) fun w3 s3 ⟨y, H2, I3, ry, q3⟩ => thn (hop pins s3 σ H2 v y u w3 _ I3 ru ry q3) fun w4 s4 ⟨z, H3, I4, rz, dx', fs', ea', l', q4⟩ => ?_
  exact setattr_ok I4 ea' c n l' rz fun s5 I5 => ⟨σ, _, I5, q4⟩
def rAdd : V → V → Hp → VK → Prop := fun x y H Q => ∃ i j, x = .int i ∧ y = .int j ∧ Q (.int (i + j)) H
def rSub : V → V → Hp → VK → Prop := fun x y H Q => ∃ i j, x = .int i ∧ y = .int j ∧ Q (.int (i - j)) H
theorem in_add : InOp X .Add rAdd := by
  rintro pins s σ H x y u v Q I rx ry ⟨i, j, rfl, rfl, q⟩
  obtain ⟨t, rfl⟩ := (show ∃ t, u = Value.int i t from rx)
  obtain ⟨t', rfl⟩ := (show ∃ t', v = Value.int j t' from ry)
  exact PyProof.Rows.iadd_int ⟨.int (i + j), H, I.tok _, ⟨_, rfl⟩, q⟩
theorem in_sub : InOp X .Sub rSub := by
  rintro pins s σ H x y u v Q I rx ry ⟨i, j, rfl, rfl, q⟩
  obtain ⟨t, rfl⟩ := (show ∃ t, u = Value.int i t from rx)
  obtain ⟨t', rfl⟩ := (show ∃ t', v = Value.int j t' from ry)
  exact PyProof.Rows.isub_int ⟨.int (i - j), H, I.tok _, ⟨_, rfl⟩, q⟩

/-- what is between an instance and its method: the tree of a method call -/
theorem methcall_of {pl : Sem Bool} {m : Str} {apos : Pos} {args : List Expr} {pins : List (Addr × Obj)} {s : Shared} {σ : St} {H : Hp} {Q : Value → Shared → Prop} {te : TE} (he : PE X e te) (I : Inv X pins σ H s)
    (h : te σ H fun x H1 => ∃ a C dx fs g, x = .ref a ∧ H1 a = some (.ins C dx fs) ∧ Cls X.K C ∧ Meth X.K C m g ∧ fs.lookup m = none ∧
      ∀ s1, Inv X pins σ H1 s1 → wpAny (model X.prog X.w) X.A (callWith pos (.ref g) [.ref a] (backTo pos (starEach args X.env)) (backToKw pos (keywordEach [] X.env))) Q X.xe s1)
    (ht : eval (.Call (.Attribute e m apos) args [] pos) X.env = (do
      let ov ← eval e X.env
      standAt apos.atName
      let (f, first) ← holding [ov] (getMethod ov m pl)
      callWith pos f first (backTo pos (starEach args X.env)) (backToKw pos (keywordEach [] X.env)))) :
    wpAny (model X.prog X.w) X.A (eval (.Call (.Attribute e m apos) args [] pos) X.env) Q X.xe s := by
  refine PySem.W.methodCall_KW (pl := pl) (thn (he pins s σ H _ I h) fun u s1 ⟨x, H1, I1, rx, a, C, dx, fs, g, ex, ea, c, k, l, q⟩ => ?_) ht
  subst ex
  obtain rfl : u = Value.ref a := rx
  exact getmeth_ok I1 ea c k l (q s1 I1)
end

/-! ### isinstance -/
section
variable {X : Cx} {pins : List (Addr × Obj)} {σ : St} {H : Hp} {s : Shared} {A : Around} {E : Value → Shared → Prop} {Q : Value → Shared → Prop} {c : Value} {b : Bool}
/-- the type of a value, as the fragment's deciders take it; for an instance its class -/
inductive TyOf (K : PySem.W.Frag) (H : Hp) : V → Value → Prop where
  | non : TyOf K H .non (.type "NoneType")
  | bl (x : Bool) : TyOf K H (.bl x) (.type "bool")
  | int (i : Int) : TyOf K H (.int i) (.type "int")
  | str (x : Str) : TyOf K H (.str x) (.type "str")
  | flt (x : UInt64) : TyOf K H (.flt x) (.type "float")
  | lst {a : Addr} {xs : List V} (e : H a = some (.lst xs)) : TyOf K H (.ref a) (.type "list")
  | frz {a : Addr} {o : Obj} {xs : List V} (e : H a = some (.frz o (.lst xs))) : TyOf K H (.ref a) (.type "list")
  | tup {a : Addr} {xs : List V} (e : H a = some (.tup xs)) : TyOf K H (.ref a) (.type "tuple")
  | dK {a : Addr} {kvs : List (Key × V)} (e : H a = some (.dK kvs)) : TyOf K H (.ref a) (.type "dict")
  | dT {a : Addr} {kvs : List (List Key × V)} (e : H a = some (.dT kvs)) : TyOf K H (.ref a) (.type "dict")
  | ins {a C dx : Addr} {fs : List (Str × V)} (e : H a = some (.ins C dx fs)) (cl : Cls K C) (ha : PySem.W.findIn K (.ref C) "__class__" = some (some (.builtin "object.__class__")))
      (hn : PySem.W.specialIn K (.builtin "object.__class__") "__get__" = some (some (.builtin "getset_descriptor.__get__"))) (htk : PySem.W.takesIn K (.builtin "object.__class__") = some true)
      (hm : PySem.W.mroIn K C (.type "object") = some true) : TyOf K H (.ref a) (.ref C)
/-- isinstance(x, c) for one class c, a built-in or an own one: kitOne's answer -/
theorem isinst_ok {x : V} {u t : Value} (I : Inv X pins σ H s) (rx : RelV x u) (ty : TyOf X.K H x t) (e : PySem.W.kitOne X.K t c = some b) (h : ∀ tk, Q (.bool b) { s with toks := tk }) :
    wpAny (model X.prog X.w) A (call (.builtin "isinstance") [u, c]) Q E s := by
  cases ty with
  | non => cases (show u = Value.none from rx); exact PySem.W.kia_one PySem.W.kitx_none I.kIn True.intro e (fun z => nomatch z) h
  | bl y => cases (show u = Value.bool y from rx); exact PySem.W.kia_one PySem.W.kitx_bool I.kIn True.intro e (fun z => nomatch z) h
  | int i => obtain ⟨t, q⟩ := (show ∃ t, u = Value.int i t from rx); cases q; exact PySem.W.kia_one PySem.W.kitx_int I.kIn True.intro e (fun z => nomatch z) h
  | str y => obtain ⟨t, q⟩ := (show ∃ t, u = Value.str y t from rx); cases q; exact PySem.W.kia_one PySem.W.kitx_str I.kIn True.intro e (fun z => nomatch z) h
  | flt y => obtain ⟨t, q⟩ := (show ∃ t, u = Value.float y t from rx); cases q; exact PySem.W.kia_one PySem.W.kitx_float I.kIn True.intro e (fun z => nomatch z) h
  | @lst a xs ea =>
    cases (show u = Value.ref a from rx)
    obtain ⟨_, _, n, _, h1⟩ := (show ObjOk X.prog X.w H s.heap a (.lst xs) from I.hok a _ ea)
    exact PySem.W.kia_one PySem.W.kitx_list I.kIn ⟨_, h1, rfl⟩ e (fun z => nomatch z) h
  | @frz a ob xs ea =>
    cases (show u = Value.ref a from rx)
    obtain ⟨_, _, _, n, _, h1⟩ := (show ObjOk X.prog X.w H s.heap a (.frz ob (.lst xs)) from I.hok a _ ea)
    exact PySem.W.kia_one PySem.W.kitx_list I.kIn ⟨_, h1, rfl⟩ e (fun z => nomatch z) h
  | @tup a xs ea =>
    cases (show u = Value.ref a from rx)
    obtain ⟨_, _, _, p⟩ := (show ObjOk X.prog X.w H s.heap a (.tup xs) from I.hok a _ ea)
    obtain ⟨o, h1, h2, _⟩ := p
    exact PySem.W.kia_one PySem.W.kitx_tuple I.kIn ⟨o, h1, h2⟩ e (fun z => nomatch z) h
  | @dK a kvs ea =>
    cases (show u = Value.ref a from rx)
    obtain ⟨_, _, vs, _, p⟩ := (show ObjOk X.prog X.w H s.heap a (.dK kvs) from I.hok a _ ea)
    obtain ⟨o, es, ep, h1, h2, _⟩ := p
    exact PySem.W.kia_one PySem.W.kitx_dict I.kIn ⟨o, h1, h2.1⟩ e (fun z => nomatch z) h
  | @dT a kvs ea =>
    cases (show u = Value.ref a from rx)
    obtain ⟨_, _, xs, _, o, es, ep, h1, h2, _⟩ := (show ObjOk X.prog X.w H s.heap a (.dT kvs) from I.hok a _ ea)
    exact PySem.W.kia_one PySem.W.kitx_dict I.kIn ⟨o, h1, h2.1⟩ e (fun z => nomatch z) h
  | @ins a C dx fs ea cl ha hn htk hm =>
    cases (show u = Value.ref a from rx)
    obtain ⟨mA, O, _⟩ := ins_get I.hok ea
    obtain ⟨od, J, _⟩ := O.look
    exact PySem.W.kia_one (PySem.W.kitx_own (cl.get _) cl.hd ha hn htk hm) I.kIn J e (fun z => nomatch z) h
end
end L2

namespace L2
open PySem PySem.Spec PyProof.Rows

/-! ### room -/
structure Room (k : Nat) (A : Around) : Prop where
  hd : A.handled = none
  dp : A.depth + 3 * k + 5 < recursionLimit
  un : A.units + 16 * k + 200 < cLine
theorem Room.mono {j k : Nat} {A : Around} (r : Room k A) (h : j ≤ k) : Room j A := ⟨r.hd, by have := r.dp; omega, by have := r.un; omega⟩
theorem Room.deeper {k : Nat} {A : Around} (r : Room (k + 1) A) (env : Env) : Room k (A.deeper env) :=
  ⟨r.hd, by have := r.dp; show A.depth + 1 + 3 * k + 5 < _; omega, by have := r.un; show A.units + 3 + 16 * k + 200 < _; omega⟩
theorem Room.in1 {k : Nat} {A : Around} (r : Room (k + 1) A) : Room k A.in1 :=
  ⟨r.hd, by have := r.dp; show A.depth + 3 * k + 5 < _; omega, by have := r.un; show A.units + 1 + 16 * k + 200 < _; omega⟩
theorem make_depth {A : Around} {C : Addr} {us : List Value} {kw : List (Str × Value)} : (A.under (.builtin "type.__call__" ⟨.ref C :: us, kw⟩)).depth = A.depth + 1 := by
  first | rfl | simp [Around.under, Code.weight, Code.isCreation, Code.isGuard, Code.isCaller, Code.frames, Code.isFrame, guardIds]
theorem make_units {A : Around} {C : Addr} {us : List Value} {kw : List (Str × Value)} : (A.under (.builtin "type.__call__" ⟨.ref C :: us, kw⟩)).units = A.units + 1 := by
  first | rfl | simp [Around.under, Code.cUnits, Code.frames, Code.isFrame]
theorem Room.make {k : Nat} {A : Around} (r : Room (k + 1) A) (C : Addr) (us : List Value) (kw : List (Str × Value)) : Room k (A.under (.builtin "type.__call__" ⟨.ref C :: us, kw⟩)) :=
  ⟨r.hd, by have := r.dp; rw [make_depth]; omega, by have := r.un; rw [make_units]; omega⟩
theorem Room.depth {k : Nat} {A : Around} (r : Room k A) : A.depth < recursionLimit := by have := r.dp; omega
theorem Room.units {k : Nat} {A : Around} (r : Room k A) : A.units + 64 < cLine := by have := r.un; omega
theorem Room.units0 {k : Nat} {A : Around} (r : Room k A) : A.units < cLine := by have := r.un; omega

/-! ### argument lists and displays -/
def tNil : TA := fun _ H Q => Q [] H
def tCons (ta : TE) (tr : TA) : TA := fun σ H Q => ta σ H fun x H1 => tr σ H1 fun xs H2 => Q (x :: xs) H2
section
variable {X : Cx} {e : Expr} {es : List Expr} {te : TE} {t : TA} {pos : Pos}
theorem pa_nil : PA X [] tNil := fun _ _ _ _ H Q I h => Calls.spliced_nil ⟨[], H, I, .nil, h⟩
theorem pa_cons (ha : PE X e te) (hr : PA X es t) (hs : starEach (e :: es) X.env = (false, eval e X.env) :: starEach es X.env := by rfl) : PA X (e :: es) (tCons te t) := by
  intro pos pins s σ H Q I h
  rw [hs]
  show wpAny _ _ (spliced ((false, eval e X.env) :: backTo pos (starEach es X.env))) _ _ s
  refine Calls.spliced_cons (thn (ha pins s σ H _ I h) fun u s1 ⟨x, H1, I1, r1, q1⟩ => ?_)
  exact thn (hr pos pins s1 σ H1 _ I1 q1) fun us s2 ⟨xs, H2, I2, r2, q2⟩ => ⟨x :: xs, H2, I2, .cons r1 r2, q2⟩

/-- a tuple, a list of written items -/
def tTup (t : TA) : TE := fun σ H Q => t σ H fun xs H1 => xs.length ≤ sizeLine ∧ ∀ p, H1 p = none → Q (.ref p) (upd H1 p (.tup xs))
def tLst (t : TA) : TE := fun σ H Q => t σ H fun xs H1 => xs.length ≤ sizeLine ∧ ∀ p, H1 p = none → Q (.ref p) (upd H1 p (.lst xs))
theorem pe_tup {x1} (h : PA X es t) : PE X (.Tuple es x1 pos) (tTup t) := by
  intro pins s σ H Q I hq
  refine wpAny_Tuple_spliced (thn (h pos pins s σ H _ I hq) fun us s1 ⟨xs, H1, I1, r, z, q⟩ => ⟨by rw [← r.length]; exact z, ?_⟩)
  have hf : H1 s1.heap.objs.size = none := I1.hok.fresh (Nat.le_refl _)
  refine ⟨.ref s1.heap.objs.size, upd H1 s1.heap.objs.size (.tup xs), I1.laid (t' := s1.toks) (fun b u e => Heap.get?_push_of_some _ e) (Nat.le_refl _) ?_, rfl, q _ hf⟩
  exact ⟨z, us, r, ⟨_, Heap.get?_push_size _ rfl, rfl, _, rfl⟩⟩
theorem pe_lst (h : PA X es t) : PE X (.List es pos) (tLst t) := by
  intro pins s σ H Q I hq
  refine wpAny_List_spliced (thn (h pos pins s σ H _ I hq) fun us s1 ⟨xs, H1, I1, r, z, q⟩ => ⟨by rw [← r.length]; exact z, ?_⟩)
  have hf : H1 s1.heap.objs.size = none := I1.hok.fresh (Nat.le_refl _)
  refine ⟨.ref s1.heap.objs.size, upd H1 s1.heap.objs.size (.lst xs), I1.laid (t' := s1.toks) (fun b u e => Heap.get?_push_of_some _ e) (Nat.le_refl _) ?_, rfl, q _ hf⟩
  exact ⟨z, us, 0, r, Heap.get?_push_size _ rfl⟩
end

/-! ### what a def promises -/
/-- a def's promise: the bound arguments in the parameters' order, the heap, the wanted end, the wanted exception -/
abbrev Sp := List V → Hp → VK → XK → Prop
/-- how an exception lies behind a call (file 08 gives it): the callers' frames, abstract heap and state ahead of the call, the wish, the exception, the state -/
abbrev CXT := List Env → Hp → Shared → XK → Value → Shared → Prop

/-- the state at a call -/
structure Env0 (P : Program) (w : World) (K : PySem.W.Frag) (mg : Str → Option Value) (base : Heap) (A : Around) (outer : List Env) (s : Shared) (H : Hp) : Prop where
  frames : A.frames = some outer
  mod : Mod K mg base
  bs : ∀ b o, base.get? b = some o → s.heap.get? b = some o ∧ H b = none
  bsz : base.objs.size ≤ s.heap.objs.size
  funs : s.heap.FunFrames base outer
  frf : ∀ b ∈ frs outer, H b = none
  hok : HOk P w H s.heap
  bare : AllBare s.gens
/-- a call's end -/
def CE (outer : List Env) (P : Program) (w : World) (H : Hp) (s : Shared) (Q : VK) (u : Value) (s' : Shared) : Prop :=
  ∃ v H', s'.os = s.os ∧ AllBare s'.gens ∧ Un (frs outer) [] H H' s.heap s'.heap ∧ HOk P w H' s'.heap ∧ RelV v u ∧ Q v H'
def CR (CX : CXT) (outer : List Env) (P : Program) (w : World) (H : Hp) (s : Shared) (Q : VK) (E : XK) (r : Result) (s' : Shared) : Prop :=
  match r with
  | .ok (.ret u) => CE outer P w H s Q u s'
  | .ok _ => False
  | .error e => CX outer H s E e s'
structure FnOk (P : Program) (w : World) (K : PySem.W.Frag) (mg : Str → Option Value) (base : Heap) (CX : CXT) (k : Nat) (f : Addr) (fd : FuncData) (ps : List Str) (sp : Sp) : Prop where
  len : ∀ vs H Q E, sp vs H Q E → vs.length = ps.length
  run : ∀ (A : Around) (outer : List Env) (s : Shared) (H : Hp) (args : Args) (us : List Value) (vs : List V) (Q : VK) (E : XK), Room k A → Env0 P w K mg base A outer s H → BindsTo s fd args (ps.zip us) → Vals vs us → sp vs H Q E →
    codeAny (model P w) A (.call (.ref f) args) (CR CX outer P w H s Q E) s
theorem FnOk.mono {P : Program} {w : World} {K : PySem.W.Frag} {mg : Str → Option Value} {base : Heap} {CX : CXT} {j k : Nat} {f : Addr} {fd : FuncData} {ps : List Str} {sp : Sp} (F : FnOk P w K mg base CX j f fd ps sp) (h : j ≤ k) :
    FnOk P w K mg base CX k f fd ps sp := ⟨F.len, fun A outer s H args us vs Q E hr => F.run A outer s H args us vs Q E (hr.mono h)⟩
/-- a weaker promise -/
theorem FnOk.imp {P : Program} {w : World} {K : PySem.W.Frag} {mg : Str → Option Value} {base : Heap} {CX : CXT} {k : Nat} {f : Addr} {fd : FuncData} {ps : List Str} {sp sp' : Sp} (F : FnOk P w K mg base CX k f fd ps sp)
    (h : ∀ vs H Q E, sp' vs H Q E → sp vs H Q E) : FnOk P w K mg base CX k f fd ps sp' :=
  ⟨fun vs H Q E q => F.len vs H Q E (h _ _ _ _ q), fun A outer s H args us vs Q E hr he hb hv hs => F.run A outer s H args us vs Q E hr he hb hv (h _ _ _ _ hs)⟩

theorem Env0.make {P : Program} {w : World} {K : PySem.W.Frag} {mg : Str → Option Value} {base : Heap} {A : Around} {outer : List Env} {s : Shared} {H : Hp} (e : Env0 P w K mg base A outer s H) (C : Addr) (us : List Value) (kw : List (Str × Value)) :
    Env0 P w K mg base (A.under (.builtin "type.__call__" ⟨.ref C :: us, kw⟩)) outer s H := ⟨by first | exact e.frames | (simpa [Around.under, Code.envs, Code.isFrame, pushEnvs] using e.frames), e.mod, e.bs, e.bsz, e.funs, e.frf, e.hok, e.bare⟩
theorem Env0.in1 {P : Program} {w : World} {K : PySem.W.Frag} {mg : Str → Option Value} {base : Heap} {A : Around} {outer : List Env} {s : Shared} {H : Hp} (e : Env0 P w K mg base A outer s H) :
    Env0 P w K mg base A.in1 outer s H := ⟨e.frames, e.mod, e.bs, e.bsz, e.funs, e.frf, e.hok, e.bare⟩

section
variable {X : Cx} {pins : List (Addr × Obj)} {σ : St} {H : Hp} {s s' : Shared}
/-- from a body: what a callee wants -/
theorem Inv.env0 (I : Inv X pins σ H s) : Env0 X.prog X.w X.K X.mg X.base X.A X.stack s H :=
  ⟨I.ok.frames, I.ok.mod, I.bs, Nat.le_trans I.ok.bsz I.sz, I.stack, I.stkFree, I.hok, I.bare⟩
/-- behind a call -/
theorem Inv.after {Q : VK} {u : Value} (I : Inv X pins σ H s) (h : CE X.stack X.prog X.w H s Q u s') : EP X pins σ Q u s' := by
  obtain ⟨v, H', os, bare, un, hok, r, q⟩ := h
  obtain ⟨hh, g, d, t, os'⟩ := s'
  obtain rfl : os' = s.os := os
  exact ⟨v, H', I.call (h' := hh) (g' := g) (d' := d) (t' := t) (ch := []) un hok bare (fun b z => absurd z (by simp)), r, q⟩
end

/-! ### calls -/
/-- f(..): the written arguments, then the defaults dvs; E: what is wanted of an exception -/
def tCall (sp : Sp) (dvs : List V) (E : XK) (t : TA) : TE := fun σ H Q => t σ H fun vs H1 => sp (vs ++ dvs) H1 Q E
/-- o.m(..) of an instance of the class at C -/
def tMeth (C : Addr) (m : Str) (sp : Sp) (dvs : List V) (E : XK) (ta : TE) (t : TA) : TE := fun σ H Q => ta σ H fun x H1 => ∃ a dx fs, x = .ref a ∧ H1 a = some (.ins C dx fs) ∧ fs.lookup m = none ∧
  t σ H1 fun vs H2 => sp (x :: (vs ++ dvs)) H2 Q E
/-- C(..): a new instance and its dict, then __init__ -/
def tMake (C : Addr) (sp : Sp) (dvs : List V) (E : XK) (t : TA) : TE := fun σ H Q => t σ H fun vs H1 => ∀ x dx, H1 x = none → H1 dx = none → dx ≠ x →
  sp (.ref x :: (vs ++ dvs)) (upd (upd H1 dx (.own x)) x (.ins C dx [])) (fun v H2 => v = .non ∧ Q (.ref x) H2) E

/-- how the parameters are bound: us the positional arguments, kw the keywords' values by name, ds the defaults that fill up -/
def Binds (K : PySem.W.Frag) (fd : FuncData) (ps : List Str) (ds : List Value) : Prop :=
  ∀ (s : Shared) (us : List Value), K.In s.heap → (us ++ ds).length = ps.length → BindsTo s fd ⟨us, []⟩ (ps.zip (us ++ ds))
/-- every parameter is given -/
theorem Binds.all {K : PySem.W.Frag} {fd : FuncData} {ps : List Str} (h : ∀ us : List Value, us.length = ps.length → bindArgs fd ⟨us, []⟩ = pure (ps.zip us)) : Binds K fd ps [] := fun s us _ hl => by
  rw [List.append_nil] at hl ⊢
  exact .of_eq (h us hl)

/-- an exception of a callee reaches what this body wants of exceptions -/
def Passes (CX : CXT) (X : Cx) (E : XK) : Prop := ∀ (pins : List (Addr × Obj)) (σ : St) (H : Hp) (s : Shared) (e : Value) (s' : Shared), Inv X pins σ H s → CX X.stack H s E e s' → X.xe e s'

section
variable {X : Cx} {CX : CXT} {k : Nat} {f C : Addr} {fd : FuncData} {ps : List Str} {sp : Sp} {dvs : List V} {ds : List Value} {E : XK} {x m : Str} {p pos apos : Pos} {e o : Expr} {es : List Expr} {ta : TE} {t : TA}

/-- the callee runs -/
theorem run_fn {pins : List (Addr × Obj)} {σ : St} {H : Hp} {s : Shared} {Q : VK} {us : List Value} {vs : List V} (F : FnOk X.prog X.w X.K X.mg X.base CX k f fd ps sp) (hr : Room k X.A) (hb : Binds X.K fd ps ds) (hd : Vals dvs ds) (hx : Passes CX X E)
    (I : Inv X pins σ H s) (r : Vals vs us) (h : sp (vs ++ dvs) H Q E) : wpAny (model X.prog X.w) X.A (call (.ref f) us) (EP X pins σ Q) X.xe s := by
  have r2 : Vals (vs ++ dvs) (us ++ ds) := r.append hd
  have hl : (us ++ ds).length = ps.length := by rw [← r2.length]; exact F.len _ _ _ _ h
  refine wpAny_call (codeAny_mono (F.run X.A X.stack s H ⟨us, []⟩ (us ++ ds) (vs ++ dvs) Q E hr I.env0 (hb s us I.kIn hl) r2 h) fun r s' hq => ?_)
  cases r with
  | error e => exact hx pins σ H s e s' I hq
  | ok fl =>
    cases fl with
    | ret u => exact I.after hq
    | next => exact False.elim hq
    | brk => exact False.elim hq
    | cont => exact False.elim hq

theorem pe_call (F : FnOk X.prog X.w X.K X.mg X.base CX k f fd ps sp) (hr : Room k X.A) (hg : Gl X x) (hm : X.mg x = some (.ref f)) (hk : PySem.W.keepIn X.K (.ref f) = true) (hb : Binds X.K fd ps ds) (hd : Vals dvs ds) (hx : Passes CX X E)
    (ha : PA X (e :: es) t) (hdb : (x == ("__debug__" : Str)) = false := by decide) (he : starEach (e :: es) X.env = (false, eval e X.env) :: starEach es X.env := by rfl) (hpl : (backTo pos (starEach es X.env)).any (·.1) = false := by rfl) :
    PE X (.Call (.Name x p) (e :: es) [] pos) (tCall sp dvs E t) := by
  intro pins s σ H Q I h
  refine wpAny_Call_Name_kw (ld_glob I hg hm ?_ hdb)
  refine PySem.W.callWith_K (h₀ := X.base) I.ok.mod.kin hk (thn (ha pos pins s σ H _ I h) fun us s1 ⟨vs, H1, I1, r, q⟩ => ⟨I1.kIn, ?_⟩) he hpl
  exact run_fn F hr hb hd hx I1 r q
theorem pe_call0 (F : FnOk X.prog X.w X.K X.mg X.base CX k f fd ps sp) (hr : Room k X.A) (hg : Gl X x) (hm : X.mg x = some (.ref f)) (hk : PySem.W.keepIn X.K (.ref f) = true) (hb : Binds X.K fd ps ds) (hd : Vals dvs ds) (hx : Passes CX X E)
    (hdb : (x == ("__debug__" : Str)) = false := by decide) : PE X (.Call (.Name x p) [] [] pos) (tCall sp dvs E tNil) := by
  intro pins s σ H Q I h
  refine wpAny_Call_Name_kw (ld_glob I hg hm ?_ hdb)
  exact PySem.W.callWith_K0 I.kIn hk (run_fn (us := []) F hr hb hd hx I .nil h)

/-- o.m(e, ..) -/
theorem pe_meth {pl : Sem Bool} (he : PE X o ta) (c : Cls X.K C) (hm : Meth X.K C m f) (F : FnOk X.prog X.w X.K X.mg X.base CX k f fd ps sp) (hr : Room k X.A) (hb : Binds X.K fd ps ds) (hd : Vals dvs ds) (hx : Passes CX X E) (ha : PA X (e :: es) t)
    (hst : starEach (e :: es) X.env = (false, eval e X.env) :: starEach es X.env := by rfl) (hpl : (backTo pos (starEach es X.env)).any (·.1) = false := by rfl)
    (ht : eval (.Call (.Attribute o m apos) (e :: es) [] pos) X.env = (do
      let ov ← eval o X.env
      standAt apos.atName
      let (f, first) ← holding [ov] (getMethod ov m pl)
      callWith pos f first (backTo pos (starEach (e :: es) X.env)) (backToKw pos (keywordEach [] X.env))) := by rfl) :
    PE X (.Call (.Attribute o m apos) (e :: es) [] pos) (tMeth C m sp dvs E ta t) := by
  intro pins s σ H Q I h
  refine PySem.W.methodCall_KW (pl := pl) (thn (he pins s σ H _ I h) fun u s1 ⟨x, H1, I1, rx, a, dx, fs, ex, ea, l, q⟩ => ?_) ht
  subst ex
  obtain rfl : u = Value.ref a := rx
  refine getmeth_ok I1 ea c hm l ?_
  refine PySem.W.callWith_K (first := [.ref a]) (h₀ := X.base) I.ok.mod.kin hm.kp (thn (ha pos pins s1 σ H1 _ I1 q) fun us s2 ⟨vs, H2, I2, r, q2⟩ => ⟨I2.kIn, ?_⟩) hst hpl
  exact run_fn (us := .ref a :: us) (vs := .ref a :: vs) F hr hb hd hx I2 (.cons rfl r) q2
/-- o.m() -/
theorem pe_meth0 {pl : Sem Bool} (he : PE X o ta) (c : Cls X.K C) (hm : Meth X.K C m f) (F : FnOk X.prog X.w X.K X.mg X.base CX k f fd ps sp) (hr : Room k X.A) (hb : Binds X.K fd ps ds) (hd : Vals dvs ds) (hx : Passes CX X E)
    (ht : eval (.Call (.Attribute o m apos) [] [] pos) X.env = (do
      let ov ← eval o X.env
      standAt apos.atName
      let (f, first) ← holding [ov] (getMethod ov m pl)
      callWith pos f first (backTo pos (starEach [] X.env)) (backToKw pos (keywordEach [] X.env))) := by rfl) :
    PE X (.Call (.Attribute o m apos) [] [] pos) (tMeth C m sp dvs E ta tNil) := by
  intro pins s σ H Q I h
  refine PySem.W.methodCall_KW (pl := pl) (thn (he pins s σ H _ I h) fun u s1 ⟨x, H1, I1, rx, a, dx, fs, ex, ea, l, q⟩ => ?_) ht
  subst ex
  obtain rfl : u = Value.ref a := rx
  refine getmeth_ok I1 ea c hm l ?_
  exact PySem.W.callWith_K0 (first := [.ref a]) I1.kIn hm.kp (run_fn (us := [.ref a]) (vs := [.ref a]) F hr hb hd hx I1 (.cons rfl .nil) q)

/-- what a class must have to be made -/
structure Mk (K : PySem.W.Frag) (C f : Addr) : Prop where
  makes : PySem.W.makesIn K C = true
  init : PySem.W.findIn K (.ref C) "__init__" = some (some (.ref f))
  fn : PySem.W.isFn K (.ref f) = true
  kp : PySem.W.keepIn K (.ref C) = true

theorem run_make {pins : List (Addr × Obj)} {σ : St} {H : Hp} {s : Shared} {Q : VK} {us : List Value} {vs : List V} (M : Mk X.K C f) (F : FnOk X.prog X.w X.K X.mg X.base CX k f fd ps sp) (hr : Room (k + 1) X.A) (hb : Binds X.K fd ps ds) (hd : Vals dvs ds)
    (hx : Passes CX X E) (I : Inv X pins σ H s) (r : Vals vs us)
    (h : ∀ x dx, H x = none → H dx = none → dx ≠ x → sp (.ref x :: (vs ++ dvs)) (upd (upd H dx (.own x)) x (.ins C dx [])) (fun v H2 => v = .non ∧ Q (.ref x) H2) E) :
    wpAny (model X.prog X.w) X.A (call (.ref C) us) (EP X pins σ Q) X.xe s := by
  have hq := h (s.heap.objs.size + 1) s.heap.objs.size (I.hok.fresh (Nat.le_succ _)) (I.hok.fresh (Nat.le_refl _)) (Nat.ne_of_lt (Nat.lt_succ_self _))
  have I2 := Inv.made (C := C) I
  have r2 : Vals (V.ref (s.heap.objs.size + 1) :: (vs ++ dvs)) (Value.ref (s.heap.objs.size + 1) :: (us ++ ds)) := .cons rfl (r.append hd)
  have hl : (Value.ref (s.heap.objs.size + 1) :: us ++ ds).length = ps.length := by
    have e := r2.length
    rw [F.len _ _ _ _ hq] at e
    exact e.symm
  refine wpAny_call (make_map (f := f) I.kIn M.makes M.init (beq_iff_eq.mp M.fn) (codeAny_mono (F.run _ X.stack _ _ ⟨Value.ref (s.heap.objs.size + 1) :: us, []⟩ (Value.ref (s.heap.objs.size + 1) :: (us ++ ds)) _ _ E (hr.make C us [])
    (I2.env0.make C us []) (hb _ (Value.ref (s.heap.objs.size + 1) :: us) I2.kIn hl) r2 hq) fun r s' hq' => ?_))
  cases r with
  | error e => exact hx pins σ _ _ e s' I2 hq'
  | ok fl =>
    cases fl with
    | ret u =>
      obtain ⟨v, H', I3, rv, ev, q3⟩ := I2.after hq'
      subst ev
      exact ⟨rv, ⟨V.ref (s.heap.objs.size + 1), H', I3, rfl, q3⟩⟩
    | next => exact False.elim hq'
    | brk => exact False.elim hq'
    | cont => exact False.elim hq'
theorem pe_make (M : Mk X.K C f) (F : FnOk X.prog X.w X.K X.mg X.base CX k f fd ps sp) (hr : Room (k + 1) X.A) (hg : Gl X x) (hm : X.mg x = some (.ref C)) (hb : Binds X.K fd ps ds) (hd : Vals dvs ds) (hx : Passes CX X E)
    (ha : PA X (e :: es) t) (hdb : (x == ("__debug__" : Str)) = false := by decide) (he : starEach (e :: es) X.env = (false, eval e X.env) :: starEach es X.env := by rfl) (hpl : (backTo pos (starEach es X.env)).any (·.1) = false := by rfl) :
    PE X (.Call (.Name x p) (e :: es) [] pos) (tMake C sp dvs E t) := by
  intro pins s σ H Q I h
  refine wpAny_Call_Name_kw (ld_glob I hg hm ?_ hdb)
  refine PySem.W.callWith_K (h₀ := X.base) I.ok.mod.kin M.kp (thn (ha pos pins s σ H _ I h) fun us s1 ⟨vs, H1, I1, r, q⟩ => ⟨I1.kIn, ?_⟩) he hpl
  exact run_make M F hr hb hd hx I1 r q
theorem pe_make0 (M : Mk X.K C f) (F : FnOk X.prog X.w X.K X.mg X.base CX k f fd ps sp) (hr : Room (k + 1) X.A) (hg : Gl X x) (hm : X.mg x = some (.ref C)) (hb : Binds X.K fd ps ds) (hd : Vals dvs ds) (hx : Passes CX X E)
    (hdb : (x == ("__debug__" : Str)) = false := by decide) : PE X (.Call (.Name x p) [] [] pos) (tMake C sp dvs E tNil) := by
  intro pins s σ H Q I h
  refine wpAny_Call_Name_kw (ld_glob I hg hm ?_ hdb)
  exact PySem.W.callWith_K0 I.kIn M.kp (run_make (us := []) M F hr hb hd hx I .nil h)
end

/-! ### keywords -/
/-- the values of the keywords, from the left -/
def PK (X : Cx) (kws : List Keyword) (t : TA) : Prop :=
  ∀ (pos : Pos) (pins : List (Addr × Obj)) (s : Shared) (σ : St) (H : Hp) (Q : List V → Hp → Prop), Inv X pins σ H s → t σ H Q → wpAny (model X.prog X.w) X.A (evalAll ((backToKw pos (keywordEach kws X.env)).map (·.2))) (AP X pins σ Q) X.xe s
section
variable {X : Cx} {CX : CXT} {k : Nat} {f C : Addr} {fd : FuncData} {ps ks : List Str} {sp : Sp} {E : XK} {x m : Str} {p pos apos kpos : Pos} {e o : Expr} {es : List Expr} {kws : List Keyword} {te ta : TE} {t tk : TA} {nm : Option Str}
theorem pk_nil : PK X [] tNil := fun _ _ _ _ H Q I h => wpAny_evalAll_nil ⟨[], H, I, .nil, h⟩
theorem pk_cons (ha : PE X e te) (hr : PK X kws t) : PK X (⟨nm, e, kpos⟩ :: kws) (tCons te t) := by
  intro pos pins s σ H Q I h
  show wpAny _ _ (evalAll ((do let v ← eval e X.env; standAt pos; pure v) :: (backToKw pos (keywordEach kws X.env)).map (·.2))) _ _ s
  refine wpAny_evalAll_cons (wpAny_bind (thn (ha pins s σ H _ I h) fun u s1 ⟨x, H1, I1, r1, q1⟩ => wpAny_bind (wpAny_standAt (wpAny_pure ?_))))
  exact thn (hr pos pins s1 σ H1 _ I1 q1) fun us s2 ⟨xs, H2, I2, r2, q2⟩ => ⟨x :: xs, H2, I2, .cons r1 r2, q2⟩

/-- how a call with keywords binds: g puts the positional values us and the keywords' values ws (names ks) in the parameters' order, defaults among them -/
structure KBinds (K : PySem.W.Frag) (fd : FuncData) (ps ks : List Str) (g : List Value → List Value → List Value) (gV : List V → List V → List V) : Prop where
  to : ∀ (s : Shared) (us ws : List Value), K.In s.heap → (g us ws).length = ps.length → BindsTo s fd ⟨us, ks.zip ws⟩ (ps.zip (g us ws))
  rel : ∀ {vs : List V} {us : List Value} {zs : List V} {ws : List Value}, Vals vs us → Vals zs ws → Vals (gV vs zs) (g us ws)
def tCallK (sp : Sp) (gV : List V → List V → List V) (E : XK) (t tk : TA) : TE := fun σ H Q => t σ H fun vs H1 => tk σ H1 fun zs H2 => sp (gV vs zs) H2 Q E
variable {g : List Value → List Value → List Value} {gV : List V → List V → List V}
theorem run_fnk {pins : List (Addr × Obj)} {σ : St} {H : Hp} {s : Shared} {Q : VK} {us ws : List Value} {vs zs : List V} (F : FnOk X.prog X.w X.K X.mg X.base CX k f fd ps sp) (hr : Room k X.A) (hb : KBinds X.K fd ps ks g gV) (hx : Passes CX X E)
    (I : Inv X pins σ H s) (r : Vals vs us) (rz : Vals zs ws) (h : sp (gV vs zs) H Q E) : wpAny (model X.prog X.w) X.A (call (.ref f) us (ks.zip ws)) (EP X pins σ Q) X.xe s := by
  have r2 := hb.rel r rz
  have hl : (g us ws).length = ps.length := by rw [← r2.length]; exact F.len _ _ _ _ h
  refine wpAny_call (codeAny_mono (F.run X.A X.stack s H ⟨us, ks.zip ws⟩ (g us ws) (gV vs zs) Q E hr I.env0 (hb.to s us ws I.kIn hl) r2 h) fun r s' hq => ?_)
  cases r with
  | error e => exact hx pins σ H s e s' I hq
  | ok fl =>
    cases fl with
    | ret u => exact I.after hq
    | next => exact False.elim hq
    | brk => exact False.elim hq
    | cont => exact False.elim hq
/-- f(e, .., k = v, ..) -/
theorem pe_callK (F : FnOk X.prog X.w X.K X.mg X.base CX k f fd ps sp) (hr : Room k X.A) (hg : Gl X x) (hm : X.mg x = some (.ref f)) (hk : PySem.W.keepIn X.K (.ref f) = true) (hb : KBinds X.K fd ps ks g gV) (hx : Passes CX X E)
    (ha : PA X (e :: es) t) (hkw : PK X kws tk) (hall : (backToKw pos (keywordEach kws X.env)).all (·.1.isSome) = true := by rfl) (hks : (backToKw pos (keywordEach kws X.env)).filterMap (·.1) = ks := by rfl)
    (hdb : (x == ("__debug__" : Str)) = false := by decide) (he : starEach (e :: es) X.env = (false, eval e X.env) :: starEach es X.env := by rfl)
    (hpl : ((backTo pos (starEach (e :: es) X.env)).any (·.1) || (backToKw pos (keywordEach kws X.env)).any (·.1.isNone)) = false := by rfl) :
    PE X (.Call (.Name x p) (e :: es) kws pos) (tCallK sp gV E t tk) := by
  intro pins s σ H Q I h
  refine wpAny_Call_Name_kw (ld_glob I hg hm ?_ hdb)
  refine PySem.W.callWith_KW (h₀ := X.base) I.ok.mod.kin hk hall (thn (ha pos pins s σ H _ I h) fun us s1 ⟨vs, H1, I1, r, q⟩ => ?_) hpl he
  refine thn (hkw pos pins s1 σ H1 _ I1 q) fun ws s2 ⟨zs, H2, I2, rz, q2⟩ => ⟨I2.kIn, ?_⟩
  rw [hks]
  exact run_fnk F hr hb hx I2 r rz q2
end

/-! ### a def's body keeps its promise -/
/-- names: the parameters first -/
structure FnScope (N P : List Str) (sc : Scope) : Prop where
  kind : sc.kind = .function
  co : sc.isCoroutine = false
  gen : sc.isGenerator = false
  nd : N.Nodup
  pre : N.take P.length = P
  par : ∀ x ∈ P, sc.names.lookup x = some .local ∨ sc.names.lookup x = some .cell
  nofree : ∀ y ∈ sc.names, y.2 ≠ .free

theorem bindL_out {kindOf : Str → Option NameKind} {x : Str} : ∀ {binds : List (Str × Value)} {m : Str → Option Value}, (∀ v, (x, v) ∉ binds) → bindL kindOf binds m x = m x
  | [], _, _ => rfl
  | (n, v) :: r, m, h => by
    unfold bindL
    rw [bindL_out fun w hw => h w (List.mem_cons_of_mem _ hw)]
    split
    · have : x ≠ n := by rintro rfl; exact h v List.mem_cons_self
      simp [this]
    · rfl
theorem bindC_out {kindOf : Str → Option NameKind} {x : Str} : ∀ {binds : List (Str × Value)} {m : Str → Option Value}, (∀ v, (x, v) ∉ binds) → bindC kindOf binds m x = m x
  | [], _, _ => rfl
  | (n, v) :: r, m, h => by
    unfold bindC
    rw [bindC_out fun w hw => h w (List.mem_cons_of_mem _ hw)]
    split
    · rfl
    · have : x ≠ n := by rintro rfl; exact h v List.mem_cons_self
      simp [this]
theorem bindL_get {kindOf : Str → Option NameKind} {x : Str} {v : Value} : ∀ {P : List Str} {vs : List Value} {i : Nat} {m : Str → Option Value}, P.Nodup → P[i]? = some x → vs[i]? = some v → kindOf x = some .local →
    bindL kindOf (P.zip vs) m x = some v
  | [], _, _, _, _, h, _, _ => by simp at h
  | _ :: _, [], _, _, _, _, h, _ => by simp at h
  | p :: P, w :: vs, 0, m, nd, h1, h2, hk => by
    simp at h1 h2; subst h1; subst h2
    show bindL kindOf ((p, w) :: P.zip vs) m p = _
    unfold bindL
    rw [bindL_out fun v hv => (List.nodup_cons.mp nd).1 (List.of_mem_zip hv).1, if_pos hk]
    simp
  | p :: P, w :: vs, i + 1, m, nd, h1, h2, hk => by
    show bindL kindOf ((p, w) :: P.zip vs) m x = _
    unfold bindL
    exact bindL_get (i := i) (List.nodup_cons.mp nd).2 (by simpa using h1) (by simpa using h2) hk
theorem bindC_get {kindOf : Str → Option NameKind} {x : Str} {v : Value} : ∀ {P : List Str} {vs : List Value} {i : Nat} {m : Str → Option Value}, P.Nodup → P[i]? = some x → vs[i]? = some v → kindOf x ≠ some .local →
    bindC kindOf (P.zip vs) m x = some v
  | [], _, _, _, _, h, _, _ => by simp at h
  | _ :: _, [], _, _, _, _, h, _ => by simp at h
  | p :: P, w :: vs, 0, m, nd, h1, h2, hk => by
    simp at h1 h2; subst h1; subst h2
    show bindC kindOf ((p, w) :: P.zip vs) m p = _
    unfold bindC
    rw [bindC_out fun v hv => (List.nodup_cons.mp nd).1 (List.of_mem_zip hv).1, if_neg hk]
    simp
  | p :: P, w :: vs, i + 1, m, nd, h1, h2, hk => by
    show bindC kindOf ((p, w) :: P.zip vs) m x = _
    unfold bindC
    exact bindC_get (i := i) (List.nodup_cons.mp nd).2 (by simpa using h1) (by simpa using h2) hk

/-- the names' values at the entry -/
def start (N : List Str) (vs : List V) : St := vs.map some ++ List.replicate (N.length - vs.length) none

/-- the context of a def's body, at its entry; an exception leaves the frame, then lies as CX says -/
def cxOf (CX : CXT) (P : Program) (w : World) (K : PySem.W.Frag) (mg : Str → Option Value) (base : Heap) (N : List Str) (qual : Str) (scope : Scope) (f : Addr) (cd : Value) (A : Around) (outer : List Env) (s : Shared) (H : Hp) (E : XK) : Cx where
  prog := P
  w := w
  K := K
  mg := mg
  base := base
  A := A.deeper (envOfC qual scope s.heap.objs.size f cd)
  N := N
  s₀ := s
  H₀ := H
  env := envOfC qual scope s.heap.objs.size f cd
  outer := outer
  stack := envOfC qual scope s.heap.objs.size f cd :: outer
  ex := []
  calm := true
  fn := fun _ => true
  pn := []
  xe := fun e s' => wpAny (model P w) (A.deeper (envOfC qual scope s.heap.objs.size f cd)) (leaving (envOfC qual scope s.heap.objs.size f cd) e) (fun _ s'' => CX outer H s E e s'') (fun e' s'' => CX outer H s E e' s'') s'

theorem cell_has {sc : Scope} {n : Nat} {x : Str} (h : sc.names.lookup x = some .cell) : ∃ c, (cellsFrom n sc.names []).lookup x = some c := by
  have q := PySem.W.cellsFrom_some sc.names n [] (.inl h)
  exact Option.isSome_iff_exists.mp q

theorem inv_start {CX : CXT} {P : Program} {w : World} {K : PySem.W.Frag} {mg : Str → Option Value} {base : Heap} {N ps : List Str} {qual : Str} {scope : Scope} {f : Addr} {cd : Value} {A : Around} {outer : List Env} {s s1 : Shared} {H : Hp} {E : XK} {us : List Value} {vs : List V}
    (S : FnScope N ps scope) (hd : A.handled = none) (e0 : Env0 P w K mg base A outer s H) (hl : vs.length = ps.length) (r : Vals vs us)
    (x : InCallC s s.heap.objs.size (bindL (envOfC qual scope s.heap.objs.size f cd).kindOf (ps.zip us) fun _ => none) (cellsFrom (s.heap.objs.size + 1) scope.names []) (bindC (envOfC qual scope s.heap.objs.size f cd).kindOf (ps.zip us) fun _ => none) s1) :
    Inv (cxOf CX P w K mg base N qual scope f cd A outer s H E) [] (start N vs) H s1 := by
  have hpl : ps.length ≤ N.length := by have := congrArg List.length S.pre; rw [List.length_take] at this; omega
  obtain ⟨h1, tk, rfl, hk⟩ := x.done
  have noA : ∀ b : Addr, b ∉ (cxOf CX P w K mg base N qual scope f cd A outer s H E).ex := fun b z => absurd (show b ∈ ([] : List Addr) from z) (by simp)
  refine ⟨⟨e0.mod, S.kind, rfl, rfl, Nat.le_refl _, fun y z c h1 h2 => ?_, fun y hy => ?_, fun y c _ h => ?_, fun _ => hd, Around.frames_deeper e0.frames, .inr ⟨rfl, rfl⟩, fun b z => absurd z (noA b), e0.bs, e0.bsz, fun b _ _ => noA b, fun b z => absurd z (noA b), e0.funs, e0.frf⟩,
    rfl, e0.bare, Un.kept hk, ⟨_, x.toInCall.ns, fun i y v h1 h2 h3 => ?_⟩, fun y c h => ⟨_, x.cell y c h⟩, e0.hok.fresh (Nat.le_refl _), fun y c h => ?_, fun p hp => absurd (show p ∈ ([] : List (Addr × Obj)) from hp) (by simp), e0.hok.kept hk, ?_⟩
  · exact name_of_addr x.apart (PySem.mem_of_lookup h1) (PySem.mem_of_lookup h2)
  · have hy : scope.names.lookup y = some .cell ∨ scope.names.lookup y = some .free := hy
    rcases hy with hy | hy
    · exact cell_has hy
    · exact absurd rfl (S.nofree _ (PySem.mem_of_lookup hy))
  · exact Nat.le_of_lt (x.above y c (PySem.mem_of_lookup h))
  · have hi : i < vs.length := by
      unfold start at h2
      by_cases hi : i < vs.length
      · exact hi
      · rw [List.getElem?_append_right (by simpa using hi)] at h2
        rw [List.getElem?_replicate] at h2
        split at h2 <;> cases h2
    have ha : vs[i]? = some v := by
      unfold start at h2
      rw [List.getElem?_append_left (by simpa using hi), List.getElem?_map] at h2
      cases e : vs[i]? with
      | none => rw [e] at h2; cases h2
      | some a => rw [e] at h2; cases h2; rfl
    obtain ⟨u, hu, rv⟩ := r.get ha
    have hp : ps[i]? = some y := by
      rw [← S.pre, List.getElem?_take_of_lt (by omega)]; exact h1
    have ndP : ps.Nodup := by rw [← S.pre]; exact S.nd.sublist (List.take_sublist _ _)
    refine ⟨u, rv, ?_⟩
    rcases S.par y (List.mem_of_getElem? hp) with k | k
    · exact .inl ⟨k, bindL_get ndP hp hu k⟩
    · obtain ⟨c, e⟩ := cell_has (n := s.heap.objs.size + 1) k
      refine .inr ⟨.inl k, c, e, ?_⟩
      have q := x.cell y c e
      rw [bindC_get ndP hp hu (by show scope.names.lookup y ≠ _; rw [k]; decide)] at q
      exact q
  · exact e0.hok.fresh (Nat.le_of_lt (x.above y c (PySem.mem_of_lookup h)))
  · unfold start
    show _ = N.length
    rw [List.length_append, List.length_map, List.length_replicate]
    omega

/-- THE RULE: a def (or a method) of the text, by its body. The body's reading t is chosen for each entry; it is run at the parameters' values -/
theorem fn_of {CX : CXT} {P : Program} {w : World} {K : PySem.W.Frag} {mg : Str → Option Value} {base : Heap} {k : Nat} {f : Addr} {name qual : Str} {params : Arguments} {body : List Stmt} {scope : Scope} {dV kV doc pm cdv ct oc : Value} {an od : Option Addr}
    {osl : Array (Option Value)} {N ps : List Str} {sp : Sp} (lk : K.lookup f = some ⟨oc, od, .func (PySem.W.fnOf name qual params body scope dV kV doc pm an cdv ct), osl⟩) (hcd : PySem.W.codeIn K cdv qual = true) (S : FnScope N ps scope)
    (len : ∀ vs H Q E, sp vs H Q E → vs.length = ps.length)
    (hbody : ∀ (A : Around) (outer : List Env) (s : Shared) (H : Hp) (vs : List V) (Q : VK) (E : XK), Room k (A.deeper (envOfC qual scope s.heap.objs.size f cdv)) → sp vs H Q E →
      ∃ t, PSs (cxOf CX P w K mg base N qual scope f cdv A outer s H E) body t ∧ t { nx := fun _ H' => Q .non H', rt := Q } (start N vs) H) :
    FnOk P w K mg base CX (k + 1) f (PySem.W.fnOf name qual params body scope dV kV doc pm an cdv ct) ps sp := by
  refine ⟨len, fun A outer s H args us vs Q E hr e0 hb r hsp => ?_⟩
  have hl := len _ _ _ _ hsp
  have KX : K.In s.heap := e0.mod.kin.keeps fun b o e => (e0.bs b o e).1
  have lim : s.heap.NoLimit := e0.mod.nolimit.keeps fun b o e => (e0.bs b o e).1
  have hkind : ∀ y ∈ ps.zip us, scope.names.lookup y.1 = some .local ∨ (scope.names.lookup y.1 = some .cell ∧ ((cellsFrom (s.heap.objs.size + 1) scope.names []).lookup y.1).isSome = true) := fun ⟨n, v⟩ hy => by
    rcases S.par n (List.of_mem_zip hy).1 with q | q
    · exact .inl q
    · exact .inr ⟨q, PySem.W.cellsFrom_some _ _ _ (.inl q)⟩
  refine codeAny_call_function hr.depth (KX _ _ lk) rfl S.co S.gen rfl (PySem.W.codeRec_of KX hcd) (hb _ _ _ _ ?_)
  refine wpAny_newFunctionEnv_cells S.kind hkind fun env he s1 x => ?_
  subst he
  refine ⟨lim.keeps x.toInCall.keep, codeAny_func ?_⟩
  obtain ⟨t, ht, hq⟩ := hbody A outer s H vs Q E (hr.deeper _) hsp
  have I : Inv (cxOf CX P w K mg base N qual scope f cdv A outer s H E) [] (start N vs) H s1 := inv_start S hr.hd e0 hl r x
  refine wpAny_mono (ht [] s1 (start N vs) H _ I hq) (fun fl s' hs => ?_) fun e s' hs => hs
  have fin : ∀ {σ' : St} {H' : Hp} {v : V} {u : Value}, Inv (cxOf CX P w K mg base N qual scope f cdv A outer s H E) [] σ' H' s' → RelV v u → Q v H' → CE outer P w H s Q u s' :=
    fun {σ' H' v u} J rv q => ⟨v, H', J.os, J.bare, J.base, J.hok, rv, q⟩
  cases fl with
  | ret u =>
    obtain ⟨v, σ', H', J, rv, q⟩ := hs
    exact fin J rv q
  | next =>
    obtain ⟨σ', H', J, q⟩ := hs
    exact fin (v := V.non) (u := Value.none) J rfl q
  | brk =>
    obtain ⟨_, _, _, q⟩ := hs
    exact False.elim q
  | cont =>
    obtain ⟨_, _, _, q⟩ := hs
    exact False.elim q
end L2

namespace L2
open PySem PySem.Spec PyProof.Rows
section
variable {X : Cx} {x : Str} {p pos : Pos} {e : Expr} {es : List Expr} {t : TA} {id T : String} {r : List V → Hp → VK → Prop}

def tCB (r : List V → Hp → VK → Prop) (t : TA) : TE := fun σ H Q => t σ H fun vs H1 => r vs H1 Q
/-- f(e, ..), f a built-in function -/
theorem pe_callB (hc : CallR X (.builtin id) r) (hg : Gl X x) (hm : X.mg x = none) (hv : bootBuiltins x = some (.builtin id)) (ha : PA X (e :: es) t) (hn : x ≠ "__name__" := by decide) (hdb : (x == ("__debug__" : Str)) = false := by decide)
    (he : starEach (e :: es) X.env = (false, eval e X.env) :: starEach es X.env := by rfl) (hpl : (backTo pos (starEach es X.env)).any (·.1) = false := by rfl) : PE X (.Call (.Name x p) (e :: es) [] pos) (tCB r t) := by
  intro pins s σ H Q I h
  refine wpAny_Call_Name_kw (ld_blt I hg hm hv ?_ hn hdb)
  exact PyProof.Rows.callWith_builtin1 (thn (ha pos pins s σ H _ I h) fun us s1 ⟨vs, H1, I1, r1, q1⟩ => hc pins s1 σ H1 vs us Q I1 r1 q1) he hpl
/-- T(e, ..), T a built-in type -/
theorem pe_callTy (hc : CallR X (.type T) r) (hg : Gl X x) (hm : X.mg x = none) (hv : bootBuiltins x = some (.type T)) (ha : PA X (e :: es) t) (hn : x ≠ "__name__" := by decide) (hdb : (x == ("__debug__" : Str)) = false := by decide)
    (he : starEach (e :: es) X.env = (false, eval e X.env) :: starEach es X.env := by rfl) (hpl : (backTo pos (starEach es X.env)).any (·.1) = false := by rfl) : PE X (.Call (.Name x p) (e :: es) [] pos) (tCB r t) := by
  intro pins s σ H Q I h
  refine wpAny_Call_Name_kw (ld_blt I hg hm hv ?_ hn hdb)
  exact PyProof.Rows.callWith_type1 (thn (ha pos pins s σ H _ I h) fun us s1 ⟨vs, H1, I1, r1, q1⟩ => hc pins s1 σ H1 vs us Q I1 r1 q1) he hpl
/-- T() -/
theorem pe_callTy0 (hc : CallR X (.type T) r) (hg : Gl X x) (hm : X.mg x = none) (hv : bootBuiltins x = some (.type T)) (hn : x ≠ "__name__" := by decide) (hdb : (x == ("__debug__" : Str)) = false := by decide) :
    PE X (.Call (.Name x p) [] [] pos) (tCB r tNil) := by
  intro pins s σ H Q I h
  refine wpAny_Call_Name_kw (ld_blt I hg hm hv ?_ hn hdb)
  exact PyProof.Rows.callWith_type0 (hc pins s σ H [] [] Q I .nil h)
end
end L2

namespace HT
open PySem PyProof.Rows

/-- t < u of tuples of ints -/
def lexLt : List Int → List Int → Bool
  | [], [] => false
  | [], _ :: _ => true
  | _ :: _, [] => false
  | x :: xs, y :: ys => if x = y then lexLt xs ys else decide (x < y)
theorem lexLt_cons (x y : Int) (xs ys : List Int) : lexLt (x :: xs) (y :: ys) = if x = y then lexLt xs ys else decide (x < y) := rfl
theorem lexLt_nil_nil : lexLt [] [] = false := rfl
theorem lexLt_nil_cons (y : Int) (ys : List Int) : lexLt [] (y :: ys) = true := rfl
theorem lexLt_cons_nil (x : Int) (xs : List Int) : lexLt (x :: xs) [] = false := rfl

theorem eqAt_int (A : Around) (s : Shared) (a : Int) (t : Tok) (c : Int) (u : Tok) : ∃ e, SeqAt.EqAt A s (.int a t) (.int c u) e ∧ (e = true ↔ a = c) :=
  ⟨(a == c), SeqAt.EqAt.int_int a t c u, by simp⟩
theorem rcLt_int (A : Around) (s : Shared) (a : Int) (t : Tok) (c : Int) (u : Tok) (prog : Program) (w : World) (E : Value → Shared → Prop) (Q : Value → Shared → Prop) (h : Q (.bool (decide (a < c))) s) :
    wpAny (model prog w) A (richCompare .Lt (.int a t) (.int c u)) Q E s :=
  (PyProof.Rows.lt_int h : wpAny (model prog w) A (compareOp .Lt (.int a t) (.int c u)) Q E s)

section
open PySem.SeqAt
open PySem.AutoSeq1 (wpAny_loadPart')
open PySem.MeetsSeq PySem.MeetsSeq2 PySem.MeetsSeq3

theorem tuple_lt_ints (l b : Addr) (items items2 : Array Value) (n n2 : Nat) (dd dd2 : Option Addr) (sl sl2 : Array (Option Value)) (ns ms : List Int) (hi : IntsAre items.toList ns) (hj : IntsAre items2.toList ms) :
    Meets (Builtin.«tuple.__lt__» ⟨[.ref l, .ref b], []⟩)
      (fun _ R s => s.heap.get? l = some { cls := .type "tuple", dict := dd, data := .seq items n, slots := sl } ∧ s.heap.get? b = some { cls := .type "tuple", dict := dd2, data := .seq items2 n2, slots := sl2 } ∧
        R (.ok (.ret (.bool (lexLt ns ms)))) s) :=
  .of_wp fun prog w A R s h => by
    obtain ⟨hp, g, d, tk, os⟩ := s; obtain ⟨hl, hb, h⟩ := h
    have f2 := AutoSeq1.sub_tuple_tuple
    have z1 : items.size = ns.length := by rw [← hi.length]; simp
    have z2 : items2.size = ms.length := by rw [← hj.length]; simp
    wp_walk using wpAny_loadPart' hl, wpAny_loadPart' hb, wpAny_forIn_list _ (fun rest b s' => b.1 = none ∧ s' = ⟨hp, g, d, tk, os⟩ ∧ ∃ (vs ws : List Value) (ns' ms' : List Int), rest = vs.zip ws ∧
      IntsAre vs ns' ∧ IntsAre ws ms' ∧ ns'.length + items2.size = ms'.length + items.size ∧ R (.ok (.ret (.bool (lexLt ns' ms')))) ⟨hp, g, d, tk, os⟩) _
    case turn =>
      rintro ⟨y, x⟩ rest b s' ⟨hb', rfl, vs, ws, ns', ms', hz, hvi, hwi, hlen, hR⟩
      cases hvi with
      | nil => rw [List.zip_nil_left] at hz; cases hz
      | cons a t hvi' =>
        cases hwi with
        | nil => rw [List.zip_nil_right] at hz; cases hz
        | cons c u hwi' =>
          rw [List.zip_cons_cons] at hz
          injection hz with hyx hrest
          injection hyx with hy hx
          subst hy hx
          rw [lexLt_cons] at hR
          simp only [List.length_cons] at hlen
          obtain ⟨e, he, hiff⟩ := eqAt_int A.in1 ⟨hp, g, d, tk, os⟩ a t c u
          refine wpAny_bind (he prog w _ _ ?_)
          cases e with
          | true =>
            rw [if_pos (hiff.mp rfl)] at hR
            wp_walk
            exact ⟨rfl, rfl, _, _, _, _, hrest, hvi', hwi', by omega, hR⟩
          | false =>
            rw [if_neg (fun q => absurd (hiff.mpr q) Bool.false_ne_true)] at hR
            have hri := rcLt_int A.in1 ⟨hp, g, d, tk, os⟩ a t c u prog w
            wp_walk using hri
            exact ⟨_, rfl, by simpa using hR⟩
    case fin =>
      rintro ⟨b1, b2⟩ s' ⟨hb', rfl, vs, ws, ns', ms', hz, hvi, hwi, hlen, hR⟩
      simp only at hb'
      subst hb'
      have hv : lexLt ns' ms' = decide (items.size < items2.size) := by
        cases hvi with
        | nil =>
          cases hwi with
          | nil =>
            simp only [List.length_nil] at hlen
            rw [lexLt_nil_nil]
            exact (decide_eq_false (by omega)).symm
          | cons c u hw =>
            simp only [List.length_nil, List.length_cons] at hlen
            rw [lexLt_nil_cons]
            exact (decide_eq_true (by omega)).symm
        | cons a t hv =>
          cases hwi with
          | nil =>
            simp only [List.length_nil, List.length_cons] at hlen
            rw [lexLt_cons_nil]
            exact (decide_eq_false (by omega)).symm
          | cons c u hw =>
            rw [List.zip_cons_cons] at hz
            cases hz
      rw [hv] at hR
      wp_walk
      exact ⟨_, rfl, by simpa [Builtin.Tuple.tupleCompareSizes] using hR⟩
    case h =>
      exact ⟨rfl, rfl, items.toList, items2.toList, ns, ms, rfl, hi, hj, by omega, h⟩
end

section
variable {prog : Program} {w : World} {A : Around} {E : Value → Shared → Prop} {s : Shared}

theorem lt_tupInts {l b : Addr} {items items2 : Array Value} {ns ms : List Int} {Q : Value → Shared → Prop} (hl : IsTup s.heap l items) (hb : IsTup s.heap b items2) (hi : IntsAre items.toList ns) (hj : IntsAre items2.toList ms)
    (hu : A.units < cLine) (h : Q (.bool (lexLt ns ms)) s) : wpAny (model prog w) A (compareOp .Lt (.ref l) (.ref b)) Q E s := by
  obtain ⟨⟨cls, dd, data, sl⟩, ho, hc, n, hd⟩ := id hl
  obtain ⟨⟨cls2, dd2, data2, sl2⟩, ho2, hc2, n2, hd2⟩ := id hb
  simp only at hc hd hc2 hd2
  subst hc hd hc2 hd2
  exact richCompare_meets_room (op := .Lt) ⟨_, ho, rfl⟩ ⟨_, ho2, rfl⟩ PySem.F.slot_tuple_lt PySem.F.entry_tuple_lt (PySem.F.args_tuple_lt_2 _ _) (tuple_lt_ints l b items items2 n n2 dd dd2 sl sl2 ns ms hi hj)
    ⟨ho, ho2, show Value.bool (lexLt ns ms) ≠ Value.notImplemented ∧ Q (.bool (lexLt ns ms)) s from ⟨(fun x => nomatch x), h⟩⟩ hu

/-- t + u, t not empty -/
theorem cat_tup {t b : Addr} {vs ws : List Value} {Q : Value → Shared → Prop} (ht : IsTup s.heap t vs.toArray) (hb : IsTup s.heap b ws.toArray) (hv : vs ≠ [])
    (h1 : ws = [] → Q (.ref t) s) (h2 : ws ≠ [] → Q (.ref s.heap.objs.size) { s with heap := s.heap.push { cls := .type "tuple", data := .seq (vs ++ ws).toArray } })
    (hsz : vs.length + ws.length ≤ sizeLine) : wpAny (model prog w) A (binaryOp .Add (.ref t) (.ref b)) Q E s := by
  obtain ⟨⟨cls, dd, data, sl⟩, ho, hc, n, hd⟩ := id ht
  obtain ⟨⟨cls2, dd2, data2, sl2⟩, ho2, hc2, n2, hd2⟩ := id hb
  simp only at hc hd hc2 hd2
  subst hc hd hc2 hd2
  have e : vs.toArray ++ ws.toArray = (vs ++ ws).toArray := by simp
  by_cases hw : ws = []
  · exact concat_meets ⟨_, ho, rfl⟩ ⟨_, ho2, rfl⟩ noFill_tuple_add seq_tuple_add PySem.F.slot_tuple_add PySem.F.entry_tuple_add (PySem.F.args_tuple_add_2 _ _)
      (tuple_addW1 t b vs.toArray ws.toArray n n2 dd dd2 sl sl2 (by simpa using hv) (by simp [hw])) ⟨ho, ho2, h1 hw⟩
  · refine concat_meets ⟨_, ho, rfl⟩ ⟨_, ho2, rfl⟩ noFill_tuple_add seq_tuple_add PySem.F.slot_tuple_add PySem.F.entry_tuple_add (PySem.F.args_tuple_add_2 _ _)
      (tuple_addW2 t b vs.toArray ws.toArray n n2 dd dd2 sl sl2 (by simpa using hv) (by simpa using hw) (by rw [List.size_toArray, List.size_toArray]; exact hsz)) ⟨ho, ho2, ?_⟩
    rw [e]
    exact h2 hw

/-! ### t[a:b], not the whole -/
/-- a slice's bound as a place among n (d where it is left out) -/
def sIx (n d : Nat) : Option Int → Nat
  | none => d
  | some v => if v < 0 then (v + (n : Int)).toNat else min v.toNat n
theorem sIx_none (n d : Nat) : sIx n d none = d := rfl
theorem sIx_nat (n d k : Nat) : sIx n d (some (k : Int)) = min k n := by
  show (if (k : Int) < 0 then ((k : Int) + (n : Int)).toNat else min (k : Int).toNat n) = min k n
  rw [if_neg (by omega), Int.toNat_natCast]
theorem sIx_le (n d : Nat) (hd : d ≤ n) (o : Option Int) : sIx n d o ≤ n := by
  cases o with
  | none => exact hd
  | some v =>
    show (if v < 0 then (v + (n : Int)).toNat else min v.toNat n) ≤ n
    by_cases hv : v < 0
    · rw [if_pos hv]; omega
    · rw [if_neg hv]; exact Nat.min_le_right _ _
theorem clip_eq (v : Int) (n d : Nat) : (if v < 0 then max (v + (n : Int)) 0 else min v (n : Int)) = ((sIx n d (some v) : Nat) : Int) := by
  show (if v < 0 then max (v + (n : Int)) 0 else min v (n : Int)) = (((if v < 0 then (v + (n : Int)).toNat else min v.toNat n) : Nat) : Int)
  by_cases hv : v < 0
  · simp only [if_pos hv]; omega
  · simp only [if_neg hv]; omega
theorem adjust_gen (lo hi : Option Int) (n : Nat) : Builtin.Slice.sliceAdjust lo hi 1 (n : Int) = (((sIx n 0 lo : Nat) : Int), ((sIx n n hi : Nat) : Int)) := by
  have h1 : ¬ ((1 : Int) < 0) := by omega
  unfold Builtin.Slice.sliceAdjust
  simp only [h1, if_false]
  refine Prod.ext ?_ ?_
  · cases lo with
    | none => rfl
    | some v => exact clip_eq v n 0
  · cases hi with
    | none => rfl
    | some v => exact clip_eq v n n
theorem places_gen (i j : Nat) : Builtin.Slice.slicePlaces (i : Int) (j : Int) 1 = j - i := by
  unfold Builtin.Slice.slicePlaces
  have h1 : (1 : Int) > 0 := by omega
  simp only [h1, if_true, Int.ediv_one]
  split <;> omega
theorem slicePart_ {v : Value} {o : Option Int} {Q : Option Int → Shared → Prop} (p : IsPart v o) (h : Q o s) : wpAny (model prog w) A (Builtin.Slice.slicePartIndex v) Q E s := by
  cases p with
  | none => exact slicePart_none h
  | int i t => exact slicePart_int h
theorem sliceApplied_gen {sl : Addr} {vl vu : Value} {lo hi : Option Int} {n : Nat} {Q : Int × Int × Nat → Shared → Prop} (hs : s.heap.IsSliceOf sl vl vu .none) (pl : IsPart vl lo) (pu : IsPart vu hi)
    (h : Q (((sIx n 0 lo : Nat) : Int), 1, sIx n n hi - sIx n 0 lo) s) : wpAny (model prog w) A (Builtin.Slice.sliceApplied (.ref sl) (pure (n : Int))) Q E s := by
  obtain ⟨os, hos, hcs, hds⟩ := id hs
  unfold Builtin.Slice.sliceApplied Builtin.Slice.sliceFields
  refine wpAny_bind (wpAny_bind (wpAny_field hos hds (x := vl) rfl (wpAny_bind (wpAny_field hos hds (x := vu) rfl (wpAny_bind (wpAny_field hos hds (x := .none) rfl (wpAny_pure ?_)))))))
  refine wpAny_bind (slicePart_none ?_)
  show wpAny _ _ (if ((1 : Int) == 0) = true then _ else _) _ _ s
  rw [if_neg (by decide)]
  refine wpAny_bind (slicePart_ pl (wpAny_bind (slicePart_ pu (wpAny_bind (wpAny_pure ?_)))))
  show wpAny _ _ (match Builtin.Slice.sliceAdjust lo hi 1 (n : Int) with | (lo, hi) => pure (lo, (1 : Int), Builtin.Slice.slicePlaces lo hi 1)) _ _ s
  rw [adjust_gen lo hi n]
  show wpAny _ _ (pure (((sIx n 0 lo : Nat) : Int), (1 : Int), Builtin.Slice.slicePlaces ((sIx n 0 lo : Nat) : Int) ((sIx n n hi : Nat) : Int) 1)) _ _ s
  rw [places_gen]
  exact wpAny_pure h
theorem pick_gen (xs : Array Value) (i k : Nat) : ((List.range k).filterMap fun (m : Nat) => xs[((i : Int) + (m : Int) * 1).toNat]?).toArray = ((xs.toList.drop i).take k).toArray := by
  have e : (fun (m : Nat) => xs[((i : Int) + (m : Int) * 1).toNat]?) = fun m => xs[i + m]? := by
    funext m
    have : ((i : Int) + (m : Int) * 1).toNat = i + m := by omega
    rw [this]
  rw [e]
  have := pick_run xs i k
  rw [List.filterMap_map] at this
  have e2 : ((fun x => xs[x]?) ∘ fun x => i + x) = fun m => xs[i + m]? := rfl
  rw [e2] at this
  rw [this]

theorem getItem_tuple_cut {t sl : Addr} {items : Array Value} {vl vu : Value} {lo hi : Option Int} {Q : Value → Shared → Prop} (ht : IsTup s.heap t items) (hs : s.heap.IsSliceOf sl vl vu .none) (pl : IsPart vl lo) (pu : IsPart vu hi)
    (hw : ¬ (sIx items.size 0 lo = 0 ∧ sIx items.size items.size hi = items.size))
    (h : Q (.ref s.heap.objs.size) { s with heap := s.heap.push { cls := .type "tuple", data := .seq ((items.toList.drop (sIx items.size 0 lo)).take (sIx items.size items.size hi - sIx items.size 0 lo)).toArray } })
    (hsz : items.size ≤ sizeLine) : wpAny (model prog w) A (getItem (.ref t) (.ref sl)) Q E s := by
  have htake : sizeOk (.seq ((items.toList.drop (sIx items.size 0 lo)).take (sIx items.size items.size hi - sIx items.size 0 lo)).toArray) := by
    show ((items.toList.drop (sIx items.size 0 lo)).take (sIx items.size items.size hi - sIx items.size 0 lo)).toArray.size ≤ sizeLine
    rw [List.size_toArray, List.length_take, List.length_drop, Array.length_toList]
    omega
  have hj : sIx items.size items.size hi ≤ items.size := sIx_le _ _ (Nat.le_refl _) hi
  obtain ⟨os, hos, hcs, hds⟩ := id hs
  have hTs : s.TypeIs (.ref sl) "slice" := ⟨os, hos, hcs⟩
  unfold getItem
  try with_reducible refine wpAny_holding ?_
  first | refine wpAny_bind (wpAny_pure ?_) | skip
  refine wpAny_bind (wpAny_sequenceKey ht.typeIs (by decide) ?_)
  refine wpAny_bind (wpAny_callSpecial?_slot (name := Str.ofString "__getitem__") ht.typeIs PyProof.Rows.slot_tuple_getitem
    (wpAny_call_entry PyProof.Rows.slot_tuple_getitem ht.typeIs entry_tuple_getitem ?_ (args_tuple_getitem _ _)))
  show wpAny _ _ (Builtin.Tuple.tupleItemsOf (.ref t) >>= _) _ _ s
  refine wpAny_bind (tupleItemsOf_ ht ?_)
  refine wpAny_bind (wpAny_typeOf hTs ?_)
  rw [if_pos (by decide)]
  refine wpAny_bind (sliceApplied_gen hs pl pu ?_)
  have hno : ¬ ((((sIx items.size 0 lo : Nat) : Int) == 0 && (1 : Int) == 1 && (sIx items.size items.size hi - sIx items.size 0 lo) == items.size) = true) := by
    intro q
    rw [Bool.and_eq_true, Bool.and_eq_true] at q
    have q1 : ((sIx items.size 0 lo : Nat) : Int) = 0 := eq_of_beq q.1.1
    have q2 : sIx items.size items.size hi - sIx items.size 0 lo = items.size := eq_of_beq q.2
    exact hw ⟨by omega, by omega⟩
  show wpAny _ _ (if (((sIx items.size 0 lo : Nat) : Int) == 0 && (1 : Int) == 1 && (sIx items.size items.size hi - sIx items.size 0 lo) == items.size) = true then _ else _) _ _ s
  rw [if_neg hno, pick_gen]
  first
    | exact wpAny_bind (m := Builtin.Tuple.tupleExact _) (wpAny_newObj_type (wpAny_pure ⟨_, rfl, wpAny_pure h⟩) htake)
    | exact wpAny_bind (m := Builtin.Tuple.tupleExact _) (wpAny_newObj_type (wpAny_bind (wpAny_pure (wpAny_pure ⟨_, rfl, wpAny_pure h⟩))) htake)
    | exact wpAny_bind (wpAny_bind (m := Builtin.Tuple.tupleExact _) (wpAny_newObj_type (wpAny_pure (wpAny_pure ⟨_, rfl, wpAny_pure h⟩)) htake))
    | exact wpAny_bind (wpAny_bind (m := Builtin.Tuple.tupleExact _) (wpAny_newObj_type (wpAny_pure ⟨_, rfl, wpAny_pure h⟩) htake))
end
end HT

namespace L2
open PySem PySem.Spec PyProof.Rows

/-! ### the parts of a slice -/
abbrev TO := St → Hp → (Option Int → Hp → Prop) → Prop
/-- a slice's part (left out, or an int) -/
def PO (X : Cx) (e : Option Expr) (t : TO) : Prop :=
  ∀ (pins : List (Addr × Obj)) (s : Shared) (σ : St) (H : Hp) (Q : Option Int → Hp → Prop), Inv X pins σ H s → t σ H Q →
    wpAny (model X.prog X.w) X.A (evalPart e X.env) (fun u s' => ∃ o H', Inv X pins σ H' s' ∧ IsPart u o ∧ Q o H') X.xe s
def tNoPart : TO := fun _ H Q => Q none H
def tPart (t : TE) : TO := fun σ H Q => t σ H fun x H1 => ∃ i, x = .int i ∧ Q (some i) H1

theorem intsAre_of {ns : List Int} : ∀ {us : List Value}, Vals (ns.map V.int) us → IntsAre us ns := by
  induction ns with
  | nil => intro us r; rw [List.map_nil] at r; cases r; exact .nil
  | cons n ns ih =>
    intro us r
    rw [List.map_cons] at r
    cases r with
    | cons r1 r2 =>
      obtain ⟨t, e⟩ := r1
      subst e
      exact .cons n t (ih r2)

section
variable {X : Cx} {e : Expr} {te : TE} {lo hi : Option Expr} {tl th : TO} {pos p2 : Pos}

theorem po_none : PO X none tNoPart := by
  intro pins s σ H Q I h
  rw [evalPart_none]
  exact wpAny_pure ⟨none, H, I, .none, h⟩
theorem po_some (h : PE X e te) : PO X (some e) (tPart te) := by
  intro pins s σ H Q I hw
  rw [evalPart_some]
  refine thn (h pins s σ H _ I hw) fun u s1 ⟨x, H1, I1, r1, q1⟩ => ?_
  obtain ⟨i, rfl, q⟩ := q1
  obtain ⟨t, rfl⟩ := r1
  exact ⟨some i, H1, I1, .int i t, q⟩

/-- what a slice of a value is, by values: the slice object stands at sl -/
def SlR (X : Cx) (r : V → Option Int → Option Int → Hp → VK → Prop) : Prop :=
  ∀ (pins : List (Addr × Obj)) (s : Shared) (σ : St) (H : Hp) (x : V) (v vl vu : Value) (lo hi : Option Int) (sl : Addr) (Q : VK), Inv X pins σ H s → RelV x v → s.heap.IsSliceOf sl vl vu .none → IsPart vl lo → IsPart vu hi → r x lo hi H Q →
    ∃ T id, typeLookup (.type T) "__getitem__" = pure (some (.builtin id)) ∧ s.TypeIs v T ∧ wpAny (model X.prog X.w) X.A (getItem v (.ref sl)) (EP X pins σ Q) X.xe s
theorem SlR.or {r r' : V → Option Int → Option Int → Hp → VK → Prop} (h : SlR X r) (h' : SlR X r') : SlR X (fun x lo hi H Q => r x lo hi H Q ∨ r' x lo hi H Q) := by
  intro pins s σ H x v vl vu lo hi sl Q I rx hs pl pu q
  rcases q with q | q
  · exact h pins s σ H x v vl vu lo hi sl Q I rx hs pl pu q
  · exact h' pins s σ H x v vl vu lo hi sl Q I rx hs pl pu q
def tSl (r : V → Option Int → Option Int → Hp → VK → Prop) (te : TE) (tl th : TO) : TE := fun σ H Q => te σ H fun x H1 => tl σ H1 fun l H2 => th σ H2 fun u H3 => r x l u H3 Q
/-- a[lo:hi], any a -/
theorem pe_slice {r : V → Option Int → Option Int → Hp → VK → Prop} (hr : SlR X r) (he : PE X e te) (hl : PO X lo tl) (hu : PO X hi th) : PE X (.Subscript e (.Slice lo hi none p2) pos) (tSl r te tl th) := by
  intro pins s σ H Q I h
  refine Subscript_ (thn (he pins s σ H _ I h) fun v s1 ⟨x, H1, I1, r1, q1⟩ => ?_)
  refine wpAny_Slice (thn (hl pins s1 σ H1 _ I1 q1) fun vl s2 ⟨l, H2, I2, pl, q2⟩ => thn (hu pins s2 σ H2 _ I2 q2) fun vu s3 ⟨u, H3, I3, pu, q3⟩ => ?_)
  rw [evalPart_none]
  refine wpAny_pure ?_
  have I4 : Inv X pins σ H3 { s3 with heap := s3.heap.push { cls := .type "slice", data := .fields #[vl, vu, .none] } } := I3.kept (t' := s3.toks) fun b ob q => Heap.get?_push_of_some _ q
  obtain ⟨T, id, hT, ht, hg⟩ := hr pins { s3 with heap := s3.heap.push { cls := .type "slice", data := .fields #[vl, vu, .none] } } σ H3 x v vl vu l u s3.heap.objs.size Q I4 r1 (Heap.IsSliceOf.new ..) pl pu q3
  show wpAny (model X.prog X.w) X.A (subscriptTail e (.Slice lo hi none p2) v (.ref s3.heap.objs.size)) (EP X pins σ Q) X.xe { s3 with heap := s3.heap.push { cls := .type "slice", data := .fields #[vl, vu, .none] } }
  exact tail_any (ops := [.ref s3.heap.objs.size, v]) ht hT hg (by with_unfolding_all rfl)

/-- the items of xs[lo:hi] -/
def cutV (xs : List V) (lo hi : Option Int) : List V := (xs.drop (HT.sIx xs.length 0 lo)).take (HT.sIx xs.length xs.length hi - HT.sIx xs.length 0 lo)
theorem cutV_length (xs : List V) (lo hi : Option Int) : (cutV xs lo hi).length ≤ xs.length := by
  unfold cutV
  rw [List.length_take, List.length_drop]
  omega
/-- t[lo:hi], not the whole of it (the whole would be t itself) -/
def rSlT (K : PySem.W.Frag) : V → Option Int → Option Int → Hp → VK → Prop := fun x lo hi H Q => ∃ a xs, x = .ref a ∧ SqT K H a xs ∧
  ¬ (HT.sIx xs.length 0 lo = 0 ∧ HT.sIx xs.length xs.length hi = xs.length) ∧ ∀ p, H p = none → Q (.ref p) (upd H p (.tup (cutV xs lo hi)))
theorem sl_tup : SlR X (rSlT X.K) := by
  intro pins s σ H x v vl vu lo hi sl Q I rx hs pl pu h
  obtain ⟨a, xs, rfl, hx, hw, q⟩ := h
  cases rx
  obtain ⟨its, r, ht, hz⟩ := I.tuple hx
  have hlen : its.toArray.size = xs.length := by rw [List.size_toArray]; exact r.length.symm
  refine ⟨"tuple", _, PyProof.Rows.slot_tuple_getitem.lookup, ht.typeIs, ?_⟩
  refine HT.getItem_tuple_cut ht hs pl pu (by rw [hlen]; exact hw) ?_ (by rw [hlen]; exact hz)
  rw [hlen]
  refine ⟨.ref s.heap.objs.size, _, I.laid (t' := s.toks) (o := .tup (cutV xs lo hi)) (fun b ob q => Heap.get?_push_of_some _ q) (Nat.le_refl _) ?_, rfl, q _ (I.hok.fresh (Nat.le_refl _))⟩
  exact ⟨Nat.le_trans (cutV_length xs lo hi) hz, _, (r.drop (HT.sIx xs.length 0 lo)).take (HT.sIx xs.length xs.length hi - HT.sIx xs.length 0 lo), IsTup.new _ _⟩

/-! ### t < u, t + u -/
def rLtT (K : PySem.W.Frag) : R2 := fun x y H Q => ∃ a b ns ms, x = .ref a ∧ y = .ref b ∧ SqT K H a (ns.map V.int) ∧ SqT K H b (ms.map V.int) ∧ Q (.bl (HT.lexLt ns ms)) H
theorem op_ltT (hu : X.A.units < cLine) : OpR X (compareOp .Lt) (rLtT X.K) := by
  intro pins s σ H x y v u Q I rx ry h
  obtain ⟨a, b, ns, ms, rfl, rfl, ha, hb, q⟩ := h
  cases rx
  cases ry
  obtain ⟨its, r1, p1, _⟩ := I.tuple ha
  obtain ⟨its2, r2, p2, _⟩ := I.tuple hb
  have i1 : IntsAre its.toArray.toList ns := intsAre_of r1
  have i2 : IntsAre its2.toArray.toList ms := intsAre_of r2
  exact HT.lt_tupInts p1 p2 i1 i2 hu ⟨.bl (HT.lexLt ns ms), H, I, rfl, q⟩
/-- t + u, t not empty: u empty gives t itself -/
def rCatT (K : PySem.W.Frag) : R2 := fun x y H Q => ∃ a b xs ys, x = .ref a ∧ y = .ref b ∧ SqT K H a xs ∧ SqT K H b ys ∧ xs ≠ [] ∧ xs.length + ys.length ≤ sizeLine ∧
  (ys = [] → Q (.ref a) H) ∧ (ys ≠ [] → ∀ p, H p = none → Q (.ref p) (upd H p (.tup (xs ++ ys))))
theorem Vals.nil_iff {xs : List V} {us : List Value} (r : Vals xs us) : us = [] ↔ xs = [] := by
  cases r with
  | nil => simp
  | cons _ _ => simp
theorem op_catT : OpR X (binaryOp .Add) (rCatT X.K) := by
  intro pins s σ H x y v u Q I rx ry h
  obtain ⟨a, b, xs, ys, rfl, rfl, ha, hb, hx, hz, q1, q2⟩ := h
  cases rx
  cases ry
  obtain ⟨its, r1, p1, _⟩ := I.tuple ha
  obtain ⟨its2, r2, p2, _⟩ := I.tuple hb
  refine HT.cat_tup p1 p2 (fun z => hx (r1.nil_iff.mp z)) (fun z => ⟨.ref a, H, I, rfl, q1 (r2.nil_iff.mp z)⟩) (fun z => ?_) (by rw [← r1.length, ← r2.length]; exact hz)
  refine ⟨.ref s.heap.objs.size, _, I.laid (t' := s.toks) (o := .tup (xs ++ ys)) (fun b ob q => Heap.get?_push_of_some _ q) (Nat.le_refl _) ?_, rfl, q2 (fun w => z (r2.nil_iff.mpr w)) _ (I.hok.fresh (Nat.le_refl _))⟩
  exact ⟨by rw [List.length_append]; exact hz, _, r1.append r2, IsTup.new _ _⟩
/-- tuple(t) -/
theorem call_tupleT : CallR X (.type "tuple") (fun xs H Q => ∃ a ys, xs = [.ref a] ∧ SqT X.K H a ys ∧ Q (.ref a) H) := by
  intro pins s σ H xs us Q I r h
  obtain ⟨a, ys, rfl, ha, q⟩ := h
  obtain ⟨u, rfl, ru⟩ := vals1 r
  cases ru
  obtain ⟨its, _, p1, _⟩ := I.tuple ha
  exact call_tuple_same (items := its.toArray) p1 ⟨.ref a, H, I, rfl, q⟩
end
end L2

namespace L2
open PySem PySem.Spec PyProof.Rows

/-! ### places -/
/-- the place that an index of any sign means -/
def ixN (n : Nat) (i : Int) : Option Nat := if 0 ≤ i then (if i < n then some i.toNat else none) else if -(n : Int) ≤ i then some (i + n).toNat else none
def atI {α : Type} (xs : List α) (i : Int) : Option α := (ixN xs.length i).bind fun j => xs[j]?
theorem ixN_seq {n : Nat} {i : Int} {j : Nat} (h : ixN n i = some j) : seqIndex? i n = some j ∧ j < n ∧ -(n : Int) ≤ i ∧ i < n := by
  unfold ixN at h
  by_cases h0 : 0 ≤ i
  · rw [if_pos h0] at h
    by_cases h1 : i < n
    · rw [if_pos h1] at h
      have e : i.toNat = j := Option.some.inj h
      exact ⟨by rw [seqIndex_of h0 h1, e], by omega, by omega, h1⟩
    · rw [if_neg h1] at h; cases h
  · rw [if_neg h0] at h
    by_cases h1 : -(n : Int) ≤ i
    · rw [if_pos h1] at h
      have e : (i + n).toNat = j := Option.some.inj h
      exact ⟨by rw [seqIndex_neg (by omega) h1, e], by omega, h1, by omega⟩
    · rw [if_neg h1] at h; cases h
theorem atI_get {α : Type} {xs : List α} {i : Int} {v : α} (h : atI xs i = some v) : ∃ j, seqIndex? i xs.length = some j ∧ xs[j]? = some v ∧ j < xs.length ∧ -(xs.length : Int) ≤ i ∧ i < xs.length := by
  unfold atI at h
  cases e : ixN xs.length i with
  | none => rw [e] at h; cases h
  | some j =>
    rw [e] at h
    obtain ⟨h1, h2, h3, h4⟩ := ixN_seq e
    exact ⟨j, h1, h, h2, h3, h4⟩
theorem atI_nat {α : Type} {xs : List α} {j : Nat} {v : α} (h : xs[j]? = some v) : atI xs (j : Int) = some v := by
  have hj : j < xs.length := (List.getElem?_eq_some_iff.mp h).1
  have e : ixN xs.length (j : Int) = some j := by
    unfold ixN
    rw [if_pos (by omega), if_pos (by omega)]; simp
  unfold atI; rw [e]; exact h
theorem atI_last {α : Type} (xs : List α) (v : α) : atI (xs ++ [v]) (-1) = some v := by
  have hl : (xs ++ [v]).length = xs.length + 1 := by simp
  have e : ixN (xs ++ [v]).length (-1) = some xs.length := by
    unfold ixN
    rw [hl, if_neg (by decide), if_pos (by omega)]
    congr 1
    omega
  unfold atI
  rw [e]
  show (xs ++ [v])[xs.length]? = some v
  simp

/-! ### what may be subscripted -/
/-- what stands as an index of a plain subscript -/
def PlainIx (b : Expr) : Prop := ∀ o i, subscripted b false o i = operate [o, i] (getItem o i)
/-- a subscript by values -/
def IxR (X : Cx) (r : R2) : Prop :=
  ∀ (value slice : Expr) (pins : List (Addr × Obj)) (s : Shared) (σ : St) (H : Hp) (x y : V) (v u : Value) (Q : VK), Inv X pins σ H s → RelV x v → RelV y u → r x y H Q →
    subscripted slice false v u = operate [v, u] (getItem v u) → wpAny (model X.prog X.w) X.A (subscriptTail value slice v u) (EP X pins σ Q) X.xe s
/-- a call of a builtin's method by values: the receiver, the arguments -/
def MtR (X : Cx) (id : String) (r : V → List V → Hp → VK → Prop) : Prop :=
  ∀ (pins : List (Addr × Obj)) (s : Shared) (σ : St) (H : Hp) (x : V) (xs : List V) (v : Value) (us : List Value) (Q : VK), Inv X pins σ H s → RelV x v → Vals xs us → r x xs H Q →
    wpAny (model X.prog X.w) X.A (call (.builtin id) (v :: us)) (EP X pins σ Q) X.xe s
section
variable {X : Cx} {a b : Expr} {ta tb : TE} {pos : Pos}
theorem IxR.or {r r' : R2} (h : IxR X r) (h' : IxR X r') : IxR X (fun x y H Q => r x y H Q ∨ r' x y H Q) := by
  intro value slice pins s σ H x y v u Q I rx ry q hs
  rcases q with q | q
  · exact h value slice pins s σ H x y v u Q I rx ry q hs
  · exact h' value slice pins s σ H x y v u Q I rx ry q hs
theorem MtR.or {id : String} {r r' : V → List V → Hp → VK → Prop} (h : MtR X id r) (h' : MtR X id r') : MtR X id (fun x xs H Q => r x xs H Q ∨ r' x xs H Q) := by
  intro pins s σ H x xs v us Q I rx rs q
  rcases q with q | q
  · exact h pins s σ H x xs v us Q I rx rs q
  · exact h' pins s σ H x xs v us Q I rx rs q
/-- a[b] -/
theorem pe_ix {r : R2} (hr : IxR X r) (ha : PE X a ta) (hb : PE X b tb) (hs : PlainIx b) : PE X (.Subscript a b pos) (tOp r ta tb) := by
  intro pins s σ H Q I h
  exact Subscript_ (binT ha hb I h fun v u s2 x y H2 I2 rx ry q => hr a b pins s2 σ H2 x y v u Q I2 rx ry q (hs _ _))

def rIxL (K : PySem.W.Frag) : R2 := fun x y H Q => ∃ p xs i v, x = .ref p ∧ y = .int i ∧ SqL K H p xs ∧ atI xs i = some v ∧ Q v H
def rIxT (K : PySem.W.Frag) : R2 := fun x y H Q => ∃ p xs i v, x = .ref p ∧ y = .int i ∧ SqT K H p xs ∧ atI xs i = some v ∧ Q v H
def rIxS : R2 := fun x y H Q => ∃ z i c, x = .str z ∧ y = .int i ∧ z.length ≤ sizeLine ∧ atI z.cps.toList i = some c ∧ Q (.str ⟨#[c]⟩) H
theorem ix_list : IxR X (rIxL X.K) := by
  intro value slice pins s σ H x y v u Q I rx ry h hs
  obtain ⟨p, xs, i, z, rfl, rfl, hq, he, q⟩ := h
  cases rx
  obtain ⟨t, rfl⟩ := ry
  obtain ⟨its, r, pl, hz⟩ := I.list hq
  obtain ⟨j, h1, h2, h3, h4, h5⟩ := atI_get he
  obtain ⟨w, ew, rw'⟩ := r.get h2
  have hl := r.length
  have hn := line63
  have fin : EP X pins σ Q w s := ⟨z, H, I, rw', q⟩
  by_cases h0 : 0 ≤ i
  · have hj : i.toNat = j := by
      rw [seqIndex_of h0 h5] at h1
      exact Option.some.inj h1
    exact item_listR pl.isList h0 (by omega) (by rw [hj]; simpa using ew) fin hs
  · have hj : (i + (its.toArray.size : Int)).toNat = j := by
      rw [seqIndex_neg (by omega) h4] at h1
      rw [List.size_toArray, ← hl]
      exact Option.some.inj h1
    exact subscriptTail_builtinR (x := w) pl.isList.typeIs slot_list_getitem.lookup
      (wpAny_getItem_list_neg (Q := fun r s' => r = w ∧ EP X pins σ Q r s') pl.isList (by omega) (by rw [List.size_toArray] <;> omega) (by omega) (by rw [hj]; simpa using ew) ⟨rfl, fin⟩) hs
theorem ix_tup : IxR X (rIxT X.K) := by
  intro value slice pins s σ H x y v u Q I rx ry h hs
  obtain ⟨p, xs, i, z, rfl, rfl, hq, he, q⟩ := h
  cases rx
  obtain ⟨t, rfl⟩ := ry
  obtain ⟨its, r, pl, hz⟩ := I.tuple hq
  obtain ⟨j, h1, h2, h3, h4, h5⟩ := atI_get he
  obtain ⟨w, ew, rw'⟩ := r.get h2
  have hl := r.length
  have hn := line63
  have fin : EP X pins σ Q w s := ⟨z, H, I, rw', q⟩
  exact subscriptTail_builtinR (x := w) pl.typeIs slot_tuple_getitem.lookup
    (getItem_tuple (j := j) (Q := fun r s' => r = w ∧ EP X pins σ Q r s') pl (by omega) (by omega) (by rw [List.size_toArray, ← hl]; exact h1) (by simpa using ew) ⟨rfl, fin⟩) hs
theorem ix_str : IxR X rIxS := by
  intro value slice pins s σ H x y v u Q I rx ry h hs
  obtain ⟨z, i, c, rfl, rfl, hz, he, q⟩ := h
  obtain ⟨t, rfl⟩ := rx
  obtain ⟨t', rfl⟩ := ry
  obtain ⟨j, h1, h2, h3, h4, h5⟩ := atI_get he
  have hl : z.cps.toList.length = z.length := by simp [Str.length]
  rw [hl] at h1 h4 h5
  have hn := line63
  exact tail_any (typeIs_str s z t) slot_str_getitem.lookup (getItem_str (c := c) (by
    have e1 : decide (i < -(2 ^ 63 : Int)) = false := decide_eq_false (by omega)
    have e2 : decide (i ≥ 2 ^ 63) = false := decide_eq_false (by omega)
    rw [e1, e2, Bool.or_false]) (by rw [h1]; simpa using h2) ⟨.str ⟨#[c]⟩, H, I.tok _, ⟨_, rfl⟩, q⟩) hs
/-- list, tuple or str -/
def rIx (K : PySem.W.Frag) : R2 := fun x y H Q => rIxL K x y H Q ∨ rIxT K x y H Q ∨ rIxS x y H Q
theorem ix_seq : IxR X (rIx X.K) := ix_list.or (ix_tup.or ix_str)

/-! ### xs[i] = v, any sign -/
/-- the list's object behind a store -/
theorem mapSeq_set (its : List Value) (n j : Nat) (u : Value) : Obj.mapSeq (·.setIfInBounds j u) { cls := .type "list", data := .seq its.toArray n } = { cls := .type "list", data := .seq (its.set j u).toArray n } := by
  simp [Obj.mapSeq]
theorem Inv.lst {pins : List (Addr × Obj)} {σ : St} {H : Hp} {s : Shared} {p : Addr} {xs : List V} (I : Inv X pins σ H s) (h : H p = some (.lst xs)) :
    ∃ (its : List Value) (n : Nat), Vals xs its ∧ s.heap.get? p = some { cls := .type "list", data := .seq its.toArray n } ∧ xs.length ≤ sizeLine := by
  obtain ⟨z, its, n, r, e⟩ := I.hok p _ h
  exact ⟨its, n, r, e, z⟩
/-- the list at p is written by an update of its object -/
theorem Inv.lstUpd {pins : List (Addr × Obj)} {σ : St} {H : Hp} {s : Shared} {p : Addr} {xs ys : List V} {its its' : List Value} {n n' : Nat} {f : Obj → Obj} (I : Inv X pins σ H s) (h : H p = some (.lst xs))
    (ho : s.heap.get? p = some { cls := .type "list", data := .seq its.toArray n }) (hf : f { cls := .type "list", data := .seq its.toArray n } = { cls := .type "list", data := .seq its'.toArray n' }) (r : Vals ys its') (hz : ys.length ≤ sizeLine) (t : Nat) :
    Inv X pins σ (upd H p (.lst ys)) { s with heap := s.heap.update p f, toks := t } := by
  have e : (s.heap.update p f).get? p = some { cls := .type "list", data := .seq its'.toArray n' } := by
    rw [Heap.get?_update_self f ho (by rw [hf] <;> rfl), hf]
  refine I.write (x := p) (e := p) (by rw [h]; trivial) (.inl rfl) (fun b u hb q => (Heap.get?_update_other _ _ (Ne.symm hb)).trans q) ⟨_, e⟩ ?_
  exact ⟨hz, its', n', r, e⟩
def rSetL : V → V → V → Hp → (Hp → Prop) → Prop := fun o i v H Q => ∃ p xs k j, o = .ref p ∧ i = .int k ∧ H p = some (.lst xs) ∧ ixN xs.length k = some j ∧ Q (upd H p (.lst (xs.set j v)))
theorem set_list : PSet X rSetL := by
  intro pins s σ H o i v ov iv u Q I ro ri rv h
  obtain ⟨p, xs, k, j, rfl, rfl, hp, hj, q⟩ := h
  cases ro
  obtain ⟨t, rfl⟩ := ri
  obtain ⟨its, n, r, ho, hz⟩ := I.lst hp
  obtain ⟨h1, h2, h3, h4⟩ := ixN_seq hj
  have hl := r.length
  have hn := line63
  have I' : Inv X pins σ (upd H p (.lst (xs.set j v))) { s with heap := s.heap.update p (Obj.mapSeq (·.setIfInBounds j u)) } :=
    I.lstUpd hp ho (mapSeq_set its n j u) (r.set rv j) (by rw [List.length_set]; exact hz) s.toks
  by_cases h0 : 0 ≤ k
  · have hk : k.toNat = j := by
      rw [seqIndex_of h0 h4] at h1
      exact Option.some.inj h1
    exact PySem.W.ki_setAt ho h0 (by omega) (by rw [List.size_toArray, ← hl]; exact h4) (by rw [hk]; exact ⟨_, I', q⟩)
  · have hk : (k + (its.toArray.size : Int)).toNat = j := by
      rw [seqIndex_neg (by omega) h3] at h1
      rw [List.size_toArray, ← hl]
      exact Option.some.inj h1
    exact PySem.W.ki_setBack ho (by omega) (by rw [List.size_toArray, ← hl]; exact h3) (by omega) (by rw [hk]; exact ⟨_, I', q⟩)

/-! ### slices -/
theorem slice_bounds (lo hi : Option Int) (n : Nat) : (sliceBounds lo hi none n).1 = ((HT.sIx n 0 lo : Nat) : Int) ∧ (sliceBounds lo hi none n).2.1 = ((HT.sIx n n hi : Nat) : Int) ∧ (sliceBounds lo hi none n).2.2 = 1 := by
  refine ⟨?_, ?_, rfl⟩
  · cases lo with
    | none => simp [sliceBounds, HT.sIx]
    | some i =>
      simp only [sliceBounds, HT.sIx, Option.getD_none, show (1 : Int) > 0 by decide, if_true]
      by_cases h : i < 0
      · simp only [h, if_true] <;> omega
      · simp only [h, if_false] <;> omega
  · cases hi with
    | none => simp [sliceBounds, HT.sIx]
    | some i =>
      simp only [sliceBounds, HT.sIx, Option.getD_none, show (1 : Int) > 0 by decide, if_true]
      by_cases h : i < 0
      · simp only [h, if_true] <;> omega
      · simp only [h, if_false] <;> omega
theorem slicePick_cut (its : List Value) (lo hi : Option Int) : slicePick its.toArray lo hi none = ((its.drop (HT.sIx its.length 0 lo)).take (HT.sIx its.length its.length hi - HT.sIx its.length 0 lo)).toArray := by
  obtain ⟨h1, h2, h3⟩ := slice_bounds lo hi its.toArray.size
  unfold slicePick
  rw [h1, h2, h3]
  simp only [sliceRange_one, pick_run, List.size_toArray] <;> rfl
/-- xs[lo:hi] of a list: a new list -/
def rSlL (K : PySem.W.Frag) : V → Option Int → Option Int → Hp → VK → Prop := fun x lo hi H Q => ∃ a xs, x = .ref a ∧ SqL K H a xs ∧ ∀ p, H p = none → Q (.ref p) (upd H p (.lst (cutV xs lo hi)))
theorem sl_list : SlR X (rSlL X.K) := by
  intro pins s σ H x v vl vu lo hi sl Q I rx hs pl pu h
  obtain ⟨a, xs, rfl, hx, q⟩ := h
  cases rx
  obtain ⟨its, r, ht, hz⟩ := I.list hx
  have hlen := r.length
  refine ⟨"list", _, slot_list_getitem.lookup, ht.isList.typeIs, ?_⟩
  refine wpAny_getItem_list_slice ht.isList hs pl pu .none (by simp) ?_ (by rw [List.size_toArray] <;> omega)
  rw [slicePick_cut, ← hlen]
  refine ⟨.ref s.heap.objs.size, _, I.laid (t' := s.toks) (o := .lst (cutV xs lo hi)) (fun b ob q => Heap.get?_push_of_some _ q) (Nat.le_refl _) ?_, rfl, q _ (I.hok.fresh (Nat.le_refl _))⟩
  exact ⟨Nat.le_trans (cutV_length xs lo hi) hz, _, 0, (r.drop (HT.sIx xs.length 0 lo)).take (HT.sIx xs.length xs.length hi - HT.sIx xs.length 0 lo), Heap.get?_push_size _ rfl⟩

/-! ### in, not in: flat items -/
def flatV : V → Bool
  | .non => true
  | .bl _ => true
  | .int _ => true
  | .str _ => true
  | _ => false
/-- == of flat values -/
def eqV : V → V → Bool
  | .non, .non => true
  | .bl a, .bl b => a == b
  | .bl a, .int b => (if a then 1 else 0) == b
  | .int a, .bl b => a == (if b then 1 else 0)
  | .int a, .int b => a == b
  | .str a, .str b => a == b
  | _, _ => false
theorem eqAt_V {A : Around} {s : Shared} {y x : V} {u v : Value} (ry : RelV y u) (rx : RelV x v) (fy : flatV y = true) (fx : flatV x = true) : SeqAt.EqAt A s u v (eqV y x) := by
  cases y with
  | non =>
    cases ry
    cases x with
    | non => cases rx; exact SeqAt.EqAt.same _
    | bl b => cases rx; exact SeqAt.EqAt.none_bool b
    | int b => obtain ⟨t, rfl⟩ := rx; exact SeqAt.EqAt.none_int b t
    | str b => obtain ⟨t, rfl⟩ := rx; exact SeqAt.EqAt.none_str b t
    | _ => exact absurd (show false = true from fx) Bool.false_ne_true
  | bl a =>
    cases ry
    cases x with
    | non => cases rx; exact SeqAt.EqAt.bool_none a
    | bl b => cases rx; exact SeqAt.EqAt.bool_bool a b
    | int b => obtain ⟨t, rfl⟩ := rx; exact SeqAt.EqAt.bool_int a b t
    | str b => obtain ⟨t, rfl⟩ := rx; exact SeqAt.EqAt.bool_str a b t
    | _ => exact absurd (show false = true from fx) Bool.false_ne_true
  | int a =>
    obtain ⟨t', rfl⟩ := ry
    cases x with
    | non => cases rx; exact SeqAt.EqAt.int_none a t'
    | bl b => cases rx; exact SeqAt.EqAt.int_bool a t' b
    | int b => obtain ⟨t, rfl⟩ := rx; exact SeqAt.EqAt.int_int a t' b t
    | str b => obtain ⟨t, rfl⟩ := rx; exact SeqAt.EqAt.int_str a t' b t
    | _ => exact absurd (show false = true from fx) Bool.false_ne_true
  | str a =>
    obtain ⟨t', rfl⟩ := ry
    cases x with
    | non => cases rx; exact SeqAt.EqAt.str_none a t'
    | bl b => cases rx; exact SeqAt.EqAt.str_bool a t' b
    | int b => obtain ⟨t, rfl⟩ := rx; exact SeqAt.EqAt.str_int a t' b t
    | str b => obtain ⟨t, rfl⟩ := rx; exact SeqAt.EqAt.str_str a t' b t
    | _ => exact absurd (show false = true from fx) Bool.false_ne_true
  | _ => exact absurd (show false = true from fy) Bool.false_ne_true
/-- the items' answers, read off the values (a value's own answer does not lean on its token) -/
def eqU (x : V) (u : Value) : Bool := match u with
  | .none => eqV .non x
  | .bool b => eqV (.bl b) x
  | .int i _ => eqV (.int i) x
  | .str z _ => eqV (.str z) x
  | _ => false
theorem eqU_of {x y : V} {u : Value} (r : RelV y u) (f : flatV y = true) : eqU x u = eqV y x := by
  cases y with
  | non => cases r; rfl
  | bl b => cases r; rfl
  | int i => obtain ⟨t, rfl⟩ := r; rfl
  | str z => obtain ⟨t, rfl⟩ := r; rfl
  | _ => exact absurd (show false = true from f) Bool.false_ne_true
theorem any_eqU {x : V} : ∀ {xs : List V} {us : List Value}, Vals xs us → xs.all flatV = true → us.any (eqU x) = xs.any fun y => eqV y x
  | _, _, .nil, _ => rfl
  | y :: xs, u :: us, .cons r t, f => by
    rw [List.all_cons, Bool.and_eq_true] at f
    rw [List.any_cons, List.any_cons, eqU_of r f.1, any_eqU t f.2]
theorem mem_eqAt {A : Around} {s : Shared} {x : V} {v : Value} (rx : RelV x v) (fx : flatV x = true) : ∀ {xs : List V} {us : List Value}, Vals xs us → xs.all flatV = true → ∀ u ∈ us, SeqAt.EqAt A s u v (eqU x u)
  | _, _, .nil, _ => fun u hu => by cases hu
  | y :: xs, u :: us, .cons r t, f => fun u' hu => by
    rw [List.all_cons, Bool.and_eq_true] at f
    rcases List.mem_cons.mp hu with rfl | hu
    · rw [eqU_of r f.1]; exact eqAt_V r rx f.1 fx
    · exact mem_eqAt rx fx t f.2 u' hu
def inV (x : V) (xs : List V) : Bool := xs.any fun y => eqV y x
/-- x in a list or tuple of flat items -/
def rIn (K : PySem.W.Frag) (neg : Bool) : R2 := fun x y H Q => ∃ p xs, y = .ref p ∧ (SqL K H p xs ∨ SqT K H p xs) ∧ flatV x = true ∧ xs.all flatV = true ∧ Q (.bl (if neg then !inV x xs else inV x xs)) H
theorem op_in_seq : OpR X (compareOp .In) (rIn X.K false) := by
  intro pins s σ H x y v u Q I rx ry h
  obtain ⟨p, xs, rfl, hq, fx, fs, q⟩ := h
  cases ry
  rcases hq with hq | hq
  · obtain ⟨its, r, pl, hz⟩ := I.list hq
    refine SeqAt.in_listAt (eqU x) pl.isList (fun w hw => mem_eqAt rx fx r fs w (by simpa using hw)) ⟨.bl _, H, I, rfl, ?_⟩
    rw [show its.toArray.any (eqU x) = its.any (eqU x) by simp, any_eqU r fs]
    exact q
  · obtain ⟨its, r, pl, hz⟩ := I.tuple hq
    refine SeqAt.in_tupleAt (eqU x) pl (fun w hw => mem_eqAt rx fx r fs w (by simpa using hw)) ⟨.bl _, H, I, rfl, ?_⟩
    rw [show its.toArray.any (eqU x) = its.any (eqU x) by simp, any_eqU r fs]
    exact q
theorem op_notIn_seq : OpR X (compareOp .NotIn) (rIn X.K true) := by
  intro pins s σ H x y v u Q I rx ry h
  obtain ⟨p, xs, rfl, hq, fx, fs, q⟩ := h
  cases ry
  rcases hq with hq | hq
  · obtain ⟨its, r, pl, hz⟩ := I.list hq
    refine SeqAt.notIn_listAt (eqU x) pl.isList (fun w hw => mem_eqAt rx fx r fs w (by simpa using hw)) ⟨.bl _, H, I, rfl, ?_⟩
    rw [show its.toArray.any (eqU x) = its.any (eqU x) by simp, any_eqU r fs]
    exact q
  · obtain ⟨its, r, pl, hz⟩ := I.tuple hq
    refine SeqAt.notIn_tupleAt (eqU x) pl (fun w hw => mem_eqAt rx fx r fs w (by simpa using hw)) ⟨.bl _, H, I, rfl, ?_⟩
    rw [show its.toArray.any (eqU x) = its.any (eqU x) by simp, any_eqU r fs]
    exact q
theorem op_notIn_str : OpR X (compareOp .NotIn) (fun x y H Q => ∃ i j, x = .str i ∧ y = .str j ∧ Q (.bl (!(!(Builtin.Str.occurrences j i 0 j.length 1).isEmpty))) H) := by
  intro pins s σ H x y v u Q I rx ry h
  obtain ⟨i, j, rfl, rfl, q⟩ := h
  obtain ⟨t, rfl⟩ := rx
  obtain ⟨t', rfl⟩ := ry
  exact notIn_str ⟨.bl _, H, I, rfl, q⟩

/-! ### len, list(x), tuple(x) of any list or tuple that is read -/
theorem call_len_seq : CallR X (.builtin "len") (fun xs H Q => ∃ p ys, xs = [.ref p] ∧ (SqL X.K H p ys ∨ SqT X.K H p ys) ∧ Q (.int ys.length) H) := by
  intro pins s σ H xs us Q I r h
  obtain ⟨p, ys, rfl, hq, q⟩ := h
  obtain ⟨u, rfl, rx⟩ := vals1 r
  cases rx
  have hn := line63
  rcases hq with hq | hq
  · obtain ⟨its, r', pl, hz⟩ := I.list hq
    have hlen := r'.length
    exact Calls.call_len_list pl.isList (by simp only [List.size_toArray] <;> omega) ⟨.int ys.length, H, I.tok _, ⟨s.toks + 1, by rw [List.size_toArray, hlen]⟩, q⟩
  · obtain ⟨its, r', pl, hz⟩ := I.tuple hq
    have hlen := r'.length
    exact len_tuple pl (by simp only [List.size_toArray] <;> omega) ⟨.int ys.length, H, I.tok _, ⟨s.toks + 1, by rw [List.size_toArray, hlen]⟩, q⟩
theorem call_len_str : CallR X (.builtin "len") (fun xs H Q => ∃ z, xs = [.str z] ∧ z.length ≤ sizeLine ∧ Q (.int z.length) H) := by
  intro pins s σ H xs us Q I r h
  obtain ⟨z, rfl, hz, q⟩ := h
  obtain ⟨u, rfl, t, rfl⟩ := vals1 r
  have hn := line63
  exact len_str (by omega) ⟨.int z.length, H, I.tok _, ⟨_, rfl⟩, q⟩
theorem CallR.or {f : Value} {r r' : List V → Hp → VK → Prop} (h : CallR X f r) (h' : CallR X f r') : CallR X f (fun xs H Q => r xs H Q ∨ r' xs H Q) := by
  intro pins s σ H xs us Q I rs q
  rcases q with q | q
  · exact h pins s σ H xs us Q I rs q
  · exact h' pins s σ H xs us Q I rs q
theorem call_list_of : CallR X (.type "list") (fun xs H Q => ∃ p ys, xs = [.ref p] ∧ (SqL X.K H p ys ∨ SqT X.K H p ys) ∧ ∀ l, H l = none → Q (.ref l) (upd H l (.lst ys))) := by
  intro pins s σ H xs us Q I r h
  obtain ⟨p, ys, rfl, hq, q⟩ := h
  obtain ⟨u, rfl, rx⟩ := vals1 r
  cases rx
  have fin : ∀ (its : List Value), Vals ys its → ys.length ≤ sizeLine → ∀ (h' : Heap) (c' : Nat), (∀ b o', s.heap.get? b = some o' → h'.get? b = some o') →
      h'.get? s.heap.objs.size = some { cls := .type "list", dict := none, data := .seq its.toArray c', slots := #[] } → EP X pins σ Q (.ref s.heap.objs.size) { s with heap := h' } := fun its r' hz h' c' kp e =>
    ⟨.ref s.heap.objs.size, _, I.laid (t' := s.toks) kp (Nat.le_refl _) (show ObjOk X.prog X.w _ h' _ (.lst ys) from ⟨hz, its, c', r', e⟩), rfl, q _ (I.hok.fresh (Nat.le_refl _))⟩
  rcases hq with hq | hq
  · obtain ⟨its, r', pl, hz⟩ := I.list hq
    have hlen := r'.length
    obtain ⟨o, ho, hc, n, hd⟩ := pl.isList
    exact call_list_seq p (.inl rfl) ho hc hd (fun h' c' kp e => fin its r' hz h' c' kp e) (by simp only [List.size_toArray] <;> omega)
  · obtain ⟨its, r', pl, hz⟩ := I.tuple hq
    have hlen := r'.length
    obtain ⟨o, ho, hc, n, hd⟩ := pl
    exact call_list_seq p (.inr rfl) ho hc hd (fun h' c' kp e => fin its r' hz h' c' kp e) (by simp only [List.size_toArray] <;> omega)
theorem call_tuple_of : CallR X (.type "tuple") (fun xs H Q => ∃ p ys, xs = [.ref p] ∧ ((SqL X.K H p ys ∧ ∀ l, H l = none → Q (.ref l) (upd H l (.tup ys))) ∨ (SqT X.K H p ys ∧ Q (.ref p) H))) := by
  intro pins s σ H xs us Q I r h
  obtain ⟨p, ys, rfl, h⟩ := h
  obtain ⟨u, rfl, rx⟩ := vals1 r
  cases rx
  rcases h with ⟨hq, q⟩ | ⟨hq, q⟩
  · obtain ⟨its, r', pl, hz⟩ := I.list hq
    have hlen := r'.length
    refine call_tuple_list pl.isList (fun h' kp => ?_) (by simp only [List.size_toArray] <;> omega)
    have I1 : Inv X pins σ H { s with heap := h' } := I.kept (t' := s.toks) kp
    have I2 : Inv X pins σ (upd H h'.objs.size (.tup ys)) { s with heap := h'.push { cls := .type "tuple", data := .seq its.toArray } } :=
      I1.laid (t' := s.toks) (fun b o e => Heap.get?_push_of_some _ e) (Nat.le_refl _) (show ObjOk X.prog X.w _ _ _ (.tup ys) from ⟨hz, its, r', IsTup.new _ _⟩)
    exact ⟨.ref h'.objs.size, _, I2, rfl, q _ (I1.hok.fresh (Nat.le_refl _))⟩
  · obtain ⟨its, r', pl, hz⟩ := I.tuple hq
    exact call_tuple_same pl ⟨.ref p, H, I, rfl, q⟩

/-! ### the call of a builtin's method: o.m(..) -/
/-- the value is of that builtin type -/
def tyV (K : PySem.W.Frag) (T : String) (x : V) (H : Hp) : Prop := match x with
  | .str _ => T = "str"
  | .int _ => T = "int"
  | .ref p => (T = "list" ∧ ∃ xs, SqL K H p xs) ∨ (T = "tuple" ∧ ∃ o, K.lookup p = some o ∧ o.cls = .type "tuple" ∧ o.dict = none) ∨
      (T = "dict" ∧ ((∃ kvs, H p = some (.dK kvs)) ∨ ∃ kvs, H p = some (.dT kvs))) ∨ (T = "set" ∧ ∃ S n, H p = some (.set S n))
  | _ => False
theorem tyV_is {pins : List (Addr × Obj)} {σ : St} {H : Hp} {s : Shared} {T : String} {x : V} {v : Value} (I : Inv X pins σ H s) (r : RelV x v) (ty : tyV X.K T x H) :
    s.TypeIs v T ∧ ∀ a, v = .ref a → ∃ ob, s.heap.get? a = some ob ∧ ob.dict = none := by
  cases x with
  | str z =>
    obtain ⟨t, rfl⟩ := r
    cases (show T = "str" from ty)
    exact ⟨typeIs_str s z t, fun _ e => nomatch e⟩
  | int i =>
    obtain ⟨t, rfl⟩ := r
    cases (show T = "int" from ty)
    exact ⟨typeIs_int s i t, fun _ e => nomatch e⟩
  | ref p =>
    cases r
    rcases ty with ⟨rfl, xs, hq⟩ | ⟨rfl, o, hk, hc, hd⟩ | ⟨rfl, hk⟩ | ⟨rfl, S, n, hk⟩
    · obtain ⟨its, _, pl, _⟩ := I.list hq
      refine ⟨pl.isList.typeIs, fun a e => ?_⟩
      cases e
      obtain ⟨o, n, e, c, hd, _⟩ := pl
      exact ⟨o, e, hd⟩
    · refine ⟨⟨o, I.kIn p o hk, hc⟩, fun a e => ?_⟩
      cases e
      exact ⟨o, I.kIn _ o hk, hd⟩
    · have z : ∃ o, s.heap.get? p = some o ∧ o.ExactDict := by
        rcases hk with ⟨kvs, hk⟩ | ⟨kvs, hk⟩
        · obtain ⟨_, _, _, _, o, _, _, e, ex, _⟩ := I.hok p _ hk
          exact ⟨o, e, ex⟩
        · obtain ⟨_, _, _, _, o, _, _, e, ex, _⟩ := I.hok p _ hk
          exact ⟨o, e, ex⟩
      obtain ⟨o, e, ex⟩ := z
      refine ⟨⟨o, e, ex.1⟩, fun a e2 => ?_⟩
      cases e2
      exact ⟨o, e, ex.2.1⟩
    · obtain ⟨o, _, _, _, e, ex, _⟩ := I.hok p _ hk
      refine ⟨⟨o, e, ex.1⟩, fun a e2 => ?_⟩
      cases e2
      exact ⟨o, e, ex.2.1⟩
  | _ => exact False.elim ty
def tBM0 (K : PySem.W.Frag) (T : String) (r : V → List V → Hp → VK → Prop) (to : TE) : TE := fun σ H Q => to σ H fun x H1 => tyV K T x H1 ∧ r x [] H1 Q
def tBM (K : PySem.W.Frag) (T : String) (r : V → List V → Hp → VK → Prop) (to : TE) (t : TA) : TE := fun σ H Q => to σ H fun x H1 => tyV K T x H1 ∧ t σ H1 fun xs H2 => r x xs H2 Q
variable {o e : Expr} {es : List Expr} {to : TE} {t : TA} {name : Str} {apos cpos : Pos} {T id : String} {r : V → List V → Hp → VK → Prop}
theorem pe_bm0 (pa : PlainAttrs T) (slot : Slot T name id) (hty : typeOf (.builtin id) = pure (.type "method_descriptor")) (hm : MtR X id r) (ho : PE X o to)
    (hbase : attributeBase o name X.env (eval o X.env) = eval o X.env := by rfl) (hline : (apos.endLine == cpos.line) = true := by rfl) : PE X (.Call (.Attribute o name apos) [] [] cpos) (tBM0 X.K T r to) := by
  intro pins s σ H Q I h
  refine wpAny_Call_method0_late hbase hline (thn (ho pins s σ H _ I h) fun v s1 ⟨x, H1, I1, r1, ty, q1⟩ => ?_)
  obtain ⟨h1, h2⟩ := tyV_is I1 r1 ty
  exact ⟨T, id, pa, slot, hty, h1, h2, Calls.callWith_builtin rfl (PySem.evalArgs_none (hm pins s1 σ H1 x [] v [] Q I1 r1 .nil q1))⟩
theorem pe_bm (pa : PlainAttrs T) (slot : Slot T name id) (hty : typeOf (.builtin id) = pure (.type "method_descriptor")) (hm : MtR X id r) (ho : PE X o to) (ha : PA X (e :: es) t)
    (hbase : attributeBase o name X.env (eval o X.env) = eval o X.env := by rfl)
    (hfew : ((backTo cpos (starEach (e :: es) X.env)).all (fun x => !x.1) && (backToKw cpos (keywordEach [] X.env)).all (fun x => x.1.isSome)
      && decide ((e :: es).length + ([] : List Keyword).length + (if ([] : List Keyword).isEmpty then 0 else 1) < 30)) = true := by rfl)
    (hline : (apos.endLine == cpos.line) = true := by rfl) (hs : starEach (e :: es) X.env = (false, eval e X.env) :: starEach es X.env := by rfl) (hplain : (backTo cpos (starEach es X.env)).any (·.1) = false := by rfl) :
    PE X (.Call (.Attribute o name apos) (e :: es) [] cpos) (tBM X.K T r to t) := by
  intro pins s σ H Q I h
  refine wpAny_Call_method_late hbase hfew hline rfl (thn (ho pins s σ H _ I h) fun v s1 ⟨x, H1, I1, r1, ty, q1⟩ => ?_)
  obtain ⟨h1, h2⟩ := tyV_is I1 r1 ty
  refine ⟨T, id, pa, slot, hty, h1, h2, ?_⟩
  have hA := ha cpos pins s1 σ H1 _ I1 q1
  rw [hs] at hA ⊢
  refine Calls.callWith_builtin (by show (false || (backTo cpos (starEach es X.env)).any (·.1)) = false; rw [hplain] <;> rfl) (Calls.evalArgs_plain ?_)
  exact thn hA fun us s2 ⟨vs, H2, I2, r2, q2⟩ => hm pins s2 σ H2 x vs v us Q I2 r1 r2 q2
/- xs.append(e), list.index on a module's tuple .. are MtR facts of 06m -/
end
end L2

namespace L2
open PySem PySem.Spec PyProof.Rows

def MtM (X : Cx) (id : String) (r : V → List V → Hp → VK → Prop) : Prop :=
  ∀ (pins : List (Addr × Obj)) (s : Shared) (σ : St) (H : Hp) (x : V) (xs : List V) (v : Value) (us : List Value) (Q : VK), Inv X pins σ H s → RelV x v → Vals xs us → r x xs H Q →
    wpAny (model X.prog X.w) X.A (call (.builtin id) (v :: us)) (EP X pins σ Q) X.xe s

/-! ### lists of values -/
theorem Vals.one : ∀ {x : V} {us : List Value}, Vals [x] us → ∃ u, us = [u] ∧ RelV x u
  | _, _, .cons r .nil => ⟨_, rfl, r⟩
theorem Vals.two : ∀ {x y : V} {us : List Value}, Vals [x, y] us → ∃ u v, us = [u, v] ∧ RelV x u ∧ RelV y v
  | _, _, _, .cons r (.cons q .nil) => ⟨_, _, rfl, r, q⟩
theorem Vals.zero : ∀ {us : List Value}, Vals [] us → us = []
  | _, .nil => rfl
theorem Vals.dropLast {xs : List V} {us : List Value} (h : Vals xs us) : Vals xs.dropLast us.dropLast := by
  induction h with
  | nil => exact .nil
  | cons r t ih =>
    cases t with
    | nil => exact .nil
    | cons q t' => exact .cons r ih
theorem Vals.eraseIdx : ∀ {xs : List V} {us : List Value} (i : Nat), Vals xs us → Vals (xs.eraseIdx i) (us.eraseIdx i)
  | _, _, _, .nil => .nil
  | _, _, 0, .cons _ t => t
  | _, _, i + 1, .cons r t => .cons r (Vals.eraseIdx i t)
theorem Vals.reverse {xs : List V} {us : List Value} (h : Vals xs us) : Vals xs.reverse us.reverse := by
  induction h with
  | nil => exact .nil
  | cons r t ih => rw [List.reverse_cons, List.reverse_cons]; exact Vals.append ih (.cons r .nil)
theorem Vals.rep {xs : List V} {us : List Value} (h : Vals xs us) : ∀ k : Nat, Vals (List.replicate k xs).flatten (List.replicate k us).flatten
  | 0 => .nil
  | k + 1 => by
    rw [List.replicate_succ, List.replicate_succ, List.flatten_cons, List.flatten_cons]
    exact Vals.append h (Vals.rep h k)
theorem erase_last {α : Type} (l : List α) : l.eraseIdx (l.length - 1) = l.dropLast := by
  induction l with
  | nil => rfl
  | cons a r ih =>
    cases r with
    | nil => rfl
    | cons b r =>
      have e : (a :: b :: r).length - 1 = ((b :: r).length - 1) + 1 := by
        have h1 : (a :: b :: r).length = r.length + 2 := rfl
        have h2 : (b :: r).length = r.length + 1 := rfl
        omega
      rw [e, List.eraseIdx_cons_succ, ih]
      all_goals rfl
theorem len_erase {α : Type} : ∀ (l : List α) (i : Nat), (l.eraseIdx i).length ≤ l.length
  | [], _ => Nat.le_refl _
  | _ :: _, 0 => Nat.le_succ _
  | _ :: r, i + 1 => Nat.succ_le_succ (len_erase r i)
theorem foldl_rep (its : List Value) : ∀ (k : Nat) (acc : List Value),
    List.foldl (fun x1 x2 => x1 ++ x2) acc.toArray (List.replicate k its.toArray) = (acc ++ (List.replicate k its).flatten).toArray
  | 0, acc => by simp
  | k + 1, acc => by
    have e : acc.toArray ++ its.toArray = (acc ++ its).toArray := by simp
    have e2 : (acc ++ its) ++ (List.replicate k its).flatten = acc ++ (List.replicate (k + 1) its).flatten := by
      rw [List.replicate_succ, List.flatten_cons, List.append_assoc]
    rw [← e2, ← foldl_rep its k (acc ++ its), ← e, List.replicate_succ, List.foldl_cons]

section
variable {X : Cx} {pins : List (Addr × Obj)} {σ : St} {H : Hp} {s : Shared} {l b : Addr} {xs ys zs : List V}

/-! ### the two steps: a tracked list is rewritten, a new list is laid -/
theorem Inv.lset {its its' : List Value} {n : Nat} {f : Array Value → Array Value} {t' : Nat} (I : Inv X pins σ H s) (hH : H l = some (.lst xs))
    (e : s.heap.get? l = some { cls := .type "list", data := .seq its.toArray n }) (hf : f its.toArray = its'.toArray) (hv : Vals ys its') (hz : ys.length ≤ sizeLine) :
    Inv X pins σ (upd H l (.lst ys)) { s with heap := s.heap.update l (Obj.mapSeq f), toks := t' } := by
  have q := PySem.IsL.update e f
  rw [hf] at q
  refine I.write (x := l) (e := l) (by rw [hH]; exact trivial) (.inl rfl) (fun b' u hb hu => (Heap.get?_update_other s.heap (Obj.mapSeq f) (Ne.symm hb)).trans hu) ⟨_, q⟩ ?_
  exact ⟨hz, its', _, hv, q⟩
theorem Inv.lnew {its : List Value} {t' : Nat} (I : Inv X pins σ H s) (hv : Vals ys its) (hz : ys.length ≤ sizeLine) :
    Inv X pins σ (upd H s.heap.objs.size (.lst ys)) { s with heap := s.heap.push { cls := .type "list", data := .seq its.toArray }, toks := t' } :=
  I.laid (fun _ _ q => Heap.get?_push_of_some _ q) (Nat.le_refl _) ⟨hz, its, 0, hv, Heap.get?_push_size _ rfl⟩
theorem Inv.fresh (I : Inv X pins σ H s) : H s.heap.objs.size = none := I.hok.fresh (Nat.le_refl _)
theorem Inv.lstM (I : Inv X pins σ H s) (hH : H l = some (.lst xs)) : xs.length ≤ sizeLine ∧ ∃ (its : List Value) (n : Nat), Vals xs its ∧ xs.length = its.length ∧ s.heap.get? l = some { cls := .type "list", data := .seq its.toArray n } := by
  obtain ⟨z, its, n, r, e⟩ := I.hok l _ hH
  exact ⟨z, its, n, r, r.length, e⟩

theorem notLongL {n : Nat} (h : n ≤ sizeLine) : Builtin.List.listTooLong n = false := by
  unfold Builtin.List.listTooLong
  exact decide_eq_false (by omega)
end

section
variable {X : Cx}

/-! ### methods -/
def rAppend : V → List V → Hp → VK → Prop := fun x vs H Q => ∃ l xs y, x = .ref l ∧ vs = [y] ∧ H l = some (.lst xs) ∧ xs.length < sizeLine ∧ Q .non (upd H l (.lst (xs ++ [y])))
theorem mt_append : MtM X "list.append" rAppend := by
  intro pins s σ H x vs v us Q I rx rv h
  obtain ⟨l, xs, y, rfl, rfl, hH, hz, q⟩ := h
  cases rx
  obtain ⟨u, rfl, ru⟩ := rv.one
  obtain ⟨z, its, n, r, hl, e⟩ := I.lstM hH
  refine call_meets F.slot_list_append ⟨_, e, rfl⟩ F.entry_list_append (F.args_list_append_2 _ _) (PySem.list_append l its.toArray n u (by rw [List.size_toArray]; omega)) ⟨e, ?_⟩
  refine ⟨.non, _, I.lset (its' := its ++ [u]) hH e (by simp) (r.append (.cons ru .nil)) ?_, rfl, q⟩
  rw [List.length_append, List.length_singleton]
  omega

def rExtend : V → List V → Hp → VK → Prop := fun x vs H Q => ∃ l b xs zs, x = .ref l ∧ vs = [.ref b] ∧ H l = some (.lst xs) ∧ H b = some (.lst zs) ∧ xs.length + zs.length ≤ sizeLine ∧ Q .non (upd H l (.lst (xs ++ zs)))
theorem mt_extend : MtM X "list.extend" rExtend := by
  intro pins s σ H x vs v us Q I rx rv h
  obtain ⟨l, b, xs, zs, rfl, rfl, hH, hB, hz, q⟩ := h
  cases rx
  obtain ⟨u, rfl, ru⟩ := rv.one
  cases ru
  obtain ⟨z, its, n, r, hl, e⟩ := I.lstM hH
  obtain ⟨z2, its2, n2, r2, hl2, e2⟩ := I.lstM hB
  have hsz : its.toArray.size + its2.toArray.size ≤ sizeLine := by rw [List.size_toArray, List.size_toArray]; omega
  have hlong : ¬ (!its.toArray.isEmpty && Builtin.List.listTooLong (its.toArray.size + its2.toArray.size)) = true := by
    rw [notLongL hsz, Bool.and_false]
    exact Bool.false_ne_true
  refine call_meets F.slot_list_extend ⟨_, e, rfl⟩ F.entry_list_extend (F.args_list_extend_2 _ _)
    (AutoSeq1.list_extend_list_list_0 l its.toArray n b its2.toArray n2 hlong (by rw [List.size_toArray]; omega) (by omega)) ⟨e, e2, ?_⟩
  refine ⟨.non, _, I.lset (its' := its ++ its2) hH e (by simp) (r.append r2) ?_, rfl, q⟩
  rw [List.length_append]
  omega

def rPop : V → List V → Hp → VK → Prop := fun x vs H Q => ∃ l xs y, x = .ref l ∧ vs = [] ∧ H l = some (.lst xs) ∧ xs[xs.length - 1]? = some y ∧ Q y (upd H l (.lst xs.dropLast))
theorem mt_pop : MtM X "list.pop" rPop := by
  intro pins s σ H x vs v us Q I rx rv h
  obtain ⟨l, xs, y, rfl, rfl, hH, hy, q⟩ := h
  cases rx
  have hus := rv.zero
  subst hus
  obtain ⟨z, its, n, r, hl, e⟩ := I.lstM hH
  obtain ⟨u, hu, ru⟩ := r.get hy
  have hy' : its.toArray[its.toArray.size - 1]? = some u := by
    show its.toArray[its.length - 1]? = some u
    rw [← Array.getElem?_toList, ← hl]
    exact hu
  refine call_meets F.slot_list_pop ⟨_, e, rfl⟩ F.entry_list_pop (F.args_list_pop_1 _) (MeetsSeq.list_pop_last l its.toArray n u hy' (by rw [List.size_toArray]; omega)) ⟨e, ?_⟩
  refine ⟨y, _, I.lset (its' := its.dropLast) hH e ?_ r.dropLast ?_, ru, q⟩
  · show its.toArray.eraseIdxIfInBounds (its.toArray.size - 1) = its.dropLast.toArray
    rw [List.size_toArray, List.eraseIdxIfInBounds_toArray, erase_last]
  · rw [List.length_dropLast]
    omega

def rPopAt : V → List V → Hp → VK → Prop := fun x vs H Q => ∃ l xs i k y, x = .ref l ∧ vs = [.int i] ∧ H l = some (.lst xs) ∧ -(2 ^ 63) ≤ i ∧ i < 2 ^ 63 ∧ seqIndex? i xs.length = some k ∧ xs[k]? = some y ∧ Q y (upd H l (.lst (xs.eraseIdx k)))
theorem mt_popAt : MtM X "list.pop" rPopAt := by
  intro pins s σ H x vs v us Q I rx rv h
  obtain ⟨l, xs, i, k, y, rfl, rfl, hH, h1, h2, hk, hy, q⟩ := h
  cases rx
  obtain ⟨u, rfl, ru⟩ := rv.one
  obtain ⟨t, rfl⟩ := ru
  obtain ⟨z, its, n, r, hl, e⟩ := I.lstM hH
  obtain ⟨w, hw, rw'⟩ := r.get hy
  refine call_meets F.slot_list_pop ⟨_, e, rfl⟩ F.entry_list_pop (F.args_list_pop_2 _ _)
    (MeetsSeq.list_pop_at l its.toArray n i t k w (fitsIndex_both h1 h2) (by rw [List.size_toArray, ← hl]; exact hk) (by rw [← Array.getElem?_toList]; exact hw) (by rw [List.size_toArray]; omega)) ⟨e, ?_⟩
  refine ⟨y, _, I.lset (its' := its.eraseIdx k) hH e ?_ (r.eraseIdx k) ?_, rw', q⟩
  · show its.toArray.eraseIdxIfInBounds k = (its.eraseIdx k).toArray
    rw [List.eraseIdxIfInBounds_toArray]
  · have := len_erase xs k
    omega

def rReverse : V → List V → Hp → VK → Prop := fun x vs H Q => ∃ l xs, x = .ref l ∧ vs = [] ∧ H l = some (.lst xs) ∧ Q .non (upd H l (.lst xs.reverse))
theorem mt_reverse : MtM X "list.reverse" rReverse := by
  intro pins s σ H x vs v us Q I rx rv h
  obtain ⟨l, xs, rfl, rfl, hH, q⟩ := h
  cases rx
  have hus := rv.zero
  subst hus
  obtain ⟨z, its, n, r, hl, e⟩ := I.lstM hH
  refine call_meets F.slot_list_reverse ⟨_, e, rfl⟩ F.entry_list_reverse (F.args_list_reverse_1 _) (AutoSeq1.list_reverse_list_0 l its.toArray n (by rw [List.size_toArray]; omega)) ⟨e, ?_⟩
  refine ⟨.non, _, I.lset (its' := its.reverse) hH e (by simp) r.reverse ?_, rfl, q⟩
  rw [List.length_reverse]
  omega

def rClear : V → List V → Hp → VK → Prop := fun x vs H Q => ∃ l xs, x = .ref l ∧ vs = [] ∧ H l = some (.lst xs) ∧ Q .non (upd H l (.lst []))
theorem mt_clear : MtM X "list.clear" rClear := by
  intro pins s σ H x vs v us Q I rx rv h
  obtain ⟨l, xs, rfl, rfl, hH, q⟩ := h
  cases rx
  have hus := rv.zero
  subst hus
  obtain ⟨z, its, n, r, hl, e⟩ := I.lstM hH
  refine call_meets F.slot_list_clear ⟨_, e, rfl⟩ F.entry_list_clear (F.args_list_clear_1 _) (AutoSeq1.list_clear_list_0 l its.toArray n (by rw [List.size_toArray]; omega)) ⟨e, ?_⟩
  exact ⟨.non, _, I.lset (its' := []) (ys := []) hH e rfl .nil (Nat.zero_le _), rfl, q⟩

/-! ### list + list, list += list, list * int -/
def rCat : R2 := fun x y H Q => ∃ l b xs zs, x = .ref l ∧ y = .ref b ∧ H l = some (.lst xs) ∧ H b = some (.lst zs) ∧ xs.length + zs.length ≤ sizeLine ∧ ∀ p, H p = none → Q (.ref p) (upd H p (.lst (xs ++ zs)))
theorem op_cat : OpR X (binaryOp .Add) rCat := by
  intro pins s σ H x y v u Q I rx ry h
  obtain ⟨l, b, xs, zs, rfl, rfl, hH, hB, hz, q⟩ := h
  cases rx
  cases ry
  obtain ⟨z, its, n, r, hl, e⟩ := I.lstM hH
  obtain ⟨z2, its2, n2, r2, hl2, e2⟩ := I.lstM hB
  refine PySem.P.add_list e e2 ?_ (by rw [List.size_toArray, List.size_toArray]; omega)
  have ea : its.toArray ++ its2.toArray = (its ++ its2).toArray := by simp
  rw [ea]
  exact ⟨.ref _, _, I.lnew (t' := s.toks) (r.append r2) (by rw [List.length_append]; omega), rfl, q _ I.fresh⟩
/-- a list times an int (a negative one is nothing) -/
def rRep : R2 := fun x y H Q => ∃ l k xs, x = .ref l ∧ y = .int k ∧ H l = some (.lst xs) ∧ -(2 ^ 63) ≤ k ∧ k < 2 ^ 63 ∧ xs.length * k.toNat ≤ sizeLine ∧
  ∀ p, H p = none → Q (.ref p) (upd H p (.lst (List.replicate k.toNat xs).flatten))
theorem len_rep {α : Type} (xs : List α) (k : Nat) : (List.replicate k xs).flatten.length = k * xs.length := by
  induction k with
  | zero => simp
  | succ k ih => rw [List.replicate_succ, List.flatten_cons, List.length_append, ih, Nat.succ_mul, Nat.add_comm]
theorem op_rep : OpR X (binaryOp .Mult) rRep := by
  intro pins s σ H x y v u Q I rx ry h
  obtain ⟨l, k, xs, rfl, rfl, hH, h1, h2, hz, q⟩ := h
  cases rx
  obtain ⟨t, rfl⟩ := ry
  obtain ⟨z, its, n, r, hl, e⟩ := I.lstM hH
  have hlen : its.toArray.size * k.toNat ≤ sizeLine := by rw [List.size_toArray, ← hl]; exact hz
  have hcap : ¬ its.toArray.size * k.toNat > (2 ^ 63 - 1) / 8 := by
    have : (sizeLine : Nat) ≤ (2 ^ 63 - 1) / 8 := by decide
    omega
  have hfit : ¬ (!Builtin.List.listFitsIndex k) = true := by
    rw [fitsIndex_both h1 h2]
    exact Bool.false_ne_true
  have hlong : ¬ Builtin.List.listTooLong (its.toArray.size * k.toNat) = true := by
    rw [notLongL hlen]
    exact Bool.false_ne_true
  have hnew : List.foldl (fun x1 x2 => x1 ++ x2) #[] (List.replicate (if its.toArray.isEmpty = true then 0 else k.toNat) its.toArray) = (List.replicate k.toNat its).flatten.toArray := by
    have f0 : ∀ m : Nat, List.foldl (fun x1 x2 => x1 ++ x2) #[] (List.replicate m its.toArray) = (List.replicate m its).flatten.toArray := fun m => by
      have := foldl_rep its m []
      rw [List.nil_append] at this
      exact this
    rw [f0]
    cases its with
    | nil => simp
    | cons a r' => rw [if_neg (by simp)]
  refine wpAny_binaryOp_repeat_ref (T := "list") (U := "int") (by decide) ⟨_, e, rfl⟩ (fun s' => typeIs_int s' k t) noFill_list_mul F.fills_int_mul F.slot_int_rmul repeat_list F.slot_int_index.lookup
    (call_meets F.slot_int_rmul (typeIs_int s k t) F.entry_int_rmul (F.args_int_rmul_2 _ _) (int___rmul___int_list k t l its.toArray n)
      ⟨e, rfl, ⟨_, e, rfl⟩, call_meets F.slot_list_mul ⟨_, e, rfl⟩ F.entry_list_mul (F.args_list_mul_2 _ _) (AutoListH.list___mul___list_int_3 l its.toArray n k t hfit hcap hlong) ⟨e, ?_⟩⟩)
  rw [hnew]
  exact ⟨.ref _, _, I.lnew (t' := s.toks) (r.rep k.toNat) (by rw [len_rep, Nat.mul_comm]; exact hz), rfl, q _ I.fresh⟩

/-! ### del xs[i] -/
theorem del_list {pins : List (Addr × Obj)} {s : Shared} {σ : St} {H : Hp} {l : Addr} {xs : List V} {i : Int} {t : Tok} {k : Nat} {Q : Unit → Shared → Prop} (I : Inv X pins σ H s) (hH : H l = some (.lst xs))
    (h1 : -(2 ^ 63) ≤ i) (h2 : i < 2 ^ 63) (hk : seqIndex? i xs.length = some k) (h : ∀ s', Inv X pins σ (upd H l (.lst (xs.eraseIdx k))) s' → Q () s') :
    wpAny (model X.prog X.w) X.A (delItem (.ref l) (.int i t)) Q X.xe s := by
  obtain ⟨z, its, n, r, hl, e⟩ := I.lstM hH
  refine PySem.P.delItem_list (k := k) e (fitsIndex_both h1 h2) (by rw [List.size_toArray, ← hl]; exact hk) (h _ ?_) (by rw [List.size_toArray]; omega)
  refine I.lset (its' := its.eraseIdx k) (t' := s.toks) hH e ?_ (r.eraseIdx k) ?_
  · show its.toArray.eraseIdxIfInBounds k = (its.eraseIdx k).toArray
    rw [List.eraseIdxIfInBounds_toArray]
  · have := len_erase xs k
    omega
end

/-! ### xs[a:b] = ys -/
section
variable {prog : Program} {w : World} {A : Around} {E : Value → Shared → Prop} {s : Shared}
theorem splice_eq (its its2 : List Value) (a c : Nat) : its.toArray.extract 0 a ++ its2.toArray ++ its.toArray.extract c its.toArray.size = (its.take a ++ its2 ++ its.drop c).toArray := by
  apply Array.toList_inj.mp
  first
    | (simp
       exact List.take_of_length_le (by simp))
    | simp [List.take_of_length_le]
    | simp
theorem bounds_run {a c n : Nat} (hac : a ≤ c) (hc : c ≤ n) : sliceBounds (some (a : Int)) (some (c : Int)) none n = ((a : Int), (c : Int), 1) := by
  simp only [sliceBounds, Option.getD_none]
  have h1 : ¬ ((a : Int) < 0) := by omega
  have h2 : ¬ ((c : Int) < 0) := by omega
  simp only [h1, h2, if_false, show (1 : Int) > 0 by decide, if_true]
  congr 1
  · omega
  · congr 1; omega
set_option maxRecDepth 100000 in
/-- list.__setitem__ with a slice of step one and another list -/
theorem setItem_slice {l b sl : Addr} {items new : Array Value} {n n2 : Nat} {vl vu : Value} {a c : Nat} {Q : Unit → Shared → Prop}
    (e : s.heap.get? l = some { cls := .type "list", data := .seq items n }) (e2 : s.heap.get? b = some { cls := .type "list", data := .seq new n2 }) (hne : l ≠ b)
    (hs : s.heap.IsSliceOf sl vl vu .none) (pl : IsPart vl (some (a : Int))) (pu : IsPart vu (some (c : Int))) (hac : a ≤ c) (hc : c ≤ items.size)
    (hsz : items.size + new.size ≤ sizeLine) (h : Q () { s with heap := s.heap.update l (Obj.mapSeq fun xs => xs.extract 0 a ++ new ++ xs.extract c xs.size) }) :
    wpAny (model prog w) A (setItem (.ref l) (.ref sl) (.ref b)) Q E s := by
  have hl : s.heap.IsList l items := PySem.IsL.isList e
  have hb : s.heap.IsList b new := PySem.IsL.isList e2
  obtain ⟨os, hos, hcs, hds⟩ := id hs
  have hTs : s.TypeIs (.ref sl) "slice" := ⟨os, hos, hcs⟩
  have hstep : ¬ ((rawPart none == rawInt 0) = true) := Bool.false_ne_true
  have hsame : Builtin.List.listSameRef (.ref l) (.ref b) = false := by
    unfold Builtin.List.listSameRef
    exact beq_eq_false_iff_ne.mpr hne
  have hmax : (max (a : Int) (c : Int)).toNat = c := by omega
  have hz' : ((fun xs : Array Value => xs.extract 0 a ++ new ++ xs.extract c xs.size) items).size ≤ sizeLine + 1 := by
    simp only [Array.size_append, Array.size_extract]
    omega
  unfold setItem
  try with_reducible refine wpAny_holding ?_
  first | refine wpAny_bind (wpAny_pure ?_) | skip
  refine wpAny_bind (wpAny_sequenceKey hl.typeIs (by decide) ?_)
  refine wpAny_bind (wpAny_callSpecial?_slot (name := Str.ofString "__setitem__") hl.typeIs slot_list_setitem
    (wpAny_call_entry slot_list_setitem hl.typeIs entry_list_setitem ?_ (args_list_setitem _ _ _)))
  show wpAny _ _ (Builtin.List.listSubscript? (.ref sl) >>= _) _ _ s
  refine wpAny_bind ?_
  unfold Builtin.List.listSubscript?
  refine wpAny_bind (wpAny_specialOf hTs slice_no_index ?_)
  simp only [Option.isNone_none, if_true]
  refine wpAny_pure ?_
  show wpAny _ _ (typeOf (.ref sl) >>= _) _ _ s
  refine wpAny_bind (wpAny_typeOf hTs ?_)
  first
    | rw [if_neg (by decide)]
    | refine PySem.W.KFB.if_not (by decide) ?_
  rw [listSliceParts_eq]
  refine wpAny_bind (wpAny_bind (wpAny_field hos hds (x := .none) rfl (wpAny_bind (wpAny_listPart .none ?_))))
  rw [if_neg hstep]
  refine wpAny_bind (wpAny_field hos hds (x := vl) rfl (wpAny_bind (wpAny_listPart pl ?_)))
  refine wpAny_bind (wpAny_field hos hds (x := vu) rfl (wpAny_bind (wpAny_listPart pu (wpAny_pure ?_))))
  first
    | simp only [hsame, Bool.false_eq_true, if_false]
    | refine PySem.W.KFB.if_not hsame ?_
    | (dsimp only
       rw [if_neg (by rw [hsame]; exact Bool.false_ne_true)])
  refine wpAny_bind (m := Builtin.List.listAllItems (.ref b) "must assign iterable to extended slice") ?_
  unfold Builtin.List.listAllItems
  refine wpAny_bind (wpAny_typeOf hb.typeIs ?_)
  first
    | refine PySem.W.KFB.if_so (by decide) ?_
    | rw [if_pos (by decide)]
    | simp only [beq_self_eq_true, Bool.true_or, if_true]
  unfold Builtin.List.listItems
  refine wpAny_bind (wpAny_seqItems e2 rfl (wpAny_pure ?_))
  refine wpAny_bind (wpAny_bind (wpAny_seqItems e rfl (wpAny_pure ?_)))
  refine wpAny_bind (wpAny_of_eq ((sliceIndices_raw (some (a : Int)) (some (c : Int)) none items.size (by simp)).trans (congrArg (pure : Int × Int × Int → Sem (Int × Int × Int)) (bounds_run hac hc))) ?_)
  show wpAny _ _ (if ((1 : Int) == 1) = true then _ else _) _ _ s
  rw [if_pos (by decide)]
  refine wpAny_bind (wpAny_rule ?_)
  first
    | simp only [notLongL hsz, Bool.false_eq_true, if_false]
    | refine PySem.W.KFB.if_not (notLongL hsz) ?_
  first | refine wpAny_bind (wpAny_pure ?_) | skip
  show wpAny _ _ (updateSeq l (fun xs => xs.extract 0 ((a : Int)).toNat ++ new ++ xs.extract (max (a : Int) (c : Int)).toNat xs.size) >>= _) _ _ s
  rw [hmax, Int.toNat_natCast]
  refine wpAny_bind (wpAny_updateSeq (hz := Nat.le_trans (Nat.le_add_right _ _) hsz) (_hz' := hz') e rfl ?_)
  refine wpAny_bind (wpAny_letGo ?_)
  first
    | exact wpAny_bind (wpAny_pure (wpAny_pure ⟨.none, rfl, wpAny_pure h⟩))
    | exact wpAny_pure ⟨.none, rfl, wpAny_pure h⟩
end

section
variable {X : Cx}
/-- xs[a:c] = ys of another list, at the value level: sl is the slice object that was just made -/
theorem set_slice {pins : List (Addr × Obj)} {s : Shared} {σ : St} {H : Hp} {l b sl : Addr} {xs ys : List V} {a c : Int} {vl vu : Value} {Q : Unit → Shared → Prop} (I : Inv X pins σ H s)
    (hH : H l = some (.lst xs)) (hB : H b = some (.lst ys)) (hne : l ≠ b) (hs : s.heap.IsSliceOf sl vl vu .none) (ra : RelV (.int a) vl) (rc : RelV (.int c) vu) (h0 : 0 ≤ a) (hac : a ≤ c) (hc : c ≤ xs.length)
    (hz : xs.length + ys.length ≤ sizeLine) (h : ∀ s', Inv X pins σ (upd H l (.lst (xs.take a.toNat ++ ys ++ xs.drop c.toNat))) s' → Q () s') :
    wpAny (model X.prog X.w) X.A (setItem (.ref l) (.ref sl) (.ref b)) Q X.xe s := by
  obtain ⟨ta, rfl⟩ := ra
  obtain ⟨tc, rfl⟩ := rc
  obtain ⟨z, its, n, r, hl, e⟩ := I.lstM hH
  obtain ⟨z2, its2, n2, r2, hl2, e2⟩ := I.lstM hB
  obtain ⟨a', rfl⟩ := Int.eq_ofNat_of_zero_le h0
  obtain ⟨c', rfl⟩ := Int.eq_ofNat_of_zero_le (Int.le_trans h0 hac)
  simp only [Int.toNat_natCast] at h
  refine setItem_slice (a := a') (c := c') e e2 hne hs (.int _ _) (.int _ _) (by omega) (by rw [List.size_toArray]; omega) (by rw [List.size_toArray, List.size_toArray]; omega) (h _ ?_)
  refine I.lset (its' := its.take a' ++ its2 ++ its.drop c') (t' := s.toks) hH e ?_ (Vals.append (Vals.append (r.take _) r2) (r.drop _)) ?_
  · exact splice_eq its its2 a' c'
  · rw [List.length_append, List.length_append, List.length_take, List.length_drop]
    omega
end
end L2

namespace Att
open PySem PySem.W PySem.Calls PyProof.Rows

/-! ### the script -/
theorem ints_of_wellAll {P : Params} {h : Heap} : ∀ (ns : List Int) (vs : List Value), WellAll P h vs (ns.map WData.int) → IntsAre vs ns := by
  intro ns
  induction ns with
  | nil =>
    intro vs w
    rw [List.map_nil] at w
    cases w
    exact .nil
  | cons n ns ih =>
    intro vs w
    rw [List.map_cons] at w
    cases w with
    | cons a b =>
      cases a
      exact .cons _ _ (ih _ b)

theorem script_of {l : OpenLaw} {n : Nat} (hn : l.most = some n) {P : Params} {h : Heap} {args : List WData} {vals : List Value}
    (hpre : l.row.toRowW.claim.pre args = true) (hwl : WellAll P h vals args) :
    ∃ a vs ns, vals = [Value.ref a] ∧ args = [WData.list (ns.map WData.int)] ∧ h.get? a = some { cls := .type "list", data := .seq vs.toArray } ∧ IntsAre vs ns ∧ ns.length ≤ n := by
  have hsh : WShape.hasAll [] args [.list .int] = true := (pre_splitW hpre).1
  have hc : l.pre.holds [] { args := args } = true := (pre_splitW hpre).2
  obtain ⟨d, r, rfl, h1, h2⟩ := hasAllW_cons hsh
  obtain rfl := hasAllW_nil h2
  obtain ⟨xs, rfl, h3⟩ := hasW_list h1
  obtain ⟨ns, rfl⟩ := items_int h3
  have hlen : ns.length ≤ n := by
    unfold OpenLaw.pre at hc
    have h4 : (WTm.not (.lt (.lit (.int (n : Int))) (.len (.arg 0)))).holds [] { args := [.list (ns.map .int)] } = true := by
      have h4 := (holds_andW hc).1
      rw [hn] at h4
      exact h4
    have h5 := condW_of h4 (w_not (w_lt w_lit (w_len_list (w_arg rfl))))
    rw [List.length_map] at h5
    refine Nat.le_of_not_lt fun q => ?_
    have q' : (n : Int) < ((ns.length : Nat) : Int) := by omega
    first
      | (rw [decide_eq_true q'] at h5; exact absurd h5 (by decide))
      | (simp at h5; omega)
  cases hwl with
  | cons w1 w2 =>
    cases w2
    cases w1 with
    | list ho hall => exact ⟨_, _, ns, rfl, rfl, ho, ints_of_wellAll ns _ hall, hlen⟩

theorem post_true (l : OpenLaw) (args : List WData) : l.row.toRowW.claim.post args (.bool true) args = true :=
  postW_of (r := l.row.toRowW) (X := (true == true))
    (show WShape.has [] (.bool true) .bool = true by first | rfl | decide | simp [WShape.has, WShape.arms, WShape.armsAll])
    (show (WTm.eq .res (.lit (.bool true))).value [] { args := args, res := some (.bool true), after := args } = some (.bool (true == true)) from w_eq_bool (w_res rfl) w_lit) rfl

/-! ### the attachment: holds_open's last premise (the goal 'hc' behind k_head) from a wpAny of the law's body -/
theorem attach {l : OpenLaw} {n : Nat} {q : Program} {loose : List Str} {XP : (Str → Option Value) → Heap → Prop} {YP : World → Heap → Prop} {d : DefRec} {x : Str}
    (hn : l.most = some n) (hdf : d.params.defaults = [])
    (hbind : ∀ pm cd doc v : Value, bindArgs (docDef d.name d.params d.body d.scope pm cd doc) ⟨[v], []⟩ = pure [(x, v)])
    (hx : d.scope.names.lookup x = some .local ∨ d.scope.names.lookup x = some .cell)
    (hk : d.scope.kind = .function) (hco : d.scope.isCoroutine = false) (hgen : d.scope.isGenerator = false)
    (body : ∀ (w : World) (s₀ s₁ s : Shared) (mg mb : Str → Option Value) (fa : Addr) (o : Obj) (pm cd doc : Value) (a : Addr) (vs : List Value) (ns : List Int),
      Ground q loose [] XP w s₀ mg mb s₁.heap → YP w s₁.heap →
      s₁.heap.get? fa = some o → o.data = .func (docDef d.name d.params d.body d.scope pm cd doc) → s₁.heap.CodeRec cd d.name → mg d.name = some (.ref fa) →
      s₁.heap.get? a = some { cls := .type "list", data := .seq vs.toArray } → IntsAre vs ns → ns.length ≤ n →
      s.gens = #[] → s.os = s₁.os →
      Fr s₁.heap s₁.heap.objs.size s.heap (bindL (envOfC d.name d.scope s₁.heap.objs.size fa cd).kindOf [(x, .ref a)] fun _ => none) →
      Cl s₁.heap.objs.size (cellsFrom (s₁.heap.objs.size + 1) d.scope.names []) s.heap (bindC (envOfC d.name d.scope s₁.heap.objs.size fa cd).kindOf [(x, .ref a)] fun _ => none) →
      wpAny (model l.prog w) (callerA.deeper (envOfC d.name d.scope s₁.heap.objs.size fa cd)) (execs d.body (envOfC d.name d.scope s₁.heap.objs.size fa cd))
        (fun f s' => f = .ret (.bool true) ∧ OldK s₁.heap s'.heap ∧ s'.os = s₁.os ∧ AllBare s'.gens) (fun _ _ => False) s) :
    WalkO q loose XP YP l.row.toRowW d [] (fun f vs => PySem.call f vs) := by
  intro w s₀ s₁ mg mb G Y fa o pm cd doc dV kV ho hd hcd hD hmg hg args vals as hpre hlay hrd hwl hlo
  obtain rfl : dV = .none := Dflts.none hD hdf
  obtain rfl : kV = .none := Dflts.noKw hD
  obtain ⟨a, vs, ns, rfl, rfl, hobj, hints, hlen⟩ := script_of hn hpre hwl
  refine enter_call ?_
  refine call_cells_ret (o := o) (by rw [depth_caller]; decide) ho (fd_plain hd) G.T.nolimit hcd (hbind pm cd doc (.ref a)) (fun y hy => ?_) (fun h₁ tk F X => ?_) hco hgen hk
  · obtain rfl : y = (x, Value.ref a) := List.mem_singleton.mp hy
    rcases hx with e | e
    · exact .inl e
    · exact .inr ⟨e, cellsFrom_some _ _ _ (.inl e)⟩
  · refine wpAny_mono (body w s₀ s₁ { s₁ with heap := h₁, toks := tk } mg mb fa o pm cd doc a vs ns G Y ho (fd_plain hd) hcd hmg hobj hints hlen hg rfl F X) (fun f s' hq => ?_) (fun _ _ hq => hq)
    obtain ⟨rfl, h2, h3, h4⟩ := hq
    exact ⟨.inl ⟨.bool true, .bool true, [], rfl, fun _ => rfl, .bool true, post_true l _, fun _ => ⟨List.Pairwise.nil, fun _ hm => (nomatch hm)⟩⟩, h2, h3, h4⟩

/-- the same from a codeAny of the CALL (for a layer whose function contracts speak of calls) -/
theorem attach_call {l : OpenLaw} {n : Nat} {q : Program} {loose : List Str} {XP : (Str → Option Value) → Heap → Prop} {YP : World → Heap → Prop} {d : DefRec}
    (hn : l.most = some n) (hdf : d.params.defaults = [])
    (call : ∀ (w : World) (s₀ s₁ : Shared) (mg mb : Str → Option Value) (fa : Addr) (o : Obj) (pm cd doc : Value) (a : Addr) (vs : List Value) (ns : List Int),
      Ground q loose [] XP w s₀ mg mb s₁.heap → YP w s₁.heap →
      s₁.heap.get? fa = some o → o.data = .func (docDef d.name d.params d.body d.scope pm cd doc) → s₁.heap.CodeRec cd d.name → mg d.name = some (.ref fa) →
      s₁.heap.get? a = some { cls := .type "list", data := .seq vs.toArray } → IntsAre vs ns → ns.length ≤ n → s₁.gens = #[] →
      codeAny (model l.prog w) callerA (.call (.ref fa) ⟨[.ref a], []⟩) (fun r s' => r = .ok (.ret (.bool true)) ∧ OldK s₁.heap s'.heap ∧ s'.os = s₁.os ∧ AllBare s'.gens) s₁) :
    WalkO q loose XP YP l.row.toRowW d [] (fun f vs => PySem.call f vs) := by
  intro w s₀ s₁ mg mb G Y fa o pm cd doc dV kV ho hd hcd hD hmg hg args vals as hpre hlay hrd hwl hlo
  obtain rfl : dV = .none := Dflts.none hD hdf
  obtain rfl : kV = .none := Dflts.noKw hD
  obtain ⟨a, vs, ns, rfl, rfl, hobj, hints, hlen⟩ := script_of hn hpre hwl
  refine enter_call (codeAny_mono (call w s₀ s₁ mg mb fa o pm cd doc a vs ns G Y ho (fd_plain hd) hcd hmg hobj hints hlen hg) fun r s' hq => ?_)
  obtain ⟨rfl, h2, h3, h4⟩ := hq
  exact ⟨.inl ⟨.bool true, .bool true, [], rfl, fun _ => rfl, .bool true, post_true l _, fun _ => ⟨List.Pairwise.nil, fun _ hm => (nomatch hm)⟩⟩, h2, h3, h4⟩

/-- the same where the top left finished generators (o_head chose holds_openN): nothing may have changed at all and no generator may be left -/
theorem attachN {l : OpenLaw} {n : Nat} {q : Program} {loose : List Str} {XP : (Str → Option Value) → Heap → Prop} {YP : World → Heap → Prop} {d : DefRec} {x : Str}
    (hn : l.most = some n) (hdf : d.params.defaults = [])
    (hbind : ∀ pm cd doc v : Value, bindArgs (docDef d.name d.params d.body d.scope pm cd doc) ⟨[v], []⟩ = pure [(x, v)])
    (hx : d.scope.names.lookup x = some .local ∨ d.scope.names.lookup x = some .cell)
    (hk : d.scope.kind = .function) (hco : d.scope.isCoroutine = false) (hgen : d.scope.isGenerator = false)
    (body : ∀ (w : World) (s₀ s₁ s : Shared) (mg mb : Str → Option Value) (fa : Addr) (o : Obj) (pm cd doc : Value) (a : Addr) (vs : List Value) (ns : List Int),
      Ground q loose [] XP w s₀ mg mb s₁.heap → YP w s₁.heap →
      s₁.heap.get? fa = some o → o.data = .func (docDef d.name d.params d.body d.scope pm cd doc) → s₁.heap.CodeRec cd d.name → mg d.name = some (.ref fa) →
      s₁.heap.get? a = some { cls := .type "list", data := .seq vs.toArray } → IntsAre vs ns → ns.length ≤ n →
      s.gens = #[] → s.os = s₁.os →
      Fr s₁.heap s₁.heap.objs.size s.heap (bindL (envOfC d.name d.scope s₁.heap.objs.size fa cd).kindOf [(x, .ref a)] fun _ => none) →
      Cl s₁.heap.objs.size (cellsFrom (s₁.heap.objs.size + 1) d.scope.names []) s.heap (bindC (envOfC d.name d.scope s₁.heap.objs.size fa cd).kindOf [(x, .ref a)] fun _ => none) →
      wpAny (model l.prog w) (callerA.deeper (envOfC d.name d.scope s₁.heap.objs.size fa cd)) (execs d.body (envOfC d.name d.scope s₁.heap.objs.size fa cd))
        (fun f s' => f = .ret (.bool true) ∧ (∀ b o, s₁.heap.get? b = some o → s'.heap.get? b = some o) ∧ s'.os = s₁.os ∧ s'.gens = #[]) (fun _ _ => False) s) :
    WalkN q loose XP YP l.row.toRowW d [] (fun f vs => PySem.call f vs) := by
  intro w s₀ s₁ mg mb G Y fa o pm cd doc dV kV ho hd hcd hD hmg hg args vals as hpre hlay hrd hwl hlo
  obtain rfl : dV = .none := Dflts.none hD hdf
  obtain rfl : kV = .none := Dflts.noKw hD
  obtain ⟨a, vs, ns, rfl, rfl, hobj, hints, hlen⟩ := script_of hn hpre hwl
  refine enter_callW ?_
  refine call_cells_ret (o := o) (by rw [depth_caller]; decide) ho (fd_plain hd) G.T.nolimit hcd (hbind pm cd doc (.ref a)) (fun y hy => ?_) (fun h₁ tk F X => ?_) hco hgen hk
  · obtain rfl : y = (x, Value.ref a) := List.mem_singleton.mp hy
    rcases hx with e | e
    · exact .inl e
    · exact .inr ⟨e, cellsFrom_some _ _ _ (.inl e)⟩
  · refine wpAny_mono (body w s₀ s₁ { s₁ with heap := h₁, toks := tk } mg mb fa o pm cd doc a vs ns G Y ho (fd_plain hd) hcd hmg hobj hints hlen hg rfl F X) (fun f s' hq => ?_) (fun _ _ hq => hq)
    obtain ⟨rfl, h2, h3, h4⟩ := hq
    exact ⟨.inl ⟨.bool true, .bool true, [], rfl, fun _ => rfl, .bool true, post_true l _, fun _ => ⟨List.Pairwise.nil, fun _ hm => (nomatch hm)⟩⟩, h2, h3, h4⟩

/-! ### rules over ANY heap (no ledger) from facts about the written part K: the library's own take a ledger (News) for what they write -/
section
variable {prog : Program} {w : World} {A : Around} {E : Value → Shared → Prop} {s : Shared} {K : Frag}

/-- a def of the module, or a method (qual 'C.m'), entered: the frame is the next address; cells behind it -/
theorem call_fn {R : Result → Shared → Prop} {name qual : Str} {params : Arguments} {body : List Stmt} {scope : Scope} {dV kV doc pm cdv ct oc : Value} {an od : Option Addr} {osl : Array (Option Value)} {f : Addr} {args : Args} {binds : List (Str × Value)}
    (X : K.In s.heap) (hlim : s.heap.NoLimit) (ho : K.lookup f = some ⟨oc, od, .func (fnOf name qual params body scope dV kV doc pm an cdv ct), osl⟩) (hcd : codeIn K cdv qual = true) (hroom : A.depth < recursionLimit)
    (hbind : BindsTo s (fnOf name qual params body scope dV kV doc pm an cdv ct) args binds)
    (hkind : (binds.all fun y => scope.names.lookup y.1 == some .local || scope.names.lookup y.1 == some .cell) = true)
    (h : ∀ s₁, InCallC s s.heap.objs.size (bindL (envOfC qual scope s.heap.objs.size f cdv).kindOf binds fun _ => none) (cellsFrom (s.heap.objs.size + 1) scope.names [])
        (bindC (envOfC qual scope s.heap.objs.size f cdv).kindOf binds fun _ => none) s₁ →
      wpAny (model prog w) (A.deeper (envOfC qual scope s.heap.objs.size f cdv)) (execs body (envOfC qual scope s.heap.objs.size f cdv))
        (fun fl s' => R (.ok (.ret (match fl with | .ret v => v | _ => .none))) s')
        (fun e s' => wpAny (model prog w) (A.deeper (envOfC qual scope s.heap.objs.size f cdv)) (leaving (envOfC qual scope s.heap.objs.size f cdv) e) (fun _ s'' => R (.error e) s'') (fun e' s'' => R (.error e') s'') s') s₁)
    (hco : scope.isCoroutine = false) (hgen : scope.isGenerator = false) (hk : scope.kind = .function) : codeAny (model prog w) A (.call (.ref f) args) R s := by
  refine codeAny_call_function hroom (X _ _ ho) rfl hco hgen rfl (codeRec_of X hcd) (hbind _ _ _ _ ?_)
  refine wpAny_newFunctionEnv_cells hk (kindsX hkind _) fun env he s₁ x => ?_
  subst he
  exact ⟨hlim.keeps x.toInCall.keep, codeAny_func (h s₁ x)⟩

/-- C(..): dict at size, instance at size + 1, then __init__ -/
theorem make_obj {R : Result → Shared → Prop} {C fI : Addr} {rest : List Value} {kw : List (Str × Value)}
    (X : K.In s.heap) (hm : makesIn K C = true) (hi : findIn K (.ref C) "__init__" = some (some (.ref fI))) (hf : isFn K (.ref fI) = true)
    (h : codeAny (model prog w) (A.under (.builtin "type.__call__" ⟨.ref C :: rest, kw⟩)) (.call (.ref fI) ⟨.ref (s.heap.objs.size + 1) :: rest, kw⟩) (InitBack (s.heap.objs.size + 1) R)
      { s with heap := (s.heap.push emptyDict).push (instObj C s.heap.objs.size) }) : codeAny (model prog w) A (.call (.ref C) ⟨rest, kw⟩) R s := by
  obtain ⟨hh, g, d, t, os⟩ := s
  exact make_core (makes_of X hm) (looks_findIn X hi) (fun self => bind_fn X self (beq_iff_eq.mp hf)) (.inl rfl) h

/-- x.name where the instance's dict holds the name and the class does not -/
theorem get_field {x C : Addr} {ox : Obj} {es : List DictEntry} {n : Nat} {name : Str} {expr : Bool} {v : Value} {Q : Value → Shared → Prop}
    (X : K.In s.heap) (I : PySem.W.InstAt s.heap x ox C (some (dictOf es n))) (hg : plainGet K C name = true) (hh : hasDictIn K C = true) (ha : findIn K (.ref C) name = some none)
    (hl : getL name es = some (some v)) (hv : handedIn v = true) (h : Q v { s with toks := s.toks + 1 }) : wpAny (model prog w) A (getAttr (.ref x) name expr) Q E s :=
  get_value X I (plainGet_of hg).1 (findObj_own hh ha rfl hl) hv h

/-- x.m(..): the method found in the class -/
theorem get_method {x C f : Addr} {ox : Obj} {es : List DictEntry} {n : Nat} {name : Str} {pl : Sem Bool} {Q : Value × List Value → Shared → Prop}
    (X : K.In s.heap) (I : PySem.W.InstAt s.heap x ox C (some (dictOf es n))) (hg : plainGet K C name = true) (hf : findIn K (.ref C) name = some (some (.ref f))) (ht : isFn K (.ref f) = true)
    (hl : getL name es = some none) (h : Q (.ref f, [.ref x]) s) : wpAny (model prog w) A (getMethod (.ref x) name pl) Q E s :=
  method_fn X I (plainGet_of hg).1 (plainGet_of hg).2 hf (beq_iff_eq.mp ht) (by show (lookIn name (dictOf es n)).map _ = _; rw [lookIn_dict, hl]; rfl) h

/-! the whole heap as the ledger: makes every rule that writes through a ledger a rule over any heap -/
def noObjs (h : Heap) : Heap := { h with objs := #[] }
theorem noObjs_get (h : Heap) (b : Addr) : (noObjs h).get? b = none := by
  cases e : (noObjs h).get? b with
  | none => rfl
  | some o => exact absurd (Heap.lt_size e) (Nat.not_lt_zero _)
def ledger (h : Heap) (L d : Addr) : List (Addr × Obj) := (List.range h.objs.size).filterMap fun a => if a = L ∨ a = d then none else (h.get? a).map fun o => (a, o)
theorem mem_ledger {h : Heap} {L d a : Addr} {o : Obj} : (a, o) ∈ ledger h L d ↔ a ≠ L ∧ a ≠ d ∧ h.get? a = some o := by
  unfold ledger
  rw [List.mem_filterMap]
  constructor
  · rintro ⟨b, _, e⟩
    split at e
    · cases e
    · rename_i hb
      obtain ⟨o', ho, e'⟩ := Option.map_eq_some_iff.mp e
      cases e'
      exact ⟨fun q => hb (.inl q), fun q => hb (.inr q), ho⟩
  · rintro ⟨n1, n2, ho⟩
    refine ⟨a, List.mem_range.mpr (Heap.lt_size ho), ?_⟩
    rw [if_neg (show ¬ (a = L ∨ a = d) from fun q => q.elim n1 n2), ho] <;> rfl
theorem news_ledger {h : Heap} {L d : Addr} {od : Obj} (hne : d ≠ L) (ho : h.get? d = some od) : News (noObjs h) L h ([] ++ (d, od) :: ledger h L d) := by
  rintro ⟨a, o⟩ hp
  rcases List.mem_cons.mp hp with e | hp
  · cases e
    exact ⟨ho, hne, noObjs_get _ _⟩
  · obtain ⟨n1, n2, e⟩ := mem_ledger.mp hp
    exact ⟨e, n1, noObjs_get _ _⟩
theorem fr_all {h : Heap} {L : Addr} {m : Str → Option Value} (n : h.Ns L m) : Fr (noObjs h) L h m :=
  ⟨n, fun b o e => (by rw [noObjs_get] at e; cases e), Nat.zero_le _⟩
/-- Upd of the head entry (for append_K, setItem_K ..) -/
theorem upd_ledger {h : Heap} {L d : Addr} {o o' : Obj} : Upd d o o' ((d, o) :: ledger h L d) ((d, o') :: ledger h L d) :=
  .head fun ⟨_, _⟩ hp => (mem_ledger.mp hp).2.1

/-- x.name = v over any heap: L is any namespace of the heap (the frame's, say): its map stays, its object is not told; all else but the dict stays -/
theorem set_field {x C dx L : Addr} {ox : Obj} {m : Str → Option Value} {es es' : List DictEntry} {n n' : Nat} {name : Str} {v : Value} {Q : Unit → Shared → Prop}
    (X : K.In s.heap) (I : PySem.W.InstAt s.heap x ox C (some (dictOf es n))) (hd : ox.dict = some dx) (hL : s.heap.Ns L m) (hne : dx ≠ L)
    (hs : findIn K (.ref C) "__setattr__" = some (some (.builtin "object.__setattr__"))) (hp : plainOver K C = true) (ht : takerIn K C name = some none) (hh : hasDictIn K C = true) (hl : (getL name es).isSome = true)
    (e : (putL name (PyData.keyHash w.params name) (.str name (s.toks + 1)) v es, putN name es n) = (es', n')) (hz : es'.length ≤ 1000)
    (h : ∀ h' : Heap, h'.Ns L m → h'.get? dx = some (dictOf es' n') → (∀ b o, b ≠ dx → b ≠ L → s.heap.get? b = some o → h'.get? b = some o) → Q () { s with heap := h', toks := s.toks + 2 }) :
    wpAny (model prog w) A (setAttr (.ref x) name v) Q E s := by
  obtain ⟨e1, e2⟩ := Prod.mk.inj e
  have hdx : s.heap.get? dx = some (dictOf es n) := by
    have := I.dict
    rw [hd] at this
    exact this
  refine set_plain X I hs (osa_dict (s := { s with toks := s.toks + 1 }) (h₀ := noObjs s.heap) (L := L) (m := m) (od := dictOf es n) (od' := dictOf es' n') (es := es') (n := n') (pre := []) (post := ledger s.heap L dx)
    (fr_all hL) (news_ledger hne hdx) X I hd hp ht hh hl (fun _ q => nomatch q) (fun ⟨_, _⟩ q => (mem_ledger.mp q).2.1) (by rw [putName_dict, e1, e2]) rfl hz fun h' F' N' => ?_)
  exact h h' F'.ns (N'.get (List.Mem.head _)) fun b o n1 n2 ho => N'.get (List.Mem.tail _ (mem_ledger.mpr ⟨n2, n1, ho⟩))
end
end Att

namespace L2
open PySem PySem.Spec PyProof.Rows

theorem vals_ints : ∀ {vs : List Value} {ns : List Int}, IntsAre vs ns → Vals (ns.map V.int) vs
  | _, _, .nil => .nil
  | _, _, .cons n t h => .cons ⟨t, rfl⟩ (vals_ints h)

/-- nothing is tracked but the script, known to the object (or it is an object of the module) -/
def Only (H : Hp) : Prop := ∀ b, H b = none ∨ ∃ o xs, H b = some (.frz o (.lst xs))

/-- THE HEAD: the law's promise, at the heap behind the top. F, the promise of the law's def, may use that base is part of the heap (so K.In base, base.Ns mainGlobals mg stand in Mod) -/
theorem law_call {P : Program} {w : World} {K : PySem.W.Frag} {mg mb : Str → Option Value} {CX : CXT} {k : Nat} {fa a : Addr} {fd : FuncData} {x : Str} {sp : Sp} {s₁ : Shared} {vs : List Value} {ns : List Int}
    (KX : K.In s₁.heap) (hns : s₁.heap.Ns mainGlobals mg) (hb : s₁.heap.Ns builtinsNs mb) (hbb : ∀ x : Str, x ≠ "__name__" → mb x = bootBuiltins x) (hlim : s₁.heap.NoLimit) (hg : s₁.gens = #[])
    (ha : s₁.heap.get? a = some { cls := .type "list", data := .seq vs.toArray }) (hi : IntsAre vs ns) (hl : ns.length ≤ sizeLine) (hr : Room k callerA)
    (F : ∀ base : Heap, K.In base → base.Ns mainGlobals mg → FnOk P w K mg base CX k fa fd [x] sp) (hbind : ∀ (s : Shared) (u : Value), BindsTo s fd ⟨[u], []⟩ [(x, u)])
    (hsp : ∀ H : Hp, Only H → SqL K H a (ns.map V.int) → sp [.ref a] H (fun v _ => v = .bl true) fun _ _ _ => False)
    (hCX : ∀ H e s', CX [] H s₁ (fun _ _ _ => False) e s' → False) :
    codeAny (model P w) callerA (.call (.ref fa) ⟨[.ref a], []⟩) (fun r s' => r = .ok (.ret (.bool true)) ∧ OldK s₁.heap s'.heap ∧ s'.os = s₁.os ∧ AllBare s'.gens) s₁ := by
  have rv := vals_ints hi
  have lenV := hi.length
  -- from an abstract heap in which nothing but the script may be tracked
  have core : ∀ H : Hp, Only H → SqL K H a (ns.map V.int) → HOk P w H s₁.heap → (∀ b, H b ≠ none → b = a) → (H a ≠ none → K.lookup a = none) →
      codeAny (model P w) callerA (.call (.ref fa) ⟨[.ref a], []⟩) (fun r s' => r = .ok (.ret (.bool true)) ∧ OldK s₁.heap s'.heap ∧ s'.os = s₁.os ∧ AllBare s'.gens) s₁ := by
    intro H hO hS hok hA hK
    have base_of : ∀ {b : Addr} {o : Obj}, s₁.heap.get? b = some o → H b = none → (hidT s₁.heap H).get? b = some o := fun e n => hidT_get e n
    have noA : ∀ {b : Addr} {o : Obj} {es : Array DictEntry} {ep : Nat}, s₁.heap.get? b = some o → o.data = .dict es ep → H b = none := fun {b o es ep} e d => by
      cases q : H b with
      | none => rfl
      | some u =>
        have e' : b = a := hA b (by rw [q]; simp)
        subst e'
        rw [ha] at e; cases e
        have d' : Data.seq vs.toArray _ = Data.dict es ep := d
        cases d'
    have nsK : ∀ {b : Addr} {m : Str → Option Value}, s₁.heap.Ns b m → (hidT s₁.heap H).Ns b m := fun {b m} ⟨o, es, ep, e, d, r⟩ => ⟨o, es, ep, base_of e (noA e d), d, r⟩
    have hKb : K.In (hidT s₁.heap H) := fun b o e => base_of (KX b o e) (by
      cases q : H b with
      | none => rfl
      | some u =>
        have e' : b = a := hA b (by rw [q]; simp)
        subst e'
        rw [hK (by rw [q]; simp)] at e; cases e)
    have hM : Mod K mg (hidT s₁.heap H) := ⟨hKb, nsK hns, ⟨mb, nsK hb, hbb⟩, let ⟨mc, h1, h2⟩ := hlim; ⟨mc, nsK h1, h2⟩⟩
    have e0 : Env0 P w K mg (hidT s₁.heap H) callerA [] s₁ H := ⟨rfl, hM, fun b o e => of_hidT e, Nat.le_of_eq (hidT_size _ _), trivial, fun b hb => absurd (show b ∈ ([] : List Addr) from hb) (by simp), hok, .of_eq hg⟩
    refine codeAny_mono ((F _ hKb (nsK hns)).run callerA [] s₁ H ⟨[.ref a], []⟩ [.ref a] [.ref a] _ _ hr e0 (hbind s₁ (.ref a)) (.cons rfl .nil) (hsp H hO hS)) fun r s' h => ?_
    cases r with
    | error e => exact (hCX H e s' h).elim
    | ok fl =>
      cases fl with
      | next => exact False.elim h
      | brk => exact False.elim h
      | cont => exact False.elim h
      | ret u =>
        obtain ⟨v, H', os, bare, un, hok', r', q⟩ := h
        have q' : v = .bl true := q
        subst q'
        obtain rfl : u = Value.bool true := r'
        refine ⟨rfl, OldK.of_keep fun b o e => ?_, os, bare⟩
        cases q : H b with
        | none => exact un.keep b o e q (by intro z; exact absurd (show b ∈ ([] : List Addr) from z) (by simp)) (by simp)
        | some u =>
          rcases hO b with z | ⟨ob, xs, z⟩
          · rw [q] at z; cases z
          · have z2 := un.frzs b ob _ z
            obtain ⟨e1, _⟩ := hok b _ z
            obtain ⟨e2, _⟩ := hok' b _ z2
            rw [e] at e1; cases e1
            exact e2
  cases hk : K.lookup a with
  | some o =>
    -- the script is one of the module's own objects
    have e := KX a o hk
    rw [ha] at e
    cases e
    refine core (fun _ => none) (fun _ => .inl rfl) (.inr ⟨_, vs.toArray, _, hk, rfl, rfl, rfl, by rw [List.size_toArray, lenV]; exact hl, by simpa using rv⟩) (fun b u z => by have z' : (none : Option HO) = some u := z; cases z') (fun b z => absurd rfl z) fun z => absurd rfl z
  | none =>
    refine core (fun b => if b = a then some (.frz { cls := .type "list", data := .seq vs.toArray } (.lst (ns.map V.int))) else none) (fun b => ?_) (.inl (.inr ⟨{ cls := .type "list", data := .seq vs.toArray }, if_pos rfl⟩)) (fun b u z => ?_) (fun b z => ?_) fun _ => hk
    · by_cases hb : b = a
      · exact .inr ⟨_, _, if_pos hb⟩
      · exact .inl (if_neg hb)
    · by_cases hb : b = a
      · have z' := (if_pos hb).symm.trans z
        cases z'
        subst hb
        exact ⟨ha, by rw [List.length_map]; exact hl, vs, _, rv, ha⟩
      · have z' := (if_neg hb).symm.trans z
        cases z'
    · by_cases hb : b = a
      · exact hb
      · exact absurd (if_neg hb) z
end L2

namespace L2
open PySem PySem.Spec PyProof.Rows

abbrev KOf {K : PySem.W.Frag} {h : Heap} (_ : K.In h) : PySem.W.Frag := K

/-- the goal that k_head leaves (case hc), from the law's promise. F gives the function object fd (K's own) once, then the promise over every base -/
theorem walk_of {l : PySem.W.OpenLaw} {n k : Nat} {q : Program} {loose : List Str} {XP : (Str → Option Value) → Heap → Prop} {YP : World → Heap → Prop} {d : DefRec} {K : Params → PySem.W.Frag} {CX : World → CXT} {sp : World → Sp} {x : Str}
    (hn : l.most = some n) (hn2 : n ≤ sizeLine) (hdf : d.params.defaults = []) (hr : Room k callerA)
    (hY : ∀ (w : World) (h : Heap), YP w h → (K w.params).In h)
    (F : ∀ (w : World) (mg : Str → Option Value) (fa : Addr) (h : Heap), (K w.params).In h → h.Ns mainGlobals mg → mg d.name = some (.ref fa) →
      ∃ fd : FuncData, (∀ (s : Shared) (u : Value), BindsTo s fd ⟨[u], []⟩ [(x, u)]) ∧
        ∀ base : Heap, (K w.params).In base → base.Ns mainGlobals mg → FnOk l.prog w (K w.params) mg base (CX w) k fa fd [x] (sp w))
    (hsp : ∀ (w : World) (H : Hp) (a : Addr) (ns : List Int), ns.length ≤ n → Only H → SqL (K w.params) H a (ns.map V.int) → sp w [.ref a] H (fun v _ => v = .bl true) fun _ _ _ => False)
    (hCX : ∀ (w : World) (H : Hp) (s : Shared) (e : Value) (s' : Shared), CX w [] H s (fun _ _ _ => False) e s' → False) :
    PySem.W.WalkO q loose XP YP l.row.toRowW d [] (fun f vs => PySem.call f vs) := by
  refine Att.attach_call hn hdf fun w s₀ s₁ mg mb fa o pm cd doc a vs ns G Y ho hd hcd hmg hobj hints hlen hg => ?_
  have KX := hY w _ Y
  obtain ⟨fd, hb, hF⟩ := F w mg fa _ KX G.T.g hmg
  exact law_call KX G.T.g G.T.b G.T.builtins G.T.nolimit hg hobj hints (Nat.le_trans hlen hn2) hr hF hb (fun H hO hS => hsp w H a ns hlen hO hS) fun H e s' => hCX w H s₁ e s'
/-- the same where the promise hangs on the written part alone: (sp := My.sp_law), no hole under a binder -/
theorem walk_ofK {l : PySem.W.OpenLaw} {n k : Nat} {q : Program} {loose : List Str} {XP : (Str → Option Value) → Heap → Prop} {YP : World → Heap → Prop} {d : DefRec} {K : Params → PySem.W.Frag} {CX : CXT} {sp : PySem.W.Frag → Sp} {x : Str}
    (hn : l.most = some n) (hn2 : n ≤ sizeLine) (hdf : d.params.defaults = []) (hr : Room k callerA)
    (hY : ∀ (w : World) (h : Heap), YP w h → (K w.params).In h)
    (F : ∀ (w : World) (mg : Str → Option Value) (fa : Addr) (h : Heap), (K w.params).In h → h.Ns mainGlobals mg → mg d.name = some (.ref fa) →
      ∃ fd : FuncData, (∀ (s : Shared) (u : Value), BindsTo s fd ⟨[u], []⟩ [(x, u)]) ∧
        ∀ base : Heap, (K w.params).In base → base.Ns mainGlobals mg → FnOk l.prog w (K w.params) mg base CX k fa fd [x] (sp (K w.params)))
    (hsp : ∀ (K : PySem.W.Frag) (H : Hp) (a : Addr) (ns : List Int), ns.length ≤ n → Only H → SqL K H a (ns.map V.int) → sp K [.ref a] H (fun v _ => v = .bl true) fun _ _ _ => False)
    (hCX : ∀ (H : Hp) (s : Shared) (e : Value) (s' : Shared), CX [] H s (fun _ _ _ => False) e s' → False) :
    PySem.W.WalkO q loose XP YP l.row.toRowW d [] (fun f vs => PySem.call f vs) :=
  walk_of (K := K) (CX := fun _ => CX) (sp := fun w => sp (K w.params)) hn hn2 hdf hr hY F (fun w H a ns h1 h2 h3 => hsp (K w.params) H a ns h1 h2 h3) fun _ H s e s' => hCX H s e s'
end L2



/-! SHORT WORDS over the layer: a def of the text, its body, what a loop and a test want. -/
namespace L2
open PySem PySem.Spec PyProof.Rows

/-! ### the text by places -/
/-- the j-th statement of a class's body -/
def inClass (s : Stmt) (j : Nat) : Stmt := match s with
  | .ClassDef _ _ _ body _ _ _ _ _ _ _ => body.getD j (.Pass ⟨0, 0, 0, 0⟩)
  | _ => .Pass ⟨0, 0, 0, 0⟩
def defArgs (s : Stmt) : Arguments := match s with
  | .FunctionDef _ a _ _ _ _ _ _ _ _ => a
  | _ => { posonlyargs := [], args := [], vararg := none, kwonlyargs := [], kw_defaults := [], kwarg := none, defaults := [] }
def defBody (s : Stmt) : List Stmt := match s with
  | .FunctionDef _ _ b _ _ _ _ _ _ _ => b
  | _ => []
def defScope (s : Stmt) : Scope := match s with
  | .FunctionDef _ _ _ _ _ _ sc _ _ _ => sc
  | _ => { kind := .function, names := [], isGenerator := false, isCoroutine := false }

/-! ### no exception leaves a def -/
abbrev CX0 : CXT := fun _ _ _ _ _ _ => False
abbrev E0 : XK := fun _ _ _ => False
theorem pass0 {X : Cx} : Passes CX0 X E0 := fun _ _ _ _ _ _ _ h => h.elim

/-! ### a def (or method) of the text as it stands behind the top -/
structure Fun (K : PySem.W.Frag) (x qual : Str) (st : Stmt) (f : Addr) (fd : FuncData) : Prop where
  ex : ∃ (oc : Value) (od : Option Addr) (kV doc pm : Value) (an : Option Addr) (cdv ct : Value) (osl : Array (Option Value)),
    fd = PySem.W.fnOf x qual (defArgs st) (defBody st) (defScope st) .none kV doc pm an cdv ct ∧ K.lookup f = some ⟨oc, od, .func fd, osl⟩ ∧ PySem.W.codeIn K cdv qual = true
  kp : PySem.W.keepIn K (.ref f) = true
section
variable {P : Program} {w : World} {K : PySem.W.Frag} {mg : Str → Option Value} {base : Heap}
/-- THE RULE for a def: its body as a term of rules, and the reading of that term -/
theorem Fun.ok {x qual : Str} {st : Stmt} {f : Addr} {fd : FuncData} {N ps : List Str} {k : Nat} {sp : Sp} (F : Fun K x qual st f fd) (S : FnScope N ps (defScope st)) (len : ∀ vs H Q E, sp vs H Q E → vs.length = ps.length)
    (hbody : ∀ (cdv : Value) (A : Around) (outer : List Env) (s : Shared) (H : Hp) (vs : List V) (Q : VK) (E : XK), Room k (A.deeper (envOfC qual (defScope st) s.heap.objs.size f cdv)) → sp vs H Q E →
      ∃ t, PSs (cxOf CX0 P w K mg base N qual (defScope st) f cdv A outer s H E).nox (defBody st) t ∧ t { nx := fun _ H' => Q .non H', rt := Q } (start N vs) H) : FnOk P w K mg base CX0 (k + 1) f fd ps sp := by
  obtain ⟨oc, od, kV, doc, pm, an, cdv, ct, osl, rfl, lk, hcd⟩ := F.ex
  refine fn_of lk hcd S len fun A outer s H vs Q E hr hsp => ?_
  obtain ⟨t, h, q⟩ := hbody cdv A outer s H vs Q E hr hsp
  exact ⟨t, h.nox, q⟩
/-- how its arguments bind (no defaults): h is «fun _ _ _ _ _ _ us hl => match us, hl with | [_, _], _ => rfl», one _ a parameter -/
theorem Fun.binds {x qual : Str} {st : Stmt} {f : Addr} {fd : FuncData} {ps : List Str} (F : Fun K x qual st f fd)
    (h : ∀ (kV doc pm : Value) (an : Option Addr) (cdv ct : Value) (us : List Value), us.length = ps.length → bindArgs (PySem.W.fnOf x qual (defArgs st) (defBody st) (defScope st) .none kV doc pm an cdv ct) ⟨us, []⟩ = pure (ps.zip us)) : Binds K fd ps [] := by
  obtain ⟨oc, od, kV, doc, pm, an, cdv, ct, osl, rfl, lk, hcd⟩ := F.ex
  exact .all (h kV doc pm an cdv ct)
theorem fun_mk {x qual : Str} {st : Stmt} {f : Addr} {oc : Value} {od an : Option Addr} {osl : Array (Option Value)} {kV doc pm cdv ct : Value} (l : K.lookup f = some ⟨oc, od, .func (PySem.W.fnOf x qual (defArgs st) (defBody st) (defScope st) .none kV doc pm an cdv ct), osl⟩)
    (c : PySem.W.codeIn K cdv qual = true) (k : PySem.W.keepIn K (.ref f) = true) : Fun K x qual st f (PySem.W.fnOf x qual (defArgs st) (defBody st) (defScope st) .none kV doc pm an cdv ct) := ⟨⟨oc, od, kV, doc, pm, an, cdv, ct, osl, rfl, l, c⟩, k⟩
end
theorem hu_of {A : Around} {k : Nat} (hr : Room k A) : A.units + 1 < cLine := Nat.lt_of_le_of_lt (Nat.add_le_add_left (by decide : 1 ≤ 64) _) hr.units
theorem small1000 {n : Nat} (h : n ≤ 1000) : n < sizeLine := Nat.lt_of_le_of_lt h (by decide)

/-! ### expressions in short: the name that stands in the i-th slot -/
section
variable {X : Cx}
theorem pv (i : Nat) {x : Str} {pos : Pos} (hN : X.N[i]? = some x := by rfl) (hv : Vis X.env.scope x := by first | exact Or.inl rfl | exact Or.inr (Or.inl rfl) | exact Or.inr (Or.inr rfl)) (hd : (x == ("__debug__" : Str)) = false := by decide)
    (hcd : (x == ("__classdict__" : Str)) = false := by decide) : PE X (.Name x pos) (tVar i) := pe_var hN hv hd hcd
end

/-! ### tests -/
theorem iteF {A B : Prop} (h : B) : if false = true then A else B := by
  rw [if_neg Bool.false_ne_true]
  exact h
theorem iteT {A B : Prop} (h : A) : if true = true then A else B := by
  rw [if_pos rfl]
  exact h
theorem ite2 {c A B : Prop} [Decidable c] (h1 : c → A) (h2 : ¬ c → B) : if c then A else B := by
  by_cases h : c
  · rw [if_pos h]
    exact h1 h
  · rw [if_neg h]
    exact h2 h
theorem iteNS {c A B : Prop} [Decidable c] (hc : c) (h : B) : if (!decide c) = true then A else B := by
  rw [decide_eq_true hc]
  exact iteF h

/-! ### heaps -/
/-- all that was tracked is as it was -/
def Same (H H' : Hp) : Prop := ∀ b o, H b = some o → H' b = some o
theorem Same.refl (H : Hp) : Same H H := fun _ _ h => h
theorem Same.trans {H H1 H2 : Hp} (a : Same H H1) (b : Same H1 H2) : Same H H2 := fun c o h => b c o (a c o h)
theorem Same.free {H H' : Hp} (e : Same H H') {l : Addr} (h : H' l = Option.none) : H l = Option.none := by
  cases q : H l with
  | none => rfl
  | some o =>
    rw [e l o q] at h
    cases h
theorem Same.seq {K : PySem.W.Frag} {H H' : Hp} {a : Addr} {xs : List V} (e : Same H H') (h : SqL K H a xs) : SqL K H' a xs := by
  rcases h with (h | ⟨o, h⟩) | h
  · exact .inl (.inl (e _ _ h))
  · exact .inl (.inr ⟨o, e _ _ h⟩)
  · exact .inr h

end L2

set_option maxHeartbeats 4000000
set_option Elab.async false
set_option linter.all false
set_option autoImplicit false
set_option maxRecDepth 100000
/-! ## L3: pure values over the layer -/
namespace L3
open PySem PySem.Spec PyProof.Rows L2

/-- a value without heap -/
inductive D where
  | non | bl (b : Bool) | int (i : Int) | str (x : Str)
  | tup (ds : List D) | lst (ds : List D) | ins (c : Nat) (ds : List D) | exc (c : Nat)
inductive Out (α : Type) where
  | ok (a : α) | exc (c : Nat) | bad
def Out.bind {α β : Type} : Out α → (α → Out β) → Out β
  | .ok a, k => k a
  | .exc c, _ => .exc c
  | .bad, _ => .bad
@[simp] theorem Out.ok_bind {α β : Type} (a : α) (k : α → Out β) : (Out.ok a).bind k = k a := (rfl)
@[simp] theorem Out.exc_bind {α β : Type} (c : Nat) (k : α → Out β) : (Out.exc c : Out α).bind k = .exc c := (rfl)
@[simp] theorem Out.bad_bind {α β : Type} (k : α → Out β) : (Out.bad : Out α).bind k = .bad := (rfl)
/-- classes by number: addresses, attributes in the order of __init__ -/
structure Tb where
  ca : Nat → Addr
  /-- a class's attributes, by its address -/
  fa : Addr → List Str
  /-- the instance that an __init__ makes -/
  me : Option Addr := none
def Tb.fl (T : Tb) (c : Nat) : List Str := T.fa (T.ca c)

section
variable (T : Tb) (K : PySem.W.Frag)
def FzL (K : PySem.W.Frag) (H : Hp) (a : Addr) (xs : List V) : Prop :=
  (∃ o, H a = some (.frz o (.lst xs))) ∨
    ∃ (o : Obj) (its : Array Value) (n : Nat), K.lookup a = some o ∧ o.cls = .type "list" ∧ o.dict = none ∧ o.data = .seq its n ∧ its.size ≤ sizeLine ∧ Vals xs its.toList
theorem FzL.sq {K : PySem.W.Frag} {H : Hp} {a : Addr} {xs : List V} (h : FzL K H a xs) : SqL K H a xs := by
  rcases h with h | h
  · exact .inl (.inr h)
  · exact .inr h
mutual
def Rep (T : Tb) (K : PySem.W.Frag) (H : Hp) : D → V → Prop
  | .non, v => v = .non
  | .bl b, v => v = .bl b
  | .int i, v => v = .int i
  | .str x, v => v = .str x
  | .tup ds, v => ∃ a vs, v = .ref a ∧ SqT K H a vs ∧ RepL T K H ds vs
  | .lst ds, v => ∃ a vs, v = .ref a ∧ FzL K H a vs ∧ RepL T K H ds vs
  | .ins c ds, v => ∃ a dx fs, v = .ref a ∧ H a = some (.ins (T.ca c) dx fs) ∧ fs.map (·.1) = T.fl c ∧ RepL T K H ds (fs.map (·.2))
  | .exc c, v => ∃ a φ, v = .ref a ∧ H a = some (.ext φ) ∧ ∀ h, φ h → ∃ o, h.get? a = some o ∧ o.cls = .ref (T.ca c)
def RepL (T : Tb) (K : PySem.W.Frag) (H : Hp) : List D → List V → Prop
  | [], vs => vs = []
  | d :: ds, vs => ∃ v r, vs = v :: r ∧ Rep T K H d v ∧ RepL T K H ds r
end
end

section
variable {T : Tb} {K : PySem.W.Frag} {H H' : Hp}
theorem Same.sqT {a : Addr} {xs : List V} (e : Same H H') (h : SqT K H a xs) : SqT K H' a xs := by
  rcases h with (h | ⟨o, h⟩) | h
  · exact .inl (.inl (e _ _ h))
  · exact .inl (.inr ⟨o, e _ _ h⟩)
  · exact .inr h
theorem Same.fz {a : Addr} {xs : List V} (e : Same H H') (h : FzL K H a xs) : FzL K H' a xs := by
  rcases h with ⟨o, h⟩ | h
  · exact .inl ⟨o, e _ _ h⟩
  · exact .inr h
mutual
theorem Rep.mono (e : Same H H') : ∀ (d : D) (v : V), Rep T K H d v → Rep T K H' d v
  | .non, _, h => h
  | .bl _, _, h => h
  | .int _, _, h => h
  | .str _, _, h => h
  | .tup ds, _, h => by
    obtain ⟨a, vs, r1, r2, r3⟩ := h
    exact ⟨a, vs, r1, Same.sqT e r2, RepL.mono e ds vs r3⟩
  | .lst ds, _, h => by
    obtain ⟨a, vs, r1, r2, r3⟩ := h
    exact ⟨a, vs, r1, Same.fz e r2, RepL.mono e ds vs r3⟩
  | .ins c ds, _, h => by
    obtain ⟨a, dx, fs, r1, r2, r3, r4⟩ := h
    exact ⟨a, dx, fs, r1, e _ _ r2, r3, RepL.mono e ds _ r4⟩
  | .exc c, _, h => by
    obtain ⟨a, φ, r1, r2, r3⟩ := h
    exact ⟨a, φ, r1, e _ _ r2, r3⟩
theorem RepL.mono (e : Same H H') : ∀ (ds : List D) (vs : List V), RepL T K H ds vs → RepL T K H' ds vs
  | [], _, h => h
  | d :: ds, _, h => by
    obtain ⟨v, r, r1, r2, r3⟩ := h
    exact ⟨v, r, r1, Rep.mono e d v r2, RepL.mono e ds r r3⟩
end
mutual
theorem rep_me {T : Tb} {K : PySem.W.Frag} {H : Hp} {z : Option Addr} : ∀ (d : D) (v : V), Rep { T with me := z } K H d v ↔ Rep T K H d v
  | .non, _ => Iff.rfl
  | .bl _, _ => Iff.rfl
  | .int _, _ => Iff.rfl
  | .str _, _ => Iff.rfl
  | .tup ds, _ => ⟨fun ⟨a, vs, r1, r2, r3⟩ => ⟨a, vs, r1, r2, (repL_me ds vs).mp r3⟩, fun ⟨a, vs, r1, r2, r3⟩ => ⟨a, vs, r1, r2, (repL_me ds vs).mpr r3⟩⟩
  | .lst ds, _ => ⟨fun ⟨a, vs, r1, r2, r3⟩ => ⟨a, vs, r1, r2, (repL_me ds vs).mp r3⟩, fun ⟨a, vs, r1, r2, r3⟩ => ⟨a, vs, r1, r2, (repL_me ds vs).mpr r3⟩⟩
  | .ins c ds, _ => ⟨fun ⟨a, dx, fs, r1, r2, r3, r4⟩ => ⟨a, dx, fs, r1, r2, r3, (repL_me ds _).mp r4⟩, fun ⟨a, dx, fs, r1, r2, r3, r4⟩ => ⟨a, dx, fs, r1, r2, r3, (repL_me ds _).mpr r4⟩⟩
  | .exc c, _ => Iff.rfl
theorem repL_me {T : Tb} {K : PySem.W.Frag} {H : Hp} {z : Option Addr} : ∀ (ds : List D) (vs : List V), RepL { T with me := z } K H ds vs ↔ RepL T K H ds vs
  | [], _ => Iff.rfl
  | d :: ds, _ => ⟨fun ⟨v, r, r1, r2, r3⟩ => ⟨v, r, r1, (rep_me d v).mp r2, (repL_me ds r).mp r3⟩, fun ⟨v, r, r1, r2, r3⟩ => ⟨v, r, r1, (rep_me d v).mpr r2, (repL_me ds r).mpr r3⟩⟩
end
theorem RepL.length : ∀ (ds : List D) (vs : List V), RepL T K H ds vs → vs.length = ds.length
  | [], _, h => by cases h; rfl
  | d :: ds, _, h => by
    obtain ⟨v, r, rfl, _, h3⟩ := h
    simp [RepL.length ds r h3]
theorem RepL.get : ∀ (ds : List D) (vs : List V) (i : Nat) (d : D), RepL T K H ds vs → ds[i]? = some d → ∃ v, vs[i]? = some v ∧ Rep T K H d v
  | [], _, _, _, _, e => by simp at e
  | d :: ds, _, 0, x, h, e => by
    obtain ⟨v, r, rfl, h2, _⟩ := h
    simp at e; subst e
    exact ⟨v, rfl, h2⟩
  | d :: ds, _, i + 1, x, h, e => by
    obtain ⟨v, r, rfl, _, h3⟩ := h
    obtain ⟨u, e1, e2⟩ := RepL.get ds r i x h3 (by simpa using e)
    exact ⟨u, by simpa using e1, e2⟩
theorem RepL.getV : ∀ (ds : List D) (vs : List V) (i : Nat) (v : V), RepL T K H ds vs → vs[i]? = some v → ∃ d, ds[i]? = some d ∧ Rep T K H d v
  | [], _, _, _, h, e => by cases h; simp at e
  | d :: ds, _, 0, x, h, e => by
    obtain ⟨v, r, rfl, h2, _⟩ := h
    simp at e; subst e
    exact ⟨d, rfl, h2⟩
  | d :: ds, _, i + 1, x, h, e => by
    obtain ⟨v, r, rfl, _, h3⟩ := h
    obtain ⟨u, e1, e2⟩ := RepL.getV ds r i x h3 (by simpa using e)
    exact ⟨u, by simpa using e1, e2⟩
theorem RepL.append : ∀ (ds : List D) (vs : List V) (es : List D) (us : List V), RepL T K H ds vs → RepL T K H es us → RepL T K H (ds ++ es) (vs ++ us)
  | [], _, _, _, h, h' => by cases h; exact h'
  | d :: ds, _, es, us, h, h' => by
    obtain ⟨v, r, rfl, h2, h3⟩ := h
    exact ⟨v, r ++ us, rfl, h2, RepL.append ds r es us h3 h'⟩
theorem RepL.set : ∀ (ds : List D) (vs : List V) (i : Nat) (d : D) (v : V), RepL T K H ds vs → Rep T K H d v → RepL T K H (ds.set i d) (vs.set i v)
  | [], _, _, _, _, h, _ => by cases h; exact rfl
  | d :: ds, _, 0, x, y, h, q => by
    obtain ⟨v, r, rfl, _, h3⟩ := h
    exact ⟨y, r, rfl, q, h3⟩
  | d :: ds, _, i + 1, x, y, h, q => by
    obtain ⟨v, r, rfl, h2, h3⟩ := h
    exact ⟨v, r.set i y, rfl, h2, RepL.set ds r i x y h3 q⟩
theorem RepL.drop : ∀ (n : Nat) (ds : List D) (vs : List V), RepL T K H ds vs → RepL T K H (ds.drop n) (vs.drop n)
  | 0, _, _, h => h
  | _ + 1, [], _, h => by cases h; exact rfl
  | n + 1, d :: ds, _, h => by
    obtain ⟨v, r, rfl, _, h3⟩ := h
    exact RepL.drop n ds r h3
theorem RepL.take : ∀ (n : Nat) (ds : List D) (vs : List V), RepL T K H ds vs → RepL T K H (ds.take n) (vs.take n)
  | 0, _, _, _ => rfl
  | _ + 1, [], _, h => by cases h; exact rfl
  | n + 1, d :: ds, _, h => by
    obtain ⟨v, r, rfl, h2, h3⟩ := h
    exact ⟨v, r.take n, rfl, h2, RepL.take n ds r h3⟩
theorem RepL.reverse (ds : List D) (vs : List V) (h : RepL T K H ds vs) : RepL T K H ds.reverse vs.reverse := by
  induction ds generalizing vs with
  | nil => cases h; exact rfl
  | cons d ds ih =>
    obtain ⟨v, r, rfl, h2, h3⟩ := h
    rw [List.reverse_cons, List.reverse_cons]
    exact RepL.append _ _ _ _ (ih r h3) ⟨v, [], rfl, h2, rfl⟩
theorem RepL.ints (ns : List Int) : RepL T K H (ns.map D.int) (ns.map V.int) := by
  induction ns with
  | nil => exact rfl
  | cons n ns ih => exact ⟨.int n, ns.map V.int, rfl, rfl, ih⟩
end

/-! ### slots, frames -/
inductive Sl where
  | no | sh (d : D) | ow (ds : List D) | bo (ds : List D) | me (c : Nat) (ds : List D)
inductive Rv where
  | sh (d : D) | fr (ds : List D)
abbrev Ro := List Sl
def SlOk (T : Tb) (K : PySem.W.Frag) (G H : Hp) (x : Option (Option V)) : Sl → Prop
  | .no => True
  | .sh d => ∃ v, x = some (some v) ∧ Rep T K H d v
  | .ow ds => ∃ a vs, x = some (some (.ref a)) ∧ H a = some (.lst vs) ∧ G a = none ∧ RepL T K H ds vs
  | .bo ds => ∃ a vs, x = some (some (.ref a)) ∧ G a = some (.lst vs) ∧ RepL T K H ds vs
  | .me c ds => ∃ a dx fs, T.me = some a ∧ x = some (some (.ref a)) ∧ H a = some (.ins (T.ca c) dx fs) ∧ G a = none ∧ fs.map (·.1) = (T.fl c).take ds.length ∧ RepL T K H ds (fs.map (·.2))
def isOw : Sl → Bool
  | .ow _ => true
  | _ => false
structure FR (T : Tb) (K : PySem.W.Frag) (G H : Hp) (σ : L2.St) (ρ : Ro) : Prop where
  same : Same G H
  len : ρ.length = σ.length
  sl : ∀ (i : Nat) (s : Sl), ρ[i]? = some s → SlOk T K G H σ[i]? s
  ne : ∀ (i j : Nat) (ds es : List D), i ≠ j → ρ[i]? = some (.ow ds) → ρ[j]? = some (.ow es) → σ[i]? ≠ σ[j]?
  me : ∀ x, T.me = some x → σ[0]? = some (some (.ref x))
  me0 : ∀ (i : Nat) (c : Nat) (ds : List D), ρ[i]? = some (.me c ds) → i = 0
def RvOk (T : Tb) (K : PySem.W.Frag) (G H : Hp) (v : V) : Rv → Prop
  | .sh d => Rep T K H d v
  | .fr ds => ∃ a vs, v = .ref a ∧ H a = some (.lst vs) ∧ G a = none ∧ RepL T K H ds vs
section
variable {T : Tb} {K : PySem.W.Frag} {G H H' : Hp} {σ : L2.St} {ρ : Ro}
theorem SlOk.mono {x : Option (Option V)} {s : Sl} (e : Same H H') (h : SlOk T K G H x s) : SlOk T K G H' x s := by
  cases s with
  | no => trivial
  | sh d =>
    obtain ⟨v, e1, r⟩ := h
    exact ⟨v, e1, Rep.mono e _ _ r⟩
  | ow ds =>
    obtain ⟨a, vs, e1, e2, e3, r⟩ := h
    exact ⟨a, vs, e1, e _ _ e2, e3, RepL.mono e _ _ r⟩
  | bo ds =>
    obtain ⟨a, vs, e1, e2, r⟩ := h
    exact ⟨a, vs, e1, e2, RepL.mono e _ _ r⟩
  | me c ds =>
    obtain ⟨a, dx, fs, e0, e1, e2, e3, e4, r⟩ := h
    exact ⟨a, dx, fs, e0, e1, e _ _ e2, e3, e4, RepL.mono e _ _ r⟩
theorem FR.mono (e : Same H H') (h : FR T K G H σ ρ) : FR T K G H' σ ρ := ⟨h.same.trans e, h.len, fun i s q => SlOk.mono e (h.sl i s q), h.ne, h.me, h.me0⟩
theorem FR.sh_at (h : FR T K G H σ ρ) {i : Nat} {d : D} (e : ρ[i]? = some (.sh d)) : ∃ v, σ[i]? = some (some v) ∧ Rep T K H d v := h.sl i _ e
theorem RvOk.mono {v : V} {r : Rv} (e : Same H H') (h : RvOk T K G H v r) : RvOk T K G H' v r := by
  cases r with
  | sh d => exact Rep.mono e _ _ h
  | fr ds =>
    obtain ⟨a, vs, e1, e2, e3, r⟩ := h
    exact ⟨a, vs, e1, e _ _ e2, e3, RepL.mono e _ _ r⟩
/-- a slot is given a shared value -/
theorem me_set {i : Nat} {v : Option V} (hz : T.me = none ∨ i ≠ 0) (h : ∀ x, T.me = some x → σ[0]? = some (some (.ref x))) : ∀ x, T.me = some x → (σ.set i v)[0]? = some (some (.ref x)) := fun x e => by
  rcases hz with z | z
  · rw [z] at e; cases e
  · rw [List.getElem?_set_ne z]; exact h x e
theorem me0_set {i : Nat} {s : Sl} (hs : ∀ c ds, s ≠ .me c ds) (h : ∀ (i : Nat) (c : Nat) (ds : List D), ρ[i]? = some (.me c ds) → i = 0) : ∀ (j : Nat) (c : Nat) (ds : List D), (ρ.set i s)[j]? = some (.me c ds) → j = 0 := fun j c ds e => by
  by_cases hj : j = i
  · subst hj
    have hl : j < ρ.length := by
      have := (List.getElem?_eq_some_iff.mp e).1; simpa using this
    rw [List.getElem?_set_self hl] at e
    exact absurd (Option.some.inj e) (hs c ds)
  · rw [List.getElem?_set_ne (Ne.symm hj)] at e; exact h j c ds e
theorem FR.set_sh (h : FR T K G H σ ρ) {i : Nat} {d : D} {v : V} (r : Rep T K H d v) (hz : T.me = none ∨ i ≠ 0) : FR T K G H (σ.set i (some v)) (ρ.set i (.sh d)) := by
  refine ⟨h.same, by simp [h.len], fun j s q => ?_, fun j k ds es hjk q1 q2 => ?_, me_set hz h.me, me0_set (fun _ _ z => by cases z) h.me0⟩
  · by_cases hj : j = i
    · subst hj
      have hl : j < ρ.length := by
        have := (List.getElem?_eq_some_iff.mp q).1; simpa using this
      rw [List.getElem?_set_self hl] at q
      cases q
      exact ⟨v, by rw [List.getElem?_set_self (by rw [← h.len]; exact hl)], r⟩
    · rw [List.getElem?_set_ne (Ne.symm hj)] at q ⊢
      exact h.sl j s q
  · have hj : j ≠ i := by
      rintro rfl
      have hl : j < ρ.length := by
        have := (List.getElem?_eq_some_iff.mp q1).1; simpa using this
      rw [List.getElem?_set_self hl] at q1; cases q1
    have hk : k ≠ i := by
      rintro rfl
      have hl : k < ρ.length := by
        have := (List.getElem?_eq_some_iff.mp q2).1; simpa using this
      rw [List.getElem?_set_self hl] at q2; cases q2
    rw [List.getElem?_set_ne (Ne.symm hj)] at q1 ⊢
    rw [List.getElem?_set_ne (Ne.symm hk)] at q2 ⊢
    exact h.ne j k ds es hjk q1 q2
/-- .. an own list that nothing else knows -/
theorem FR.set_ow (h : FR T K G H σ ρ) {i : Nat} {ds : List D} {a : Addr} {vs : List V} (ha : H a = some (.lst vs)) (hg : G a = none) (r : RepL T K H ds vs)
    (hn : ∀ j es, j ≠ i → ρ[j]? = some (.ow es) → σ[j]? ≠ some (some (.ref a))) (hz : T.me = none ∨ i ≠ 0) : FR T K G H (σ.set i (some (.ref a))) (ρ.set i (.ow ds)) := by
  have hlen : (ρ.set i (.ow ds)).length = (σ.set i (some (.ref a))).length := by simp [h.len]
  refine ⟨h.same, hlen, fun j s q => ?_, fun j k ds' es hjk q1 q2 => ?_, me_set hz h.me, me0_set (fun _ _ z => by cases z) h.me0⟩
  · by_cases hj : j = i
    · subst hj
      have hl : j < ρ.length := by
        have := (List.getElem?_eq_some_iff.mp q).1; simpa using this
      rw [List.getElem?_set_self hl] at q
      cases q
      exact ⟨a, vs, by rw [List.getElem?_set_self (by rw [← h.len]; exact hl)], ha, hg, r⟩
    · rw [List.getElem?_set_ne (Ne.symm hj)] at q ⊢
      exact h.sl j s q
  · have lt : ∀ {m : Nat} {z : Sl}, (ρ.set i (.ow ds))[m]? = some z → m < ρ.length := fun q => by
      have := (List.getElem?_eq_some_iff.mp q).1; simpa using this
    by_cases hj : j = i
    · subst hj
      have hk : k ≠ j := fun z => hjk z.symm
      have hl := lt q1
      rw [List.getElem?_set_ne (Ne.symm hk)] at q2 ⊢
      rw [List.getElem?_set_self (by rw [← h.len]; exact hl)]
      exact fun z => hn k es hk q2 z.symm
    · by_cases hk : k = i
      · subst hk
        have hl := lt q2
        rw [List.getElem?_set_ne (Ne.symm hj)] at q1 ⊢
        rw [List.getElem?_set_self (by rw [← h.len]; exact hl)]
        exact hn j ds' hj q1
      · rw [List.getElem?_set_ne (Ne.symm hj)] at q1 ⊢
        rw [List.getElem?_set_ne (Ne.symm hk)] at q2 ⊢
        exact h.ne j k ds' es hjk q1 q2
end

/-! ### exceptions on their way -/
/-- an address that this body may lose to an exception's records -/
def Free (X : Cx) (pins : List (Addr × Obj)) (b : Addr) : Prop :=
  (b ∈ X.ex ∨ X.s₀.heap.get? b = none) ∧ b ≠ X.env.locals ∧ (∀ x c, X.env.cells.lookup x = some c → c ≠ b) ∧ ∀ p ∈ X.pn ++ pins, p.1 ≠ b
/-- the exception of class c at ea, with or without a traceback -/
def FlyB (T : Tb) (c : Nat) (ea : Addr) (H : Hp) (h : Heap) (P : Addr → Prop) : Prop :=
  H ea = none ∧ P ea ∧ ∃ (oe : Obj) (vs : Array Value) (a0 : Value), h.get? ea = some oe ∧ oe.cls = .ref (T.ca c) ∧ oe.data = .fields vs ∧ vs[0]? = some a0 ∧
    (vs[1]? = some .none ∨ ∃ (tb : Addr) (ot : Obj) (ts : Array Value), vs[1]? = some (.ref tb) ∧ tb ≠ ea ∧ h.get? tb = some ot ∧ ot.data = .fields ts ∧ ts[3]? = some .none ∧ H tb = none ∧ P tb)
def Flying (T : Tb) (X : Cx) (pins : List (Addr × Obj)) (c : Nat) (u : Value) (H : Hp) (s : Shared) : Prop :=
  ∃ ea, u = .ref ea ∧ FlyB T c ea H s.heap (Free X pins)
/-- what is wanted of an exception of class c that leaves the code at hand -/
def XW (T : Tb) (X : Cx) (E : Value → Shared → Prop) (σ : L2.St) (H : Hp) (c : Nat) : Prop :=
  ∀ (pins : List (Addr × Obj)) (s : Shared) (u : Value) (H' : Hp), Inv X pins σ H' s → Same H H' → Flying T X pins c u H' s → E u s
theorem XW.mono {T : Tb} {X : Cx} {E : Value → Shared → Prop} {σ : L2.St} {H H' : Hp} {c : Nat} (e : Same H H') (h : XW T X E σ H c) : XW T X E σ H' c :=
  fun pins s u H'' I q f => h pins s u H'' I (e.trans q) f

def Acc {α : Type} (T : Tb) (X : Cx) (E : Value → Shared → Prop) (σ : L2.St) (H : Hp) (o : Out α) (k : α → Prop) : Prop :=
  match o with
  | .ok a => k a
  | .exc c => XW T X E σ H c
  | .bad => False
section
variable {T : Tb} {X : Cx} {E : Value → Shared → Prop} {σ : L2.St} {H H' : Hp} {α β : Type}
theorem Acc.mono {o : Out α} {k k' : α → Prop} (h : Acc T X E σ H o k) (f : ∀ a, o = .ok a → k a → k' a) : Acc T X E σ H o k' := by
  cases o with
  | ok a => exact f a rfl h
  | exc c => exact h
  | bad => exact h
theorem Acc.heap {o : Out α} {k : α → Prop} (e : Same H H') (h : Acc T X E σ H o k) : Acc T X E σ H' o k := by
  cases o with
  | ok a => exact h
  | exc c => exact XW.mono e h
  | bad => exact h
theorem Acc.bind {o : Out α} {g : α → Out β} {k : β → Prop} (h : Acc T X E σ H (o.bind g) k) : Acc T X E σ H o (fun a => Acc T X E σ H (g a) k) := by
  cases o with
  | ok a => exact h
  | exc c => exact h
  | bad => exact h
end

/-! ### judgements -/
abbrev Ev := Ro → Out D
def kE (T : Tb) (K : PySem.W.Frag) (H : Hp) (Q : VK) (d : D) : Prop := ∀ v H', Same H H' → Rep T K H' d v → Q v H'
def tE (T : Tb) (X : Cx) (G : Hp) (E : Value → Shared → Prop) (f : Ev) : TE := fun σ H Q => ∃ ρ, FR T X.K G H σ ρ ∧ Acc T X E σ H (f ρ) (kE T X.K H Q)
/-- the expression's value is shared -/
structure DE (T : Tb) (X : Cx) (e : Expr) (f : Ev) : Prop where
  mk ::
  run : ∀ (G : Hp) (E : Value → Shared → Prop), PassesOwn (model X.prog X.w) X.A X.env E → PE (X.wish E) e (tE T X G E f)
def kT (H : Hp) (Q : Bool → Hp → Prop) (b : Bool) : Prop := ∀ H', Same H H' → Q b H'
def tT (T : Tb) (X : Cx) (G : Hp) (E : Value → Shared → Prop) (f : Ro → Out Bool) : TT := fun σ H Q => ∃ ρ, FR T X.K G H σ ρ ∧ Acc T X E σ H (f ρ) (kT H Q)
structure DT (T : Tb) (X : Cx) (e : Expr) (f : Ro → Out Bool) : Prop where
  mk ::
  run : ∀ (G : Hp) (E : Value → Shared → Prop), PassesOwn (model X.prog X.w) X.A X.env E → PT (X.wish E) e (tT T X G E f)
structure DW (T : Tb) (X : Cx) (e : Expr) (f : Ro → Out Bool) : Prop where
  mk ::
  run : ∀ (G : Hp) (E : Value → Shared → Prop), PassesOwn (model X.prog X.w) X.A X.env E → PW (X.wish E) e (tT T X G E f)
theorem DW.dt {T : Tb} {X : Cx} {e : Expr} {f : Ro → Out Bool} (h : DW T X e f) : DT T X e f := .mk fun G E hp => (h.run G E hp).pt
def tA (T : Tb) (X : Cx) (G : Hp) (E : Value → Shared → Prop) (f : Ro → Out (List D)) : TA := fun σ H Q => ∃ ρ, FR T X.K G H σ ρ ∧ Acc T X E σ H (f ρ) (fun ds => ∀ vs H', Same H H' → RepL T X.K H' ds vs → Q vs H')
/-- several expressions, shared -/
structure DA (T : Tb) (X : Cx) (es : List Expr) (f : Ro → Out (List D)) : Prop where
  mk ::
  run : ∀ (G : Hp) (E : Value → Shared → Prop), PassesOwn (model X.prog X.w) X.A X.env E → PA (X.wish E) es (tA T X G E f)
/-- a fresh list -/
def tF (T : Tb) (X : Cx) (G : Hp) (E : Value → Shared → Prop) (f : Ro → Out (List D)) : TE := fun σ H Q => ∃ ρ, FR T X.K G H σ ρ ∧ Acc T X E σ H (f ρ) (fun ds => ∀ a vs H', Same H H' → H a = none → H' a = some (.lst vs) → RepL T X.K H' ds vs → Q (.ref a) H')
structure DF (T : Tb) (X : Cx) (e : Expr) (f : Ro → Out (List D)) : Prop where
  mk ::
  run : ∀ (G : Hp) (E : Value → Shared → Prop), PassesOwn (model X.prog X.w) X.A X.env E → PE (X.wish E) e (tF T X G E f)
/-- a list that is read -/
def tL (T : Tb) (X : Cx) (G : Hp) (E : Value → Shared → Prop) (f : Ro → Out (List D)) : TE := fun σ H Q => ∃ ρ, FR T X.K G H σ ρ ∧ Acc T X E σ H (f ρ) (fun ds => ∀ a vs H', Same H H' → SqL X.K H' a vs → RepL T X.K H' ds vs → Q (.ref a) H')
structure DL (T : Tb) (X : Cx) (e : Expr) (f : Ro → Out (List D)) : Prop where
  mk ::
  run : ∀ (G : Hp) (E : Value → Shared → Prop), PassesOwn (model X.prog X.w) X.A X.env E → PE (X.wish E) e (tL T X G E f)
/-- a call's result -/
def tR (T : Tb) (X : Cx) (G : Hp) (E : Value → Shared → Prop) (f : Ro → Out Rv) : TE := fun σ H Q => ∃ ρ, FR T X.K G H σ ρ ∧ Acc T X E σ H (f ρ) (fun r => ∀ v H', Same H H' → RvOk T X.K H H' v r → Q v H')
structure DR (T : Tb) (X : Cx) (e : Expr) (f : Ro → Out Rv) : Prop where
  mk ::
  run : ∀ (G : Hp) (E : Value → Shared → Prop), PassesOwn (model X.prog X.w) X.A X.env E → PE (X.wish E) e (tR T X G E f)

theorem PE.imp {X : Cx} {e : Expr} {t t' : TE} (h : PE X e t) (k : ∀ σ H Q, t' σ H Q → t σ H Q) : PE X e t' := fun pins s σ H Q I q => h pins s σ H Q I (k σ H Q q)
theorem PT.imp {X : Cx} {e : Expr} {t t' : TT} (h : PT X e t) (k : ∀ σ H Q, t' σ H Q → t σ H Q) : PT X e t' := fun pins s σ H Q I q => h pins s σ H Q I (k σ H Q q)
theorem PW.imp {X : Cx} {e : Expr} {t t' : TT} (h : PW X e t) (k : ∀ σ H Q, t' σ H Q → t σ H Q) : PW X e t' := fun w pins s σ H Q I q => h w pins s σ H Q I (k σ H Q q)
theorem PA.imp {X : Cx} {es : List Expr} {t t' : TA} (h : PA X es t) (k : ∀ σ H Q, t' σ H Q → t σ H Q) : PA X es t' := fun p pins s σ H Q I q => h p pins s σ H Q I (k σ H Q q)
theorem PS.imp {X : Cx} {e : Stmt} {t t' : TS} (h : PS X e t) (k : ∀ D σ H, t' D σ H → t D σ H) : PS X e t' := fun pins s σ H D I q => h pins s σ H D I (k D σ H q)
theorem PSs.imp {X : Cx} {e : List Stmt} {t t' : TS} (h : PSs X e t) (k : ∀ D σ H, t' D σ H → t D σ H) : PSs X e t' := fun pins s σ H D I q => h pins s σ H D I (k D σ H q)

/-- statements -/
inductive Fl where
  | nx (ρ : Ro) | rt (r : Rv) | exc (c : Nat) (ρ : Ro) | bk (ρ : Ro) | ct (ρ : Ro) | bad
/-- what does not change once it is made (b: an __init__ runs, an instance is on its way) -/
def stays (b : Bool) : HO → Bool
  | .lst _ => false
  | .ins _ _ _ => !b
  | _ => true
def Pers (b : Bool) (H H' : Hp) : Prop := ∀ a o, H a = some o → stays b o = true → H' a = some o
theorem Pers.refl {b : Bool} (H : Hp) : Pers b H H := fun _ _ e _ => e
theorem Pers.trans {b : Bool} {H H1 H2 : Hp} (x : Pers b H H1) (y : Pers b H1 H2) : Pers b H H2 := fun c o e s => y c o (x c o e s) s
theorem Pers.of {b : Bool} {H H' : Hp} (x : Same H H') : Pers b H H' := fun c o e _ => x c _ e
theorem Pers.fz {b : Bool} {K : PySem.W.Frag} {H H' : Hp} {a : Addr} {vs : List V} (p : Pers b H H') (h : FzL K H a vs) : FzL K H' a vs := by
  rcases h with ⟨o, h⟩ | h
  · exact .inl ⟨o, p _ _ h rfl⟩
  · exact .inr h
mutual
theorem Rep.pers {T : Tb} {K : PySem.W.Frag} {H H' : Hp} (e : Pers false H H') : ∀ (d : D) (v : V), Rep T K H d v → Rep T K H' d v
  | .non, _, h => h
  | .bl _, _, h => h
  | .int _, _, h => h
  | .str _, _, h => h
  | .tup ds, _, h => by
    obtain ⟨a, vs, r1, r2, r3⟩ := h
    refine ⟨a, vs, r1, ?_, RepL.pers e ds vs r3⟩
    rcases r2 with (r2 | ⟨o, r2⟩) | r2
    · exact .inl (.inl (e _ _ r2 rfl))
    · exact .inl (.inr ⟨o, e _ _ r2 rfl⟩)
    · exact .inr r2
  | .lst ds, _, h => by
    obtain ⟨a, vs, r1, r2, r3⟩ := h
    exact ⟨a, vs, r1, e.fz r2, RepL.pers e ds vs r3⟩
  | .ins c ds, _, h => by
    obtain ⟨a, dx, fs, r1, r2, r3, r4⟩ := h
    exact ⟨a, dx, fs, r1, e _ _ r2 rfl, r3, RepL.pers e ds _ r4⟩
  | .exc c, _, h => by
    obtain ⟨a, φ, r1, r2, r3⟩ := h
    exact ⟨a, φ, r1, e _ _ r2 rfl, r3⟩
theorem RepL.pers {T : Tb} {K : PySem.W.Frag} {H H' : Hp} (e : Pers false H H') : ∀ (ds : List D) (vs : List V), RepL T K H ds vs → RepL T K H' ds vs
  | [], _, h => h
  | d :: ds, _, h => by
    obtain ⟨v, r, r1, r2, r3⟩ := h
    exact ⟨v, r, r1, Rep.pers e d v r2, RepL.pers e ds r r3⟩
end
def AccS (T : Tb) (b : Bool) (X : Cx) (G : Hp) (E : Value → Shared → Prop) (H₁ : Hp) (o : Fl) (D : Ends) : Prop :=
  match o with
  | .nx ρ => ∀ σ H, FR T X.K G H σ ρ → Pers b H₁ H → D.nx σ H
  | .bk ρ => ∀ σ H, FR T X.K G H σ ρ → Pers b H₁ H → D.bk σ H
  | .ct ρ => ∀ σ H, FR T X.K G H σ ρ → Pers b H₁ H → D.ct σ H
  | .rt r => ∀ v H, Same G H → RvOk T X.K G H v r → D.rt v H
  | .exc c ρ => ∀ σ H, FR T X.K G H σ ρ → Pers b H₁ H → XW T X E σ H c
  | .bad => False
theorem AccS.heap {T : Tb} {b : Bool} {X : Cx} {G : Hp} {E : Value → Shared → Prop} {H H' : Hp} {o : Fl} {D : Ends} (p : Pers b H H') (h : AccS T b X G E H o D) : AccS T b X G E H' o D := by
  cases o with
  | nx ρ => exact fun σ H2 fr q => h σ H2 fr (p.trans q)
  | bk ρ => exact fun σ H2 fr q => h σ H2 fr (p.trans q)
  | ct ρ => exact fun σ H2 fr q => h σ H2 fr (p.trans q)
  | rt r => exact h
  | exc c ρ => exact fun σ H2 fr q => h σ H2 fr (p.trans q)
  | bad => exact h
def tS (T : Tb) (b : Bool) (X : Cx) (G : Hp) (E : Value → Shared → Prop) (f : Ro → Fl) : TS := fun D σ H => ∃ ρ, FR T X.K G H σ ρ ∧ AccS T b X G E H (f ρ) D
structure DS (T : Tb) (b : Bool) (X : Cx) (st : Stmt) (f : Ro → Fl) : Prop where
  mk ::
  run : ∀ (G : Hp) (E : Value → Shared → Prop), PassesOwn (model X.prog X.w) X.A X.env E → PS (X.wish E) st (tS T b X G E f)
structure DSs (T : Tb) (b : Bool) (X : Cx) (st : List Stmt) (f : Ro → Fl) : Prop where
  mk ::
  run : ∀ (G : Hp) (E : Value → Shared → Prop), PassesOwn (model X.prog X.w) X.A X.env E → PSs (X.wish E) st (tS T b X G E f)
def Fl.bind (o : Fl) (k : Ro → Fl) : Fl := match o with
  | .nx ρ => k ρ
  | o => o
@[simp] theorem Fl.nx_bind (ρ : Ro) (k : Ro → Fl) : (Fl.nx ρ).bind k = k ρ := (rfl)
@[simp] theorem Fl.rt_bind (r : Rv) (k : Ro → Fl) : (Fl.rt r).bind k = .rt r := (rfl)
@[simp] theorem Fl.exc_bind (c : Nat) (ρ : Ro) (k : Ro → Fl) : (Fl.exc c ρ).bind k = .exc c ρ := (rfl)
@[simp] theorem Fl.bk_bind (ρ : Ro) (k : Ro → Fl) : (Fl.bk ρ).bind k = .bk ρ := (rfl)
@[simp] theorem Fl.ct_bind (ρ : Ro) (k : Ro → Fl) : (Fl.ct ρ).bind k = .ct ρ := (rfl)
@[simp] theorem Fl.bad_bind (k : Ro → Fl) : Fl.bad.bind k = .bad := (rfl)
/-- an expression's outcome within a statement -/
def Out.fl {α : Type} (o : Out α) (ρ : Ro) (k : α → Fl) : Fl := match o with
  | .ok a => k a
  | .exc c => .exc c ρ
  | .bad => .bad
@[simp] theorem Out.ok_fl {α : Type} (a : α) (ρ : Ro) (k : α → Fl) : (Out.ok a).fl ρ k = k a := (rfl)
@[simp] theorem Out.exc_fl {α : Type} (c : Nat) (ρ : Ro) (k : α → Fl) : (Out.exc c : Out α).fl ρ k = .exc c ρ := (rfl)
@[simp] theorem Out.bad_fl {α : Type} (ρ : Ro) (k : α → Fl) : (Out.bad : Out α).fl ρ k = .bad := (rfl)
section
variable {T : Tb} {b : Bool} {X : Cx} {G : Hp} {E : Value → Shared → Prop} {σ : L2.St} {H : Hp} {α : Type}
theorem AccS.fl {o : Out α} {ρ : Ro} {k : α → Fl} {D : Ends} (fr : FR T X.K G H σ ρ) (h : AccS T b X G E H (o.fl ρ k) D) : Acc T X E σ H o (fun a => AccS T b X G E H (k a) D) := by
  cases o with
  | ok a => exact h
  | exc c => exact h σ H fr (Pers.refl H)
  | bad => exact h
end

/-! ### no star among arguments, told by the constructor alone -/
def notStar : Expr → Bool
  | .Starred .. => false
  | _ => true
theorem star_of {e : Expr} {es : List Expr} {env : Env} (h : notStar e = true) : starEach (e :: es) env = (false, eval e env) :: starEach es env := by
  cases e <;> first | rfl | cases h
theorem plain_of {pos : Pos} {env : Env} : ∀ {es : List Expr}, es.all notStar = true → (backTo pos (starEach es env)).any (·.1) = false
  | [], _ => rfl
  | e :: es, h => by
    rw [List.all_cons, Bool.and_eq_true] at h
    rw [star_of h.1]
    show (false || (backTo pos (starEach es env)).any (·.1)) = false
    rw [plain_of h.2]; rfl
theorem allplain_of {pos : Pos} {env : Env} : ∀ {es : List Expr}, es.all notStar = true → (backTo pos (starEach es env)).all (fun x => !x.1) = true
  | [], _ => rfl
  | e :: es, h => by
    rw [List.all_cons, Bool.and_eq_true] at h
    rw [star_of h.1]
    show (true && (backTo pos (starEach es env)).all (fun x => !x.1)) = true
    rw [allplain_of h.2]; rfl
theorem few_of {pos : Pos} {env : Env} {e : Expr} {es : List Expr} (h : (e :: es).all notStar = true) (hl : decide ((e :: es).length + ([] : List Keyword).length + (if ([] : List Keyword).isEmpty then 0 else 1) < 30) = true) :
    ((backTo pos (starEach (e :: es) env)).all (fun x => !x.1) && (backToKw pos (keywordEach [] env)).all (fun x => x.1.isSome) && decide ((e :: es).length + ([] : List Keyword).length + (if ([] : List Keyword).isEmpty then 0 else 1) < 30)) = true := by
  rw [allplain_of h, hl]; rfl
/-! ### the stores of a comprehension's value, told by the constructor alone -/
def notComp : Expr → Bool
  | .ListComp .. => false
  | .SetComp .. => false
  | .DictComp .. => false
  | _ => true
theorem swaps_of {e : Expr} {t : Option Expr} {n : Nat} {env : Env} (h : notComp e = true) : swapsWith e t n env = pure false := by
  cases e <;> first | rfl | cases h
/-! ### names and constants -/
section
variable {T : Tb} {X : Cx} {pos : Pos}
@[simp] def eVar (i : Nat) (ρ : Ro) : Out D := match ρ[i]? with
  | some (.sh d) => .ok d
  | _ => .bad
theorem de_var (i : Nat) {x : Str} (hN : X.N[i]? = some x := by rfl) (hv : Vis X.env.scope x := by first | exact Or.inl rfl | exact Or.inr (Or.inl rfl) | exact Or.inr (Or.inr rfl)) (hd : (x == ("__debug__" : Str)) = false := by decide)
    (hcd : (x == ("__classdict__" : Str)) = false := by decide) : DE T X (.Name x pos) (eVar i) := .mk fun G E hp => by
  refine PE.imp (pe_var (X := X.wish E) hN hv hd hcd) fun σ H Q ⟨ρ, fr, h⟩ => ?_
  unfold eVar at h
  split at h
  · rename_i d e
    obtain ⟨v, e1, r⟩ := fr.sh_at e
    exact ⟨v, e1, h v H (Same.refl H) r⟩
  · exact h.elim
@[simp] def lVar (i : Nat) (ρ : Ro) : Out (List D) := match ρ[i]? with
  | some (.ow ds) => .ok ds
  | some (.bo ds) => .ok ds
  | some (.sh (.lst ds)) => .ok ds
  | _ => .bad
theorem dl_var (i : Nat) {x : Str} (hN : X.N[i]? = some x := by rfl) (hv : Vis X.env.scope x := by first | exact Or.inl rfl | exact Or.inr (Or.inl rfl) | exact Or.inr (Or.inr rfl)) (hd : (x == ("__debug__" : Str)) = false := by decide)
    (hcd : (x == ("__classdict__" : Str)) = false := by decide) : DL T X (.Name x pos) (lVar i) := .mk fun G E hp => by
  refine PE.imp (pe_var (X := X.wish E) hN hv hd hcd) fun σ H Q ⟨ρ, fr, h⟩ => ?_
  unfold lVar at h
  split at h
  · rename_i ds e
    obtain ⟨a, vs, e1, e2, e3, r⟩ := fr.sl i _ e
    exact ⟨_, e1, h a vs H (Same.refl H) (SqL.of e2) r⟩
  · rename_i ds e
    obtain ⟨a, vs, e1, e2, r⟩ := fr.sl i _ e
    exact ⟨_, e1, h a vs H (Same.refl H) (SqL.of (fr.same _ _ e2)) r⟩
  · rename_i ds e
    obtain ⟨v, e1, a, vs, rfl, e2, r⟩ := fr.sl i _ e
    exact ⟨_, e1, h a vs H (Same.refl H) e2.sq r⟩
  · exact h.elim
@[simp] def eC (d : D) (ρ : Ro) : Out D := .ok d
theorem PE.const {e : Expr} {v : V} {d : D} {E : Value → Shared → Prop} {G : Hp} (h : PE (X.wish E) e (tC v)) (r : ∀ H, Rep T X.K H d v) : PE (X.wish E) e (tE T X G E (eC d)) :=
  PE.imp h fun σ H Q ⟨ρ, fr, h⟩ => h v H (Same.refl H) (r H)
theorem de_int {i j} : DE T X (.Constant (.int i) j pos) (eC (.int i)) := .mk fun G E hp => PE.const pe_int fun _ => rfl
theorem de_bl {b j} : DE T X (.Constant (.bool b) j pos) (eC (.bl b)) := .mk fun G E hp => PE.const pe_bl fun _ => rfl
theorem de_non {j} : DE T X (.Constant .none j pos) (eC .non) := .mk fun G E hp => PE.const pe_non fun _ => rfl
theorem de_str {x j} : DE T X (.Constant (.str x) j pos) (eC (.str x)) := .mk fun G E hp => PE.const pe_str fun _ => rfl
/-- a constant of the module's top: an int, a text, a bool, None -/
theorem de_glob {x : Str} {d : D} {v : V} {u : Value} (hg : Gl X x) (hm : X.mg x = some u) (r : RelV v u) (rd : ∀ H, Rep T X.K H d v) (hd : (x == ("__debug__" : Str)) = false := by decide) : DE T X (.Name x pos) (eC d) :=
  .mk fun G E hp => PE.const (pe_glob (X := X.wish E) hg hm r hd) rd
end

/-! ### operations -/
def OpD (T : Tb) (X : Cx) (f : Value → Value → Sem Value) (g : D → D → Out D) : Prop := ∀ E : Value → Shared → Prop, ∃ r : R2, OpR (X.wish E) f r ∧
  ∀ (dx dy : D) (x y : V) (σ : L2.St) (H : Hp) (Q : VK), Rep T X.K H dx x → Rep T X.K H dy y → Acc T X E σ H (g dx dy) (kE T X.K H Q) → r x y H Q
@[simp] def e2 (g : D → D → Out D) (fa fb : Ev) (ρ : Ro) : Out D := (fa ρ).bind fun x => (fb ρ).bind fun y => g x y
section
variable {T : Tb} {X : Cx} {pos : Pos} {a b : Expr} {fa fb : Ev}
theorem e2_use {G H : Hp} {E : Value → Shared → Prop} {σ : L2.St} {Q : VK} {g : D → D → Out D} {r : R2}
    (hg : ∀ (dx dy : D) (x y : V) (σ : L2.St) (H : Hp) (Q : VK), Rep T X.K H dx x → Rep T X.K H dy y → Acc T X E σ H (g dx dy) (kE T X.K H Q) → r x y H Q) {ρ : Ro} (fr : FR T X.K G H σ ρ) (h : Acc T X E σ H (e2 g fa fb ρ) (kE T X.K H Q)) :
    tOp r (tE T X G E fa) (tE T X G E fb) σ H Q := by
  refine ⟨ρ, fr, Acc.mono (Acc.bind h) fun dx _ hx v H1 s1 r1 => ⟨ρ, fr.mono s1, Acc.mono (Acc.bind (Acc.heap s1 hx)) fun dy _ hy u H2 s2 r2 => ?_⟩⟩
  refine hg dx dy v u σ H2 Q (Rep.mono s2 _ _ r1) r2 (Acc.mono (Acc.heap s2 hy) fun d _ hd w H3 s3 r3 => hd w H3 ((s1.trans s2).trans s3) r3)
theorem de_op {op : Operator} {g : D → D → Out D} (ho : OpD T X (binaryOp op) g) (ha : DE T X a fa) (hb : DE T X b fb) : DE T X (.BinOp a op b pos) (e2 g fa fb) := .mk fun G E hp => by
  obtain ⟨r, hr, hg⟩ := ho E
  exact PE.imp (pe_op hr (ha.run G E hp) (hb.run G E hp)) fun σ H Q ⟨ρ, fr, h⟩ => e2_use hg fr h
theorem de_cmp {op : CmpOp} {g : D → D → Out D} (ho : OpD T X (compareOp op) g) (ha : DE T X a fa) (hb : DE T X b fb) (hm : behindInMarks op b = false) : DE T X (.Compare a [op] [b] pos) (e2 g fa fb) := .mk fun G E hp => by
  obtain ⟨r, hr, hg⟩ := ho E
  exact PE.imp (pe_cmpR hr (ha.run G E hp) (hb.run G E hp) hm) fun σ H Q ⟨ρ, fr, h⟩ => e2_use hg fr h
/-- a bool as a test -/
@[simp] def D.toB : D → Out Bool
  | .bl b => .ok b
  | _ => .bad
@[simp] def tB2 (g : D → D → Out D) (fa fb : Ev) (ρ : Ro) : Out Bool := (e2 g fa fb ρ).bind D.toB
theorem dt_cmp {op : CmpOp} {g : D → D → Out D} (ho : OpD T X (compareOp op) g) (ha : DE T X a fa) (hb : DE T X b fb) (hm : behindInMarks op b = false) : DT T X (.Compare a [op] [b] pos) (tB2 g fa fb) := .mk fun G E hp => by
  obtain ⟨r, hr, hg⟩ := ho E
  refine PT.imp (pt_cmpR hr (ha.run G E hp) (hb.run G E hp) hm) fun σ H Q ⟨ρ, fr, h⟩ => e2_use hg fr (Acc.mono (Acc.bind h) fun d _ hd v H1 s1 r1 => ?_)
  cases d with
  | bl k => exact ⟨k, r1, hd H1 s1⟩
  | _ => exact hd.elim
/-- two ints -/
@[simp] def i2 (f : Int → Int → D) : D → D → Out D
  | .int i, .int j => .ok (f i j)
  | _, _ => .bad
theorem od_i2 {f : Value → Value → Sem Value} {g : Int → Int → V} {g' : Int → Int → D} (h : ∀ E, OpR (X.wish E) f (rI0 g)) (hg : ∀ i j H, Rep T X.K H (g' i j) (g i j)) : OpD T X f (i2 g') := fun E =>
  ⟨_, h E, fun dx dy x y σ H Q rx ry q => by
    cases dx with
    | int i =>
      cases dy with
      | int j => exact ⟨i, j, rx, ry, q _ H (Same.refl H) (hg i j H)⟩
      | _ => exact q.elim
    | _ => first | exact q.elim | (cases dy <;> exact q.elim)⟩
/-- two ints under a condition -/
@[simp] def i2c (c : Int → Int → Bool) (f : Int → Int → D) : D → D → Out D
  | .int i, .int j => if c i j = true then .ok (f i j) else .bad
  | _, _ => .bad
theorem od_i2c {f : Value → Value → Sem Value} {C : Int → Int → Prop} {g : Int → Int → V} {c : Int → Int → Bool} {g' : Int → Int → D} (h : ∀ E, OpR (X.wish E) f (rI C g)) (hc : ∀ i j, c i j = true → C i j) (hg : ∀ i j H, Rep T X.K H (g' i j) (g i j)) : OpD T X f (i2c c g') := fun E =>
  ⟨_, h E, fun dx dy x y σ H Q rx ry q => by
    cases dx with
    | int i =>
      cases dy with
      | int j =>
        have q' : Acc T X E σ H (if c i j = true then .ok (g' i j) else .bad) (kE T X.K H Q) := q
        by_cases e : c i j = true
        · rw [if_pos e] at q'
          exact ⟨i, j, rx, ry, hc i j e, q' _ H (Same.refl H) (hg i j H)⟩
        · rw [if_neg e] at q'
          exact q'.elim
      | _ => exact q.elim
    | _ => first | exact q.elim | (cases dy <;> exact q.elim)⟩
def mulOk (i j : Int) : Bool := (decide (-(2 ^ 64) < i) && decide (i < 2 ^ 64)) || (decide (-(2 ^ 64) < j) && decide (j < 2 ^ 64))
@[simp] def divOk (_ j : Int) : Bool := decide (0 < j) && decide (j < 1073741824)
@[simp] def modOk (_ j : Int) : Bool := decide (0 < j)
@[simp] def powOk (i j : Int) : Bool := decide (0 ≤ j) && decide (j ≤ 1000000) && decide (i.natAbs < 2 ^ 64)
theorem od_sub : OpD T X (binaryOp .Sub) (i2 fun i j => .int (i - j)) := od_i2 (fun E => op_sub) fun _ _ _ => rfl
theorem od_mul : OpD T X (binaryOp .Mult) (i2c mulOk fun i j => .int (i * j)) := od_i2c (fun E => op_mul) (fun i j h => by
  simp only [mulOk, Bool.or_eq_true, Bool.and_eq_true, decide_eq_true_eq] at h; exact h) fun _ _ _ => rfl
theorem od_fdiv : OpD T X (binaryOp .FloorDiv) (i2c divOk fun i j => .int (i / j)) := od_i2c (fun E => op_fdiv) (fun i j h => by
  simp only [divOk, Bool.and_eq_true, decide_eq_true_eq] at h; exact h) fun _ _ _ => rfl
theorem od_mod : OpD T X (binaryOp .Mod) (i2c modOk fun i j => .int (i % j)) := od_i2c (fun E => op_mod) (fun i j h => by
  simp only [modOk, decide_eq_true_eq] at h; exact h) fun _ _ _ => rfl
theorem od_pow : OpD T X (binaryOp .Pow) (i2c powOk fun i j => .int (i ^ j.toNat)) := od_i2c (fun E => op_pow) (fun i j h => by
  simp only [powOk, Bool.and_eq_true, decide_eq_true_eq] at h; exact ⟨h.1.1, h.1.2, h.2⟩) fun _ _ _ => rfl
theorem od_lt : OpD T X (compareOp .Lt) (i2 fun i j => .bl (decide (i < j))) := od_i2 (fun E => op_lt) fun _ _ _ => rfl
theorem od_le : OpD T X (compareOp .LtE) (i2 fun i j => .bl (decide (i ≤ j))) := od_i2 (fun E => op_le) fun _ _ _ => rfl
theorem od_gt : OpD T X (compareOp .Gt) (i2 fun i j => .bl (decide (j < i))) := od_i2 (fun E => op_gt) fun _ _ _ => rfl
theorem od_ge : OpD T X (compareOp .GtE) (i2 fun i j => .bl (decide (j ≤ i))) := od_i2 (fun E => op_ge) fun _ _ _ => rfl
end
end L3

set_option Elab.async false
set_option linter.all false
set_option autoImplicit false
set_option maxRecDepth 100000
namespace L3
open PySem PySem.Spec PyProof.Rows L2

theorem objThere {P : Program} {w : World} {H : Hp} {h : Heap} {a : Addr} {o : HO} (x : ObjOk P w H h a o) : ∃ u, h.get? a = some u := by
  cases o with
  | lst xs => obtain ⟨_, _, _, _, e⟩ := x; exact ⟨_, e⟩
  | tup xs => obtain ⟨_, _, _, _, e, _⟩ := x; exact ⟨_, e⟩
  | dK kvs => obtain ⟨_, _, _, _, o, _, _, e, _⟩ := x; exact ⟨_, e⟩
  | dT kvs => obtain ⟨_, _, _, _, o, _, _, e, _⟩ := x; exact ⟨_, e⟩
  | set S n => obtain ⟨o, _, _, _, e, _⟩ := x; exact ⟨_, e⟩
  | ins C dx fs => obtain ⟨_, _, _, e, _⟩ := x; exact ⟨_, e⟩
  | own y => obtain ⟨_, e⟩ := x; exact ⟨_, e⟩
  | xd fs => obtain ⟨_, ⟨_, _, _, e, _⟩, _⟩ := x; exact ⟨_, e⟩
  | rng lo hi => obtain ⟨_, _, _, e⟩ := x; exact ⟨_, e⟩
  | frz ob u => obtain ⟨e, _⟩ := x; exact ⟨_, e⟩
  | tbl ps => exact ⟨_, (show h.get? a = some _ from x)⟩
  | met f y => exact ⟨_, (show h.get? a = some _ from x)⟩
  | ext φ => obtain ⟨_, ⟨_, e⟩, _⟩ := x; exact ⟨_, e⟩

/-- how an exception lies behind a call -/
def CXE (T : Tb) (P : Program) (w : World) : CXT := fun outer H s E e s' =>
  ∃ (ea : Addr) (c : Nat) (H' : Hp), e = .ref ea ∧ s'.os = s.os ∧ AllBare s'.gens ∧ Un (frs outer) [] H H' s.heap s'.heap ∧ HOk P w H' s'.heap ∧ FlyB T c ea H' s'.heap (fun b => s.heap.get? b = none) ∧ E (.ref (T.ca c)) none H'

section
variable {T : Tb} {X : Cx} {pins : List (Addr × Obj)} {σ : L2.St} {H : Hp} {s : Shared} {c : Nat} {u : Value}
/-- the heap behind the notes of an exception: all but the records at L and the frames' slots is kept -/
structure Noted (X : Cx) (L : List Addr) (h h' : Heap) : Prop where
  kb : ∀ b o, h.get? b = some o → b ∉ L → h'.get? b = some o
  up : ∀ b o, h.get? b = some o → (∀ vs, o.data ≠ .fields vs) → ∃ sl, h'.get? b = some { o with slots := sl }

theorem noted_hok {L : List Addr} {h' : Heap} (I : Inv X pins σ H s) (N : Noted X L s.heap h') (hL : ∀ b ∈ L, H b = none) : HOk X.prog X.w H h' := fun a o e =>
  (I.hok a o e).stay (fun b v hb q => N.kb b v q fun hm => by
    rcases hb with z | z
    · rw [z] at hm; rw [hL _ hm] at e; cases e
    · rw [hL b hm] at z; cases z) (fun _ q => q) fun _ _ q => q

theorem left_cxe {E : XK} {L : List Addr} {h' : Heap} {ea : Addr} {a0 : Value} (I : Inv X pins σ H s) (hst : X.stack = X.env :: X.outer) (hex : X.ex = []) (hn : H ea = none) (hfr : X.s₀.heap.get? ea = none)
    (hea : ea ∈ L) (hL : ∀ b ∈ L, H b = none ∧ (X.s₀.heap.get? b = none ∨ b ∈ X.fs)) (hS : ∀ b ∈ L, b = ea ∨ (∃ o vs, s.heap.get? b = some o ∧ o.data = .fields vs ∧ X.s₀.heap.get? b = none) ∨ b ∈ frs X.stack)
    (lw : Heap.LeftW (PySem.W.hideAll s.heap L) (X.env :: X.outer) ea (.ref (T.ca c)) a0 s.heap h') (hE : E (.ref (T.ca c)) none H) :
    CXE T X.prog X.w X.outer X.H₀ X.s₀ E (.ref ea) { s with heap := h' } := by
  obtain ⟨k1, k2, k3, k4⟩ := lw
  have kb : ∀ b o, s.heap.get? b = some o → b ∉ L → h'.get? b = some o := fun b o e n => k1 b o (PySem.W.hideAll_get _ e n)
  have nofl : ∀ b ∈ X.fs, ∀ o, s.heap.get? b = some o → ∀ vs, o.data ≠ .fields vs := fun b hb o e => by
    obtain ⟨_, o', e', d⟩ := I.funs.mem hb
    rw [e] at e'; cases e'; exact d
  have hok := noted_hok I ⟨kb, k4⟩ fun b hb => (hL b hb).1
  refine ⟨ea, c, H, rfl, I.os, I.bare, ⟨fun b o e n hb _ => ?_, fun b o e n hb _ => ?_, fun b o e n _ => ?_, fun b o e _ => ?_, I.base.tups, I.base.frzs, I.base.tbls⟩, hok, ⟨hn, hfr, ?_⟩, hE⟩
  · refine kb b o (I.base.keep b o e n hb (by rw [hex]; simp)) fun hm => ?_
    rcases (hL b hm).2 with z | z
    · rw [e] at z; cases z
    · exact hb z
  · obtain ⟨sl, e1⟩ := I.base.slot b o e n hb (by rw [hex]; simp)
    obtain ⟨sl', e2⟩ := k4 b _ e1 (nofl b hb _ e1)
    exact ⟨sl', e2⟩
  · exact I.base.free b o e n (by rw [hex]; simp)
  · obtain ⟨o', e1⟩ := I.base.there b o e (by rw [hex]; simp)
    by_cases hm : b ∈ L
    · rcases (hL b hm).2 with z | z
      · rw [e] at z; cases z
      · obtain ⟨sl', e2⟩ := k4 b _ e1 (nofl b z _ e1)
        exact ⟨_, e2⟩
    · exact ⟨o', kb b o' e1 hm⟩
  · obtain ⟨oe, vs, tb, ot, ts, he, ⟨hc, h0⟩, hd, h1, hnT, hTe, hT, hdT, h3⟩ := k3
    have hid : ∀ b, (PySem.W.hideAll s.heap L).get? b = none → (∃ o, s.heap.get? b = some o) → b ∈ L := fun b hb ⟨o, e⟩ => Classical.byContradiction fun z => by
      rw [PySem.W.hideAll_get _ e z] at hb; cases hb
    have notfr : tb ∉ frs X.stack := fun hm => by
      rw [hst] at hm
      obtain ⟨_, o, e, d⟩ := k2.mem hm
      rw [hT] at e; cases e; exact d ts hdT
    have key : ∀ o, s.heap.get? tb = some o → X.s₀.heap.get? tb = none := fun o e => by
      rcases hS tb (hid tb hnT ⟨o, e⟩) with z | ⟨_, _, _, _, z⟩ | z
      · exact absurd z hTe
      · exact z
      · exact absurd z notfr
    refine ⟨oe, vs, a0, he, hc, hd, h0, .inr ⟨tb, ot, ts, h1, hTe, hT, hdT, h3, ?_, ?_⟩⟩
    · cases q : H tb with
      | none => rfl
      | some z =>
        obtain ⟨o, e⟩ := objThere (I.hok tb z q)
        have := (hL tb (hid tb hnT ⟨o, e⟩)).1
        rw [q] at this; cases this
    · show X.s₀.heap.get? tb = none
      cases q : X.s₀.heap.get? tb with
      | none => rfl
      | some o =>
        obtain ⟨o', e⟩ := I.base.there tb o q (by rw [hex]; simp)
        rw [key o' e] at q; cases q

theorem leave_fly {E : XK} {E' : Value → Shared → Prop} (I : Inv X pins σ H s) (hst : X.stack = X.env :: X.outer) (hf : X.env.frame = some X.env.locals) (hex : X.ex = []) (fl : Flying T X pins c u H s) (hE : E (.ref (T.ca c)) none H) :
    wpAny (model X.prog X.w) X.A (leaving X.env u) (fun _ s'' => CXE T X.prog X.w X.outer X.H₀ X.s₀ E u s'') E' s := by
  obtain ⟨ea, rfl, hn, fe, oe, vs, a0, he, hc, hd, h0, h1⟩ := fl
  have hfr : X.A.frames = some (X.env :: X.outer) := by rw [I.ok.frames, hst]
  have FF : s.heap.FunFrames X.base (X.env :: X.outer) := by rw [← hst]; exact I.stack
  have fr0 : ∀ b, Free X pins b → X.s₀.heap.get? b = none := fun b ⟨z, _⟩ => by
    rcases z with z | z
    · rw [hex] at z; simp at z
    · exact z
  have stk : ∀ b ∈ frs X.stack, H b = none ∧ (X.s₀.heap.get? b = none ∨ b ∈ X.fs) := fun b hb => ⟨I.stkFree b hb, by
    rcases List.mem_cons.mp (I.stkSub b hb) with z | z
    · rw [z]; exact .inl (Heap.get?_none_of_le I.ok.above)
    · exact .inr z⟩
  have infr : ∀ (L : List Addr), (∀ b ∈ frs X.stack, b ∈ L) → s.heap.FunFrames (PySem.W.hideAll s.heap L) (X.env :: X.outer) := fun L hL => PySem.W.funFrames_hide FF fun env he b hb => hL b (by
    rw [hst]; exact List.mem_filterMap.mpr ⟨env, he, hb⟩)
  have hidn : ∀ (L : List Addr) (b : Addr), b ∈ L → (PySem.W.hideAll s.heap L).get? b = none := fun L b hb => PySem.W.hideAll_none L hb
  rcases h1 with h1 | ⟨tb, ot, ts, h1, hne, ht, hdt, h3, hnt, ft⟩
  · refine wpAny_leaving_firstW (base := PySem.W.hideAll s.heap (ea :: frs X.stack)) hfr (infr _ fun b hb => List.mem_cons_of_mem _ hb) hf he (fun b o q => PySem.W.of_hideAll _ q) (hidn _ _ List.mem_cons_self) hd h1 h0 fun h' lw => ?_
    rw [hc] at lw
    refine left_cxe (L := ea :: frs X.stack) I hst hex hn (fr0 ea fe) List.mem_cons_self (fun b hb => ?_) (fun b hb => ?_) lw hE
    · rcases List.mem_cons.mp hb with z | z
      · rw [z]; exact ⟨hn, .inl (fr0 ea fe)⟩
      · exact stk b z
    · rcases List.mem_cons.mp hb with z | z
      · exact .inl z
      · exact .inr (.inr z)
  · refine wpAny_leaving_nextW (base := PySem.W.hideAll s.heap (ea :: tb :: frs X.stack)) (cls := .ref (T.ca c)) (a0 := a0) hfr (infr _ fun b hb => List.mem_cons_of_mem _ (List.mem_cons_of_mem _ hb)) hf ⟨oe, vs, tb, ot, ts, he, ⟨hc, h0⟩, hd, h1, hidn _ _ (by simp), hne, ht, hdt, h3⟩ (fun b o q => PySem.W.of_hideAll _ q) (hidn _ _ List.mem_cons_self) fun h' lw => ?_
    refine left_cxe (L := ea :: tb :: frs X.stack) I hst hex hn (fr0 ea fe) List.mem_cons_self (fun b hb => ?_) (fun b hb => ?_) lw hE
    · rcases List.mem_cons.mp hb with z | z
      · rw [z]; exact ⟨hn, .inl (fr0 ea fe)⟩
      · rcases List.mem_cons.mp z with z | z
        · rw [z]; exact ⟨hnt, .inl (fr0 tb ft)⟩
        · exact stk b z
    · rcases List.mem_cons.mp hb with z | z
      · exact .inl z
      · rcases List.mem_cons.mp z with z | z
        · rw [z]; exact .inr (.inl ⟨ot, ts, ht, hdt, fr0 tb ft⟩)
        · exact .inr (.inr z)
end
end L3

set_option Elab.async false
set_option linter.all false
set_option autoImplicit false
set_option maxRecDepth 100000
namespace L3
open PySem PySem.Spec PyProof.Rows L2

/-! ### a def's promise by a pure function -/
def ArgOk (T : Tb) (K : PySem.W.Frag) (H : Hp) (v : V) : Sl → Prop
  | .sh d => Rep T K H d v
  | .bo ds => ∃ a vs, v = .ref a ∧ H a = some (.lst vs) ∧ RepL T K H ds vs
  | _ => False
def ArgsOk (T : Tb) (K : PySem.W.Frag) (H : Hp) : List V → List Sl → Prop
  | vs, [] => vs = []
  | vs, s :: ss => ∃ v r, vs = v :: r ∧ ArgOk T K H v s ∧ ArgsOk T K H r ss
section
variable {T : Tb} {K : PySem.W.Frag} {H H' : Hp}
theorem ArgOk.mono {v : V} {s : Sl} (e : Same H H') (h : ArgOk T K H v s) : ArgOk T K H' v s := by
  cases s with
  | sh d => exact Rep.mono e _ _ h
  | bo ds =>
    obtain ⟨a, vs, e1, e2, r⟩ := h
    exact ⟨a, vs, e1, e _ _ e2, RepL.mono e _ _ r⟩
  | _ => exact h
theorem ArgsOk.mono (e : Same H H') : ∀ (ss : List Sl) (vs : List V), ArgsOk T K H vs ss → ArgsOk T K H' vs ss
  | [], _, h => h
  | s :: ss, _, h => by
    obtain ⟨v, r, e1, h1, h2⟩ := h
    exact ⟨v, r, e1, ArgOk.mono e h1, ArgsOk.mono e ss r h2⟩
theorem ArgsOk.length : ∀ (ss : List Sl) (vs : List V), ArgsOk T K H vs ss → vs.length = ss.length
  | [], _, h => by cases h; rfl
  | s :: ss, _, h => by
    obtain ⟨v, r, rfl, _, h2⟩ := h
    simp [ArgsOk.length ss r h2]
theorem ArgsOk.get : ∀ (ss : List Sl) (vs : List V) (i : Nat) (s : Sl), ArgsOk T K H vs ss → ss[i]? = some s → ∃ v, vs[i]? = some v ∧ ArgOk T K H v s
  | [], _, _, _, _, e => by simp at e
  | s :: ss, _, 0, x, h, e => by
    obtain ⟨v, r, rfl, h1, _⟩ := h
    simp at e; subst e
    exact ⟨v, rfl, h1⟩
  | s :: ss, _, i + 1, x, h, e => by
    obtain ⟨v, r, rfl, _, h2⟩ := h
    obtain ⟨u, e1, e2⟩ := ArgsOk.get ss r i x h2 (by simpa using e)
    exact ⟨u, by simpa using e1, e2⟩
theorem ArgsOk.append : ∀ (ss : List Sl) (vs : List V) (ts : List Sl) (us : List V), ArgsOk T K H vs ss → ArgsOk T K H us ts → ArgsOk T K H (vs ++ us) (ss ++ ts)
  | [], _, _, _, h, h' => by cases h; exact h'
  | s :: ss, _, ts, us, h, h' => by
    obtain ⟨v, r, rfl, h1, h2⟩ := h
    exact ⟨v, r ++ us, rfl, h1, ArgsOk.append ss r ts us h2 h'⟩
end
abbrev Fn := List Sl → Out Rv
def OutOk (T : Tb) (K : PySem.W.Frag) (H : Hp) (Q : VK) (E : XK) : Out Rv → Prop
  | .ok r => ∀ v H', Same H H' → RvOk T K H H' v r → Q v H'
  | .exc c => ∀ H', Same H H' → E (.ref (T.ca c)) none H'
  | .bad => False
def spD (T : Tb) (K : PySem.W.Frag) (n : Nat) (F : Fn) : Sp := fun vs H Q E => ∃ ss : List Sl, ArgsOk T K H vs ss ∧ vs.length = n ∧ OutOk T K H Q E (F ss)
/-- a def's outcome by its body's -/
@[simp] def fnF (n : Nat) (f : Ro → Fl) (ss : List Sl) : Out Rv := match f (ss ++ List.replicate (n - ss.length) .no) with
  | .nx _ => .ok (.sh .non)
  | .rt r => .ok r
  | .exc c _ => .exc c
  | _ => .bad

theorem fr_start {T : Tb} {K : PySem.W.Frag} {H : Hp} {N : List Str} {vs : List V} {ss : List Sl} (hT : T.me = none) (h : ArgsOk T K H vs ss) : FR T K H H (start N vs) (ss ++ List.replicate (N.length - ss.length) .no) := by
  have hl := ArgsOk.length ss vs h
  have noow : ∀ (i : Nat) (es : List D), (ss ++ List.replicate (N.length - ss.length) Sl.no)[i]? ≠ some (.ow es) := fun i es z => by
    by_cases hi : i < ss.length
    · rw [List.getElem?_append_left hi] at z
      obtain ⟨v, _, r⟩ := ArgsOk.get ss vs i _ h z
      exact r
    · rw [List.getElem?_append_right (by omega), List.getElem?_replicate] at z
      split at z <;> cases z
  have nome : ∀ (i : Nat) (c : Nat) (es : List D), (ss ++ List.replicate (N.length - ss.length) Sl.no)[i]? ≠ some (.me c es) := fun i c es z => by
    by_cases hi : i < ss.length
    · rw [List.getElem?_append_left hi] at z
      obtain ⟨v, _, r⟩ := ArgsOk.get ss vs i _ h z
      exact r
    · rw [List.getElem?_append_right (by omega), List.getElem?_replicate] at z
      split at z <;> cases z
  refine ⟨Same.refl H, by unfold L2.start; simp [hl], fun i s e => ?_, fun i j ds es _ z _ => absurd z (noow i ds), (fun x e => by rw [hT] at e; cases e), (fun i c es z => absurd z (nome i c es))⟩
  by_cases hi : i < ss.length
  · rw [List.getElem?_append_left hi] at e
    obtain ⟨v, e1, r⟩ := ArgsOk.get ss vs i s h e
    have e2 : (start N vs)[i]? = some (some v) := by
      unfold L2.start
      rw [List.getElem?_append_left (by simp [hl, hi]), List.getElem?_map, e1]; rfl
    rw [e2]
    cases s with
    | sh d => exact ⟨v, rfl, r⟩
    | bo ds =>
      obtain ⟨a, us, rfl, r2, r3⟩ := r
      exact ⟨a, us, rfl, r2, r3⟩
    | _ => exact r.elim
  · rw [List.getElem?_append_right (by omega), List.getElem?_replicate] at e
    split at e
    · cases e; trivial
    · cases e

section
variable {P : Program} {w : World} {K : PySem.W.Frag} {mg : Str → Option Value} {base : Heap} {T : Tb}
/-- the context of a def's body -/
abbrev CxD (T : Tb) (P : Program) (w : World) (K : PySem.W.Frag) (mg : Str → Option Value) (base : Heap) (N : List Str) (qual : Str) (scope : Scope) (f : Addr) (cd : Value) (A : Around) (outer : List Env) (s : Shared) (H : Hp) (E : XK) : Cx :=
  cxOf (CXE T P w) P w K mg base N qual scope f cd A outer s H E
theorem fn_D {x qual : Str} {st : Stmt} {fa : Addr} {fd : FuncData} {N ps : List Str} {k : Nat} {f : Ro → Fl} (hT : T.me = none) (F : L2.Fun K x qual st fa fd) (S : FnScope N ps (defScope st))
    (hb : ∀ (cdv : Value) (A : Around) (outer : List Env) (s : Shared) (H : Hp) (E : XK), Room k (A.deeper (envOfC qual (defScope st) s.heap.objs.size fa cdv)) → DSs T false (CxD T P w K mg base N qual (defScope st) fa cdv A outer s H E) (defBody st) f) :
    FnOk P w K mg base (CXE T P w) (k + 1) fa fd ps (spD T K ps.length (fnF N.length f)) := by
  obtain ⟨oc, od, kV, doc, pm, an, cdv, ct, osl, rfl, lk, hcd⟩ := F.ex
  refine fn_of lk hcd S (fun vs H Q E ⟨ss, _, e, _⟩ => e) fun A outer s H vs Q E hr ⟨ss, ha, hl, ho⟩ => ?_
  have fr := fr_start (N := N) hT ha
  -- the wish about exceptions, closed upward
  have hb' := hb cdv A outer s H E hr
  refine ⟨_, hb'.run H (CxD T P w K mg base N qual (defScope st) fa cdv A outer s H E).xe PassesOwn.leaving, _, fr, ?_⟩
  unfold fnF at ho
  cases e : f (ss ++ List.replicate (N.length - ss.length) .no) with
  | nx ρ =>
    rw [e] at ho
    exact fun σ H' fr' _ => ho .non H' fr'.same rfl
  | rt r =>
    rw [e] at ho
    exact fun v H' hs r' => ho v H' hs r'
  | exc c ρ =>
    rw [e] at ho
    intro σ' H' fr' _ pins s' u H'' I hs fl
    exact leave_fly I rfl rfl rfl fl (ho H'' (fr'.same.trans hs))
  | bk ρ => rw [e] at ho; exact ho.elim
  | ct ρ => rw [e] at ho; exact ho.elim
  | bad => rw [e] at ho; exact ho.elim
end

/-! ### arguments, calls -/
def tG (T : Tb) (X : Cx) (G : Hp) (E : Value → Shared → Prop) (f : Ro → Out (List Sl)) : TA := fun σ H Q => ∃ ρ, FR T X.K G H σ ρ ∧ Acc T X E σ H (f ρ) (fun ss => ∀ vs H', Same H H' → ArgsOk T X.K H' vs ss → Q vs H')
structure DG (T : Tb) (X : Cx) (es : List Expr) (f : Ro → Out (List Sl)) : Prop where
  mk ::
  run : ∀ (G : Hp) (E : Value → Shared → Prop), PassesOwn (model X.prog X.w) X.A X.env E → PA (X.wish E) es (tG T X G E f)
section
variable {T : Tb} {X : Cx} {e : Expr} {es : List Expr} {pos p : Pos} {fe : Ev} {fs : Ro → Out (List Sl)}
@[simp] def gN0 (ρ : Ro) : Out (List Sl) := .ok []
@[simp] def gSh (fe : Ev) (fs : Ro → Out (List Sl)) (ρ : Ro) : Out (List Sl) := (fe ρ).bind fun d => (fs ρ).bind fun ss => .ok (.sh d :: ss)
@[simp] def gBo (i : Nat) (fs : Ro → Out (List Sl)) (ρ : Ro) : Out (List Sl) := match ρ[i]? with
  | some (.ow ds) => (fs ρ).bind fun ss => .ok (.bo ds :: ss)
  | some (.bo ds) => (fs ρ).bind fun ss => .ok (.bo ds :: ss)
  | some (.sh d) => (fs ρ).bind fun ss => .ok (.sh d :: ss)
  | _ => .bad
theorem dg_nil : DG T X [] gN0 := .mk fun G E hp => PA.imp pa_nil fun σ H Q ⟨ρ, fr, h⟩ => h [] H (Same.refl H) rfl
theorem dg_sh (ha : DE T X e fe) (hr : DG T X es fs) (hs : starEach (e :: es) X.env = (false, eval e X.env) :: starEach es X.env := by exact star_of rfl) : DG T X (e :: es) (gSh fe fs) := .mk fun G E hp => by
  refine PA.imp (pa_cons (X := X.wish E) (ha.run G E hp) (hr.run G E hp) hs) fun σ H Q ⟨ρ, fr, h⟩ => ?_
  refine ⟨ρ, fr, Acc.mono (Acc.bind h) fun d _ hd v H1 s1 r1 => ⟨ρ, fr.mono s1, Acc.mono (Acc.bind (Acc.heap s1 hd)) fun ss _ hss vs H2 s2 r2 => ?_⟩⟩
  exact hss (v :: vs) H2 (s1.trans s2) ⟨v, vs, rfl, Rep.mono s2 _ _ r1, r2⟩
theorem dg_bo (i : Nat) {x : Str} (hr : DG T X es fs) (hs : starEach (.Name x pos :: es) X.env = (false, eval (.Name x pos) X.env) :: starEach es X.env := by exact star_of rfl) (hN : X.N[i]? = some x := by rfl) (hv : Vis X.env.scope x := by first | exact Or.inl rfl | exact Or.inr (Or.inl rfl) | exact Or.inr (Or.inr rfl)) (hd : (x == ("__debug__" : Str)) = false := by decide)
    (hcd : (x == ("__classdict__" : Str)) = false := by decide) : DG T X (.Name x pos :: es) (gBo i fs) := .mk fun G E hp => by
  refine PA.imp (pa_cons (X := X.wish E) (pe_var (X := X.wish E) hN hv hd hcd) (hr.run G E hp) hs) fun σ H Q ⟨ρ, fr, h⟩ => ?_
  unfold gBo at h
  split at h
  · rename_i ds e
    obtain ⟨a, vs, e1, e2, e3, r⟩ := fr.sl i _ e
    refine ⟨_, e1, ρ, fr, Acc.mono (Acc.bind h) fun ss _ hss us H2 s2 r2 => ?_⟩
    exact hss (.ref a :: us) H2 s2 ⟨_, us, rfl, ⟨a, vs, rfl, s2 _ _ e2, RepL.mono s2 _ _ r⟩, r2⟩
  · rename_i ds e
    obtain ⟨a, vs, e1, e2, r⟩ := fr.sl i _ e
    refine ⟨_, e1, ρ, fr, Acc.mono (Acc.bind h) fun ss _ hss us H2 s2 r2 => ?_⟩
    exact hss (.ref a :: us) H2 s2 ⟨_, us, rfl, ⟨a, vs, rfl, s2 _ _ (fr.same _ _ e2), RepL.mono s2 _ _ r⟩, r2⟩
  · rename_i d e
    obtain ⟨v, e1, r⟩ := fr.sl i _ e
    refine ⟨_, e1, ρ, fr, Acc.mono (Acc.bind h) fun ss _ hss us H2 s2 r2 => ?_⟩
    exact hss (v :: us) H2 s2 ⟨_, us, rfl, Rep.mono s2 _ _ r, r2⟩
  · exact h.elim

/-- a call's exception is on its way in the caller's body -/
theorem Inv.flown {pins : List (Addr × Obj)} {σ : L2.St} {H : Hp} {s s' : Shared} {E : XK} {u : Value} (I : Inv X pins σ H s) (h : CXE T X.prog X.w X.stack H s E u s') : ∃ c H', Inv X pins σ H' s' ∧ Flying T X pins c u H' s' ∧ E (.ref (T.ca c)) none H' := by
  obtain ⟨ea, c, H', rfl, os, bare, un, hok, ⟨h1, h2, oe, vs, a0, he, hc, hd, h0, ht⟩, hE⟩ := h
  have free : ∀ b, s.heap.get? b = none → Free X pins b := fun b hb => by
    refine ⟨?_, fun z => ?_, fun x cc e z => ?_, fun q hq z => ?_⟩
    · by_cases hx : b ∈ X.ex
      · exact .inl hx
      · refine .inr ?_
        cases q : X.s₀.heap.get? b with
        | none => rfl
        | some o =>
          obtain ⟨o', e⟩ := I.base.there b o q hx
          rw [hb] at e; cases e
    · obtain ⟨m, ⟨o, _, _, ho, _⟩, _⟩ := I.loc
      rw [← z, hb] at ho; cases ho
    · obtain ⟨v, o, ho, _⟩ := I.cell x cc e
      rw [z, hb] at ho; cases ho
    · obtain ⟨e, _⟩ := I.pin q hq
      rw [z, hb] at e; cases e
  refine ⟨c, H', I.call' os un hok bare fun b z => absurd z (by simp), ⟨ea, rfl, h1, free ea h2, oe, vs, a0, he, hc, hd, h0, ?_⟩, hE⟩
  rcases ht with ht | ⟨tb, ot, ts, t1, t2, t3, t4, t5, t6, t7⟩
  · exact .inl ht
  · exact .inr ⟨tb, ot, ts, t1, t2, t3, t4, t5, t6, free tb t7⟩

variable {k n : Nat} {f C : Addr} {fd : FuncData} {ps : List Str} {F : Fn} {ds : List Value} {dvs : List V} {dss : List Sl} {x m : Str} {apos : Pos} {o : Expr}
theorem run_D {pins : List (Addr × Obj)} {σ : L2.St} {H : Hp} {s : Shared} {E : Value → Shared → Prop} {Q : VK} {us : List Value} {vs : List V} {ss : List Sl} (FO : FnOk X.prog X.w X.K X.mg X.base (CXE T X.prog X.w) k f fd ps (spD T X.K ps.length F)) (hr : Room k X.A) (hb : Binds X.K fd ps ds) (hd : Vals dvs ds)
    (I : Inv (X.wish E) pins σ H s) (r : Vals vs us) (ha : ArgsOk T X.K H (vs ++ dvs) ss) (hl : (us ++ ds).length = ps.length) (h : Acc T X E σ H (F ss) (fun r => ∀ v H', Same H H' → RvOk T X.K H H' v r → Q v H')) :
    wpAny (model X.prog X.w) X.A (call (.ref f) us) (EP (X.wish E) pins σ Q) E s := by
  have r2 : Vals (vs ++ dvs) (us ++ ds) := r.append hd
  have IX : Inv X pins σ H s := I.unwish
  let EX : XK := fun cls _ H' => ∃ c, cls = .ref (T.ca c) ∧ F ss = .exc c ∧ Same H H'
  refine wpAny_call (codeAny_mono (FO.run X.A X.stack s H ⟨us, []⟩ (us ++ ds) (vs ++ dvs) Q EX hr IX.env0 (hb s us IX.kIn hl) r2 ⟨ss, ha, r2.length.trans hl, ?_⟩) fun res s' hq => ?_)
  · cases e : F ss with
    | ok r => rw [e] at h; exact h
    | exc c => exact fun H' hs => ⟨c, rfl, e, hs⟩
    | bad => rw [e] at h; exact h.elim
  · cases res with
    | error ev =>
      obtain ⟨c, H', I', fl, c', ec, eF, hs⟩ := Inv.flown IX hq
      rw [eF] at h
      refine h pins s' ev H' I' hs ?_
      obtain ⟨ea, rfl, h1, h2, oe, vs', a0, he, hc, rest⟩ := fl
      exact ⟨ea, rfl, h1, h2, oe, vs', a0, he, hc.trans ec, rest⟩
    | ok fl =>
      cases fl with
      | ret u =>
        obtain ⟨v, H', I', rv, q⟩ := IX.after hq
        exact ⟨v, H', I'.wish E, rv, q⟩
      | next => exact False.elim hq
      | brk => exact False.elim hq
      | cont => exact False.elim hq

/-- f(..), a def of the text; dss: the defaults that fill up -/
@[simp] def rCall (F : Fn) (dss : List Sl) (fs : Ro → Out (List Sl)) (ρ : Ro) : Out Rv := (fs ρ).bind fun ss => if ss.length + dss.length = n then F (ss ++ dss) else .bad
theorem dr_call (FO : FnOk X.prog X.w X.K X.mg X.base (CXE T X.prog X.w) k f fd ps (spD T X.K ps.length F)) (hr : Room k X.A) (hg : Gl X x) (hm : X.mg x = some (.ref f)) (hk : PySem.W.keepIn X.K (.ref f) = true) (hb : Binds X.K fd ps ds) (hd : Vals dvs ds)
    (hds : ∀ H, ArgsOk T X.K H dvs dss) (hn : n = ps.length) (ha : DG T X (e :: es) fs) (hdb : (x == ("__debug__" : Str)) = false := by decide) (he : starEach (e :: es) X.env = (false, eval e X.env) :: starEach es X.env := by exact star_of rfl) (hpl : (backTo pos (starEach es X.env)).any (·.1) = false := by exact plain_of rfl) :
    DR T X (.Call (.Name x p) (e :: es) [] pos) (rCall (n := n) F dss fs) := .mk fun G E hp => by
  rintro pins s σ H Q I ⟨ρ, fr, h⟩
  refine wpAny_Call_Name_kw (ld_glob (X := X.wish E) I hg hm ?_ hdb)
  refine PySem.W.callWith_K (h₀ := X.base) I.ok.mod.kin hk (thn (ha.run G E hp pos pins s σ H (fun vs H1 => ∃ ss, ArgsOk T X.K H1 vs ss ∧ ss.length + dss.length = n ∧ Same H H1 ∧ Acc T X E σ H1 (F (ss ++ dss)) (fun r => ∀ v H', Same H1 H' → RvOk T X.K H1 H' v r → Q v H')) I ⟨ρ, fr, ?_⟩) fun us s1 ⟨vs, H1, I1, r, ss, ha1, hl1, s1', q⟩ => ⟨I1.kIn, ?_⟩) he hpl
  · refine Acc.mono (Acc.bind h) fun ss _ hss vs H1 s1 r1 => ?_
    by_cases hl : ss.length + dss.length = n
    · rw [if_pos hl] at hss
      exact ⟨ss, r1, hl, s1, Acc.mono (Acc.heap s1 hss) fun r _ hr' v H' s2 r2 => hr' v H' (s1.trans s2) (by
        cases r with
        | sh d => exact r2
        | fr ds =>
          obtain ⟨a, us, e1, e2, e3, e4⟩ := r2
          exact ⟨a, us, e1, e2, s1.free e3, e4⟩)⟩
    · rw [if_neg hl] at hss; exact hss.elim
  · have la := ArgsOk.length ss vs ha1
    have lr := r.length
    have ld := ArgsOk.length dss dvs (hds H1)
    have lv := hd.length
    exact run_D (X := X) FO hr hb hd I1 r (ArgsOk.append _ _ _ _ ha1 (hds H1)) (by simp only [List.length_append, List.nil_append]; omega) q
/-- f() -/
theorem dr_call0 (FO : FnOk X.prog X.w X.K X.mg X.base (CXE T X.prog X.w) k f fd ps (spD T X.K ps.length F)) (hr : Room k X.A) (hg : Gl X x) (hm : X.mg x = some (.ref f)) (hk : PySem.W.keepIn X.K (.ref f) = true) (hb : Binds X.K fd ps ds) (hd : Vals dvs ds)
    (hds : ∀ H, ArgsOk T X.K H dvs dss) (hn : dss.length = ps.length) (hdb : (x == ("__debug__" : Str)) = false := by decide) :
    DR T X (.Call (.Name x p) [] [] pos) (fun _ => F dss) := .mk fun G E hp => by
  rintro pins s σ H Q I ⟨ρ, fr, h⟩
  refine wpAny_Call_Name_kw (ld_glob (X := X.wish E) I hg hm ?_ hdb)
  have ld := ArgsOk.length dss dvs (hds H)
  have lv := hd.length
  exact PySem.W.callWith_K0 I.kIn hk (run_D (X := X) (us := []) (vs := []) FO hr hb hd I .nil (hds H) (by simp; omega) h)
end
end L3

set_option Elab.async false
set_option linter.all false
set_option autoImplicit false
set_option maxRecDepth 100000
namespace L3
open PySem PySem.Spec PyProof.Rows L2

/-! ### a list is frozen (in the books alone) -/
theorem Inv.freeze {X : Cx} {pins : List (Addr × Obj)} {σ : L2.St} {H : Hp} {s : Shared} {a : Addr} {vs : List V} (I : Inv X pins σ H s) (h : H a = some (.lst vs)) : ∃ o, Inv X pins σ (upd H a (.frz o (.lst vs))) s := by
  obtain ⟨z, its, n, r, e⟩ := I.hok a _ h
  refine ⟨{ cls := .type "list", data := .seq its.toArray n }, I.un (H' := upd H a (.frz { cls := .type "list", data := .seq its.toArray n } (.lst vs))) (h' := s.heap) (t' := s.toks) ⟨fun b o q _ _ _ => q, fun b o q _ _ _ => ⟨o.slots, q⟩, fun b o q n' _ => ?_, fun b o q _ => ⟨o, q⟩, fun b xs q => ?_, fun b o u q => ?_, fun b ps q => ⟨#[], ?_⟩⟩ fun b u q => ?_⟩
  · rw [upd_ne (fun z => by rw [z, h] at n'; cases n')]; exact n'
  · rw [upd_ne (fun z => by rw [z, h] at q; cases q)]; exact q
  · rw [upd_ne (fun z => by rw [z, h] at q; cases q)]; exact q
  · rw [upd_ne (fun z => by rw [z, h] at q; cases q), q]; simp
  · have own : ∀ b y, H b = some (.own y) → upd H a (.frz { cls := .type "list", data := .seq its.toArray n } (.lst vs)) b = some (.own y) := fun b y q => by
      rw [upd_ne (fun z => by rw [z, h] at q; cases q)]; exact q
    have tup : ∀ b xs, H b = some (.tup xs) → upd H a (.frz { cls := .type "list", data := .seq its.toArray n } (.lst vs)) b = some (.tup xs) := fun b y q => by
      rw [upd_ne (fun z => by rw [z, h] at q; cases q)]; exact q
    by_cases hb : b = a
    · subst hb
      rw [upd_same] at q; cases q
      exact ⟨e, (I.hok _ _ h).stay (fun _ _ _ q => q) (fun c => own c _) tup⟩
    · rw [upd_ne hb] at q
      exact (I.hok b u q).stay (fun _ _ _ q => q) (fun c => own c _) tup
theorem PE.freeze {X : Cx} {e : Expr} {t : TE} (h : PE X e t) : PE X e (fun σ H Q => t σ H fun v H1 => ∃ a vs, v = .ref a ∧ H1 a = some (.lst vs) ∧ ∀ o, Q v (upd H1 a (.frz o (.lst vs)))) := fun pins s σ H Q I q =>
  thn (h pins s σ H _ I q) fun u s1 ⟨v, H1, I1, r, a, vs, e, ha, k⟩ => by
    obtain ⟨o, I2⟩ := Inv.freeze I1 ha
    exact ⟨v, _, I2, r, k o⟩
theorem same_upd {H : Hp} {a : Addr} {o : HO} (h : H a = none) : Same H (upd H a o) := fun b u e => by
  rw [upd_ne (fun z => by rw [z, h] at e; cases e)]; exact e
section
variable {T : Tb} {X : Cx} {e : Expr}
mutual
theorem Rep.froz {K : PySem.W.Frag} {H : Hp} {a : Addr} {vs : List V} {o : Obj} (h : H a = some (.lst vs)) : ∀ (d : D) (v : V), Rep T K H d v → Rep T K (upd H a (.frz o (.lst vs))) d v
  | .non, _, q => q
  | .bl _, _, q => q
  | .int _, _, q => q
  | .str _, _, q => q
  | .tup ds, _, q => by
    obtain ⟨b, ws, r1, r2, r3⟩ := q
    refine ⟨b, ws, r1, ?_, RepL.froz h ds ws r3⟩
    rcases r2 with (r2 | ⟨o', r2⟩) | r2
    · exact .inl (.inl (by rw [upd_ne (fun z => by rw [z, h] at r2; cases r2)]; exact r2))
    · exact .inl (.inr ⟨o', by rw [upd_ne (fun z => by rw [z, h] at r2; cases r2)]; exact r2⟩)
    · exact .inr r2
  | .lst ds, _, q => by
    obtain ⟨b, ws, r1, r2, r3⟩ := q
    refine ⟨b, ws, r1, ?_, RepL.froz h ds ws r3⟩
    rcases r2 with ⟨o', r2⟩ | r2
    · exact .inl ⟨o', by rw [upd_ne (fun z => by rw [z, h] at r2; cases r2)]; exact r2⟩
    · exact .inr r2
  | .ins c ds, _, q => by
    obtain ⟨b, dx, fs, r1, r2, r3, r4⟩ := q
    exact ⟨b, dx, fs, r1, by rw [upd_ne (fun z => by rw [z, h] at r2; cases r2)]; exact r2, r3, RepL.froz h ds _ r4⟩
  | .exc c, _, q => by
    obtain ⟨b, φ, r1, r2, r3⟩ := q
    exact ⟨b, φ, r1, by rw [upd_ne (fun z => by rw [z, h] at r2; cases r2)]; exact r2, r3⟩
theorem RepL.froz {K : PySem.W.Frag} {H : Hp} {a : Addr} {vs : List V} {o : Obj} (h : H a = some (.lst vs)) : ∀ (ds : List D) (us : List V), RepL T K H ds us → RepL T K (upd H a (.frz o (.lst vs))) ds us
  | [], _, q => q
  | d :: ds, _, q => by
    obtain ⟨v, r, r1, r2, r3⟩ := q
    exact ⟨v, r, r1, Rep.froz h d v r2, RepL.froz h ds r r3⟩
end
@[simp] def fLst (f : Ro → Out (List D)) (ρ : Ro) : Out D := (f ρ).bind fun ds => .ok (.lst ds)
/-- a fresh list as a shared value -/
theorem DF.de {f : Ro → Out (List D)} (h : DF T X e f) : DE T X e (fLst f) := .mk fun G E hp => by
  refine PE.imp (PE.freeze (h.run G E hp)) fun σ H Q ⟨ρ, fr, q⟩ => ⟨ρ, fr, Acc.mono (Acc.bind q) fun ds _ hd a vs H' s1 ha ha' r => ⟨a, vs, rfl, ha', fun o => ?_⟩⟩
  refine hd _ _ (fun b u e => ?_) ⟨a, vs, rfl, .inl ⟨o, upd_same⟩, RepL.froz ha' _ _ r⟩
  rw [upd_ne (fun z => by rw [z, ha] at e; cases e)]; exact s1 b u e
theorem DF.dr {f : Ro → Out (List D)} (h : DF T X e f) : DR T X e (fun ρ => (f ρ).bind fun ds => .ok (.fr ds)) := .mk fun G E hp =>
  PE.imp (h.run G E hp) fun σ H Q ⟨ρ, fr, q⟩ => ⟨ρ, fr, Acc.mono (Acc.bind q) fun ds _ hd a vs H' s1 ha ha' r => hd _ _ s1 ⟨a, vs, rfl, ha', ha, r⟩⟩
theorem DE.dr {f : Ev} (h : DE T X e f) : DR T X e (fun ρ => (f ρ).bind fun d => .ok (.sh d)) := .mk fun G E hp =>
  PE.imp (h.run G E hp) fun σ H Q ⟨ρ, fr, q⟩ => ⟨ρ, fr, Acc.mono (Acc.bind q) fun d _ hd v H' s1 r => hd _ _ s1 r⟩
@[simp] def Rv.d : Rv → D
  | .sh d => d
  | .fr ds => .lst ds
@[simp] def rD (f : Ro → Out Rv) (ρ : Ro) : Out D := (f ρ).bind fun r => .ok r.d
/-- a call's result as a shared value: a list is frozen -/
theorem DR.de {f : Ro → Out Rv} (h : DR T X e f) : DE T X e (rD f) := .mk fun G E hp => by
  rintro pins s σ H Q I ⟨ρ, fr, q⟩
  refine thn (h.run G E hp pins s σ H (fun v H1 => ∃ r, Same H H1 ∧ RvOk T X.K H H1 v r ∧ kE T X.K H Q r.d) I ⟨ρ, fr, Acc.mono (Acc.bind q) fun r _ hr v H' s1 r1 => ⟨r, s1, r1, hr⟩⟩) fun u s1 ⟨v, H1, I1, rv, r, sm, rok, k⟩ => ?_
  cases r with
  | sh d => exact ⟨v, H1, I1, rv, k v H1 sm rok⟩
  | fr ds =>
    obtain ⟨a, vs, rfl, ha', ha, rl⟩ := rok
    obtain ⟨o, I2⟩ := Inv.freeze I1 ha'
    refine ⟨_, _, I2, rv, k _ _ (fun b u e => ?_) ⟨a, vs, rfl, .inl ⟨o, upd_same⟩, RepL.froz ha' _ _ rl⟩⟩
    rw [upd_ne (fun z => by rw [z, ha] at e; cases e)]; exact sm b u e
theorem DF.dl {f : Ro → Out (List D)} (h : DF T X e f) : DL T X e f := .mk fun G E hp =>
  PE.imp (h.run G E hp) fun σ H Q ⟨ρ, fr, q⟩ => ⟨ρ, fr, Acc.mono q fun ds _ hd a vs H' s1 ha ha' r => hd a vs H' s1 (SqL.of ha') r⟩
@[simp] def D.toL : D → Out (List D)
  | .lst ds => .ok ds
  | _ => .bad
@[simp] def eLst (f : Ev) (ρ : Ro) : Out (List D) := (f ρ).bind D.toL
theorem DE.dl {f : Ev} (h : DE T X e f) : DL T X e (eLst f) := .mk fun G E hp =>
  PE.imp (h.run G E hp) fun σ H Q ⟨ρ, fr, q⟩ => ⟨ρ, fr, Acc.mono (Acc.bind q) fun d _ hd v H' s1 r => by
    cases d with
    | lst ds =>
      obtain ⟨a, vs, rfl, e2, r2⟩ := r
      exact hd a vs H' s1 e2.sq r2
    | _ => exact hd.elim⟩
theorem DE.weak {f g : Ev} (h : DE T X e f) (k : ∀ ρ, g ρ = f ρ ∨ g ρ = .bad) : DE T X e g := .mk fun G E hp =>
  PE.imp (h.run G E hp) fun σ H Q ⟨ρ, fr, q⟩ => ⟨ρ, fr, by
    rcases k ρ with z | z
    · rw [← z]; exact q
    · rw [z] at q; exact q.elim⟩
end

/-! ### tests -/
section
variable {T : Tb} {X : Cx} {a b : Expr} {rest : List Expr} {pos : Pos} {fa fb : Ro → Out Bool} {f : Ev}
@[simp] def D.tru : D → Out Bool
  | .non => .ok false
  | .bl b => .ok b
  | .int i => .ok (i != 0)
  | .str x => if x.length ≤ 1000000 then .ok ((x.length : Int) != 0) else .bad
  | .tup ds => .ok (!ds.isEmpty)
  | .lst ds => .ok (!ds.isEmpty)
  | _ => .bad
theorem line6 {n : Nat} (h : n ≤ 1000000) : n ≤ sizeLine := by rw [sizeLine_eq]; omega
theorem empty_len {ds : List D} {vs : List V} (h : vs.length = ds.length) : (!vs.isEmpty) = !ds.isEmpty := by
  cases ds <;> cases vs <;> simp_all
theorem truV {H : Hp} {d : D} {v : V} {k : Bool} (r : Rep T X.K H d v) (h : d.tru = .ok k) : TruV X.K v H k := by
  cases d with
  | non => cases r; cases h; exact rfl
  | bl b => cases r; cases h; exact rfl
  | int i => cases r; cases h; exact rfl
  | str x =>
    cases r
    have h' : (if x.length ≤ 1000000 then Out.ok ((x.length : Int) != 0) else .bad) = .ok k := h
    by_cases z : x.length ≤ 1000000
    · rw [if_pos z] at h'; cases h'; exact ⟨line6 z, rfl⟩
    · rw [if_neg z] at h'; cases h'
  | tup ds =>
    obtain ⟨a, vs, rfl, e, r⟩ := r
    cases h
    exact .inr (.inl ⟨vs, e, (empty_len (RepL.length _ _ r)).symm⟩)
  | lst ds =>
    obtain ⟨a, vs, rfl, e, r⟩ := r
    cases h
    exact .inl ⟨vs, e.sq, (empty_len (RepL.length _ _ r)).symm⟩
  | ins c ds => cases h
  | exc c => cases h
@[simp] def tTru (f : Ev) (ρ : Ro) : Out Bool := (f ρ).bind D.tru
theorem dt_truth (h : DE T X a f) (he : ∀ whole, isTrue a X.env whole = (do let v ← whole; standAt a.pos; holding [v] (truthy v)) := by intro _; rfl) : DT T X a (tTru f) := .mk fun G E hp => by
  refine PT.imp (pt_truth (X := X.wish E) (h.run G E hp) he) fun σ H Q ⟨ρ, fr, q⟩ => ⟨ρ, fr, Acc.mono (Acc.bind q) fun d _ hd v H' s1 r => ?_⟩
  cases e : d.tru with
  | ok k => rw [e] at hd; exact ⟨k, truV r e, hd H' s1⟩
  | exc c =>
    cases d with
    | str x =>
      have h' : (if x.length ≤ 1000000 then Out.ok ((x.length : Int) != 0) else .bad) = .exc c := e
      by_cases z : x.length ≤ 1000000
      · rw [if_pos z] at h'; cases h'
      · rw [if_neg z] at h'; cases h'
    | _ => cases e
  | bad => rw [e] at hd; exact hd.elim
@[simp] def tNotD (f : Ro → Out Bool) (ρ : Ro) : Out Bool := (f ρ).bind fun b => .ok (!b)
@[simp] def tAndD (f g : Ro → Out Bool) (ρ : Ro) : Out Bool := (f ρ).bind fun b => if b = true then g ρ else .ok false
@[simp] def tOrD (f g : Ro → Out Bool) (ρ : Ro) : Out Bool := (f ρ).bind fun b => if b = true then .ok true else g ρ
theorem dt_not (h : DT T X a fa) : DT T X (.UnaryOp .Not a pos) (tNotD fa) := .mk fun G E hp =>
  PT.imp (pt_not (X := X.wish E) (h.run G E hp)) fun σ H Q ⟨ρ, fr, q⟩ => ⟨ρ, fr, Acc.mono (Acc.bind q) fun b _ hb H' s1 => hb H' s1⟩
theorem dw_and1 (ha : DT T X a fa) : DW T X (.BoolOp .And [a] pos) fa := .mk fun G E hp => pw_and1 (ha.run G E hp)
theorem dw_or1 (ha : DT T X a fa) : DW T X (.BoolOp .Or [a] pos) fa := .mk fun G E hp => pw_or1 (ha.run G E hp)
theorem dw_and (ha : DT T X a fa) (hb : DW T X (.BoolOp .And (b :: rest) pos) fb) : DW T X (.BoolOp .And (a :: b :: rest) pos) (tAndD fa fb) := .mk fun G E hp =>
  PW.imp (pw_and (ha.run G E hp) (hb.run G E hp)) fun σ H Q ⟨ρ, fr, q⟩ => ⟨ρ, fr, Acc.mono (Acc.bind q) fun b _ hb H' s1 => by
    cases b with
    | true => exact ⟨ρ, fr.mono s1, Acc.mono (Acc.heap s1 hb) fun c _ hc H2 s2 => hc H2 (s1.trans s2)⟩
    | false => exact hb H' s1⟩
theorem dw_or (ha : DT T X a fa) (hb : DW T X (.BoolOp .Or (b :: rest) pos) fb) : DW T X (.BoolOp .Or (a :: b :: rest) pos) (tOrD fa fb) := .mk fun G E hp =>
  PW.imp (pw_or (ha.run G E hp) (hb.run G E hp)) fun σ H Q ⟨ρ, fr, q⟩ => ⟨ρ, fr, Acc.mono (Acc.bind q) fun b _ hb H' s1 => by
    cases b with
    | false => exact ⟨ρ, fr.mono s1, Acc.mono (Acc.heap s1 hb) fun c _ hc H2 s2 => hc H2 (s1.trans s2)⟩
    | true => exact hb H' s1⟩
/-! as values (bools) -/
variable {ga gb : Ev}
@[simp] def eAndD (f g : Ev) (ρ : Ro) : Out D := (f ρ).bind fun d => d.toB.bind fun b => if b = true then g ρ else .ok (.bl false)
@[simp] def eOrD (f g : Ev) (ρ : Ro) : Out D := (f ρ).bind fun d => d.toB.bind fun b => if b = true then .ok (.bl true) else g ρ
@[simp] def eNotD (f : Ev) (ρ : Ro) : Out D := (f ρ).bind fun d => d.toB.bind fun b => .ok (.bl (!b))
theorem toB_inv {α : Type} {E : Value → Shared → Prop} {σ : L2.St} {H : Hp} {d : D} {g : Bool → Out α} {k : α → Prop} (h : Acc T X E σ H (d.toB.bind g) k) : ∃ b, d = .bl b ∧ Acc T X E σ H (g b) k := by
  cases d with
  | bl b => exact ⟨b, rfl, h⟩
  | _ => exact h.elim
theorem de_one {op} (h : DE T X a ga) : DE T X (.BoolOp op [a] pos) ga := .mk fun G E hp => pe_one (h.run G E hp)
theorem de_and (ha : DE T X a ga) (hb : DE T X (.BoolOp .And (b :: rest) pos) gb) : DE T X (.BoolOp .And (a :: b :: rest) pos) (eAndD ga gb) := .mk fun G E hp =>
  PE.imp (pe_and (ha.run G E hp) (hb.run G E hp)) fun σ H Q ⟨ρ, fr, q⟩ => ⟨ρ, fr, Acc.mono (Acc.bind q) fun d _ hd v H' s1 r => by
    obtain ⟨c, rfl, hc⟩ := toB_inv hd
    refine ⟨c, r, ?_⟩
    cases c with
    | true => exact ⟨ρ, fr.mono s1, Acc.mono (Acc.heap s1 hc) fun c _ hc v2 H2 s2 r2 => hc v2 H2 (s1.trans s2) r2⟩
    | false => exact hc _ H' s1 rfl⟩
theorem de_or (ha : DE T X a ga) (hb : DE T X (.BoolOp .Or (b :: rest) pos) gb) : DE T X (.BoolOp .Or (a :: b :: rest) pos) (eOrD ga gb) := .mk fun G E hp =>
  PE.imp (pe_or (ha.run G E hp) (hb.run G E hp)) fun σ H Q ⟨ρ, fr, q⟩ => ⟨ρ, fr, Acc.mono (Acc.bind q) fun d _ hd v H' s1 r => by
    obtain ⟨c, rfl, hc⟩ := toB_inv hd
    refine ⟨c, r, ?_⟩
    cases c with
    | false => exact ⟨ρ, fr.mono s1, Acc.mono (Acc.heap s1 hc) fun c _ hc v2 H2 s2 r2 => hc v2 H2 (s1.trans s2) r2⟩
    | true => exact hc _ H' s1 rfl⟩
theorem de_not (ha : DE T X a ga) : DE T X (.UnaryOp .Not a pos) (eNotD ga) := .mk fun G E hp =>
  PE.imp (pe_not (ha.run G E hp)) fun σ H Q ⟨ρ, fr, q⟩ => ⟨ρ, fr, Acc.mono (Acc.bind q) fun d _ hd v H' s1 r => by
    obtain ⟨c, rfl, hc⟩ := toB_inv hd
    exact ⟨c, r, hc _ H' s1 rfl⟩⟩
@[simp] def eIf (t : Ro → Out Bool) (f g : Ev) (ρ : Ro) : Out D := (t ρ).bind fun b => if b = true then f ρ else g ρ
theorem de_if {c : Expr} {ft : Ro → Out Bool} (hc : DT T X c ft) (ha : DE T X a ga) (hb : DE T X b gb) : DE T X (.IfExp c a b pos) (eIf ft ga gb) := .mk fun G E hp =>
  PE.imp (pe_ifExp (hc.run G E hp) (ha.run G E hp) (hb.run G E hp)) fun σ H Q ⟨ρ, fr, q⟩ => ⟨ρ, fr, Acc.mono (Acc.bind q) fun b _ hb H' s1 => by
    cases b with
    | true => exact ⟨ρ, fr.mono s1, Acc.mono (Acc.heap s1 hb) fun c _ hc v2 H2 s2 r2 => hc v2 H2 (s1.trans s2) r2⟩
    | false => exact ⟨ρ, fr.mono s1, Acc.mono (Acc.heap s1 hb) fun c _ hc v2 H2 s2 r2 => hc v2 H2 (s1.trans s2) r2⟩⟩
end

/-! ### statements -/
section
variable {T : Tb} {ib : Bool} {X : Cx} {e : Expr} {st : Stmt} {sts : List Stmt} {pos pos' : Pos} {f g : Ro → Fl} {fe : Ev}
theorem dss_nil : DSs T ib X [] Fl.nx := .mk fun G E hp => PSs.imp pss_nil fun D σ H ⟨ρ, fr, h⟩ => h σ H fr (Pers.refl H)
theorem dss_cons (h1 : DS T ib X st f) (h2 : DSs T ib X sts g) : DSs T ib X (st :: sts) (fun ρ => (f ρ).bind g) := .mk fun G E hp =>
  PSs.imp (pss_cons (h1.run G E hp) (h2.run G E hp)) fun D σ H ⟨ρ, fr, h⟩ => ⟨ρ, fr, by
    have h : AccS T ib X G E H ((f ρ).bind g) D := h
    cases e : f ρ with
    | nx ρ' => rw [e] at h; exact fun σ' H' fr' p => ⟨ρ', fr', AccS.heap p h⟩
    | rt r => rw [e] at h; exact h
    | exc c ρ' => rw [e] at h; exact h
    | bk ρ' => rw [e] at h; exact h
    | ct ρ' => rw [e] at h; exact h
    | bad => rw [e] at h; exact h⟩
theorem dss_one (h1 : DS T ib X st f) : DSs T ib X [st] f := .mk fun G E hp => pss_one (h1.run G E hp)
@[simp] def sSet (i : Nat) (fe : Ev) (ρ : Ro) : Fl := (fe ρ).fl ρ fun d => .nx (ρ.set i (.sh d))
theorem ds_set (i : Nat) {x : Str} (hN : X.N.Nodup) (he : DE T X e fe) (hi : X.N[i]? = some x := by rfl) (hx : Loc X.env.scope x := by first | exact Or.inl rfl | exact Or.inr rfl) (hs : swapsWith e (some (.Name x pos')) pos.line X.env = pure false := by exact swaps_of rfl) (hf : X.fn x = true ∨ X.env.scope.names.lookup x = some .local := by first | exact .inl rfl | exact .inr rfl | assumption)
    (hz : T.me = none ∨ i ≠ 0 := by first | exact Or.inr (by decide) | exact Or.inl (by assumption)) :
    DS T ib X (.Assign [.Name x pos'] e pos) (sSet i fe) := .mk fun G E hp =>
  PS.imp (ps_set (X := X.wish E) hN hi hx (he.run G E hp) hs hf) fun D σ H ⟨ρ, fr, h⟩ => ⟨ρ, fr, Acc.mono (AccS.fl fr h) fun d _ hd v H1 s1 r1 => hd _ _ ((fr.mono s1).set_sh r1 hz) (Pers.of s1)⟩
theorem fresh_ne {K : PySem.W.Frag} {G H H1 : Hp} {σ : L2.St} {ρ : Ro} {a : Addr} (fr : FR T K G H σ ρ) (ha : H a = none) (j : Nat) (es : List D) (e : ρ[j]? = some (.ow es)) : σ[j]? ≠ some (some (.ref a)) := fun z => by
  obtain ⟨b, vs, e1, e2, _⟩ := fr.sl j _ e
  rw [e1] at z
  cases z
  rw [ha] at e2; cases e2
@[simp] def sSetR (i : Nat) (f : Ro → Out Rv) (ρ : Ro) : Fl := (f ρ).fl ρ fun r => .nx (ρ.set i (match r with | .sh d => .sh d | .fr ds => .ow ds))
/-- x = f(..), x = [..] where x is changed later: a fresh list is the frame's own -/
theorem ds_setR (i : Nat) {x : Str} {f : Ro → Out Rv} (hN : X.N.Nodup) (he : DR T X e f) (hi : X.N[i]? = some x := by rfl) (hx : Loc X.env.scope x := by first | exact Or.inl rfl | exact Or.inr rfl) (hs : swapsWith e (some (.Name x pos')) pos.line X.env = pure false := by exact swaps_of rfl) (hf : X.fn x = true ∨ X.env.scope.names.lookup x = some .local := by first | exact .inl rfl | exact .inr rfl | assumption)
    (hz : T.me = none ∨ i ≠ 0 := by first | exact Or.inr (by decide) | exact Or.inl (by assumption)) :
    DS T ib X (.Assign [.Name x pos'] e pos) (sSetR i f) := .mk fun G E hp =>
  PS.imp (ps_set (X := X.wish E) hN hi hx (he.run G E hp) hs hf) fun D σ H ⟨ρ, fr, h⟩ => ⟨ρ, fr, Acc.mono (AccS.fl fr h) fun r _ hr v H1 s1 r1 => by
    cases r with
    | sh d => exact hr _ _ ((fr.mono s1).set_sh r1 hz) (Pers.of s1)
    | fr ds =>
      obtain ⟨a, vs, rfl, ha', ha, rl⟩ := r1
      exact hr _ _ ((fr.mono s1).set_ow ha' (fr.same.free ha) rl (fun j es _ e => fresh_ne (H1 := H1) fr ha j es e) hz) (Pers.of s1)⟩
@[simp] def sIf (t : Ro → Out Bool) (f g : Ro → Fl) (ρ : Ro) : Fl := (t ρ).fl ρ fun b => if b = true then f ρ else g ρ
theorem ds_if {c : Expr} {a b : List Stmt} {ft : Ro → Out Bool} (hc : DT T X c ft) (ha : DSs T ib X a f) (hb : DSs T ib X b g) : DS T ib X (.If c a b pos) (sIf ft f g) := .mk fun G E hp =>
  PS.imp (ps_if (hc.run G E hp) (ha.run G E hp) (hb.run G E hp)) fun D σ H ⟨ρ, fr, h⟩ => ⟨ρ, fr, Acc.mono (AccS.fl fr h) fun b _ hb H1 s1 => by
    cases b with
    | true => exact ⟨ρ, fr.mono s1, AccS.heap (Pers.of s1) hb⟩
    | false => exact ⟨ρ, fr.mono s1, AccS.heap (Pers.of s1) hb⟩⟩
@[simp] def sRet (fe : Ev) (ρ : Ro) : Fl := (fe ρ).fl ρ fun d => .rt (.sh d)
theorem ds_ret (he : DE T X e fe) : DS T ib X (.Return (some e) pos) (sRet fe) := .mk fun G E hp =>
  PS.imp (ps_ret (he.run G E hp)) fun D σ H ⟨ρ, fr, h⟩ => ⟨ρ, fr, Acc.mono (AccS.fl fr h) fun d _ hd v H1 s1 r1 => hd v H1 (fr.same.trans s1) r1⟩
@[simp] def sRetR (f : Ro → Out Rv) (ρ : Ro) : Fl := (f ρ).fl ρ fun r => .rt r
theorem ds_retR {f : Ro → Out Rv} (he : DR T X e f) : DS T ib X (.Return (some e) pos) (sRetR f) := .mk fun G E hp =>
  PS.imp (ps_ret (he.run G E hp)) fun D σ H ⟨ρ, fr, h⟩ => ⟨ρ, fr, Acc.mono (AccS.fl fr h) fun r _ hr v H1 s1 r1 => hr v H1 (fr.same.trans s1) (by
    cases r with
    | sh d => exact r1
    | fr ds =>
      obtain ⟨a, vs, e1, e2, e3, rl⟩ := r1
      exact ⟨a, vs, e1, e2, fr.same.free e3, rl⟩)⟩
@[simp] def sRetN (ρ : Ro) : Fl := .rt (.sh .non)
theorem ds_retN : DS T ib X (.Return none pos) sRetN := .mk fun G E hp => PS.imp ps_retN fun D σ H ⟨ρ, fr, h⟩ => h .non H fr.same rfl
/-- return x, x the frame's own list (or shared) -/
@[simp] def sRetO (i : Nat) (ρ : Ro) : Fl := match ρ[i]? with
  | some (.ow ds) => .rt (.fr ds)
  | some (.sh d) => .rt (.sh d)
  | _ => .bad
theorem ds_retO (i : Nat) {x : Str} (hN : X.N[i]? = some x := by rfl) (hv : Vis X.env.scope x := by first | exact Or.inl rfl | exact Or.inr (Or.inl rfl) | exact Or.inr (Or.inr rfl)) (hd : (x == ("__debug__" : Str)) = false := by decide)
    (hcd : (x == ("__classdict__" : Str)) = false := by decide) : DS T ib X (.Return (some (.Name x pos')) pos) (sRetO i) := .mk fun G E hp =>
  PS.imp (ps_ret (pe_var (X := X.wish E) hN hv hd hcd)) fun D σ H ⟨ρ, fr, h⟩ => by
    unfold sRetO at h
    split at h
    · rename_i ds e
      obtain ⟨a, vs, e1, e2, e3, r⟩ := fr.sl i _ e
      exact ⟨_, e1, h _ H fr.same ⟨a, vs, rfl, e2, e3, r⟩⟩
    · rename_i d e
      obtain ⟨v, e1, r⟩ := fr.sl i _ e
      exact ⟨_, e1, h _ H fr.same r⟩
    · exact h.elim
@[simp] def sDrop (fe : Ev) (ρ : Ro) : Fl := (fe ρ).fl ρ fun _ => .nx ρ
theorem ds_expr (he : DE T X e fe) (hs : swapsWith e none pos.line X.env = pure false := by exact swaps_of rfl) : DS T ib X (.Expr e pos) (sDrop fe) := .mk fun G E hp =>
  PS.imp (ps_expr (X := X.wish E) (he.run G E hp) hs) fun D σ H ⟨ρ, fr, h⟩ => ⟨ρ, fr, Acc.mono (AccS.fl fr h) fun d _ hd v H1 s1 r1 => hd σ H1 (fr.mono s1) (Pers.of s1)⟩
theorem ds_pass : DS T ib X (.Pass pos) Fl.nx := .mk fun G E hp => PS.imp ps_pass fun D σ H ⟨ρ, fr, h⟩ => h σ H fr (Pers.refl H)
theorem ds_break : DS T ib X (.Break pos) Fl.bk := .mk fun G E hp => PS.imp ps_break fun D σ H ⟨ρ, fr, h⟩ => h σ H fr (Pers.refl H)
theorem ds_continue : DS T ib X (.Continue pos) Fl.ct := .mk fun G E hp => PS.imp ps_continue fun D σ H ⟨ρ, fr, h⟩ => h σ H fr (Pers.refl H)
/-- the frame's own list is shared from here on (a step of the books, ahead of a statement) -/
@[simp] def sFrz (i : Nat) (f : Ro → Fl) (ρ : Ro) : Fl := match ρ[i]? with
  | some (.ow ds) => f (ρ.set i (.sh (.lst ds)))
  | some (.sh _) => f ρ
  | _ => .bad
theorem frz_fr {K : PySem.W.Frag} {G H : Hp} {σ : L2.St} {ρ : Ro} {i : Nat} {a : Addr} {vs : List V} {ds : List D} {o : Obj} (fr : FR T K G H σ ρ) (e : ρ[i]? = some (.ow ds)) (e1 : σ[i]? = some (some (.ref a))) (e2 : H a = some (.lst vs)) (e3 : G a = none) (r : RepL T K H ds vs) :
    FR T K G (upd H a (.frz o (.lst vs))) σ (ρ.set i (.sh (.lst ds))) := by
  have hl : i < ρ.length := (List.getElem?_eq_some_iff.mp e).1
  have lt : ∀ {m : Nat} {z : Sl}, (ρ.set i (.sh (.lst ds)))[m]? = some z → m = i ∨ (m ≠ i ∧ ρ[m]? = some z) := fun {m z} q => by
    by_cases hm : m = i
    · exact .inl hm
    · rw [List.getElem?_set_ne (Ne.symm hm)] at q; exact .inr ⟨hm, q⟩
  refine ⟨fun b u q => ?_, by simp [fr.len], fun j s q => ?_, fun j k ds' es hjk q1 q2 => ?_, fr.me, me0_set (fun _ _ z => by cases z) fr.me0⟩
  · rw [upd_ne (fun z => by rw [z, e3] at q; cases q)]; exact fr.same b u q
  · rcases lt q with rfl | ⟨hj, q⟩
    · rw [List.getElem?_set_self hl] at q; cases q
      exact ⟨_, e1, a, vs, rfl, .inl ⟨o, upd_same⟩, RepL.froz e2 _ _ r⟩
    · have h := fr.sl j s q
      cases s with
      | no => trivial
      | sh d => obtain ⟨v, z1, z2⟩ := h; exact ⟨v, z1, Rep.froz e2 _ _ z2⟩
      | ow es =>
        obtain ⟨b, ws, z1, z2, z3, z4⟩ := h
        have hab : b ≠ a := fun z => fr.ne j i es ds hj q e (by rw [z1, e1, z])
        exact ⟨b, ws, z1, by rw [upd_ne hab]; exact z2, z3, RepL.froz e2 _ _ z4⟩
      | bo es => obtain ⟨b, ws, z1, z2, z4⟩ := h; exact ⟨b, ws, z1, z2, RepL.froz e2 _ _ z4⟩
      | me c es =>
        obtain ⟨b, dx, fs, z0, z1, z2, z3, z4, z5⟩ := h
        exact ⟨b, dx, fs, z0, z1, by rw [upd_ne (fun z => by rw [z, e2] at z2; cases z2)]; exact z2, z3, z4, RepL.froz e2 _ _ z5⟩
  · have hj : j ≠ i := by
      rintro rfl
      rw [List.getElem?_set_self hl] at q1; cases q1
    have hk : k ≠ i := by
      rintro rfl
      rw [List.getElem?_set_self hl] at q2; cases q2
    rw [List.getElem?_set_ne (Ne.symm hj)] at q1
    rw [List.getElem?_set_ne (Ne.symm hk)] at q2
    exact fr.ne j k ds' es hjk q1 q2
theorem dss_frz (i : Nat) (h : DSs T ib X sts f) : DSs T ib X sts (sFrz i f) := .mk fun G E hp => by
  rintro pins s σ H D I ⟨ρ, fr, q⟩
  unfold sFrz at q
  split at q
  · rename_i ds e
    obtain ⟨a, vs, e1, e2, e3, r⟩ := fr.sl i _ e
    obtain ⟨o, I2⟩ := Inv.freeze I e2
    exact h.run G E hp pins s σ _ D I2 ⟨_, frz_fr fr e e1 e2 e3 r, AccS.heap (fun b u z w => by rw [upd_ne (fun y => by rw [y, e2] at z; cases z; cases w)]; exact z) q⟩
  · exact h.run G E hp pins s σ H D I ⟨ρ, fr, q⟩
  · exact q.elim
end

/-! ### loops -/
/-- the turns of a for: b the body at an item -/
def forD (b : Ro → D → Fl) : List D → Ro → Fl
  | [], ρ => .nx ρ
  | d :: ds, ρ => match b ρ d with
    | .nx ρ' => forD b ds ρ'
    | .ct ρ' => forD b ds ρ'
    | .bk ρ' => .nx ρ'
    | o => o
/-- .. of a while, n turns at most -/
def whD (t : Ro → Out Bool) (b : Ro → Fl) : Nat → Ro → Fl
  | 0, _ => .bad
  | n + 1, ρ => (t ρ).fl ρ fun k => if k = true then (match b ρ with
    | .nx ρ' => whD t b n ρ'
    | .ct ρ' => whD t b n ρ'
    | .bk ρ' => .nx ρ'
    | o => o) else .nx ρ
section
variable {T : Tb} {ib : Bool} {X : Cx} {tg iter : Expr} {body : List Stmt} {pos : Pos} {fb : Ro → Fl}
/-- a target and what it makes of the slots -/
def TgD (T : Tb) (X : Cx) (tg : Expr) (g : Ro → D → Out Ro) : Prop := ∀ (E : Value → Shared → Prop), ∃ tgr : TG, PG (X.wish E) tg tgr ∧ ∀ (G H : Hp) (σ : L2.St) (ρ ρ' : Ro) (d : D) (v : V) (Q : L2.St → Hp → Prop), FR T X.K G H σ ρ → Rep T X.K H d v → g ρ d = .ok ρ' → (∀ σ', FR T X.K G H σ' ρ' → Q σ' H) → tgr v σ H Q
@[simp] def gSet (i : Nat) (ρ : Ro) (d : D) : Out Ro := .ok (ρ.set i (.sh d))
theorem tg_name (i : Nat) {x : Str} (hN : X.N.Nodup) (hi : X.N[i]? = some x := by rfl) (hx : Loc X.env.scope x := by first | exact Or.inl rfl | exact Or.inr rfl) (hf : X.fn x = true ∨ X.env.scope.names.lookup x = some .local := by first | exact .inl rfl | exact .inr rfl | assumption) (hz : T.me = none ∨ i ≠ 0 := by first | exact Or.inr (by decide) | exact Or.inl (by assumption)) : TgD T X (.Name x pos) (gSet i) := fun E =>
  ⟨_, pg_name (X := X.wish E) (i := i) hN hi hx hf, fun G H σ ρ ρ' d v Q fr r e k => by cases e; exact k _ (fr.set_sh r hz)⟩
@[simp] def bodyD (g : Ro → D → Out Ro) (fb : Ro → Fl) (ρ : Ro) (d : D) : Fl := match g ρ d with
  | .ok ρ' => fb ρ'
  | _ => .bad
/-- the body's end from what the whole loop is to reach -/
theorem turn_acc {G H : Hp} {E : Value → Shared → Prop} {D : Ends} {o : Fl} {N : L2.St → Hp → Prop} {k : Ro → Fl}
    (h : AccS T ib X G E H (match o with | .nx ρ' => k ρ' | .ct ρ' => k ρ' | .bk ρ' => .nx ρ' | o => o) D)
    (hN : ∀ ρ' σ' H', FR T X.K G H' σ' ρ' → Pers ib H H' → AccS T ib X G E H' (k ρ') D → N σ' H') : AccS T ib X G E H o { D with nx := N, ct := N, bk := D.nx } := by
  cases o with
  | nx ρ' => exact fun σ' H' fr p => hN ρ' σ' H' fr p (AccS.heap p h)
  | ct ρ' => exact fun σ' H' fr p => hN ρ' σ' H' fr p (AccS.heap p h)
  | bk ρ' => exact h
  | rt r => exact h
  | exc c ρ' => exact h
  | bad => exact h
theorem forD_cons (b : Ro → D → Fl) (d : D) (ds : List D) (ρ : Ro) : forD b (d :: ds) ρ = (match b ρ d with | .nx ρ' => forD b ds ρ' | .ct ρ' => forD b ds ρ' | .bk ρ' => .nx ρ' | o => o) := rfl
/-- one turn -/
theorem turn_for {g : Ro → D → Out Ro} {G H : Hp} {E : Value → Shared → Prop} {DD : Ends} {N : L2.St → Hp → Prop} {σ : L2.St} {ρ : Ro} {d : D} {ds : List D} {v : V} {tgr : TG} {tb : TS}
    (hg : ∀ (G H : Hp) (σ : L2.St) (ρ ρ' : Ro) (d : D) (v : V) (Q : L2.St → Hp → Prop), FR T X.K G H σ ρ → Rep T X.K H d v → g ρ d = .ok ρ' → (∀ σ', FR T X.K G H σ' ρ' → Q σ' H) → tgr v σ H Q)
    (htb : ∀ DD σ H, tS T ib X G E fb DD σ H → tb DD σ H)
    (fr : FR T X.K G H σ ρ) (r : Rep T X.K H d v) (h : AccS T ib X G E H (forD (bodyD g fb) (d :: ds) ρ) DD)
    (hN : ∀ ρ' σ' H', FR T X.K G H' σ' ρ' → Pers ib H H' → AccS T ib X G E H' (forD (bodyD g fb) ds ρ') DD → N σ' H') :
    tgr v σ H fun σ2 H2 => tb { DD with nx := N, ct := N, bk := DD.nx } σ2 H2 := by
  rw [forD_cons] at h
  cases e : g ρ d with
  | ok ρ' =>
    have e2 : bodyD g fb ρ d = fb ρ' := by unfold bodyD; rw [e]
    rw [e2] at h
    exact hg G H σ ρ ρ' d v _ fr r e fun σ' fr' => htb _ _ _ ⟨ρ', fr', turn_acc h hN⟩
  | exc c =>
    have e2 : bodyD g fb ρ d = .bad := by unfold bodyD; rw [e]
    rw [e2] at h; exact h.elim
  | bad =>
    have e2 : bodyD g fb ρ d = .bad := by unfold bodyD; rw [e]
    rw [e2] at h; exact h.elim

/-- a list that stays while the frame's own lists change -/
def Stb (K : PySem.W.Frag) (G H : Hp) (a : Addr) (vs : List V) : Prop := FzL K H a vs ∨ G a = some (.lst vs)
theorem Stb.sq {K : PySem.W.Frag} {G H : Hp} {a : Addr} {vs : List V} (h : Stb K G H a vs) (s : Same G H) : SqL K H a vs := by
  rcases h with h | h
  · exact h.sq
  · exact SqL.of (s _ _ h)
theorem Stb.pers {K : PySem.W.Frag} {G H H' : Hp} {a : Addr} {vs : List V} (h : Stb K G H a vs) (p : Pers ib H H') : Stb K G H' a vs := by
  rcases h with h | h
  · exact .inl (p.fz h)
  · exact .inr h
def tP (T : Tb) (X : Cx) (G : Hp) (E : Value → Shared → Prop) (f : Ro → Out (List D)) : TE := fun σ H Q => ∃ ρ, FR T X.K G H σ ρ ∧ Acc T X E σ H (f ρ) (fun ds => ∀ a vs H', Same H H' → Stb X.K G H' a vs → RepL T X.K H' ds vs → Q (.ref a) H')
structure DP (T : Tb) (X : Cx) (e : Expr) (f : Ro → Out (List D)) : Prop where
  mk ::
  run : ∀ (G : Hp) (E : Value → Shared → Prop), PassesOwn (model X.prog X.w) X.A X.env E → PE (X.wish E) e (tP T X G E f)
theorem DE.dp {e : Expr} {f : Ev} (h : DE T X e f) : DP T X e (eLst f) := .mk fun G E hp =>
  PE.imp (h.run G E hp) fun σ H Q ⟨ρ, fr, q⟩ => ⟨ρ, fr, Acc.mono (Acc.bind q) fun d _ hd v H' s1 r => by
    cases d with
    | lst ds =>
      obtain ⟨a, vs, rfl, e2, r2⟩ := r
      exact hd a vs H' s1 (.inl e2) r2
    | _ => exact hd.elim⟩
@[simp] def pVar (i : Nat) (ρ : Ro) : Out (List D) := match ρ[i]? with
  | some (.bo ds) => .ok ds
  | some (.sh (.lst ds)) => .ok ds
  | _ => .bad
theorem dp_var (i : Nat) {x : Str} (hN : X.N[i]? = some x := by rfl) (hv : Vis X.env.scope x := by first | exact Or.inl rfl | exact Or.inr (Or.inl rfl) | exact Or.inr (Or.inr rfl)) (hd : (x == ("__debug__" : Str)) = false := by decide)
    (hcd : (x == ("__classdict__" : Str)) = false := by decide) : DP T X (.Name x pos) (pVar i) := .mk fun G E hp => by
  refine PE.imp (pe_var (X := X.wish E) hN hv hd hcd) fun σ H Q ⟨ρ, fr, h⟩ => ?_
  unfold pVar at h
  split at h
  · rename_i ds e
    obtain ⟨a, vs, e1, e2, r⟩ := fr.sl i _ e
    exact ⟨_, e1, h a vs H (Same.refl H) (.inr e2) r⟩
  · rename_i ds e
    obtain ⟨v, e1, a, vs, rfl, e2, r⟩ := fr.sl i _ e
    exact ⟨_, e1, h a vs H (Same.refl H) (.inl e2) r⟩
  · exact h.elim
/-- over a list that stays -/
@[simp] def sFor (fl : Ro → Out (List D)) (g : Ro → D → Out Ro) (fb : Ro → Fl) (ρ : Ro) : Fl := (fl ρ).fl ρ fun ds => forD (bodyD g fb) ds ρ
theorem ds_forP {g : Ro → D → Out Ro} {fl : Ro → Out (List D)} (hc : X.calm = true) (hl : DP T X iter fl) (hg : TgD T X tg g) (hb : DSs T false X body fb)
    (hs : ∀ x, foldedSetIterable iter X.env x = pure x := by intro _; rfl) : DS T false X (.For tg iter body [] pos) (sFor fl g fb) := .mk fun G E hp => by
  obtain ⟨tgr, hpg, hgr⟩ := hg E
  refine PS.imp (ps_for (X := X.wish E) hp hc (pi_list (hl.run G E hp)) hpg (hb.run G E hp) hs) fun DD σ H ⟨ρ, fr, h⟩ => ⟨ρ, fr, Acc.mono (AccS.fl fr h) fun ds _ hd a vs H1 s1 st r => ?_⟩
  refine ⟨a, rfl, ⟨vs, st.sq (fr.same.trans s1)⟩, for_list (K := X.K) (a := a) (xs := vs) (fun i σ' H' => ∃ ρ', FR T X.K G H' σ' ρ' ∧ Stb X.K G H' a vs ∧ RepL T X.K H' ds vs ∧ AccS T false X G E H' (forD (bodyD g fb) (ds.drop i) ρ') DD) ?_ ?_ ?_ ?_⟩
  · exact ⟨ρ, fr.mono s1, st, r, AccS.heap (Pers.of s1) hd⟩
  · rintro i σ' H' _ ⟨ρ', fr', st', _⟩
    exact st'.sq fr'.same
  · rintro i x σ' H' e ⟨ρ', fr', st', r', ha⟩
    obtain ⟨d, e1, rd⟩ := RepL.getV _ _ _ _ r' e
    have e2 : ds.drop i = d :: ds.drop (i + 1) := by
      obtain ⟨hi, e3⟩ := List.getElem?_eq_some_iff.mp e1
      rw [List.drop_eq_getElem_cons hi, e3]
    rw [e2] at ha
    exact turn_for (ib := false) hgr (fun _ _ _ q => q) fr' rd ha fun ρ2 σ2 H2 fr2 p2 h2 => ⟨ρ2, fr2, st'.pers p2, RepL.pers p2 _ _ r', h2⟩
  · rintro σ' H' ⟨ρ', fr', st', r', ha⟩
    rw [List.drop_of_length_le (by rw [RepL.length _ _ r']; exact Nat.le_refl _)] at ha
    exact ha σ' H' fr' (Pers.refl _)
/-- over range(n) -/
@[simp] def rng1 (fe : Ev) (ρ : Ro) : Out Nat := (fe ρ).bind fun d => match d with
  | .int i => if i < 2 ^ 62 ∧ -(2 ^ 62) ≤ i then .ok i.toNat else .bad
  | _ => .bad
def rgD (lo : Int) (n : Nat) : List D := (List.range n).map fun (k : Nat) => D.int (lo + (k : Int))
theorem rgD_drop (lo : Int) (n i : Nat) (h : i < n) : (rgD lo n).drop i = D.int (lo + (i : Int)) :: (rgD lo n).drop (i + 1) := by
  have hl : i < (rgD lo n).length := by simp [rgD, h]
  rw [List.drop_eq_getElem_cons hl]
  simp [rgD]
@[simp] def sForR (fn : Ro → Out (Int × Nat)) (g : Ro → D → Out Ro) (fb : Ro → Fl) (ρ : Ro) : Fl := (fn ρ).fl ρ fun p => forD (bodyD g fb) (rgD p.1 p.2) ρ
def tN (T : Tb) (X : Cx) (G : Hp) (E : Value → Shared → Prop) (f : Ro → Out (Int × Nat)) : TI := fun σ H R => ∃ ρ, FR T X.K G H σ ρ ∧ Acc T X E σ H (f ρ) (fun p => ∀ H', Same H H' → R (Itr p.1 p.2) H')
/-- a range that is walked -/
structure DN (T : Tb) (X : Cx) (tg e : Expr) (f : Ro → Out (Int × Nat)) : Prop where
  mk ::
  run : ∀ (G : Hp) (E : Value → Shared → Prop), PassesOwn (model X.prog X.w) X.A X.env E → PI (X.wish E) tg e (tN T X G E f)
theorem PI.imp {X : Cx} {tg e : Expr} {t t' : TI} (h : PI X tg e t) (k : ∀ σ H R, t' σ H R → t σ H R) : PI X tg e t' := fun pins s σ H R I q => h pins s σ H R I (k σ H R q)
@[simp] def n1 (fe : Ev) (ρ : Ro) : Out (Int × Nat) := (fe ρ).bind fun d => match d with
  | .int i => if -(2 ^ 62) ≤ i ∧ i < 2 ^ 62 then .ok (0, i.toNat) else .bad
  | _ => .bad
@[simp] def n2 (fa fe : Ev) (ρ : Ro) : Out (Int × Nat) := (fa ρ).bind fun d => (fe ρ).bind fun d' => match d, d' with
  | .int i, .int j => if (-(2 ^ 62) ≤ i ∧ i < 2 ^ 62) ∧ -(2 ^ 62) ≤ j ∧ j < 2 ^ 62 then .ok (i, (j - i).toNat) else .bad
  | _, _ => .bad
theorem dn_1 {a : Expr} {fe : Ev} {p : Pos} (hg : Gl X "range") (hm : X.mg "range" = none) (ha : DE T X a fe) (hs : starEach [a] X.env = [(false, eval a X.env)] := by rfl) : DN T X tg (.Call (.Name "range" p) [a] [] pos) (n1 fe) := .mk fun G E hp => by
  refine PI.imp (pi_range1 (X := X.wish E) hg hm (pa_cons (X := X.wish E) (ha.run G E hp) pa_nil hs) hs) fun σ H R ⟨ρ, fr, h⟩ => ⟨ρ, fr, Acc.mono (Acc.bind h) fun d _ hd v H1 s1 r => ?_⟩
  cases d with
  | int i =>
    have hd' : Acc T X E σ H (if -(2 ^ 62) ≤ i ∧ i < 2 ^ 62 then Out.ok ((0 : Int), i.toNat) else .bad) (fun p => ∀ H', Same H H' → R (Itr p.1 p.2) H') := hd
    by_cases z : -(2 ^ 62) ≤ i ∧ i < 2 ^ 62
    · rw [if_pos z] at hd'
      exact ⟨i, by rw [show v = V.int i from r], z.1, z.2, hd' H1 s1⟩
    · rw [if_neg z] at hd'; exact hd'.elim
  | _ => exact hd.elim
theorem ds_forR {g : Ro → D → Out Ro} {fn : Ro → Out (Int × Nat)} (hc : X.calm = true) (hn : DN T X tg iter fn) (hg : TgD T X tg g) (hb : DSs T ib X body fb)
    (hs : ∀ x, foldedSetIterable iter X.env x = pure x := by intro _; rfl) : DS T ib X (.For tg iter body [] pos) (sForR fn g fb) := .mk fun G E hp => by
  obtain ⟨tgr, hpg, hgr⟩ := hg E
  refine PS.imp (ps_for (X := X.wish E) hp hc (hn.run G E hp) hpg (hb.run G E hp) hs) fun DD σ H ⟨ρ, fr, h⟩ => ⟨ρ, fr, Acc.mono (AccS.fl fr h) fun p _ hd H1 s1 => ?_⟩
  refine for_range (lo := p.1) (n := p.2) (fun i σ' H' => ∃ ρ', FR T X.K G H' σ' ρ' ∧ AccS T ib X G E H' (forD (bodyD g fb) ((rgD p.1 p.2).drop i) ρ') DD) ?_ ?_ ?_
  · exact ⟨ρ, fr.mono s1, AccS.heap (Pers.of s1) hd⟩
  · rintro i σ' H' hi ⟨ρ', fr', ha⟩
    rw [rgD_drop _ _ _ hi] at ha
    exact turn_for (ib := ib) (d := .int (p.1 + (i : Int))) hgr (fun _ _ _ q => q) fr' rfl ha fun ρ2 σ2 H2 fr2 p2 h2 => ⟨ρ2, fr2, h2⟩
  · rintro σ' H' ⟨ρ', fr', ha⟩
    rw [List.drop_of_length_le (by simp [rgD])] at ha
    exact ha σ' H' fr' (Pers.refl _)
/-- while -/
theorem ds_while {c : Expr} {ft : Ro → Out Bool} (n : Nat) (hc : DT T X c ft) (hb : DSs T ib X body fb) : DS T ib X (.While c body [] pos) (fun ρ => whD ft fb n ρ) := .mk fun G E hp => by
  refine PS.imp (ps_while (X := X.wish E) hp (hc.run G E hp) (hb.run G E hp)) fun DD σ H ⟨ρ, fr, h⟩ => ?_
  refine ⟨fun m σ' H' => ∃ ρ', FR T X.K G H' σ' ρ' ∧ AccS T ib X G E H' (whD ft fb m ρ') DD, ⟨n, ρ, fr, h⟩, ?_⟩
  rintro m σ' H' ⟨ρ', fr', ha⟩
  cases m with
  | zero => exact ha.elim
  | succ m =>
    refine ⟨ρ', fr', Acc.mono (AccS.fl fr' ha) fun k _ hk H1 s1 => ?_⟩
    cases k with
    | true =>
      refine ⟨fun σ2 H2 => ∃ ρ2, FR T X.K G H2 σ2 ρ2 ∧ AccS T ib X G E H2 (whD ft fb m ρ2) DD, fun σ2 H2 q => ⟨m, Nat.lt_succ_self m, q⟩, ρ', fr'.mono s1, ?_⟩
      have hk' : AccS T ib X G E H' (match fb ρ' with | .nx ρ2 => whD ft fb m ρ2 | .ct ρ2 => whD ft fb m ρ2 | .bk ρ2 => .nx ρ2 | o => o) DD := hk
      exact turn_acc (AccS.heap (Pers.of s1) hk') fun ρ2 σ2 H2 fr2 p2 h2 => ⟨ρ2, fr2, h2⟩
    | false => exact hk σ' H1 (fr'.mono s1) (Pers.of s1)
end
end L3

set_option Elab.async false
set_option linter.all false
set_option autoImplicit false
set_option maxRecDepth 100000
namespace L3
open PySem PySem.Spec PyProof.Rows L2

/-! ### arguments that are shared values -/
section
variable {T : Tb} {X : Cx} {e a b : Expr} {es : List Expr} {pos p : Pos} {fe fa fb : Ev} {fs : Ro → Out (List D)}
@[simp] def aNil (ρ : Ro) : Out (List D) := .ok []
@[simp] def aCons (fe : Ev) (fs : Ro → Out (List D)) (ρ : Ro) : Out (List D) := (fe ρ).bind fun d => (fs ρ).bind fun ds => .ok (d :: ds)
theorem da_nil : DA T X [] aNil := .mk fun G E hp => PA.imp pa_nil fun σ H Q ⟨ρ, fr, h⟩ => h [] H (Same.refl H) rfl
theorem da_cons (ha : DE T X e fe) (hr : DA T X es fs) (hs : starEach (e :: es) X.env = (false, eval e X.env) :: starEach es X.env := by exact star_of rfl) : DA T X (e :: es) (aCons fe fs) := .mk fun G E hp => by
  refine PA.imp (pa_cons (X := X.wish E) (ha.run G E hp) (hr.run G E hp) hs) fun σ H Q ⟨ρ, fr, h⟩ => ?_
  refine ⟨ρ, fr, Acc.mono (Acc.bind h) fun d _ hd v H1 s1 r1 => ⟨ρ, fr.mono s1, Acc.mono (Acc.bind (Acc.heap s1 hd)) fun ds _ hds vs H2 s2 r2 => ?_⟩⟩
  exact hds (v :: vs) H2 (s1.trans s2) ⟨v, vs, rfl, Rep.mono s2 _ _ r1, r2⟩
/-- a built-in that is called with shared values -/
def CaD (T : Tb) (X : Cx) (f : Value) (g : List D → Out D) : Prop := ∀ E : Value → Shared → Prop, ∃ r : List V → Hp → VK → Prop, CallR (X.wish E) f r ∧
  ∀ (ds : List D) (vs : List V) (σ : L2.St) (H : Hp) (Q : VK), RepL T X.K H ds vs → Acc T X E σ H (g ds) (kE T X.K H Q) → r vs H Q
@[simp] def eCB (g : List D → Out D) (fs : Ro → Out (List D)) (ρ : Ro) : Out D := (fs ρ).bind g
theorem tcb_use {G H : Hp} {E : Value → Shared → Prop} {σ : L2.St} {Q : VK} {g : List D → Out D} {r : List V → Hp → VK → Prop}
    (hg : ∀ (ds : List D) (vs : List V) (σ : L2.St) (H : Hp) (Q : VK), RepL T X.K H ds vs → Acc T X E σ H (g ds) (kE T X.K H Q) → r vs H Q) {ρ : Ro} (fr : FR T X.K G H σ ρ) (h : Acc T X E σ H (eCB g fs ρ) (kE T X.K H Q)) :
    tCB r (tA T X G E fs) σ H Q :=
  ⟨ρ, fr, Acc.mono (Acc.bind h) fun ds _ hd vs H1 s1 r1 => hg ds vs σ H1 Q r1 (Acc.mono (Acc.heap s1 hd) fun d _ k v H2 s2 r2 => k v H2 (s1.trans s2) r2)⟩
theorem de_callB {id : String} {x : Str} {g : List D → Out D} (hc : CaD T X (.builtin id) g) (hg : Gl X x) (hm : X.mg x = none) (hv : bootBuiltins x = some (.builtin id)) (ha : DA T X (e :: es) fs) (hn : x ≠ "__name__" := by decide) (hdb : (x == ("__debug__" : Str)) = false := by decide)
    (he : starEach (e :: es) X.env = (false, eval e X.env) :: starEach es X.env := by exact star_of rfl) (hpl : (backTo pos (starEach es X.env)).any (·.1) = false := by exact plain_of rfl) : DE T X (.Call (.Name x p) (e :: es) [] pos) (eCB g fs) := .mk fun G E hp => by
  obtain ⟨r, hr, hg'⟩ := hc E
  exact PE.imp (pe_callB (X := X.wish E) hr hg hm hv (ha.run G E hp) hn hdb he hpl) fun σ H Q ⟨ρ, fr, h⟩ => tcb_use hg' fr h
theorem de_callTy {TT : String} {x : Str} {g : List D → Out D} (hc : CaD T X (.type TT) g) (hg : Gl X x) (hm : X.mg x = none) (hv : bootBuiltins x = some (.type TT)) (ha : DA T X (e :: es) fs) (hn : x ≠ "__name__" := by decide) (hdb : (x == ("__debug__" : Str)) = false := by decide)
    (he : starEach (e :: es) X.env = (false, eval e X.env) :: starEach es X.env := by exact star_of rfl) (hpl : (backTo pos (starEach es X.env)).any (·.1) = false := by exact plain_of rfl) : DE T X (.Call (.Name x p) (e :: es) [] pos) (eCB g fs) := .mk fun G E hp => by
  obtain ⟨r, hr, hg'⟩ := hc E
  exact PE.imp (pe_callTy (X := X.wish E) hr hg hm hv (ha.run G E hp) hn hdb he hpl) fun σ H Q ⟨ρ, fr, h⟩ => tcb_use hg' fr h
theorem RepL.one {K : PySem.W.Frag} {H : Hp} {d : D} {vs : List V} (h : RepL T K H [d] vs) : ∃ v, vs = [v] ∧ Rep T K H d v := by
  obtain ⟨v, r, rfl, h1, rfl⟩ := h; exact ⟨v, rfl, h1⟩
theorem RepL.two {K : PySem.W.Frag} {H : Hp} {d d' : D} {vs : List V} (h : RepL T K H [d, d'] vs) : ∃ v v', vs = [v, v'] ∧ Rep T K H d v ∧ Rep T K H d' v' := by
  obtain ⟨v, r, rfl, h1, v', r', rfl, h2, rfl⟩ := h; exact ⟨v, v', rfl, h1, h2⟩
@[simp] def absG : List D → Out D
  | [.int i] => .ok (.int (if i < 0 then -i else i))
  | _ => .bad
theorem cd_abs : CaD T X (.builtin "abs") absG := fun E => ⟨_, call_abs, fun ds vs σ H Q r h => by
  unfold absG at h
  split at h
  · rename_i i
    obtain ⟨v, rfl, rv⟩ := r.one
    exact ⟨i, by rw [show v = V.int i from rv], h _ H (Same.refl H) rfl⟩
  · exact h.elim⟩
@[simp] def minG : List D → Out D
  | [.int i, .int j] => .ok (.int (if j < i then j else i))
  | _ => .bad
@[simp] def maxG : List D → Out D
  | [.int i, .int j] => .ok (.int (if j > i then j else i))
  | _ => .bad
theorem cd_min (hc : X.calm = true) : CaD T X (.builtin "min") minG := fun E => ⟨_, call_min2 hc, fun ds vs σ H Q r h => by
  unfold minG at h
  split at h
  · rename_i i j
    obtain ⟨v, v', rfl, rv, rv'⟩ := r.two
    exact ⟨i, j, by rw [show v = V.int i from rv, show v' = V.int j from rv'], h _ H (Same.refl H) rfl⟩
  · exact h.elim⟩
theorem cd_max (hc : X.calm = true) : CaD T X (.builtin "max") maxG := fun E => ⟨_, call_max2 hc, fun ds vs σ H Q r h => by
  unfold maxG at h
  split at h
  · rename_i i j
    obtain ⟨v, v', rfl, rv, rv'⟩ := r.two
    exact ⟨i, j, by rw [show v = V.int i from rv, show v' = V.int j from rv'], h _ H (Same.refl H) rfl⟩
  · exact h.elim⟩
@[simp] def lenG : List D → Out D
  | [.str x] => if x.length ≤ 1000000 then .ok (.int x.length) else .bad
  | [.tup ds] => .ok (.int ds.length)
  | [.lst ds] => .ok (.int ds.length)
  | _ => .bad
theorem cd_len : CaD T X (.builtin "len") lenG := fun E => ⟨_, call_len, fun ds vs σ H Q r h => by
  unfold lenG at h
  split at h
  · rename_i x
    obtain ⟨v, rfl, rv⟩ := r.one
    by_cases z : x.length ≤ 1000000
    · rw [if_pos z] at h
      exact ⟨v, x.length, rfl, by rw [show v = V.str x from rv]; exact ⟨line6 z, rfl⟩, h _ H (Same.refl H) rfl⟩
    · rw [if_neg z] at h; exact h.elim
  · rename_i es
    obtain ⟨v, rfl, a, us, rfl, e, rl⟩ := r.one
    exact ⟨_, us.length, rfl, .inr ⟨us, e, rfl⟩, h _ H (Same.refl H) (by rw [RepL.length _ _ rl]; exact rfl)⟩
  · rename_i es
    obtain ⟨v, rfl, a, us, rfl, e, rl⟩ := r.one
    exact ⟨_, us.length, rfl, .inl ⟨us, e.sq, rfl⟩, h _ H (Same.refl H) (by rw [RepL.length _ _ rl]; exact rfl)⟩
  · exact h.elim⟩
/-- len of a list that is read -/
@[simp] def eLen (fl : Ro → Out (List D)) (ρ : Ro) : Out D := (fl ρ).bind fun ds => .ok (.int ds.length)
theorem de_lenL {fl : Ro → Out (List D)} (hg : Gl X "len") (hm : X.mg "len" = none) (hl : DL T X e fl) (he : starEach [e] X.env = [(false, eval e X.env)] := by rfl) : DE T X (.Call (.Name "len" p) [e] [] pos) (eLen fl) := .mk fun G E hp =>
  PE.imp (pe_callB (X := X.wish E) call_len hg hm rfl (pa_cons (X := X.wish E) (hl.run G E hp) pa_nil he) (by decide) (by decide) he rfl) fun σ H Q ⟨ρ, fr, h⟩ => ⟨ρ, fr, Acc.mono (Acc.bind h) fun ds _ hd a vs H1 s1 sq r =>
    ⟨_, vs.length, rfl, .inl ⟨vs, sq, rfl⟩, hd _ H1 s1 (by rw [RepL.length _ _ r]; exact rfl)⟩⟩
/-! isinstance -/
def tyVal (T : Tb) : D → Value
  | .non => .type "NoneType"
  | .bl _ => .type "bool"
  | .int _ => .type "int"
  | .str _ => .type "str"
  | .tup _ => .type "tuple"
  | .lst _ => .type "list"
  | .ins c _ => .ref (T.ca c)
  | .exc c => .ref (T.ca c)
/-! isinstance(e, C) of an exception that was caught, where it is one -/
theorem exc_ans {K : PySem.W.Frag} {ea : Addr} {t c : Value} (e : PySem.W.kitOne K t c = some true) : Answers (fun s => K.In s.heap ∧ ∃ o, s.heap.get? ea = some o ∧ o.cls = t) (.ref ea) c true := by
  intro dep tk prog w A R s hs
  obtain ⟨h0, g, d, tt, os⟩ := s
  obtain ⟨⟨XI, ob, hob, hoc⟩, hq⟩ := hs
  have LT : PySem.W.Looks (model prog w) h0 (typeOf (.ref ea)) t := hoc ▸ (PySem.W.Looks.ld hob).andThen .now
  unfold PySem.W.kitOne at e
  unfold Builtin.«isinstance.nested»
  refine wpAny_bind (LT.at ?_)
  by_cases q : (t == c) = true
  · rw [if_pos q]
    exact wpAny_bind (wpAny_rule (wpAny_pure (hq tt)))
  · rw [if_neg q] at e
    rw [if_neg q]
    obtain ⟨hty, his, hsub⟩ := PySem.W.kit_cls (M := model prog w) XI e
    have LI : PySem.W.Looks (model prog w) h0 (isInstance (.ref ea) c) true := LT.andThen hsub
    refine wpAny_bind (hty.at ?_)
    rw [if_pos (by decide)]
    k_delta "plainIsInstance"
    refine wpAny_bind (wpAny_bind (his.at ?_))
    simp only [Bool.not_true, Bool.false_eq_true, if_false]
    refine wpAny_bind (LI.at ?_)
    first
      | exact wpAny_pure (wpAny_pure (hq tt))
      | (simp only [if_true]; first | exact wpAny_pure (wpAny_pure (hq tt)) | exact wpAny_pure (hq tt) | exact wpAny_bind (wpAny_pure (wpAny_pure (hq tt))))
structure InsI (K : PySem.W.Frag) (C : Addr) : Prop where
  cl : Cls K C
  ha : PySem.W.findIn K (.ref C) "__class__" = some (some (.builtin "object.__class__"))
  hn : PySem.W.specialIn K (.builtin "object.__class__") "__get__" = some (some (.builtin "getset_descriptor.__get__"))
  htk : PySem.W.takesIn K (.builtin "object.__class__") = some true
  hm : PySem.W.mroIn K C (.type "object") = some true
/-- isinstance(d, cls) as the deciders tell; g says for which values it is asked -/
def IsiOk (T : Tb) (K : PySem.W.Frag) (cls : Value) (g : D → Out Bool) : Prop := ∀ d b, g d = .ok b → PySem.W.kitOne K (tyVal T d) cls = some b ∧ (∀ c ds, d = .ins c ds → InsI K (T.ca c)) ∧ ∀ c, d = .exc c → b = true
theorem isi_run {pins : List (Addr × Obj)} {σ : L2.St} {H : Hp} {s : Shared} {A : Around} {E : Value → Shared → Prop} {Q : Value → Shared → Prop} {cls u : Value} {d : D} {v : V} {k : Bool} (I : Inv X pins σ H s) (rv : RelV v u) (r : Rep T X.K H d v)
    (hk : PySem.W.kitOne X.K (tyVal T d) cls = some k) (hi : ∀ c ds, d = .ins c ds → InsI X.K (T.ca c)) (hx : ∀ c, d = .exc c → k = true) (h : ∀ tk, Q (.bool k) { s with toks := tk }) : wpAny (model X.prog X.w) A (call (.builtin "isinstance") [u, cls]) Q E s := by
  cases d with
  | non => cases r; exact isinst_ok I rv .non hk h
  | bl y => cases r; exact isinst_ok I rv (.bl y) hk h
  | int i => cases r; exact isinst_ok I rv (.int i) hk h
  | str y => cases r; exact isinst_ok I rv (.str y) hk h
  | tup ds =>
    obtain ⟨a, vs, rfl, e, _⟩ := r
    cases (show u = Value.ref a from rv)
    obtain ⟨its, _, ⟨o, h1, h2, _⟩, _⟩ := I.tuple e
    exact PySem.W.kia_one PySem.W.kitx_tuple I.kIn ⟨o, h1, h2⟩ hk (fun z => nomatch z) h
  | lst ds =>
    obtain ⟨a, vs, rfl, e, _⟩ := r
    cases (show u = Value.ref a from rv)
    obtain ⟨its, _, ⟨o, n, h1, h2, _⟩, _⟩ := I.list e.sq
    exact PySem.W.kia_one PySem.W.kitx_list I.kIn ⟨o, h1, h2⟩ hk (fun z => nomatch z) h
  | ins c ds =>
    obtain ⟨a, dx, fs, rfl, e, _⟩ := r
    obtain ⟨cl, ha, hn, htk, hm⟩ := hi c ds rfl
    exact isinst_ok I rv (.ins e cl ha hn htk hm) hk h
  | exc c =>
    obtain ⟨a, φ, rfl, e1, e2⟩ := r
    cases (show u = Value.ref a from rv)
    have hk2 := hx c rfl
    subst hk2
    obtain ⟨hφ, _⟩ := (show ObjOk X.prog X.w H s.heap a (.ext φ) from I.hok a _ e1)
    exact call_isinstance (S := fun _ R s => (X.K.In s.heap ∧ ∃ o, s.heap.get? a = some o ∧ o.cls = .ref (T.ca c)) ∧ ∀ tk, R (.ok (.ret (.bool true))) { s with toks := tk })
      (fun prog w A R s hs => isinstance_outer (exc_ans hk 0 _ prog w A R s hs) (by intro z; cases z)) ⟨⟨I.kIn, e2 _ hφ⟩, h⟩
@[simp] def eIsi (g : D → Out Bool) (fe : Ev) (ρ : Ro) : Out D := (fe ρ).bind fun d => (g d).bind fun b => .ok (.bl b)
/-- isinstance(e, C), C by its name: clsv its value -/
theorem de_isi {c : Str} {cv : V} {clsv : Value} {g : D → Out Bool} {p2 : Pos} (hg : Gl X "isinstance") (hm : X.mg "isinstance" = none) (ha : DE T X e fe) (hc : ∀ E, PE (X.wish E) (.Name c p2) (tC cv)) (rc : ∀ u, RelV cv u → u = clsv) (hi : IsiOk T X.K clsv g)
    (hng : ∀ d cc, g d ≠ .exc cc) (hs1 : starEach [e, .Name c p2] X.env = (false, eval e X.env) :: starEach [.Name c p2] X.env := by rfl) : DE T X (.Call (.Name "isinstance" p) [e, .Name c p2] [] pos) (eIsi g fe) := .mk fun G E hp => by
  rintro pins s σ H Q I ⟨ρ, fr, h⟩
  refine wpAny_Call_Name_kw (ld_blt (X := X.wish E) I hg hm (u := .builtin "isinstance") rfl ?_)
  refine PyProof.Rows.callWith_builtin1 (thn ((pa_cons (X := X.wish E) (ha.run G E hp) (pa_cons (X := X.wish E) (hc E) pa_nil rfl) hs1) pos pins s σ H (fun vs H1 => ∃ d v, vs = [v, cv] ∧ Same H H1 ∧ Rep T X.K H1 d v ∧ Acc T X E σ H ((g d).bind fun b => .ok (.bl b)) (kE T X.K H Q)) I ⟨ρ, fr, Acc.mono (Acc.bind h) fun d _ hd v H1 s1 r1 => ⟨d, v, rfl, s1, r1, hd⟩⟩) fun us s1 ⟨vs, H1, I1, rvs, d, v, ev, sm, rd, hd⟩ => ?_) hs1 rfl
  subst ev
  obtain ⟨u, u', rfl, r1, r2⟩ := Vals.two rvs
  obtain rfl := rc u' r2
  cases e1 : g d with
  | ok k =>
    rw [e1] at hd
    obtain ⟨z1, z2, z3⟩ := hi d k e1
    exact isi_run (X := X.wish E) I1 r1 rd z1 z2 z3 fun tk => ⟨.bl k, H1, I1.tok _, rfl, hd _ H1 sm rfl⟩
  | exc cc => exact absurd e1 (hng d cc)
  | bad => rw [e1] at hd; exact hd.elim
/-! subscripts -/
@[simp] def atD (ds : List D) (i : Int) : Out D := match atI ds i with
  | some d => .ok d
  | none => .bad
theorem RepL.at {K : PySem.W.Frag} {H : Hp} {ds : List D} {vs : List V} {i : Int} {d : D} (r : RepL T K H ds vs) (h : atI ds i = some d) : ∃ v, atI vs i = some v ∧ Rep T K H d v := by
  obtain ⟨j, e1, e2, e3, e4, e5⟩ := atI_get h
  obtain ⟨v, e6, e7⟩ := RepL.get _ _ _ _ r e2
  refine ⟨v, ?_, e7⟩
  have hl := RepL.length _ _ r
  unfold atI at h ⊢
  rw [hl]
  cases z : ixN ds.length i with
  | none => rw [z] at h; cases h
  | some k =>
    have : k = j := by
      have := (ixN_seq z).1
      rw [e1] at this; exact (Option.some.inj this).symm
    subst this
    exact e6
/-- what is subscripted: tuples, lists, texts -/
@[simp] def ixD : D → D → Out D
  | .tup ds, .int i => atD ds i
  | .lst ds, .int i => atD ds i
  | .str z, .int i => if z.length ≤ 1000000 then (match atI z.cps.toList i with | some c => .ok (.str ⟨#[c]⟩) | none => .bad) else .bad
  | _, _ => .bad
theorem de_ix (ha : DE T X a fa) (hb : DE T X b fb) (hs : PlainIx b := by exact fun _ _ => rfl) : DE T X (.Subscript a b pos) (e2 ixD fa fb) := .mk fun G E hp => by
  refine PE.imp (pe_ix (X := X.wish E) (IxR.or (IxR.or ix_list ix_tup) ix_str) (ha.run G E hp) (hb.run G E hp) hs) fun σ H Q ⟨ρ, fr, h⟩ => e2_use (T := T) (g := ixD) (fun dx dy x y σ H Q rx ry q => ?_) fr h
  have key : ∀ (ds : List D) (i : Int) (vs : List V), RepL T X.K H ds vs → Acc T X E σ H (atD ds i) (kE T X.K H Q) → ∃ v, atI vs i = some v ∧ Q v H := fun ds i vs r q => by
    unfold atD at q
    split at q
    · rename_i d e
      obtain ⟨v, e1, rd⟩ := r.at e
      exact ⟨v, e1, q v H (Same.refl H) rd⟩
    · exact q.elim
  cases dy with
  | int i =>
    cases dx with
    | tup ds =>
      obtain ⟨a, vs, rfl, sq, r⟩ := rx
      obtain ⟨v, e1, q⟩ := key ds i vs r q
      exact .inl (.inr ⟨a, vs, i, v, rfl, ry, sq, e1, q⟩)
    | lst ds =>
      obtain ⟨a, vs, rfl, sq, r⟩ := rx
      obtain ⟨v, e1, q⟩ := key ds i vs r q
      exact .inl (.inl ⟨a, vs, i, v, rfl, ry, sq.sq, e1, q⟩)
    | str z =>
      have q' : Acc T X E σ H (if z.length ≤ 1000000 then (match atI z.cps.toList i with | some c => .ok (.str ⟨#[c]⟩) | none => .bad) else .bad) (kE T X.K H Q) := q
      by_cases hz : z.length ≤ 1000000
      · rw [if_pos hz] at q'
        split at q'
        · rename_i c e
          exact .inr ⟨z, i, c, rx, ry, line6 hz, e, q' _ H (Same.refl H) rfl⟩
        · exact q'.elim
      · rw [if_neg hz] at q'; exact q'.elim
    | _ => exact q.elim
  | _ => first | exact q.elim | (cases dx <;> exact q.elim)
/-- xs[i], a list that is read -/
@[simp] def eIxL (fl : Ro → Out (List D)) (fb : Ev) (ρ : Ro) : Out D := (fl ρ).bind fun ds => (fb ρ).bind fun d => match d with
  | .int i => atD ds i
  | _ => .bad
theorem de_ixL {fl : Ro → Out (List D)} (ha : DL T X a fl) (hb : DE T X b fb) (hs : PlainIx b := by exact fun _ _ => rfl) : DE T X (.Subscript a b pos) (eIxL fl fb) := .mk fun G E hp => by
  refine PE.imp (pe_ix (X := X.wish E) ix_list (ha.run G E hp) (hb.run G E hp) hs) fun σ H Q ⟨ρ, fr, h⟩ => ⟨ρ, fr, Acc.mono (Acc.bind h) fun ds _ hd a vs H1 s1 sq r => ⟨ρ, fr.mono s1, Acc.mono (Acc.bind (Acc.heap s1 hd)) fun d _ hd2 v H2 s2 r2 => ?_⟩⟩
  cases d with
  | int i =>
    have hd3 : Acc T X E σ H1 (atD ds i) (kE T X.K H Q) := hd2
    unfold atD at hd3
    split at hd3
    · rename_i d e
      obtain ⟨w, e1, rd⟩ := (RepL.mono s2 _ _ r).at e
      exact ⟨a, vs, i, w, rfl, r2, s2.seq sq, e1, hd3 w H2 (s1.trans s2) rd⟩
    · exact hd3.elim
  | _ => exact hd2.elim
/-! displays -/
@[simp] def eTup (fs : Ro → Out (List D)) (ρ : Ro) : Out D := (fs ρ).bind fun ds => if ds.length ≤ 1000000 then .ok (.tup ds) else .bad
theorem de_tup {x1} (h : DA T X es fs) : DE T X (.Tuple es x1 pos) (eTup fs) := .mk fun G E hp =>
  PE.imp (pe_tup (X := X.wish E) (h.run G E hp)) fun σ H Q ⟨ρ, fr, q⟩ => ⟨ρ, fr, Acc.mono (Acc.bind q) fun ds _ hd vs H1 s1 r => by
    have hl := RepL.length _ _ r
    by_cases z : ds.length ≤ 1000000
    · rw [if_pos z] at hd
      exact ⟨by rw [hl]; exact line6 z, fun p hp' => hd _ _ (s1.trans (same_upd hp')) ⟨p, vs, rfl, SqT.of upd_same, RepL.mono (same_upd hp') _ _ r⟩⟩
    · rw [if_neg z] at hd; exact hd.elim⟩
@[simp] def fDisp (fs : Ro → Out (List D)) (ρ : Ro) : Out (List D) := (fs ρ).bind fun ds => if ds.length ≤ 1000000 then .ok ds else .bad
theorem df_lst (h : DA T X es fs) : DF T X (.List es pos) (fDisp fs) := .mk fun G E hp =>
  PE.imp (pe_lst (X := X.wish E) (h.run G E hp)) fun σ H Q ⟨ρ, fr, q⟩ => ⟨ρ, fr, Acc.mono (Acc.bind q) fun ds _ hd vs H1 s1 r => by
    have hl := RepL.length _ _ r
    by_cases z : ds.length ≤ 1000000
    · rw [if_pos z] at hd
      exact ⟨by rw [hl]; exact line6 z, fun p hp' => hd p vs _ (s1.trans (same_upd hp')) (s1.free hp') upd_same (RepL.mono (same_upd hp') _ _ r)⟩
    · rw [if_neg z] at hd; exact hd.elim⟩
/-! + of ints and texts; == of what holds no object -/
@[simp] def addD : D → D → Out D
  | .int i, .int j => .ok (.int (i + j))
  | .str x, .str y => if x.length + y.length ≤ 1000000 then .ok (.str (x ++ y)) else .bad
  | _, _ => .bad
theorem od_add : OpD T X (binaryOp .Add) addD := fun E => ⟨_, OpR.or op_add op_add_str, fun dx dy x y σ H Q rx ry q => by
  cases dx with
  | int i =>
    cases dy with
    | int j => exact .inl ⟨i, j, rx, ry, q _ H (Same.refl H) rfl⟩
    | _ => exact q.elim
  | str u =>
    cases dy with
    | str v =>
      have q' : Acc T X E σ H (if u.length + v.length ≤ 1000000 then .ok (.str (u ++ v)) else .bad) (kE T X.K H Q) := q
      by_cases z : u.length + v.length ≤ 1000000
      · rw [if_pos z] at q'
        exact .inr ⟨u, v, rx, ry, line6 z, q' _ H (Same.refl H) rfl⟩
      · rw [if_neg z] at q'; exact q'.elim
    | _ => exact q.elim
  | _ => first | exact q.elim | (cases dy <;> exact q.elim)⟩
@[simp] def eqS : D → D → Out Bool
  | .int i, .int j => .ok (decide (i = j))
  | .bl i, .bl j => .ok (decide (i = j))
  | .str i, .str j => .ok (decide (i = j))
  | .non, .non => .ok true
  | _, _ => .bad
@[simp] def bD (neg : Bool) (o : Out Bool) : Out D := o.bind fun b => .ok (.bl (if neg then !b else b))
theorem od_eqS (neg : Bool) (op : CmpOp) (ho : ∀ E, OpR (X.wish E) (compareOp op) (fun x y H Q => scal x y = true ∧ Q (.bl (if neg then !decide (x = y) else decide (x = y))) H)) : OpD T X (compareOp op) (fun a b => bD neg (eqS a b)) := fun E => ⟨_, ho E, fun dx dy x y σ H Q rx ry q => by
  have key : ∀ (k : Bool), scal x y = true → decide (x = y) = k → eqS dx dy = .ok k → scal x y = true ∧ Q (.bl (if neg then !decide (x = y) else decide (x = y))) H := fun k h1 h2 h3 => by
    have q' : Acc T X E σ H (bD neg (eqS dx dy)) (kE T X.K H Q) := q
    rw [h3] at q'
    refine ⟨h1, ?_⟩
    rw [h2]
    exact q' _ H (Same.refl H) rfl
  cases dx with
  | int i =>
    cases dy with
    | int j => cases rx; cases ry; exact key _ rfl (by simp) rfl
    | _ => exact q.elim
  | bl i =>
    cases dy with
    | bl j => cases rx; cases ry; exact key _ rfl (by simp) rfl
    | _ => exact q.elim
  | str i =>
    cases dy with
    | str j => cases rx; cases ry; exact key _ rfl (by simp) rfl
    | _ => exact q.elim
  | non =>
    cases dy with
    | non => cases rx; cases ry; exact key true rfl (by simp) rfl
    | _ => exact q.elim
  | _ => first | exact q.elim | (cases dy <;> exact q.elim)⟩
theorem od_eq : OpD T X (compareOp .Eq) (fun a b => bD false (eqS a b)) := od_eqS false .Eq fun E => op_eq
theorem od_ne : OpD T X (compareOp .NotEq) (fun a b => bD true (eqS a b)) := od_eqS true .NotEq fun E => op_ne
end
end L3

set_option Elab.async false
set_option linter.all false
set_option autoImplicit false
set_option maxRecDepth 100000
namespace L3
open PySem PySem.Spec PyProof.Rows L2

section
variable {T : Tb} {X : Cx} {e : Expr} {pos p : Pos} {fe : Ev}
/-- isinstance(e, t), t a built-in type -/
theorem de_isiB {c : Str} {t : String} {g : D → Out Bool} {p2 : Pos} (hg : Gl X "isinstance") (hm : X.mg "isinstance" = none) (ha : DE T X e fe) (hgc : Gl X c) (hmc : X.mg c = none) (hv : bootBuiltins c = some (.type t)) (hi : IsiOk T X.K (.type t) g)
    (hng : ∀ d cc, g d ≠ .exc cc) (hs1 : starEach [e, .Name c p2] X.env = (false, eval e X.env) :: starEach [.Name c p2] X.env := by rfl) (hn : c ≠ "__name__" := by decide) (hd : (c == ("__debug__" : Str)) = false := by decide) : DE T X (.Call (.Name "isinstance" p) [e, .Name c p2] [] pos) (eIsi g fe) :=
  de_isi (cv := .ty t) (clsv := .type t) hg hm ha (fun E => pe_bltn (X := X.wish E) hgc hmc hv rfl hn hd) (fun u r => r) hi hng hs1
@[simp] def g_int : D → Out Bool
  | .int _ => .ok true
  | .bl _ => .ok true
  | .non => .ok false
  | .str _ => .ok false
  | .tup _ => .ok false
  | .lst _ => .ok false
  | _ => .bad
@[simp] def g_bool : D → Out Bool
  | .bl _ => .ok true
  | .int _ => .ok false
  | .non => .ok false
  | .str _ => .ok false
  | .tup _ => .ok false
  | .lst _ => .ok false
  | _ => .bad
@[simp] def g_str : D → Out Bool
  | .str _ => .ok true
  | .bl _ => .ok false
  | .int _ => .ok false
  | .non => .ok false
  | .tup _ => .ok false
  | .lst _ => .ok false
  | _ => .bad
@[simp] def g_list : D → Out Bool
  | .lst _ => .ok true
  | .bl _ => .ok false
  | .int _ => .ok false
  | .non => .ok false
  | .str _ => .ok false
  | .tup _ => .ok false
  | _ => .bad
@[simp] def g_tuple : D → Out Bool
  | .tup _ => .ok true
  | .bl _ => .ok false
  | .int _ => .ok false
  | .non => .ok false
  | .str _ => .ok false
  | .lst _ => .ok false
  | _ => .bad
theorem isi_int {K : PySem.W.Frag} : IsiOk T K (.type "int") g_int := fun d b h => by
  cases d <;> first | (cases h; exact ⟨(by with_unfolding_all rfl), (fun _ _ z => by cases z), (fun _ z => by cases z)⟩) | (cases h)
theorem isi_bool {K : PySem.W.Frag} : IsiOk T K (.type "bool") g_bool := fun d b h => by
  cases d <;> first | (cases h; exact ⟨(by with_unfolding_all rfl), (fun _ _ z => by cases z), (fun _ z => by cases z)⟩) | (cases h)
theorem isi_str {K : PySem.W.Frag} : IsiOk T K (.type "str") g_str := fun d b h => by
  cases d <;> first | (cases h; exact ⟨(by with_unfolding_all rfl), (fun _ _ z => by cases z), (fun _ z => by cases z)⟩) | (cases h)
theorem isi_list {K : PySem.W.Frag} : IsiOk T K (.type "list") g_list := fun d b h => by
  cases d <;> first | (cases h; exact ⟨(by with_unfolding_all rfl), (fun _ _ z => by cases z), (fun _ z => by cases z)⟩) | (cases h)
theorem isi_tuple {K : PySem.W.Frag} : IsiOk T K (.type "tuple") g_tuple := fun d b h => by
  cases d <;> first | (cases h; exact ⟨(by with_unfolding_all rfl), (fun _ _ z => by cases z), (fun _ z => by cases z)⟩) | (cases h)
theorem isi_int_ne (d : D) (c : Nat) : g_int d ≠ .exc c := by cases d <;> (intro h; cases h)
theorem isi_bool_ne (d : D) (c : Nat) : g_bool d ≠ .exc c := by cases d <;> (intro h; cases h)
theorem isi_str_ne (d : D) (c : Nat) : g_str d ≠ .exc c := by cases d <;> (intro h; cases h)
theorem isi_list_ne (d : D) (c : Nat) : g_list d ≠ .exc c := by cases d <;> (intro h; cases h)
theorem isi_tuple_ne (d : D) (c : Nat) : g_tuple d ≠ .exc c := by cases d <;> (intro h; cases h)
end

/-! ### the head: the law's pure function gives True at every script -/
theorem walk_D {l : PySem.W.OpenLaw} {k : Nat} {q : Program} {loose : List Str} {XP : (Str → Option Value) → Heap → Prop} {YP : World → Heap → Prop} {d : DefRec} {K : Params → PySem.W.Frag} {x : Str} {F : Fn}
    (hn : l.most = some 63) (hdf : d.params.defaults = []) (hr : Room k callerA) (hY : ∀ (w : World) (h : Heap), YP w h → (K w.params).In h)
    (FF : ∀ (w : World) (mg : Str → Option Value) (fa : Addr) (h : Heap), (K w.params).In h → h.Ns mainGlobals mg → mg d.name = some (.ref fa) →
      ∃ fd : FuncData, (∀ (s : Shared) (u : Value), BindsTo s fd ⟨[u], []⟩ [(x, u)]) ∧ ∃ T : Tb, ∀ base : Heap, (K w.params).In base → base.Ns mainGlobals mg → FnOk l.prog w (K w.params) mg base (CXE T l.prog w) k fa fd [x] (spD T (K w.params) 1 F))
    (hL : ∀ ns : List Int, ns.length ≤ 63 → F [.sh (.lst (ns.map D.int))] = .ok (.sh (.bl true))) :
    PySem.W.WalkO q loose XP YP l.row.toRowW d [] (fun f vs => PySem.call f vs) := by
  refine Att.attach_call hn hdf fun w s₀ s₁ mg mb fa o pm cd doc a vs ns G Y ho hd hcd hmg hobj hints hlen hg => ?_
  have KX := hY w _ Y
  obtain ⟨fd, hb, T, hF⟩ := FF w mg fa _ KX G.T.g hmg
  refine law_call KX G.T.g G.T.b G.T.builtins G.T.nolimit hg hobj hints (Nat.le_trans hlen (by rw [sizeLine_eq]; decide)) hr hF hb (fun H hO hS => ?_) fun H e s' h => ?_
  · refine ⟨[.sh (.lst (ns.map D.int))], ⟨_, [], rfl, ⟨a, ns.map V.int, rfl, ?_, RepL.ints ns⟩, rfl⟩, rfl, ?_⟩
    · rcases hS with (h | ⟨ob, h⟩) | h
      · rcases hO a with z | ⟨_, _, z⟩
        · rw [h] at z; cases z
        · rw [h] at z; cases z
      · exact .inl ⟨ob, h⟩
      · exact .inr h
    · rw [hL ns hlen]
      exact fun v H' _ r => r
  · obtain ⟨_, _, _, _, _, _, _, _, _, z⟩ := h
    exact z
end L3

set_option Elab.async false
set_option linter.all false
set_option autoImplicit false
set_option maxRecDepth 100000
namespace L3
open PySem PySem.Spec PyProof.Rows L2

/-! ### f-strings -/
theorem int_len {a : Int} (h : a.natAbs.log2 < 1920) : (Str.ofString (toString a)).length ≤ 1921 := by
  have e := int_text_length_le (k := 1920) (by decide) h
  rw [PySem.ofString_length]; exact e
/-- the text of a field -/
@[simp] def fmtD : D → Out Str
  | .int i => if i.natAbs.log2 < 1920 then .ok (toString i) else .bad
  | .str x => if x.length ≤ 200000 then .ok x else .bad
  | _ => .bad
@[simp] def reprD : D → Out Str
  | .int i => if i.natAbs.log2 < 1920 then .ok (toString i) else .bad
  | .str x => if (reprText x).length ≤ 200000 then .ok (reprText x) else .bad
  | _ => .bad
theorem fmt_ne (d : D) (c : Nat) : fmtD d ≠ .exc c := by
  cases d <;> (intro h; first | cases h | (simp only [fmtD] at h; split at h <;> cases h))
theorem repr_ne (d : D) (c : Nat) : reprD d ≠ .exc c := by
  cases d <;> (intro h; first | cases h | (simp only [reprD] at h; split at h <;> cases h))
section
variable {T : Tb} {X : Cx} {e v : Expr} {es : List Expr} {pos p : Pos} {fe : Ev} {fs : Ro → Option (List Str)}
theorem fmt_run {M : Program} {w : World} {A : Around} {E : Value → Shared → Prop} {pins : List (Addr × Obj)} {σ : L2.St} {H : Hp} {s : Shared} {d : D} {x : V} {u : Value} {y : Str} {Q : Value → Shared → Prop} (r : Rep T X.K H d x) (rv : RelV x u) (e : fmtD d = .ok y) (k : ∀ t tk, y.length ≤ 200000 → Q (.str y t) { s with toks := tk }) :
    wpAny (model M w) A (formatField u Str.empty) Q E s := by
  cases d with
  | int i =>
    obtain rfl : x = V.int i := r
    obtain ⟨t, rfl⟩ := rv
    have e' : (if i.natAbs.log2 < 1920 then Out.ok (toString i : Str) else .bad) = .ok y := e
    by_cases z : i.natAbs.log2 < 1920
    · rw [if_pos z] at e'
      cases e'
      exact formatField_int_small z (k _ _ (by have := int_len z; omega))
    · rw [if_neg z] at e'; cases e'
  | str z =>
    obtain rfl : x = V.str z := r
    obtain ⟨t, rfl⟩ := rv
    have e' : (if z.length ≤ 200000 then Out.ok z else .bad) = .ok y := e
    by_cases h : z.length ≤ 200000
    · rw [if_pos h] at e'
      cases e'
      exact formatField_str (fun t' tk => k t' tk h) (by rw [sizeLine_eq]; omega)
    · rw [if_neg h] at e'; cases e'
  | _ => cases e
theorem repr_run {M : Program} {w : World} {A : Around} {E : Value → Shared → Prop} {σ : L2.St} {H : Hp} {s : Shared} {d : D} {x : V} {u : Value} {y : Str} {Q : Value → Shared → Prop} (r : Rep T X.K H d x) (rv : RelV x u) (e : reprD d = .ok y) (k : ∀ t tk, y.length ≤ 200000 → Q (.str y t) { s with toks := tk }) :
    wpAny (model M w) A (pyReprObj u) (fun r s₂ => wpAny (model M w) A (formatField r Str.empty) Q E s₂) E s := by
  have fin : ∀ (y : Str) (t : Tok) (tk : Nat), y.length ≤ 200000 → (∀ t tk, y.length ≤ 200000 → Q (.str y t) { s with toks := tk }) → wpAny (model M w) A (formatField (.str y t) Str.empty) Q E { s with toks := tk } := fun y t tk hy k => formatField_str (fun t' tk' => k t' tk' hy) (by rw [sizeLine_eq]; omega)
  cases d with
  | int i =>
    obtain rfl : x = V.int i := r
    obtain ⟨t, rfl⟩ := rv
    have e' : (if i.natAbs.log2 < 1920 then Out.ok (toString i : Str) else .bad) = .ok y := e
    by_cases z : i.natAbs.log2 < 1920
    · rw [if_pos z] at e'
      cases e'
      exact pyReprObj_int z (fin _ _ _ (by have := int_len z; omega) k)
    · rw [if_neg z] at e'; cases e'
  | str z =>
    obtain rfl : x = V.str z := r
    obtain ⟨t, rfl⟩ := rv
    have e' : (if (reprText z).length ≤ 200000 then Out.ok (reprText z) else .bad) = .ok y := e
    by_cases h : (reprText z).length ≤ 200000
    · rw [if_pos h] at e'
      cases e'
      exact pyReprObj_str (fin _ _ _ h k) (by rw [sizeLine_eq]; omega)
    · rw [if_neg h] at e'; cases e'
  | _ => cases e
/-- the parts of an f-string -/
structure DJ (T : Tb) (X : Cx) (es : List Expr) (f : Ro → Option (List Str)) : Prop where
  mk ::
  run : ∀ (G : Hp) (E : Value → Shared → Prop), PassesOwn (model X.prog X.w) X.A X.env E → ∀ (pins : List (Addr × Obj)) (s : Shared) (σ : L2.St) (H : Hp) (acc : Str) (Q : Str → Shared → Prop), Inv (X.wish E) pins σ H s →
  (∃ ρ xs, FR T X.K G H σ ρ ∧ f ρ = some xs ∧ acc.length + 200000 * xs.length ≤ sizeLine ∧ ∀ H' s', Same H H' → Inv (X.wish E) pins σ H' s' → (xs.foldl (· ++ ·) acc).length ≤ acc.length + 200000 * xs.length → Q (xs.foldl (· ++ ·) acc) s') →
  Joins (model X.prog X.w) X.A E (evalEach es X.env) acc Q s
@[simp] def jN0 (ρ : Ro) : Option (List Str) := some []
@[simp] def jLit (x : Str) (fs : Ro → Option (List Str)) (ρ : Ro) : Option (List Str) := if x.length ≤ 200000 then (match fs ρ with | some xs => some (x :: xs) | none => none) else none
@[simp] def jVal (g : D → Out Str) (fe : Ev) (fs : Ro → Option (List Str)) (ρ : Ro) : Option (List Str) := match (fe ρ).bind g with
  | .ok x => (match fs ρ with | some xs => some (x :: xs) | none => none)
  | _ => none
theorem dj_nil : DJ T X [] jN0 := .mk fun G E hp pins s σ H acc Q I ⟨ρ, xs, fr, e, _, h⟩ => by
  cases e
  exact h H s (Same.refl H) I (by simp)
theorem dj_step {G : Hp} {E : Value → Shared → Prop} (hp : PassesOwn (model X.prog X.w) X.A X.env E) {pins : List (Addr × Obj)} {s : Shared} {σ : L2.St} {H H1 : Hp} {acc x : Str} {Q : Str → Shared → Prop} {t : Tok} {ρ : Ro} {xs : List Str} (hr : DJ T X es fs) (I : Inv (X.wish E) pins σ H1 s) (fr : FR T X.K G H1 σ ρ) (s1 : Same H H1) (hx : x.length ≤ 200000)
    (ef : fs ρ = some xs) (z : acc.length + 200000 * (x :: xs).length ≤ sizeLine) (k : ∀ H' s', Same H H' → Inv (X.wish E) pins σ H' s' → ((x :: xs).foldl (· ++ ·) acc).length ≤ acc.length + 200000 * (x :: xs).length → Q ((x :: xs).foldl (· ++ ·) acc) s') :
    ∃ y t', (Value.str x t) = .str y t' ∧ (acc ++ y).length ≤ sizeLine ∧ Joins (model X.prog X.w) X.A E (evalEach es X.env) (acc ++ y) Q s := by
  have hl : (acc ++ x).length = acc.length + x.length := strLen_append acc x
  rw [List.length_cons] at z k
  refine ⟨x, t, rfl, by rw [hl]; omega, hr.run G E hp pins s σ H1 (acc ++ x) Q I ⟨ρ, xs, fr, ef, by rw [hl]; omega, fun H' s' s2 I' hz => ?_⟩⟩
  have hz' : (List.foldl (· ++ ·) acc (x :: xs)).length ≤ acc.length + 200000 * (xs.length + 1) := by
    rw [List.foldl_cons]; rw [hl] at hz; omega
  exact k H' s' (s1.trans s2) I' hz'
theorem dj_lit {x : Str} {j : Nat} (hr : DJ T X es fs) : DJ T X (.Constant (.str x) j pos :: es) (jLit x fs) := .mk fun G E hp pins s σ H acc Q I ⟨ρ, ys, fr, e, z, k⟩ => by
  simp only [jLit] at e
  by_cases hx : x.length ≤ 200000
  · rw [if_pos hx] at e
    cases ef : fs ρ with
    | none => rw [ef] at e; cases e
    | some xs =>
      rw [ef] at e
      cases e
      exact Calls.Constant_str (dj_step hp hr (I.tok _) fr (Same.refl H) hx ef z k)
  · rw [if_neg hx] at e; cases e
theorem jval_inv {g : D → Out Str} {ρ : Ro} {ys : List Str} (e : jVal g fe fs ρ = some ys) : ∃ d x xs, fe ρ = .ok d ∧ g d = .ok x ∧ fs ρ = some xs ∧ ys = x :: xs := by
  simp only [jVal] at e
  cases ed : fe ρ with
  | ok d =>
    rw [ed] at e
    cases eg : g d with
    | ok x =>
      simp only [Out.ok_bind, eg] at e
      cases ef : fs ρ with
      | some xs => rw [ef] at e; cases e; exact ⟨d, x, xs, rfl, eg, rfl, rfl⟩
      | none => rw [ef] at e; cases e
    | exc c => simp only [Out.ok_bind, eg] at e; cases e
    | bad => simp only [Out.ok_bind, eg] at e; cases e
  | exc c => rw [ed] at e; cases e
  | bad => rw [ed] at e; cases e
theorem dj_val (he : DE T X v fe) (hr : DJ T X es fs) : DJ T X (.FormattedValue v (-1) none pos :: es) (jVal fmtD fe fs) := .mk fun G E hp pins s σ H acc Q I ⟨ρ, ys, fr, e, z, k⟩ => by
  obtain ⟨d, x, xs, ed, eg, ef, rfl⟩ := jval_inv e
  refine FormattedValue_plain (thn (he.run G E hp pins s σ H (fun w H1 => Same H H1 ∧ Rep T X.K H1 d w) I ⟨ρ, fr, ?_⟩) fun u s1 ⟨w, H1, I1, rv, sm, rd⟩ => ?_)
  · rw [ed]; exact fun w H1 sm rd => ⟨sm, rd⟩
  · exact fmt_run (X := X) (pins := pins) (σ := σ) rd rv eg fun t tk hx => dj_step hp hr (I1.tok _) (fr.mono sm) sm hx ef z k
theorem dj_repr (he : DE T X v fe) (hr : DJ T X es fs) : DJ T X (.FormattedValue v 114 none pos :: es) (jVal reprD fe fs) := .mk fun G E hp pins s σ H acc Q I ⟨ρ, ys, fr, e, z, k⟩ => by
  obtain ⟨d, x, xs, ed, eg, ef, rfl⟩ := jval_inv e
  refine wpAny_FormattedValue_repr (thn (he.run G E hp pins s σ H (fun w H1 => Same H H1 ∧ Rep T X.K H1 d w) I ⟨ρ, fr, ?_⟩) fun u s1 ⟨w, H1, I1, rv, sm, rd⟩ => ?_)
  · rw [ed]; exact fun w H1 sm rd => ⟨sm, rd⟩
  · exact repr_run (X := X) (σ := σ) rd rv eg fun t tk hx => dj_step hp hr (I1.tok _) (fr.mono sm) sm hx ef z k
@[simp] def eJ (fs : Ro → Option (List Str)) (ρ : Ro) : Out D := match fs ρ with
  | some xs => if xs.length ≤ 20 then .ok (.str (xs.foldl (· ++ ·) Str.empty)) else .bad
  | none => .bad
theorem de_join {v1 v2 : Expr} (h : DJ T X (v1 :: v2 :: es) fs) : DE T X (.JoinedStr (v1 :: v2 :: es) pos) (eJ fs) := .mk fun G E hp => by
  rintro pins s σ H Q I ⟨ρ, fr, q⟩
  simp only [eJ] at q
  cases ef : fs ρ with
  | none => rw [ef] at q; exact q.elim
  | some xs =>
    rw [ef] at q
    by_cases hx : xs.length ≤ 20
    · simp only [if_pos hx] at q
      refine wpAny_JoinedStr (h.run G E hp pins s σ H Str.empty _ I ⟨ρ, xs, fr, ef, by rw [sizeLine_eq]; show 0 + _ ≤ _; omega, fun H' s' sm I' hz => ⟨?_, ?_⟩⟩)
      · have z0 : Str.empty.length = 0 := rfl
        rw [sizeLine_eq]; omega
      · exact ⟨.str _, H', I'.tok _, ⟨_, rfl⟩, q _ H' sm rfl⟩
    · simp only [if_neg hx] at q; exact q.elim
/-! str(n), s.zfill(n), -n -/
@[simp] def strG : List D → Out D
  | [.int i] => if i.natAbs.log2 < 1920 then .ok (.str (toString i)) else .bad
  | _ => .bad
theorem cd_str : CaD T X (.type "str") strG := fun E => ⟨_, call_str_int, fun ds vs σ H Q r h => by
  unfold strG at h
  split at h
  · rename_i i
    obtain ⟨v, rfl, rv⟩ := r.one
    by_cases z : i.natAbs.log2 < 1920
    · rw [if_pos z] at h
      exact ⟨i, by rw [show v = V.int i from rv], z, h _ H (Same.refl H) rfl⟩
    · rw [if_neg z] at h; exact h.elim
  · exact h.elim⟩
@[simp] def intG : List D → Out D
  | [.int i] => .ok (.int i)
  | [.bl b] => .ok (.int (if b then 1 else 0))
  | _ => .bad
theorem cd_int : CaD T X (.type "int") intG := fun E => ⟨_, call_int1, fun ds vs σ H Q r h => by
  unfold intG at h
  split at h
  · rename_i i
    obtain ⟨v, rfl, rv⟩ := r.one
    exact .inl ⟨i, by rw [show v = V.int i from rv], h _ H (Same.refl H) rfl⟩
  · rename_i b
    obtain ⟨v, rfl, rv⟩ := r.one
    exact .inr ⟨b, by rw [show v = V.bl b from rv], h _ H (Same.refl H) rfl⟩
  · exact h.elim⟩
@[simp] def eNeg (fe : Ev) (ρ : Ro) : Out D := (fe ρ).bind fun d => match d with
  | .int i => .ok (.int (-i))
  | _ => .bad
theorem de_neg (he : DE T X e fe) : DE T X (.UnaryOp .USub e pos) (eNeg fe) := .mk fun G E hp =>
  PE.imp (pe_un (X := X.wish E) un_neg (he.run G E hp)) fun σ H Q ⟨ρ, fr, q⟩ => ⟨ρ, fr, Acc.mono (Acc.bind q) fun d _ hd v H1 s1 r => by
    cases d with
    | int i => exact ⟨i, r, hd _ H1 s1 rfl⟩
    | _ => exact hd.elim⟩
end
end L3

set_option Elab.async false
set_option linter.all false
set_option autoImplicit false
set_option maxRecDepth 100000
namespace L3
open PySem PySem.Spec PyProof.Rows L2

/-! ### error classes of the text's own, under ValueError -/
abbrev veMro : List Value := [.type "ValueError", .type "Exception", .type "BaseException", .type "object"]
def ExcC (K : PySem.W.Frag) (C : Addr) : Prop := PySem.W.excIn K C veMro "ValueError.__new__" = true
theorem exc_obj {K : PySem.W.Frag} {h : Heap} {C : Addr} (X : K.In h) (q : ExcC K C) :
    ∃ bm N nm qn bs hd sn sub ab col dd k0 k1 k2 k3 k5 mN, h.get? C = some (excClassObj nm qn C N bs bm hd sn sub ab col dd k0 k1 k2 k3 k5 "ValueError.__new__") ∧ h.Ns N mN ∧ mN "__init__" = none ∧ OwnTail h veMro bm := by
  have q2 := q
  unfold ExcC PySem.W.excIn at q2
  split at q2
  · rename_i dd cd sl lk
    split at q2
    · rename_i C2 bm k0 k1 k2 k3 n k5 em es
      simp only [Bool.and_eq_true, beq_iff_eq, Bool.not_eq_true'] at q2
      obtain ⟨⟨⟨⟨⟨eC, en⟩, nd⟩, tl⟩, okN⟩, ni⟩ := q2
      subst eC en
      cases cd with
      | mk nm bs mro ns qn hd sn sub ab col del =>
        simp only at em nd okN ni
        subst em nd
        have e3 : sl = #[k0, k1, k2, k3, some (.builtin "ValueError.__new__"), k5] := Array.toList_inj.mp es
        subst e3
        exact ⟨bm, ns, nm, qn, bs, hd, sn, sub, ab, col, dd, k0, k1, k2, k3, k5, _, X _ _ lk, .of_isNs (PySem.W.isNs_of_in X okN), PySem.W.nsMap_none_of_in X okN ni, PySem.W.tail_of_in X tl⟩
    · cases q2
  · cases q2
theorem free_of {X : Cx} {pins : List (Addr × Obj)} {σ : L2.St} {H : Hp} {s : Shared} (I : Inv X pins σ H s) {b : Addr} (hb : s.heap.get? b = none) : Free X pins b := by
  refine ⟨?_, fun z => ?_, fun x cc e z => ?_, fun q hq z => ?_⟩
  · by_cases hx : b ∈ X.ex
    · exact .inl hx
    · refine .inr ?_
      cases q : X.s₀.heap.get? b with
      | none => rfl
      | some o =>
        obtain ⟨o', e⟩ := I.base.there b o q hx
        rw [hb] at e; cases e
  · obtain ⟨m, ⟨o, _, _, ho, _⟩, _⟩ := I.loc
    rw [← z, hb] at ho; cases ho
  · obtain ⟨v, o, ho, _⟩ := I.cell x cc e
    rw [z, hb] at ho; cases ho
  · obtain ⟨e, _⟩ := I.pin q hq
    rw [z, hb] at e; cases e
section
variable {T : Tb} {ib : Bool} {X : Cx} {e : Expr} {es : List Expr} {pos np cpos : Pos} {fe : Ev} {fs : Ro → Out (List D)} {x : Str} {c : Nat}
@[simp] def sRaise (c : Nat) (fs : Ro → Out (List D)) (ρ : Ro) : Fl := (fs ρ).fl ρ fun _ => .exc c ρ
/-- raise C(..) -/
theorem ds_raise (hc : X.calm = true) (hx : ExcC X.K (T.ca c)) (hg : Gl X x) (hm : X.mg x = some (.ref (T.ca c))) (ha : DA T X (e :: es) fs) (hsh : ∀ ρ ds, fs ρ = .ok ds → ds.length ≤ 1000) (hdb : (x == ("__debug__" : Str)) = false := by decide)
    (he : starEach (e :: es) X.env = (false, eval e X.env) :: starEach es X.env := by exact star_of rfl) (hpl : (backTo cpos (starEach (e :: es) X.env)).any (·.1) = false := by exact plain_of rfl) : DS T ib X (.Raise (some (.Call (.Name x np) (e :: es) [] cpos)) none pos) (sRaise c fs) := .mk fun G E hp => by
  rintro pins s σ H D I ⟨ρ, fr, h⟩
  have IX : Inv X pins σ H s := I.unwish
  obtain ⟨bm, N, nm, qn, bs, hd, sn, sub, ab, col, dd, k0, k1, k2, k3, k5, mN, hC, hN, hni, TL⟩ := exc_obj I.ok.mod.kin hx
  refine wpAny_Raise_call_subU (C := T.ca c) (nm := nm) (q := qn) (N := N) (bs := bs) (bm := bm) (hdct := hd) (sn := sn) (sub := sub) (ab := ab) (col := col) (dd := dd) (k0 := k0) (k1 := k1) (k2 := k2) (k3 := k3) (k5 := k5)
    PySem.F.excBase_ValueError (by decide) PySem.F.excBase_ValueError (mN := mN) (TL.hasType (by decide)) (I.ok.hd hc) hpl hni (ld_glob (X := X.wish E) I hg hm ⟨rfl, ?_⟩ hdb)
  have hA := ha.run G E hp cpos pins s σ H (fun vs H1 => ∃ ds, fs ρ = .ok ds ∧ Same H H1 ∧ vs.length = ds.length) I ⟨ρ, fr, Acc.mono (AccS.fl fr h) fun ds e1 _ vs H1 s1 r => ⟨ds, e1, s1, RepL.length _ _ r⟩⟩
  rw [he] at hA ⊢
  refine Calls.evalArgs_plain (thn hA fun us s1 ⟨vs, H1, I1, rv, ds, e1, sm, hl⟩ => ?_)
  have I1X : Inv X pins σ H1 s1 := I1.unwish
  have hlen : us.length ≤ sizeLine := by
    have := hsh ρ ds e1
    rw [← rv.length, hl, sizeLine_eq]; omega
  refine ⟨rfl, hlen, I1X.bk _ _ hC, hN.keeps I1X.bk, TL.keeps I1X.bk, fun h' ea hm' => ?_⟩
  have h2 := AccS.fl fr h
  rw [e1] at h2
  refine h2 σ H fr (Pers.refl H) pins { s1 with heap := h' } (.ref ea) H1 (I1X.kept (t' := s1.toks) hm'.keeps) sm ⟨ea, rfl, ?_, free_of I1X hm'.new, ?_⟩
  · cases q : H1 ea with
    | none => rfl
    | some o =>
      obtain ⟨u, eu⟩ := objThere (I1X.hok ea o q)
      rw [hm'.new] at eu; cases eu
  · obtain ⟨t, ht, _⟩ := hm'.there
    exact ⟨_, _, _, ht, rfl, rfl, rfl, .inl rfl⟩
end

/-! ### try -/
theorem stepF {X : Cx} {pins : List (Addr × Obj)} {σ : L2.St} {H H' : Hp} {s : Shared} {h' : Heap} {g' : Array GenState} {t' : Nat} {d' : Drawn} {ch : List Addr} (I : Inv X pins σ H s)
    (hch : ∀ b ∈ ch, Free X pins b)
    (keep : ∀ b o, b ≠ X.env.locals → b ∉ X.fs → b ∉ ch → s.heap.get? b = some o → H b = none → h'.get? b = some o)
    (slot : ∀ b o, b ≠ X.env.locals → b ∈ X.fs → b ∉ ch → s.heap.get? b = some o → H b = none → ∃ sl, h'.get? b = some { o with slots := sl }) (free : ∀ b o, b ∉ ch → s.heap.get? b = some o → H b = none → H' b = none)
    (there : ∀ b o, b ∉ ch → s.heap.get? b = some o → ∃ o', h'.get? b = some o')
    (tups : ∀ b xs, H b = some (.tup xs) → H' b = some (.tup xs)) (frzs : ∀ b o u, H b = some (.frz o u) → H' b = some (.frz o u)) (tbls : ∀ b ps, H b = some (.tbl ps) → ∃ more, H' b = some (.tbl (ps ++ more)))
    (ns : ∀ m, s.heap.Ns X.env.locals m → h'.Ns X.env.locals m) (hok : HOk X.prog X.w H' h') (hg : AllBare g') :
    Inv X pins σ H' { s with heap := h', gens := g', drawn := d', toks := t' } := by
  have neL : ∀ b o, X.s₀.heap.get? b = some o → b ≠ X.env.locals := fun b o e => Nat.ne_of_lt (Nat.lt_of_lt_of_le (Heap.lt_size e) I.ok.above)
  have neC : ∀ b o, X.s₀.heap.get? b = some o → b ∉ X.ex → b ∉ ch := fun b o e hx hb => by
    rcases (hch b hb).1 with z | z
    · exact hx z
    · rw [e] at z; cases z
  have cellK : ∀ x c, X.env.cells.lookup x = some c → ∀ v, s.heap.IsCell c v → h'.IsCell c v := fun x c e v ⟨o, ho, hd⟩ => by
    have nch : c ∉ ch := fun z => (hch c z).2.2.1 x c e rfl
    by_cases hc : c ∈ X.fs
    · obtain ⟨sl, q⟩ := slot c o (I.cne x c e) hc nch ho (I.freeC x c e)
      exact ⟨_, q, hd⟩
    · exact ⟨o, keep c o (I.cne x c e) hc nch ho (I.freeC x c e), hd⟩
  refine ⟨I.ok, I.os, hg, ⟨fun b o e n hb hx => ?_, fun b o e n hb hx => ?_, fun b o e n hx => ?_, fun b o e hx => ?_, fun b xs e => tups b xs (I.base.tups b xs e), fun b o xs e => frzs b o xs (I.base.frzs b o xs e), fun b ps e => ?_⟩, ?_, fun x c e => ?_, ?_, fun x c e => ?_, fun p hp => ?_, hok, I.len⟩
  · exact keep b o (neL b o e) hb (neC b o e hx) (I.base.keep b o e n hb hx) (I.base.free b o e n hx)
  · obtain ⟨sl, e1⟩ := I.base.slot b o e n hb hx
    obtain ⟨sl', e2⟩ := slot b _ (neL b o e) hb (neC b o e hx) e1 (I.base.free b o e n hx)
    exact ⟨sl', e2⟩
  · obtain ⟨o', e1⟩ := I.base.there b o e hx
    exact free b o' (neC b o e hx) e1 (I.base.free b o e n hx)
  · obtain ⟨o', e1⟩ := I.base.there b o e hx
    exact there b o' (neC b o e hx) e1
  · obtain ⟨m1, e1⟩ := I.base.tbls b ps e
    obtain ⟨m2, e2⟩ := tbls b _ e1
    exact ⟨m1 ++ m2, by rw [e2, Array.append_assoc]⟩
  · obtain ⟨m, hn, hl⟩ := I.loc
    refine ⟨m, ns m hn, fun i x v e1 e2 e3 => ?_⟩
    obtain ⟨u, r, l⟩ := hl i x v e1 e2 e3
    refine ⟨u, r, ?_⟩
    rcases l with l | ⟨k, c, e, z⟩
    · exact .inl l
    · exact .inr ⟨k, c, e, cellK x c e _ z⟩
  · obtain ⟨v, z⟩ := I.cell x c e
    exact ⟨v, cellK x c e v z⟩
  · obtain ⟨m, ⟨o, _, _, ho, _⟩, _⟩ := I.loc
    exact free _ o (fun z => (hch _ z).2.1 rfl) ho I.free
  · obtain ⟨v, o, ho, hd⟩ := I.cell x c e
    exact free c o (fun z => (hch c z).2.2.1 x c e rfl) ho (I.freeC x c e)
  · obtain ⟨e, n, ne, nf, d⟩ := I.pin p hp
    have nch : p.1 ∉ ch := fun z => (hch p.1 z).2.2.2 p hp rfl
    exact ⟨keep p.1 p.2 ne nf nch e n, free p.1 p.2 nch e n, ne, nf, d⟩

section
variable {T : Tb} {ib : Bool} {X : Cx} {pins : List (Addr × Obj)} {σ : L2.St} {H : Hp} {s : Shared} {c : Nat} {u : Value}
/-- behind the notes of an exception the body goes on -/
theorem noted_inv {L ch : List Addr} {h' : Heap} (I : Inv X pins σ H s) (kb : ∀ b o, s.heap.get? b = some o → b ∉ L → h'.get? b = some o) (up : s.heap.UpToSlots h') (hch : ∀ b ∈ ch, Free X pins b ∧ H b = none) (hL : ∀ b ∈ L, b ∈ ch ∨ b ∈ frs X.stack) : Inv X pins σ H { s with heap := h' } := by
  have nofl : ∀ b ∈ frs X.stack, ∀ o, s.heap.get? b = some o → ∀ vs, o.data ≠ .fields vs := fun b hb o e => by
    obtain ⟨_, o', e', d⟩ := I.stack.mem hb
    rw [e] at e'; cases e'; exact d
  have hok : HOk X.prog X.w H h' := noted_hok I ⟨kb, up⟩ fun b hb => by
    rcases hL b hb with z | z
    · exact (hch b z).2
    · exact I.stkFree b z
  exact stepF (g' := s.gens) (d' := s.drawn) (t' := s.toks) (ch := ch) I (fun b hb => (hch b hb).1)
    (fun b o n1 n2 n3 e _ => kb b o e fun hm => by
      rcases hL b hm with z | z
      · exact n3 z
      · exact (List.mem_cons.mp (I.stkSub b z)).elim n1 n2)
    (fun b o _ hb n3 e n => by
      by_cases hm : b ∈ L
      · rcases hL b hm with z | z
        · exact absurd z n3
        · exact up b o e (nofl b z o e)
      · exact ⟨o.slots, kb b o e hm⟩)
    (fun _ _ _ _ n => n)
    (fun b o n3 e => by
      by_cases hm : b ∈ L
      · rcases hL b hm with z | z
        · exact absurd z n3
        · obtain ⟨sl, q⟩ := up b o e (nofl b z o e)
          exact ⟨_, q⟩
      · exact ⟨o, kb b o e hm⟩)
    (fun _ _ e => e) (fun _ _ _ e => e) (fun b ps e => ⟨#[], by rw [e]; simp⟩) (fun m hm => up.ns hm) hok I.bare
/-- an exception that is looked at in this body: noted, then landed -/
def Landed (T : Tb) (X : Cx) (pins : List (Addr × Obj)) (c : Nat) (ea : Addr) (H : Hp) (h : Heap) : Prop :=
  H ea = none ∧ Free X pins ea ∧ ∃ (B : Heap) (a0 : Value) (L ch : List Addr), Heap.FlyingW B X.stack ea (.ref (T.ca c)) a0 h ∧ (∀ b o, h.get? b = some o → b ∉ L → B.get? b = some o) ∧ (∀ b ∈ ch, Free X pins b ∧ H b = none) ∧ (∀ b ∈ L, b ∈ ch ∨ b ∈ frs X.stack)
theorem landed_of {B h h' : Heap} {L ch : List Addr} {ea : Addr} {a0 fl : Value} (I : Inv X pins σ H s) (hn : H ea = none) (fe : Free X pins ea) (hst : X.stack = X.env :: X.outer) (hB : B = PySem.W.hideAll s.heap L) (hch : ∀ b ∈ ch, Free X pins b ∧ H b = none) (hL : ∀ b ∈ L, b ∈ ch ∨ b ∈ frs X.stack) (hea : ea ∈ L)
    (fly : Heap.FlyingW B X.stack ea (.ref (T.ca c)) a0 h') (up : s.heap.UpToSlots h') : Inv X pins σ H { s with heap := h' } ∧ Landed T X pins c ea H h' := by
  subst hB
  have kb : ∀ b o, s.heap.get? b = some o → b ∉ L → h'.get? b = some o := fun b o e n => fly.1 b o (PySem.W.hideAll_get _ e n)
  have I' := noted_inv I kb up hch hL
  refine ⟨I', hn, fe, ?_⟩
  obtain ⟨f1, f2, f3, f4⟩ := id fly
  obtain ⟨oe, vs, tb, ot, ts, he, hc, hd, h1, hnT, hTe, hT, hdT, h3⟩ := id f4
  -- hide the present records and frames
  have notfr : tb ∉ frs X.stack := fun hm => by
    obtain ⟨_, o, e, d⟩ := f3.mem hm
    rw [hT] at e; cases e; exact d ts hdT
  have ftb : Free X pins tb ∧ H tb = none := by
    cases q : s.heap.get? tb with
    | none =>
      refine ⟨free_of I q, ?_⟩
      cases z : H tb with
      | none => rfl
      | some o =>
        obtain ⟨w, ew⟩ := objThere (I.hok tb o z)
        rw [q] at ew; cases ew
    | some o =>
      have hm : tb ∈ L := Classical.byContradiction fun n => by
        rw [PySem.W.hideAll_get _ q n] at hnT; cases hnT
      rcases hL tb hm with z | z
      · exact hch tb z
      · exact absurd z notfr
  refine ⟨PySem.W.hideAll h' (ea :: tb :: frs X.stack), a0, ea :: tb :: frs X.stack, [ea, tb], ⟨fun b o q => PySem.W.of_hideAll _ q, PySem.W.hideAll_none _ List.mem_cons_self, ?_, oe, vs, tb, ot, ts, he, hc, hd, h1, PySem.W.hideAll_none _ (by simp), hTe, hT, hdT, h3⟩, fun b o e n => PySem.W.hideAll_get _ e n, fun b hb => ?_, fun b hb => ?_⟩
  · exact PySem.W.funFrames_hide f3 fun env he b hb => List.mem_cons_of_mem _ (List.mem_cons_of_mem _ (List.mem_filterMap.mpr ⟨env, he, hb⟩))
  · rcases List.mem_cons.mp hb with z | z
    · rw [z]; exact ⟨fe, hn⟩
    · rw [List.mem_singleton.mp z]; exact ftb
  · rcases List.mem_cons.mp hb with z | z
    · exact .inl (by simp [z])
    · rcases List.mem_cons.mp z with z | z
      · exact .inl (by simp [z])
      · exact .inr z
/-- noteFrame and setFlight ahead of the clauses -/
theorem look_fly {E : Value → Shared → Prop} {P : Shared → Prop} (I : Inv X pins σ H s) (hst : X.stack = X.env :: X.outer) (hf : X.env.frame = some X.env.locals) (fl : Flying T X pins c u H s)
    (k : ∀ ea h', u = .ref ea → Inv X pins σ H { s with heap := h' } → Landed T X pins c ea H h' → P { s with heap := h' }) :
    wpAny (model X.prog X.w) X.A (noteFrame u X.env) (fun _ s₂ => wpAny (model X.prog X.w) X.A (setFlight u none) (fun _ s₃ => P s₃) E s₂) E s := by
  obtain ⟨ea, rfl, hn, fe, oe, vs, a0, he, hc, hd, h0, h1⟩ := fl
  have hfr : X.A.frames = some (X.env :: X.outer) := by rw [I.ok.frames, hst]
  have FF : s.heap.FunFrames X.base (X.env :: X.outer) := by rw [← hst]; exact I.stack
  have infr : ∀ (L : List Addr), (∀ b ∈ frs X.stack, b ∈ L) → s.heap.FunFrames (PySem.W.hideAll s.heap L) (X.env :: X.outer) := fun L hL => PySem.W.funFrames_hide FF fun env he b hb => hL b (by
    rw [hst]; exact List.mem_filterMap.mpr ⟨env, he, hb⟩)
  have fin : ∀ (L ch : List Addr), ea ∈ L → (∀ b ∈ ch, Free X pins b ∧ H b = none) → (∀ b ∈ L, b ∈ ch ∨ b ∈ frs X.stack) → ∀ h', Heap.NotedW (PySem.W.hideAll s.heap L) (X.env :: X.outer) ea (.ref (T.ca c)) a0 (rawInt X.env.locals) s.heap h' →
      wpAny (model X.prog X.w) X.A (setFlight (.ref ea) none) (fun _ s₃ => P s₃) E { s with heap := h' } := fun L ch hea hch hL h' ⟨k1, k2, k3, k4⟩ => by
    refine wpAny_setFlight_noneW k1 k2 k3 fun h2 m1 m2 m3 m4 => ?_
    have fly : Heap.FlyingW (PySem.W.hideAll s.heap L) X.stack ea (.ref (T.ca c)) a0 h2 := ⟨m1, PySem.W.hideAll_none _ hea, by rw [hst]; exact m2, m3⟩
    have up : s.heap.UpToSlots h2 := fun b o e nd => by
      obtain ⟨sl, e1⟩ := k4 b o e nd
      exact ⟨sl, m4 b _ e1 nd⟩
    obtain ⟨I2, ld⟩ := landed_of (fl := .none) (h := h') I hn fe hst rfl hch hL hea fly up
    exact k ea h2 rfl I2 ld
  rcases h1 with h1 | ⟨tb, ot, ts, h1, hne, ht, hdt, h3, hnt, ft⟩
  · have hsz : 1 < vs.size := (Array.getElem?_eq_some_iff.mp h1).1
    unfold noteFrame
    simp only [hf]
    refine wpAny_bind (wpAny_field he hd h1 ?_)
    rw [if_neg (by decide)]
    refine wpAny_entryW (base := PySem.W.hideAll s.heap (ea :: frs X.stack)) hfr (infr _ fun b hb => List.mem_cons_of_mem _ hb) hf he (fun b o q => PySem.W.of_hideAll _ q) (PySem.W.hideAll_none _ List.mem_cons_self) hd hsz h0 fun h' nw => ?_
    rw [hc] at nw
    refine fin (ea :: frs X.stack) [ea] List.mem_cons_self (fun b hb => ?_) (fun b hb => ?_) h' nw
    · rw [List.mem_singleton.mp hb]; exact ⟨fe, hn⟩
    · rcases List.mem_cons.mp hb with z | z
      · exact .inl (by simp [z])
      · exact .inr z
  · refine wpAny_noteFrame_onW (base := PySem.W.hideAll s.heap (ea :: tb :: frs X.stack)) (cls := .ref (T.ca c)) (a0 := a0) hfr (infr _ fun b hb => List.mem_cons_of_mem _ (List.mem_cons_of_mem _ hb)) hf ⟨oe, vs, tb, ot, ts, he, ⟨hc, h0⟩, hd, h1, PySem.W.hideAll_none _ (by simp), hne, ht, hdt, h3⟩ (fun b o q => PySem.W.of_hideAll _ q) (PySem.W.hideAll_none _ List.mem_cons_self) fun h' nw => ?_
    refine fin (ea :: tb :: frs X.stack) [ea, tb] List.mem_cons_self (fun b hb => ?_) (fun b hb => ?_) h' nw
    · rcases List.mem_cons.mp hb with z | z
      · rw [z]; exact ⟨fe, hn⟩
      · rw [List.mem_singleton.mp z]; exact ⟨ft, hnt⟩
    · rcases List.mem_cons.mp hb with z | z
      · exact .inl (by simp [z])
      · rcases List.mem_cons.mp z with z | z
        · exact .inl (by simp [z])
        · exact .inr z
end
end L3

set_option Elab.async false
set_option linter.all false
set_option autoImplicit false
set_option maxRecDepth 100000
namespace L3
open PySem PySem.Spec PyProof.Rows L2

abbrev mk (X : Cx) (u : Value) : Cx := { X with A := X.A.mark (some u), calm := false }
abbrev pinX (X : Cx) (pn : List (Addr × Obj)) : Cx := { X with pn := pn }
section
variable {T : Tb} {ib : Bool} {X : Cx} {pins : List (Addr × Obj)} {σ : L2.St} {H : Hp} {s : Shared} {c : Nat} {u : Value}
theorem Inv.mk (I : Inv X pins σ H s) (u : Value) : Inv (mk X u) pins σ H s :=
  ⟨⟨I.ok.mod, I.ok.kind, I.ok.glob, I.ok.blt, I.ok.above, I.ok.inj, I.ok.has, I.ok.cab, (fun z => by cases z), I.ok.frames, I.ok.stk, I.ok.exf, I.ok.bs, I.ok.bsz, I.ok.noex, I.ok.exfs, I.ok.funs, I.ok.frf⟩, I.os, I.bare, I.base, I.loc, I.cell, I.free, I.freeC, I.pin, I.hok, I.len⟩
theorem Inv.unmk (ok : X.Ok) {E : Value → Shared → Prop} (I : Inv ((L3.mk X u).wish E) pins σ H s) : Inv X pins σ H s := ⟨ok, I.os, I.bare, I.base, I.loc, I.cell, I.free, I.freeC, I.pin, I.hok, I.len⟩
theorem Inv.pinX (I : Inv X pins σ H s) : Inv (L3.pinX X (X.pn ++ pins)) [] σ H s :=
  ⟨⟨I.ok.mod, I.ok.kind, I.ok.glob, I.ok.blt, I.ok.above, I.ok.inj, I.ok.has, I.ok.cab, I.ok.hd, I.ok.frames, I.ok.stk, I.ok.exf, I.ok.bs, I.ok.bsz, I.ok.noex, I.ok.exfs, I.ok.funs, I.ok.frf⟩, I.os, I.bare, I.base, I.loc, I.cell, I.free, I.freeC, fun p hp => I.pin p (by simpa using hp), I.hok, I.len⟩
theorem Inv.unpinX (ok : X.Ok) {pins' : List (Addr × Obj)} {E : Value → Shared → Prop} (I : Inv ((L3.pinX X (X.pn ++ pins)).wish E) pins' σ H s) : Inv X pins σ H s :=
  ⟨ok, I.os, I.bare, I.base, I.loc, I.cell, I.free, I.freeC, fun p hp => I.pin p (List.mem_append_left _ hp), I.hok, I.len⟩
/-- a suite that raises nothing -/
@[simp] def noExc : Fl → Fl
  | .exc _ _ => .bad
  | o => o
theorem accS_mk {G H : Hp} {E E' : Value → Shared → Prop} {o : Fl} {D : Ends} (h : AccS T ib X G E H (noExc o) D) : AccS T ib (L3.mk X u) G E' H o D := by
  cases o with
  | exc c ρ => exact h.elim
  | _ => exact h
theorem SP.unmk {E : Value → Shared → Prop} {D : Ends} {f : Flow} {s' : Shared} (ok : X.Ok) (h : SP ((L3.mk X u).wish E) pins D f s') : SP X pins D f s' := by
  cases f with
  | next => obtain ⟨σ', H', I, q⟩ := h; exact ⟨σ', H', Inv.unmk ok I, q⟩
  | brk => obtain ⟨σ', H', I, q⟩ := h; exact ⟨σ', H', Inv.unmk ok I, q⟩
  | cont => obtain ⟨σ', H', I, q⟩ := h; exact ⟨σ', H', Inv.unmk ok I, q⟩
  | ret u => obtain ⟨v, σ', H', I, r, q⟩ := h; exact ⟨v, σ', H', Inv.unmk ok I, r, q⟩
/-- the clauses of a try: by the exception's class and the slots -/
def DH (T : Tb) (ib : Bool) (X : Cx) (hs : List ExceptHandler) (f : Nat → Ro → Fl) : Prop := ∀ (G : Hp) (E : Value → Shared → Prop) (pins : List (Addr × Obj)) (s : Shared) (σ : L2.St) (H : Hp) (D : Ends) (c : Nat) (ea : Addr), Inv X pins σ H s → Landed T X pins c ea H s.heap →
  (∃ ρ, FR T X.K G H σ ρ ∧ AccS T ib X G E H (f c ρ) D) → wpAny (model X.prog X.w) X.A (handleBy (.ref ea) X.env hs) (SP X pins D) E s
theorem dh_nil : DH T ib X [] (fun _ _ => .bad) := fun G E pins s σ H D c ea I ld ⟨ρ, fr, h⟩ => h.elim
theorem landed_ty {M : Model} {ea : Addr} {h : Heap} (ld : Landed T X pins c ea H h) : PySem.W.Looks M h (typeOf (.ref ea)) (.ref (T.ca c)) := by
  obtain ⟨_, _, B, a0, L, ch, fly, _⟩ := ld
  obtain ⟨ob, hob, hc⟩ := fly.there
  exact hc ▸ (PySem.W.Looks.ld hob).andThen .now
/-- setFlight again, at the suite's head -/
theorem land_again {M : Model} {A : Around} {E : Value → Shared → Prop} {Q : Unit → Shared → Prop} {ea : Addr} (I : Inv X pins σ H s) (ld : Landed T X pins c ea H s.heap) (k : ∀ h', Inv X pins σ H { s with heap := h' } → (∃ ob, h'.get? ea = some ob ∧ ob.cls = .ref (T.ca c)) → Q () { s with heap := h' }) :
    wpAny M A (setFlight (.ref ea) none) Q E s := by
  obtain ⟨hn, fe, B, a0, L, ch, fly, hB, hch, hL⟩ := ld
  exact lands_againW fly fun h' fly' up => k h' (noted_inv I (fun b o e n => fly'.1 b o (hB b o e n)) up hch hL) fly'.there
section
variable {x n : Str} {k i : Nat} {m : Nat → Option Bool} {np pos : Pos} {b₀ : Stmt} {suite : List Stmt} {hs : List ExceptHandler} {fh : Ro → Fl} {fr' : Nat → Ro → Fl}
@[simp] def hCons (m : Nat → Option Bool) (fh : Ro → Fl) (fr : Nat → Ro → Fl) (c : Nat) (ρ : Ro) : Fl := match m c with
  | some true => noExc (fh ρ)
  | some false => fr c ρ
  | none => .bad
theorem dh_cons (hg : Gl X x) (hm : X.mg x = some (.ref (T.ca k))) (hdec : ∀ c b, m c = some b → PySem.W.exmOne X.K (.ref (T.ca c)) (.ref (T.ca k)) = some b) (hsu : ∀ u, DSs T ib (L3.mk X u) (b₀ :: suite) fh) (hr : DH T ib X hs fr') (hdb : (x == ("__debug__" : Str)) = false := by decide) :
    DH T ib X (.ExceptHandler (some (.Name x np)) none (b₀ :: suite) pos :: hs) (hCons m fh fr') := fun G E pins s σ H D c ea I ld ⟨ρ, fr, h⟩ => by
  refine wpAny_handleBy_cons (codeAny_handlers_test (ld_glob (X := L3.mk X (.ref ea)) (Inv.mk I _) hg hm ?_ hdb)) (by intro q; cases q)
  cases em : m c with
  | none =>
    have h' : AccS T ib X G E H (hCons m fh fr' c ρ) D := h
    simp only [hCons, em] at h'; exact h'.elim
  | some b =>
    have h' : AccS T ib X G E H (hCons m fh fr' c ρ) D := h
    simp only [hCons, em] at h'
    refine PySem.W.exm_one I.kIn (landed_ty ld) (hdec c b em) _ _ _ _ (fun _ _ z => z) ?_
    cases b with
    | false => exact hr G E pins s σ H D c ea I ld ⟨ρ, fr, h'⟩
    | true =>
      refine codeAny_handlers_suite (land_again I ld fun h2 I2 _ => ?_)
      refine wpAny_mono ((hsu (.ref ea)).run G (fun _ _ => False) PassesOwn.never pins _ σ H D ((Inv.mk I2 _).wish _) ⟨ρ, fr, accS_mk h'⟩) (fun f s3 q => ?_) fun _ _ z => z.elim
      exact SP.unmk I.ok q
/-- the exception's object is in the books from here on -/
theorem Inv.track {ea : Addr} {ob : Obj} {cls : Value} (I : Inv X pins σ H s) (hn : H ea = none) (fe : Free X pins ea) (ho : s.heap.get? ea = some ob) (hc : ob.cls = cls) :
    Inv X pins σ (upd H ea (.ext fun h => ∃ o, h.get? ea = some o ∧ o.cls = cls)) s := by
  obtain ⟨f1, f2, f3, f4⟩ := fe
  have ne : ∀ b o, H b = some o → b ≠ ea := fun b o e z => by rw [z, hn] at e; cases e
  refine ⟨I.ok, I.os, I.bare, ⟨I.base.keep, I.base.slot, fun b o e n hx => ?_, I.base.there, fun b xs e => ?_, fun b o v e => ?_, fun b ps e => ?_⟩, I.loc, I.cell, ?_, fun y cc e => ?_, fun p hp => ?_, fun b o e => ?_, I.len⟩
  · rw [upd_ne (fun z => ?_)]
    · exact I.base.free b o e n hx
    · rcases f1 with f1 | f1
      · exact hx (z ▸ f1)
      · rw [z] at e; rw [f1] at e; cases e
  · have q := I.base.tups b xs e; rw [upd_ne (ne b _ q)]; exact q
  · have q := I.base.frzs b o v e; rw [upd_ne (ne b _ q)]; exact q
  · obtain ⟨more, q⟩ := I.base.tbls b ps e
    exact ⟨more, by rw [upd_ne (ne b _ q)]; exact q⟩
  · rw [upd_ne (Ne.symm f2)]; exact I.free
  · rw [upd_ne (f3 y cc e)]; exact I.freeC y cc e
  · obtain ⟨a1, a2, a3⟩ := I.pin p hp
    exact ⟨a1, by rw [upd_ne (f4 p hp)]; exact a2, a3⟩
  · have ow : ∀ b y, H b = some (.own y) → upd H ea (.ext fun h => ∃ o, h.get? ea = some o ∧ o.cls = cls) b = some (.own y) := fun b y q => by rw [upd_ne (ne b _ q)]; exact q
    have tu : ∀ b y, H b = some (.tup y) → upd H ea (.ext fun h => ∃ o, h.get? ea = some o ∧ o.cls = cls) b = some (.tup y) := fun b y q => by rw [upd_ne (ne b _ q)]; exact q
    by_cases hb : b = ea
    · subst hb
      rw [upd_same] at e; cases e
      exact ⟨⟨ob, ho, hc⟩, ⟨ob, ho⟩, fun h1 h2 ⟨o, e1, e2⟩ kk => ⟨o, kk o e1, e2⟩⟩
    · rw [upd_ne hb] at e
      exact (I.hok b o e).stay (fun _ _ _ q => q) (fun cc => ow cc _) tu
theorem same_track {ea : Addr} {o : HO} (hn : H ea = none) : Same H (upd H ea o) := same_upd hn
/-- a name is gone -/
theorem Inv.gone {h' : Heap} {t' : Nat} {v : Option Value} {mm : Str → Option Value} (I : Inv X pins σ H s) (hi : X.N[i]? = some n) (hN : X.N.Nodup) (hk : X.env.scope.names.lookup n = some .local) (hm : s.heap.Ns X.env.locals mm) (hl : ∀ (j : Nat) (y : Str) (w : V), X.N[j]? = some y → σ[j]? = some (some w) → Vis X.env.scope y → ∃ u, RelV w u ∧ Look X.env s.heap mm y u)
    (hn' : h'.Ns X.env.locals (fun y => if y = n then v else mm y)) (hs : Heap.SameBut X.env.locals s.heap h') : Inv X pins (σ.set i none) H { s with heap := h', toks := t' } := by
  have cne := I.cne
  have lt0 : ∀ b o, X.s₀.heap.get? b = some o → b ≠ X.env.locals := fun b o e => Nat.ne_of_lt (Nat.lt_of_lt_of_le (Heap.lt_size e) I.ok.above)
  refine ⟨I.ok, I.os, I.bare, ⟨fun b o e n2 hb hx => (hs.2 b (lt0 b o e)).trans (I.base.keep b o e n2 hb hx), fun b o e n2 hb hx => ?_, I.base.free, fun b o e hx => ?_, I.base.tups, I.base.frzs, I.base.tbls⟩, ⟨_, hn', fun j y w e1 e2 e3 => ?_⟩, fun y c e => ?_, I.free, I.freeC, fun p hp => ?_, fun b ob e => ?_, by simpa using I.len⟩
  · obtain ⟨sl, e1⟩ := I.base.slot b o e n2 hb hx
    exact ⟨sl, (hs.2 b (lt0 b o e)).trans e1⟩
  · obtain ⟨o', e1⟩ := I.base.there b o e hx
    exact ⟨o', (hs.2 b (lt0 b o e)).trans e1⟩
  · have hj : j ≠ i := by
      rintro rfl
      have hlt : j < σ.length := by
        have := (List.getElem?_eq_some_iff.mp e2).1; simpa using this
      rw [List.getElem?_set_self hlt] at e2; cases e2
    rw [List.getElem?_set_ne (Ne.symm hj)] at e2
    obtain ⟨u', r', q⟩ := hl j y w e1 e2 e3
    refine ⟨u', r', ?_⟩
    have hy : y ≠ n := fun z => hj (nodup_ix hN e1 (z ▸ hi))
    rcases q with ⟨k1, q1⟩ | ⟨k1, cc, q1, q2⟩
    · exact .inl ⟨k1, by simp [hy, q1]⟩
    · exact .inr ⟨k1, cc, q1, q2.sameBut hs (cne y cc q1)⟩
  · obtain ⟨w', z⟩ := I.cell y c e
    exact ⟨w', z.sameBut hs (cne y c e)⟩
  · obtain ⟨e, n2, ne, nf, d⟩ := I.pin p hp
    exact ⟨(hs.2 p.1 ne).trans e, n2, ne, nf, d⟩
  · refine (I.hok b ob e).stay (fun cc w' hc q => (hs.2 cc ?_).trans q) (fun _ q => q) fun _ _ q => q
    intro z
    have hf := I.free
    rcases hc with hc | hc
    · rw [← hc, z, hf] at e; cases e
    · rw [z, hf] at hc; cases hc
theorem FR.forget {K : PySem.W.Frag} {G H : Hp} {σ : L2.St} {ρ : Ro} (h : FR T K G H σ ρ) (i : Nat) (hz : T.me = none ∨ i ≠ 0) : FR T K G H (σ.set i none) (ρ.set i .no) := by
  have at_ : ∀ {j : Nat} {z : Sl}, (ρ.set i .no)[j]? = some z → z = .no ∨ (j ≠ i ∧ ρ[j]? = some z) := fun {j z} q => by
    by_cases hj : j = i
    · subst hj
      have hlt : j < ρ.length := by
        have := (List.getElem?_eq_some_iff.mp q).1; simpa using this
      rw [List.getElem?_set_self hlt] at q
      exact .inl (Option.some.inj q).symm
    · rw [List.getElem?_set_ne (Ne.symm hj)] at q; exact .inr ⟨hj, q⟩
  refine ⟨h.same, by simp [h.len], fun j z q => ?_, fun j k ds es hjk q1 q2 => ?_, me_set hz h.me, me0_set (fun _ _ z => by cases z) h.me0⟩
  · rcases at_ q with rfl | ⟨hj, q⟩
    · trivial
    · rw [List.getElem?_set_ne (Ne.symm hj)]; exact h.sl j z q
  · rcases at_ q1 with z | ⟨hj, q1⟩
    · cases z
    · rcases at_ q2 with z | ⟨hk, q2⟩
      · cases z
      · rw [List.getElem?_set_ne (Ne.symm hj), List.getElem?_set_ne (Ne.symm hk)]; exact h.ne j k ds es hjk q1 q2
@[simp] def forgetF (i : Nat) : Fl → Fl
  | .nx ρ => .nx (ρ.set i .no)
  | .bk ρ => .bk (ρ.set i .no)
  | .ct ρ => .ct (ρ.set i .no)
  | .rt r => .rt r
  | _ => .bad
@[simp] def hConsAs (i : Nat) (m : Nat → Option Bool) (fh : Ro → Fl) (fr : Nat → Ro → Fl) (c : Nat) (ρ : Ro) : Fl := match m c with
  | some true => forgetF i (fh (ρ.set i (.sh (.exc c))))
  | some false => fr c ρ
  | none => .bad
theorem dh_consAs (i : Nat) (hN : X.N.Nodup) (hg : Gl X x) (hm : X.mg x = some (.ref (T.ca k))) (hdec : ∀ c b, m c = some b → PySem.W.exmOne X.K (.ref (T.ca c)) (.ref (T.ca k)) = some b) (hsu : ∀ u, DSs T ib (L3.mk X u) (b₀ :: suite) fh) (hr : DH T ib X hs fr') (hi : X.N[i]? = some n := by rfl) (hlo : X.env.scope.names.lookup n = some .local := by rfl) (hlk : X.env.kindOf n = some .local := by rfl) (hz : T.me = none ∨ i ≠ 0 := by first | exact Or.inr (by decide) | exact Or.inl (by assumption)) (hdb : (x == ("__debug__" : Str)) = false := by decide) :
    DH T ib X (.ExceptHandler (some (.Name x np)) (some n) (b₀ :: suite) pos :: hs) (hConsAs i m fh fr') := fun G E pins s σ H D c ea I ld ⟨ρ, fr, h⟩ => by
  refine wpAny_handleBy_cons (codeAny_handlers_test (ld_glob (X := L3.mk X (.ref ea)) (Inv.mk I _) hg hm ?_ hdb)) (by intro q; cases q)
  have h' : AccS T ib X G E H (hConsAs i m fh fr' c ρ) D := h
  cases em : m c with
  | none => simp only [hConsAs, em] at h'; exact h'.elim
  | some b =>
    simp only [hConsAs, em] at h'
    refine PySem.W.exm_one I.kIn (landed_ty ld) (hdec c b em) _ _ _ _ (fun _ _ z => z) ?_
    cases b with
    | false => exact hr G E pins s σ H D c ea I ld ⟨ρ, fr, h'⟩
    | true =>
      refine codeAny_handlers_suite_as (land_again I ld fun h2 I2 ⟨ob, hob, hoc⟩ => ?_)
      refine store_ok2 (v := .ref ea) I2 hN hi (.inl hlo) rfl (fun s3 I3 ⟨a3, sb3, ha3⟩ => ?_) (.inr hlo)
      have hob3 : s3.heap.get? ea = some ob := by
        refine (sb3.2 ea ?_).trans hob
        rcases ha3 with z | z
        · rw [z]; exact ld.2.1.2.1
        · exact fun y => ld.2.1.2.2.1 n a3 z y.symm
      have I4 := Inv.track I3 ld.1 ld.2.1 hob3 hoc
      have sm := same_track (ea := ea) (o := .ext fun h => ∃ o, h.get? ea = some o ∧ o.cls = .ref (T.ca c)) ld.1
      have fr4 : FR T X.K G _ (σ.set i (some (.ref ea))) (ρ.set i (.sh (.exc c))) := (fr.mono sm).set_sh ⟨ea, _, rfl, upd_same, fun h z => z⟩ hz
      let D' : Ends := { nx := fun σ' H' => D.nx (σ'.set i none) H', rt := D.rt, bk := fun σ' H' => D.bk (σ'.set i none) H', ct := fun σ' H' => D.ct (σ'.set i none) H' }
      have acc : AccS T ib (L3.mk X (.ref ea)) G (fun _ _ => False) (upd H ea (.ext fun h => ∃ o, h.get? ea = some o ∧ o.cls = .ref (T.ca c))) (fh (ρ.set i (.sh (.exc c)))) D' := by
        have h2 := AccS.heap (Pers.of (b := ib) sm) h'
        cases eo : fh (ρ.set i (.sh (.exc c))) with
        | nx ρ' => rw [eo] at h2; exact fun σ' H' f p => h2 _ _ (FR.forget f i hz) p
        | bk ρ' => rw [eo] at h2; exact fun σ' H' f p => h2 _ _ (FR.forget f i hz) p
        | ct ρ' => rw [eo] at h2; exact fun σ' H' f p => h2 _ _ (FR.forget f i hz) p
        | rt r => rw [eo] at h2; exact h2
        | exc c ρ' => rw [eo] at h2; exact h2.elim
        | bad => rw [eo] at h2; exact h2.elim
      refine wpAny_mono ((hsu (.ref ea)).run G (fun _ _ => False) PassesOwn.never pins _ _ _ D' ((Inv.mk I4 _).wish _) ⟨_, fr4, acc⟩) (fun f s5 q => ?_) fun _ _ z => z.elim
      have hp : (X.env.scope.kind == .class || (X.env.scope.kind == .module && X.env.locals != X.env.globals)) = false := by rw [I.ok.kind]; rfl
      have go : ∀ {σ' : L2.St} {H' : Hp} {R : Unit → Shared → Prop}, Inv X pins σ' H' s5 → (∀ s6, Inv X pins (σ'.set i none) H' s6 → R () s6) → wpAny (model X.prog X.w) X.A (do bindName X.env n .none; unbindBehindTheSuite X.env n pos) R E s5 := fun {σ' H' R} I5 k => by
        obtain ⟨mm, hmm, hl⟩ := id I5.loc
        exact wpAny_nameGoes_keeps hlk hmm hp fun h6 v n6 sb6 => k _ (Inv.gone (v := v) I5 hi hN hlo hmm hl n6 sb6)
      cases f with
      | next => obtain ⟨σ', H', I5, q⟩ := q; exact go (Inv.unmk I.ok I5) fun s6 I6 => ⟨_, H', I6, q⟩
      | brk => obtain ⟨σ', H', I5, q⟩ := q; exact go (Inv.unmk I.ok I5) fun s6 I6 => ⟨_, H', I6, q⟩
      | cont => obtain ⟨σ', H', I5, q⟩ := q; exact go (Inv.unmk I.ok I5) fun s6 I6 => ⟨_, H', I6, q⟩
      | ret u => obtain ⟨v, σ', H', I5, r, q⟩ := q; exact go (Inv.unmk I.ok I5) fun s6 I6 => ⟨v, _, H', I6, r, q⟩
end
/-- try: .. except .. -/
@[simp] def sTry (fb : Ro → Fl) (fh : Nat → Ro → Fl) (ρ : Ro) : Fl := match fb ρ with
  | .exc c ρ' => fh c ρ'
  | o => o
theorem ds_try {body : List Stmt} {h₀ : ExceptHandler} {hs : List ExceptHandler} {pos : Pos} {fb : Ro → Fl} {fh : Nat → Ro → Fl} (hst : X.stack = X.env :: X.outer) (hf : X.env.frame = some X.env.locals) (hb : ∀ pn, DSs T ib (L3.pinX X pn) body fb) (hh : DH T ib X (h₀ :: hs) fh) :
    DS T ib X (.Try body (h₀ :: hs) [] [] pos) (sTry fb fh) := .mk fun G E hp => by
  rintro pins s σ H D I ⟨ρ, fr, h⟩
  have IX : Inv X pins σ H s := I.unwish
  have ok := IX.ok
  have h : AccS T ib X G E H (sTry fb fh ρ) D := h
  refine wpAny_Try_except ?_
  -- what is wanted of an exception of the body
  let E' : Value → Shared → Prop := fun e s₁ => wpAny (model X.prog X.w) X.A (noteFrame e X.env) (fun _ s₂ => wpAny (model X.prog X.w) X.A (setFlight e none) (fun _ s₃ => wpAny (model X.prog X.w) X.A (handleBy e X.env (h₀ :: hs)) (SP (X.wish E) pins D) E s₃) E s₂) E s₁
  have hp' : PassesOwn (model X.prog X.w) X.A X.env E' := PassesOwn.looking
  have acc : AccS T ib (L3.pinX X (X.pn ++ pins)) G E' H (fb ρ) D := by
    cases eo : fb ρ with
    | exc c ρ' =>
      simp only [sTry, eo] at h
      intro σ' H' fr' pr pins' s' u H'' I' sm fl
      have I2 : Inv X pins σ' H'' s' := Inv.unpinX (E := (L3.pinX X (X.pn ++ pins)).xe) ok I'
      have fl2 : Flying T X pins c u H'' s' := by
        obtain ⟨ea, e1, q1, q2, oe, vs, a0, e2, e3, e4, e5, e6⟩ := fl
        have fre : ∀ b, Free (L3.pinX X (X.pn ++ pins)) pins' b → Free X pins b := fun b ⟨z1, z2, z3, z4⟩ => ⟨z1, z2, z3, fun p hp => z4 p (List.mem_append_left _ hp)⟩
        refine ⟨ea, e1, q1, fre ea q2, oe, vs, a0, e2, e3, e4, e5, ?_⟩
        rcases e6 with e6 | ⟨tb, ot, ts, t1, t2, t3, t4, t5, t6, t7⟩
        · exact .inl e6
        · exact .inr ⟨tb, ot, ts, t1, t2, t3, t4, t5, t6, fre tb t7⟩
      refine look_fly I2 hst hf fl2 fun ea h2 eu I3 ld => ?_
      subst eu
      refine wpAny_mono (hh G E pins _ σ' H'' D c ea I3 ld ⟨ρ', fr'.mono sm, AccS.heap (pr.trans (Pers.of sm)) h⟩) (fun f s4 q => ?_) fun _ _ z => z
      cases f with
      | next => obtain ⟨σ4, H4, I4, q⟩ := q; exact ⟨σ4, H4, I4.wish E, q⟩
      | brk => obtain ⟨σ4, H4, I4, q⟩ := q; exact ⟨σ4, H4, I4.wish E, q⟩
      | cont => obtain ⟨σ4, H4, I4, q⟩ := q; exact ⟨σ4, H4, I4.wish E, q⟩
      | ret v => obtain ⟨x4, σ4, H4, I4, r, q⟩ := q; exact ⟨x4, σ4, H4, I4.wish E, r, q⟩
    | nx ρ' => simp only [sTry, eo] at h; exact h
    | bk ρ' => simp only [sTry, eo] at h; exact h
    | ct ρ' => simp only [sTry, eo] at h; exact h
    | rt r => simp only [sTry, eo] at h; exact h
    | bad => simp only [sTry, eo] at h; exact h
  refine wpAny_mono ((hb (X.pn ++ pins)).run G E' hp' [] s σ H D ((Inv.pinX IX).wish E') ⟨ρ, fr, acc⟩) (fun f s4 q => ?_) fun e s4 z => z
  cases f with
  | next => obtain ⟨σ4, H4, I4, q⟩ := q; exact wpAny_execs_nil ⟨σ4, H4, (Inv.unpinX ok I4).wish E, q⟩
  | brk => obtain ⟨σ4, H4, I4, q⟩ := q; exact ⟨σ4, H4, (Inv.unpinX ok I4).wish E, q⟩
  | cont => obtain ⟨σ4, H4, I4, q⟩ := q; exact ⟨σ4, H4, (Inv.unpinX ok I4).wish E, q⟩
  | ret v => obtain ⟨x4, σ4, H4, I4, r, q⟩ := q; exact ⟨x4, σ4, H4, (Inv.unpinX ok I4).wish E, r, q⟩
end
end L3

set_option Elab.async false
set_option linter.all false
set_option autoImplicit false
set_option maxRecDepth 100000
namespace L3
open PySem PySem.Spec PyProof.Rows L2

/-! ### the instance under way is no matter of the promises -/
section
variable {T : Tb} {z : Option Addr} {K : PySem.W.Frag}
theorem argsOk_me {H : Hp} : ∀ (ss : List Sl) (vs : List V), ArgsOk { T with me := z } K H vs ss ↔ ArgsOk T K H vs ss
  | [], _ => Iff.rfl
  | s :: ss, vs => by
    have one : ∀ v, ArgOk { T with me := z } K H v s ↔ ArgOk T K H v s := fun v => by
      cases s with
      | sh d => exact rep_me d v
      | bo ds => exact ⟨fun ⟨a, us, e1, e2, r⟩ => ⟨a, us, e1, e2, (repL_me ds us).mp r⟩, fun ⟨a, us, e1, e2, r⟩ => ⟨a, us, e1, e2, (repL_me ds us).mpr r⟩⟩
      | _ => exact Iff.rfl
    exact ⟨fun ⟨v, r, e, h1, h2⟩ => ⟨v, r, e, (one v).mp h1, (argsOk_me ss r).mp h2⟩, fun ⟨v, r, e, h1, h2⟩ => ⟨v, r, e, (one v).mpr h1, (argsOk_me ss r).mpr h2⟩⟩
theorem rvOk_me {G H : Hp} {v : V} (r : Rv) : RvOk { T with me := z } K G H v r ↔ RvOk T K G H v r := by
  cases r with
  | sh d => exact rep_me d v
  | fr ds => exact ⟨fun ⟨a, us, e1, e2, e3, r⟩ => ⟨a, us, e1, e2, e3, (repL_me ds us).mp r⟩, fun ⟨a, us, e1, e2, e3, r⟩ => ⟨a, us, e1, e2, e3, (repL_me ds us).mpr r⟩⟩
theorem spD_me {n : Nat} {F : Fn} {vs : List V} {H : Hp} {Q : VK} {E : XK} (h : spD { T with me := z } K n F vs H Q E) : spD T K n F vs H Q E := by
  obtain ⟨ss, h1, h2, h3⟩ := h
  refine ⟨ss, (argsOk_me ss vs).mp h1, h2, ?_⟩
  cases e : F ss with
  | ok r => rw [e] at h3; exact fun v H' sm ro => h3 v H' sm ((rvOk_me r).mpr ro)
  | exc c => rw [e] at h3; exact h3
  | bad => rw [e] at h3; exact h3
/-- a def's promise within an __init__ -/
theorem fn_me {P : Program} {w : World} {mg : Str → Option Value} {base : Heap} {k : Nat} {f : Addr} {fd : FuncData} {ps : List Str} {n : Nat} {F : Fn} (h : FnOk P w K mg base (CXE T P w) k f fd ps (spD T K n F)) : FnOk P w K mg base (CXE { T with me := z } P w) k f fd ps (spD { T with me := z } K n F) :=
  ⟨fun vs H Q E q => h.len vs H Q E (spD_me q), fun A outer s H args us vs Q E hr he hb hv hs => h.run A outer s H args us vs Q E hr he hb hv (spD_me hs)⟩
end

/-! ### __init__ and C(..) -/
def spI (T : Tb) (K : PySem.W.Frag) (c n : Nat) (F : Fn) : Sp := fun vs H Q E => ∃ (x dx : Addr) (rest : List V) (ss : List Sl) (G : Hp), vs = .ref x :: rest ∧ H = upd (upd G dx (.own x)) x (.ins (T.ca c) dx []) ∧ G x = none ∧ G dx = none ∧ dx ≠ x ∧ ArgsOk T K G rest ss ∧ vs.length = n ∧
  (match F ss with
  | .ok (.sh d) => ∀ H', Same G H' → Rep T K H' d (.ref x) → Q .non H'
  | .exc c => ∀ H', Same G H' → E (.ref (T.ca c)) none H'
  | _ => False)
/-- an __init__'s outcome by its body's: ar attributes are set -/
@[simp] def initF (n c ar : Nat) (f : Ro → Fl) (ss : List Sl) : Out Rv := match f (.me c [] :: ss ++ List.replicate (n - (ss.length + 1)) .no) with
  | .nx ρ => (match (ρ[0]? : Option Sl) with
    | some (.me c' ds) => if c' = c ∧ ds.length = ar then .ok (.sh (.ins c ds)) else .bad
    | _ => .bad)
  | .exc c _ => .exc c
  | _ => .bad
section
variable {P : Program} {w : World} {K : PySem.W.Frag} {mg : Str → Option Value} {base : Heap} {T : Tb}
theorem fr_init {H G : Hp} {N : List Str} {x dx : Addr} {rest : List V} {ss : List Sl} {c : Nat} (hH : H = upd (upd G dx (.own x)) x (.ins (T.ca c) dx [])) (hx : G x = none) (hdx : G dx = none) (hne : dx ≠ x) (h : ArgsOk T K G rest ss) (hN : rest.length + 1 ≤ N.length) :
    FR { T with me := some x } K G H (L2.start N (.ref x :: rest)) (.me c [] :: ss ++ List.replicate (N.length - (ss.length + 1)) .no) := by
  have hl := ArgsOk.length ss rest h
  have sm : Same G H := fun b o e => by
    rw [hH, upd_ne (fun z => by rw [z, hx] at e; cases e), upd_ne (fun z => by rw [z, hdx] at e; cases e)]; exact e
  have st : ∀ (i : Nat) (v : V), (V.ref x :: rest)[i]? = some v → (L2.start N (.ref x :: rest))[i]? = some (some v) := fun i v e => by
    unfold L2.start
    have hi : i < (V.ref x :: rest).length := (List.getElem?_eq_some_iff.mp e).1
    rw [List.getElem?_append_left (by simpa using hi), List.getElem?_map, e]; rfl
  have cases_ : ∀ (i : Nat) (s : Sl), (Sl.me c [] :: ss ++ List.replicate (N.length - (ss.length + 1)) Sl.no)[i]? = some s → (i = 0 ∧ s = .me c []) ∨ (∃ j, i = j + 1 ∧ ss[j]? = some s) ∨ s = .no := fun i s e => by
    cases i with
    | zero => exact .inl ⟨rfl, by simpa using e.symm⟩
    | succ j =>
      rw [List.cons_append, List.getElem?_cons_succ] at e
      by_cases hj : j < ss.length
      · rw [List.getElem?_append_left hj] at e; exact .inr (.inl ⟨j, rfl, e⟩)
      · rw [List.getElem?_append_right (by omega), List.getElem?_replicate] at e
        split at e
        · cases e; exact .inr (.inr rfl)
        · cases e
  have noow : ∀ (i : Nat) (es : List D), (Sl.me c [] :: ss ++ List.replicate (N.length - (ss.length + 1)) Sl.no)[i]? ≠ some (.ow es) := fun i es z => by
    rcases cases_ i _ z with ⟨_, y⟩ | ⟨j, _, y⟩ | y
    · cases y
    · obtain ⟨v, _, r⟩ := ArgsOk.get ss rest j _ h y; exact r
    · cases y
  refine ⟨sm, ?_, fun i s e => ?_, fun i j ds es _ z _ => absurd z (noow i ds), fun y e => ?_, fun i c' es z => ?_⟩
  · unfold L2.start; simp; omega
  · rcases cases_ i s e with ⟨rfl, rfl⟩ | ⟨j, rfl, y⟩ | rfl
    · exact ⟨x, dx, [], rfl, st 0 _ rfl, by rw [hH]; exact upd_same, hx, rfl, rfl⟩
    · obtain ⟨v, e1, r⟩ := ArgsOk.get ss rest j s h y
      rw [st (j + 1) v (by simpa using e1)]
      cases s with
      | sh d => exact ⟨v, rfl, (rep_me d v).mpr (Rep.mono sm _ _ r)⟩
      | bo ds =>
        obtain ⟨a, us, rfl, r2, r3⟩ := r
        exact ⟨a, us, rfl, r2, (repL_me ds us).mpr (RepL.mono sm _ _ r3)⟩
      | _ => exact r.elim
    · trivial
  · cases e; exact st 0 _ rfl
  · rcases cases_ i _ z with ⟨y, _⟩ | ⟨j, _, y⟩ | y
    · exact y
    · obtain ⟨v, _, r⟩ := ArgsOk.get ss rest j _ h y; exact r.elim
    · cases y
theorem fn_I {c ar : Nat} {x qual : Str} {st : Stmt} {fa : Addr} {fd : FuncData} {N ps : List Str} {k : Nat} {f : Ro → Fl} (hT : T.me = none) (har : (T.fl c).length = ar) (F : ∃ (oc : Value) (od : Option Addr) (dV kV doc pm : Value) (an : Option Addr) (cdv ct : Value) (osl : Array (Option Value)),
      fd = PySem.W.fnOf x qual (defArgs st) (defBody st) (defScope st) dV kV doc pm an cdv ct ∧ K.lookup fa = some ⟨oc, od, .func fd, osl⟩ ∧ PySem.W.codeIn K cdv qual = true) (S : FnScope N ps (defScope st))
    (hb : ∀ (y : Addr) (cdv : Value) (A : Around) (outer : List Env) (s : Shared) (H : Hp) (E : XK), Room k (A.deeper (envOfC qual (defScope st) s.heap.objs.size fa cdv)) → DSs { T with me := some y } true (CxD T P w K mg base N qual (defScope st) fa cdv A outer s H E) (defBody st) f) :
    FnOk P w K mg base (CXE T P w) (k + 1) fa fd ps (spI T K c ps.length (initF N.length c ar f)) := by
  obtain ⟨oc, od, dV, kV, doc, pm, an, cdv, ct, osl, rfl, lk, hcd⟩ := F
  refine fn_of lk hcd S (fun vs H Q E ⟨_, _, _, _, _, _, _, _, _, _, _, e, _⟩ => e) fun A outer s H vs Q E hr ⟨y, dx, rest, ss, G, ev, hH, hx, hdx, hne, ha, hl, ho⟩ => ?_
  subst ev
  have hpl : ps.length ≤ N.length := by have := congrArg List.length S.pre; rw [List.length_take] at this; omega
  have fr := fr_init (T := T) (K := K) (N := N) hH hx hdx hne ha (by simp at hl; omega)
  refine ⟨_, (hb y cdv A outer s H E hr).run G (CxD T P w K mg base N qual (defScope st) fa cdv A outer s H E).xe PassesOwn.leaving, _, fr, ?_⟩
  unfold initF at ho
  cases e : f (.me c [] :: ss ++ List.replicate (N.length - (ss.length + 1)) .no) with
  | nx ρ =>
    rw [e] at ho
    intro σ H' fr' _
    cases e0 : ρ[0]? with
    | none => simp only [e0] at ho
    | some sl =>
      cases sl with
      | me c' ds =>
        simp only [e0] at ho
        by_cases hc : c' = c ∧ ds.length = ar
        · rw [if_pos hc] at ho
          obtain ⟨rfl, hd⟩ := hc
          obtain ⟨a, dx', fs, m0, e1, e2, e3, e4, r⟩ := fr'.sl 0 _ e0
          cases m0
          exact ho H' fr'.same ⟨y, dx', fs, rfl, e2, by rw [e4]; exact List.take_of_length_le (by show (T.fl c').length ≤ _; omega), (repL_me ds _).mp r⟩
        · rw [if_neg hc] at ho; exact ho.elim
      | _ => simp only [e0] at ho
  | exc c' ρ =>
    rw [e] at ho
    intro σ' H' fr' _ pins s' u H'' I hs fl
    exact leave_fly I rfl rfl rfl fl (ho H'' (fr'.same.trans hs))
  | rt r => rw [e] at ho; exact ho.elim
  | bk ρ => rw [e] at ho; exact ho.elim
  | ct ρ => rw [e] at ho; exact ho.elim
  | bad => rw [e] at ho; exact ho.elim
end
section
variable {T : Tb} {ib : Bool} {X : Cx} {e o : Expr} {es : List Expr} {pos pos' p apos : Pos} {fe fo : Ev} {fs : Ro → Out (List Sl)} {k n c : Nat} {f : Addr} {fd : FuncData} {ps : List Str} {F : Fn} {ds : List Value} {dvs : List V} {dss : List Sl} {x : Str}
theorem putF_new {a : Str} {v : V} : ∀ {fs : List (Str × V)}, a ∉ fs.map (·.1) → putF a v fs = fs ++ [(a, v)]
  | [], _ => rfl
  | (b, u) :: r, h => by
    have hb : ¬ b = a := fun z => h (by simp [z])
    have hr : a ∉ r.map (·.1) := fun z => h (by simp at z ⊢; exact .inr z)
    show (if b = a then _ else _) = _
    rw [if_neg hb, putF_new hr]; rfl
mutual
theorem Rep.wr {K : PySem.W.Frag} {H : Hp} {y dx : Addr} {c : Nat} {fs : List (Str × V)} {o : HO} (h : H y = some (.ins (T.ca c) dx fs)) (hn : fs.map (·.1) ≠ T.fl c) : ∀ (d : D) (v : V), Rep T K H d v → Rep T K (upd H y o) d v
  | .non, _, q => q
  | .bl _, _, q => q
  | .int _, _, q => q
  | .str _, _, q => q
  | .tup ds, _, q => by
    obtain ⟨b, ws, r1, r2, r3⟩ := q
    refine ⟨b, ws, r1, ?_, RepL.wr h hn ds ws r3⟩
    rcases r2 with (r2 | ⟨o', r2⟩) | r2
    · exact .inl (.inl (by rw [upd_ne (fun z => by rw [z, h] at r2; cases r2)]; exact r2))
    · exact .inl (.inr ⟨o', by rw [upd_ne (fun z => by rw [z, h] at r2; cases r2)]; exact r2⟩)
    · exact .inr r2
  | .lst ds, _, q => by
    obtain ⟨b, ws, r1, r2, r3⟩ := q
    refine ⟨b, ws, r1, ?_, RepL.wr h hn ds ws r3⟩
    rcases r2 with ⟨o', r2⟩ | r2
    · exact .inl ⟨o', by rw [upd_ne (fun z => by rw [z, h] at r2; cases r2)]; exact r2⟩
    · exact .inr r2
  | .ins c2 ds, _, q => by
    obtain ⟨b, dx2, fs2, r1, r2, r3, r4⟩ := q
    refine ⟨b, dx2, fs2, r1, ?_, r3, RepL.wr h hn ds _ r4⟩
    rw [upd_ne (fun z => ?_)]
    · exact r2
    · rw [z, h] at r2
      injection r2 with r2
      injection r2 with q1 q2 q3
      subst q3
      exact hn (by rw [r3]; unfold Tb.fl; rw [q1])
  | .exc c, _, q => by
    obtain ⟨b, φ, r1, r2, r3⟩ := q
    exact ⟨b, φ, r1, by rw [upd_ne (fun z => by rw [z, h] at r2; cases r2)]; exact r2, r3⟩
theorem RepL.wr {K : PySem.W.Frag} {H : Hp} {y dx : Addr} {c : Nat} {fs : List (Str × V)} {o : HO} (h : H y = some (.ins (T.ca c) dx fs)) (hn : fs.map (·.1) ≠ T.fl c) : ∀ (ds : List D) (us : List V), RepL T K H ds us → RepL T K (upd H y o) ds us
  | [], _, q => q
  | d :: ds, _, q => by
    obtain ⟨v, r, r1, r2, r3⟩ := q
    exact ⟨v, r, r1, Rep.wr h hn d v r2, RepL.wr h hn ds r r3⟩
end
@[simp] def sFldAt (c j : Nat) (fe : Ev) (ρ : Ro) : Fl := match (ρ[0]? : Option Sl) with
  | some (.me c' ds) => if c' = c ∧ ds.length = j then (fe ρ).fl ρ fun d => .nx (ρ.set 0 (.me c (ds ++ [d]))) else .bad
  | _ => .bad
theorem ds_fld {a : Str} (j : Nat) (cl : Cls X.K (T.ca c)) (na : NoAttr X.K (T.ca c) a) (hj : (T.fl c)[j]? = some a) (hnd : (T.fl c).Nodup) (h1000 : j < 1000) (he : DE T X e fe) (hN : X.N[0]? = some x := by rfl) (hv : Vis X.env.scope x := by first | exact Or.inl rfl | exact Or.inr (Or.inl rfl) | exact Or.inr (Or.inr rfl))
    (hs : swapsWith e (some (.Attribute (.Name x p) a pos')) pos.line X.env = pure false := by exact swaps_of rfl) (hd : (x == ("__debug__" : Str)) = false := by decide) (hcd : (x == ("__classdict__" : Str)) = false := by decide) :
    DS T true X (.Assign [.Attribute (.Name x p) a pos'] e pos) (sFldAt c j fe) := .mk fun G E hp => by
  refine PS.imp (ps_fld (X := X.wish E) (pe_var (X := X.wish E) hN hv hd hcd) (he.run G E hp) hs) fun D σ H ⟨ρ, fr, h⟩ => ?_
  have h : AccS T true X G E H (sFldAt c j fe ρ) D := h
  unfold sFldAt at h
  cases e0 : ρ[0]? with
  | none => simp only [e0] at h; exact h.elim
  | some sl =>
    cases sl with
    | me c' ds =>
      simp only [e0] at h
      by_cases hc : c' = c ∧ ds.length = j
      · rw [if_pos hc] at h
        obtain ⟨rfl, hl⟩ := hc
        refine ⟨ρ, fr, Acc.mono (AccS.fl fr h) fun d _ hd2 v H1 s1 rd => ?_⟩
        obtain ⟨y, dx, fs, m0, e1, e2, e3, e4, r⟩ := (fr.mono s1).sl 0 _ e0
        have hjl : j < (T.fl c').length := (List.getElem?_eq_some_iff.mp hj).1
        have hnm : a ∉ fs.map (·.1) := fun z => by
          rw [e4, hl] at z
          obtain ⟨i, hi⟩ := List.getElem?_of_mem z
          obtain ⟨hi1, _⟩ := List.getElem?_eq_some_iff.mp hi
          rw [List.length_take] at hi1
          rw [List.getElem?_take_of_lt (by omega)] at hi
          have := nodup_ix hnd hi hj
          omega
        have hfl : fs.length = ds.length := by
          have := RepL.length _ _ r; simpa using this
        have hnf : fs.map (·.1) ≠ T.fl c' := fun z => by
          have := congrArg List.length z
          simp at this; omega
        refine ⟨_, e1, y, T.ca c', dx, fs, rfl, e2, cl, na, by omega, ?_⟩
        have fr1 := fr.mono s1
        have h0 : 0 < ρ.length := (List.getElem?_eq_some_iff.mp e0).1
        refine hd2 σ _ ⟨fun b u q => ?_, by simp [fr1.len], fun i s q => ?_, fun i k ds' es hik q1 q2 => ?_, fr1.me, fun i c2 es q => ?_⟩ (fun b u q st => ?_)
        · rw [upd_ne (fun z => by rw [z, e3] at q; cases q)]; exact fr1.same b u q
        · by_cases hi : i = 0
          · subst hi
            rw [List.getElem?_set_self h0] at q
            cases q
            refine ⟨y, dx, putF a v fs, m0, e1, upd_same, e3, ?_, ?_⟩
            · rw [putF_new hnm, List.map_append, e4, List.length_append, List.length_cons, List.length_nil, hl]
              rw [List.take_succ, hj]; rfl
            · rw [putF_new hnm, List.map_append]
              exact RepL.append _ _ _ _ (RepL.wr e2 hnf _ _ r) ⟨v, [], rfl, Rep.wr e2 hnf _ _ rd, rfl⟩
          · rw [List.getElem?_set_ne (Ne.symm hi)] at q
            have hs := fr1.sl i s q
            cases s with
            | no => trivial
            | sh d' => obtain ⟨w, z1, z2⟩ := hs; exact ⟨w, z1, Rep.wr e2 hnf _ _ z2⟩
            | ow es =>
              obtain ⟨b, ws, z1, z2, z3, z4⟩ := hs
              exact ⟨b, ws, z1, by rw [upd_ne (fun z => by rw [z, e2] at z2; cases z2)]; exact z2, z3, RepL.wr e2 hnf _ _ z4⟩
            | bo es => obtain ⟨b, ws, z1, z2, z4⟩ := hs; exact ⟨b, ws, z1, z2, RepL.wr e2 hnf _ _ z4⟩
            | me c2 es =>
              exact absurd (fr1.me0 i c2 es q) hi
        · have ni : i ≠ 0 := by rintro rfl; rw [List.getElem?_set_self h0] at q1; cases q1
          have nk : k ≠ 0 := by rintro rfl; rw [List.getElem?_set_self h0] at q2; cases q2
          rw [List.getElem?_set_ne (Ne.symm ni)] at q1
          rw [List.getElem?_set_ne (Ne.symm nk)] at q2
          exact fr1.ne i k ds' es hik q1 q2
        · by_cases hi : i = 0
          · exact hi
          · rw [List.getElem?_set_ne (Ne.symm hi)] at q; exact fr1.me0 i c2 es q
        · have hb : b ≠ y := fun z => by rw [z] at q; rw [s1 _ _ q] at e2; cases e2; cases st
          rw [upd_ne hb]; exact s1 _ _ q
      · rw [if_neg hc] at h; exact h.elim
    | _ => simp only [e0] at h; exact h.elim
end
end L3

set_option Elab.async false
set_option linter.all false
set_option autoImplicit false
set_option maxRecDepth 100000
namespace L3
open PySem PySem.Spec PyProof.Rows L2

section
variable {T : Tb} {ib : Bool} {X : Cx} {e o a b : Expr} {es : List Expr} {pos pos' p apos : Pos} {fe fo fa fb : Ev} {fs : Ro → Out (List Sl)} {k n c : Nat} {f : Addr} {fd : FuncData} {ps : List Str} {F : Fn} {ds : List Value} {dvs : List V} {dss : List Sl} {x : Str}
/-- C(..): the instance and its __init__ -/
theorem run_I {pins : List (Addr × Obj)} {σ : L2.St} {H : Hp} {s : Shared} {E : Value → Shared → Prop} {Q : VK} {us : List Value} {vs : List V} {ss : List Sl} (M : Mk X.K (T.ca c) f) (FO : FnOk X.prog X.w X.K X.mg X.base (CXE T X.prog X.w) k f fd ps (spI T X.K c ps.length F)) (hr : Room (k + 1) X.A) (hb : Binds X.K fd ps ds) (hd : Vals dvs ds)
    (I : Inv (X.wish E) pins σ H s) (r : Vals vs us) (ha : ArgsOk T X.K H (vs ++ dvs) ss) (hl : (us ++ ds).length + 1 = ps.length)
    (h : Acc T X E σ H (F ss) (fun r => ∀ v H', Same H H' → RvOk T X.K H H' v r → Q v H')) (hsh : ∀ ds, F ss ≠ .ok (.fr ds)) :
    wpAny (model X.prog X.w) X.A (call (.ref (T.ca c)) us) (EP (X.wish E) pins σ Q) E s := by
  have IX : Inv X pins σ H s := I.unwish
  have I2 := Inv.made (C := T.ca c) IX
  have hx := IX.hok.fresh (a := s.heap.objs.size + 1) (Nat.le_succ _)
  have hdx := IX.hok.fresh (a := s.heap.objs.size) (Nat.le_refl _)
  have r2 : Vals (V.ref (s.heap.objs.size + 1) :: (vs ++ dvs)) (Value.ref (s.heap.objs.size + 1) :: (us ++ ds)) := .cons rfl (r.append hd)
  let EX : XK := fun cls _ H' => ∃ c', cls = .ref (T.ca c') ∧ F ss = .exc c' ∧ Same H H'
  have hsp : spI T X.K c ps.length F (V.ref (s.heap.objs.size + 1) :: (vs ++ dvs)) (upd (upd H s.heap.objs.size (.own (s.heap.objs.size + 1))) (s.heap.objs.size + 1) (.ins (T.ca c) s.heap.objs.size [])) (fun v H2 => v = .non ∧ Q (.ref (s.heap.objs.size + 1)) H2) EX := by
    refine ⟨_, s.heap.objs.size, vs ++ dvs, ss, H, rfl, rfl, hx, hdx, Nat.ne_of_lt (Nat.lt_succ_self _), ha, ?_, ?_⟩
    · have := r2.length; rw [this]; simpa using hl
    · cases ef : F ss with
      | ok rr =>
        cases rr with
        | sh d => rw [ef] at h; exact fun H' sm rd => ⟨rfl, h _ H' sm rd⟩
        | fr ds => exact absurd ef (hsh ds)
      | exc c' => exact fun H' sm => ⟨c', rfl, ef, sm⟩
      | bad => rw [ef] at h; exact h.elim
  have hl2 : (Value.ref (s.heap.objs.size + 1) :: us ++ ds).length = ps.length := by simpa using hl
  refine wpAny_call (make_map (f := f) IX.kIn M.makes M.init (beq_iff_eq.mp M.fn) (codeAny_mono (FO.run _ X.stack _ _ ⟨Value.ref (s.heap.objs.size + 1) :: us, []⟩ (Value.ref (s.heap.objs.size + 1) :: (us ++ ds)) _ _ EX (hr.make (T.ca c) us [])
    (I2.env0.make (T.ca c) us []) (hb _ (Value.ref (s.heap.objs.size + 1) :: us) I2.kIn hl2) r2 hsp) fun res s' hq => ?_))
  cases res with
  | error ev =>
    obtain ⟨c1, H', I', fl, c', ec, eF, sm⟩ := Inv.flown I2 hq
    rw [eF] at h
    refine h pins s' ev H' I' sm ?_
    obtain ⟨ea, rfl, h1, h2, oe, vs', a0, he, hc, rest⟩ := fl
    exact ⟨ea, rfl, h1, h2, oe, vs', a0, he, hc.trans ec, rest⟩
  | ok fl =>
    cases fl with
    | ret u =>
      obtain ⟨v, H', I3, rv, ev, q3⟩ := I2.after hq
      subst ev
      exact ⟨rv, ⟨V.ref (s.heap.objs.size + 1), H', I3.wish E, rfl, q3⟩⟩
    | next => exact False.elim hq
    | brk => exact False.elim hq
    | cont => exact False.elim hq
theorem dr_make (M : Mk X.K (T.ca c) f) (FO : FnOk X.prog X.w X.K X.mg X.base (CXE T X.prog X.w) k f fd ps (spI T X.K c ps.length F)) (hsh : ∀ ss ds, F ss ≠ .ok (.fr ds)) (hr : Room (k + 1) X.A) (hg : Gl X x) (hm : X.mg x = some (.ref (T.ca c))) (hb : Binds X.K fd ps ds) (hd : Vals dvs ds)
    (hds : ∀ H, ArgsOk T X.K H dvs dss) (hn : n + 1 = ps.length) (ha : DG T X (e :: es) fs) (hdb : (x == ("__debug__" : Str)) = false := by decide) (he : starEach (e :: es) X.env = (false, eval e X.env) :: starEach es X.env := by exact star_of rfl) (hpl : (backTo pos (starEach es X.env)).any (·.1) = false := by exact plain_of rfl) :
    DR T X (.Call (.Name x p) (e :: es) [] pos) (rCall (n := n) F dss fs) := .mk fun G E hp => by
  rintro pins s σ H Q I ⟨ρ, fr, h⟩
  refine wpAny_Call_Name_kw (ld_glob (X := X.wish E) I hg hm ?_ hdb)
  refine PySem.W.callWith_K (h₀ := X.base) I.ok.mod.kin M.kp (thn (ha.run G E hp pos pins s σ H (fun vs H1 => ∃ ss, ArgsOk T X.K H1 vs ss ∧ ss.length + dss.length = n ∧ Same H H1 ∧ Acc T X E σ H1 (F (ss ++ dss)) (fun r => ∀ v H', Same H1 H' → RvOk T X.K H1 H' v r → Q v H')) I ⟨ρ, fr, ?_⟩) fun us s1 ⟨vs, H1, I1, r, ss, ha1, hl1, s1', q⟩ => ⟨I1.kIn, ?_⟩) he hpl
  · have h : Acc T X E σ H ((fs ρ).bind fun ss => if ss.length + dss.length = n then F (ss ++ dss) else .bad) _ := h
    refine Acc.mono (Acc.bind h) fun ss _ hss vs H1 s1 r1 => ?_
    by_cases hl : ss.length + dss.length = n
    · rw [if_pos hl] at hss
      exact ⟨ss, r1, hl, s1, Acc.mono (Acc.heap s1 hss) fun r _ hr' v H' s2 r2 => hr' v H' (s1.trans s2) (by
        cases r with
        | sh d => exact r2
        | fr ds =>
          obtain ⟨a, us, e1, e2, e3, e4⟩ := r2
          exact ⟨a, us, e1, e2, s1.free e3, e4⟩)⟩
    · rw [if_neg hl] at hss; exact hss.elim
  · have la := ArgsOk.length ss vs ha1
    have lr := r.length
    have ld := ArgsOk.length dss dvs (hds H1)
    have lv := hd.length
    exact run_I (X := X) M FO hr hb hd I1 r (ArgsOk.append _ _ _ _ ha1 (hds H1)) (by simp only [List.length_append, List.nil_append]; omega) q (hsh _)
theorem initF_sh {n c ar : Nat} {f : Ro → Fl} (ss : List Sl) (ds : List D) : initF n c ar f ss ≠ .ok (.fr ds) := by
  intro h
  unfold initF at h
  split at h
  · split at h
    · split at h
      · cases h
      · cases h
    · cases h
  · cases h
  · cases h
/-! attributes: cps tells for each class (by number) the place of the attribute -/
@[simp] def fldD (cps : List (Nat × Nat)) : D → Out D
  | .ins c ds => (match cps.lookup c with
    | some j => (match ds[j]? with | some d => .ok d | none => .bad)
    | none => .bad)
  | _ => .bad
@[simp] def eFld (cps : List (Nat × Nat)) (fo : Ev) (ρ : Ro) : Out D := (fo ρ).bind (fldD cps)
theorem lookup_at {a : Str} {j : Nat} {v : V} : ∀ {fs : List (Str × V)}, (fs.map (·.1)).Nodup → (fs.map (·.1))[j]? = some a → (fs.map (·.2))[j]? = some v → fs.lookup a = some v
  | [], _, h, _ => by simp at h
  | (b, u) :: r, nd, h1, h2 => by
    cases j with
    | zero =>
      simp at h1 h2
      subst h1 h2
      simp [List.lookup]
    | succ j =>
      rw [List.map_cons, List.getElem?_cons_succ] at h1 h2
      rw [List.map_cons, List.nodup_cons] at nd
      have hne : (a == b) = false := by
        rw [beq_eq_false_iff_ne]
        rintro rfl
        exact nd.1 (List.mem_of_getElem? h1)
      rw [List.lookup_cons, hne]
      exact lookup_at nd.2 h1 h2
theorem mem_of_lookupN {cps : List (Nat × Nat)} {c j : Nat} (h : cps.lookup c = some j) : (c, j) ∈ cps := by
  induction cps with
  | nil => cases h
  | cons q r ih =>
    obtain ⟨a, b⟩ := q
    rw [List.lookup_cons] at h
    by_cases z : c = a
    · subst z
      simp at h; subst h; exact List.mem_cons_self
    · have : (c == a) = false := beq_eq_false_iff_ne.mpr z
      rw [this] at h
      exact List.mem_cons_of_mem _ (ih h)
theorem de_fld {at_ : Str} {cps : List (Nat × Nat)} (he : DE T X o fo) (hc : ∀ q ∈ cps, Cls X.K (T.ca q.1) ∧ NoAttr X.K (T.ca q.1) at_ ∧ (T.fl q.1).Nodup ∧ (T.fl q.1)[q.2]? = some at_) (hb : attributeBase o at_ X.env (eval o X.env) = eval o X.env := by rfl) : DE T X (.Attribute o at_ pos) (eFld cps fo) := .mk fun G E hp =>
  PE.imp (pe_fld (X := X.wish E) (he.run G E hp) hb) fun σ H Q ⟨ρ, fr, q⟩ => ⟨ρ, fr, Acc.mono (Acc.bind q) fun d _ hd v H1 s1 r => by
    cases d with
    | ins c ds =>
      obtain ⟨y, dx, fs, rfl, e2, e3, r4⟩ := r
      have hd : Acc T X E σ H (match cps.lookup c with | some j => (match ds[j]? with | some d => .ok d | none => .bad) | none => .bad) _ := hd
      cases el : cps.lookup c with
      | none => simp only [el] at hd; exact hd.elim
      | some j =>
        simp only [el] at hd
        cases ed : ds[j]? with
        | none => simp only [ed] at hd; exact hd.elim
        | some d =>
          simp only [ed] at hd
          obtain ⟨h1, h2, h3, h4⟩ := hc (c, j) (mem_of_lookupN el)
          obtain ⟨w, ew, rw'⟩ := RepL.get _ _ _ _ r4 ed
          exact ⟨y, T.ca c, dx, fs, w, rfl, e2, h1, h2, lookup_at (by rw [e3]; exact h3) (by rw [e3]; exact h4) ew, hd w H1 s1 rw'⟩
    | _ => exact hd.elim⟩
/-! isinstance(x, C), C of the text's own -/
@[simp] def g_own (cid : Nat) : D → Out Bool
  | .ins c _ => if c = cid then .ok true else .bad
  | _ => .bad
theorem isi_own {K : PySem.W.Frag} {cid : Nat} (h : InsI K (T.ca cid)) : IsiOk T K (.ref (T.ca cid)) (g_own cid) := fun d b hb => by
  cases d with
  | ins c ds =>
    have hb : (if c = cid then Out.ok true else .bad) = .ok b := hb
    by_cases z : c = cid
    · rw [if_pos z] at hb
      cases hb
      subst z
      refine ⟨?_, (fun c' ds' e => by cases e; exact h), (fun _ e => by cases e)⟩
      unfold PySem.W.kitOne
      rw [if_pos (by simp [tyVal])]
    · rw [if_neg z] at hb; cases hb
  | _ => cases hb
theorem isi_own_ne (cid : Nat) (d : D) (c : Nat) : g_own cid d ≠ .exc c := by
  cases d <;> (intro h; first | cases h | (simp only [g_own] at h; split at h <;> cases h))
theorem de_isiC {cn : Str} {cid : Nat} {p2 : Pos} {g : D → Out Bool} (hg : Gl X "isinstance") (hm : X.mg "isinstance" = none) (ha : DE T X e fe) (hgc : Gl X cn) (hmc : X.mg cn = some (.ref (T.ca cid))) (hi : IsiOk T X.K (.ref (T.ca cid)) g) (hng : ∀ d cc, g d ≠ .exc cc)
    (hs1 : starEach [e, .Name cn p2] X.env = (false, eval e X.env) :: starEach [.Name cn p2] X.env := by rfl) (hd : (cn == ("__debug__" : Str)) = false := by decide) : DE T X (.Call (.Name "isinstance" p) [e, .Name cn p2] [] pos) (eIsi g fe) :=
  de_isi (cv := .ref (T.ca cid)) (clsv := .ref (T.ca cid)) hg hm ha (fun E => pe_glob (X := X.wish E) hgc hmc rfl hd) (fun u r => r) hi hng hs1
@[simp] def g_exc (cs : List Nat) : D → Out Bool
  | .exc c => if cs.contains c = true then .ok true else .bad
  | _ => .bad
theorem isi_exc {K : PySem.W.Frag} {clsv : Value} {cs : List Nat} (h : ∀ c ∈ cs, PySem.W.kitOne K (.ref (T.ca c)) clsv = some true) : IsiOk T K clsv (g_exc cs) := fun d b hb => by
  cases d with
  | exc c =>
    have hb : (if cs.contains c = true then Out.ok true else .bad) = .ok b := hb
    by_cases z : cs.contains c = true
    · rw [if_pos z] at hb
      cases hb
      exact ⟨h c (List.contains_iff_mem.mp z), (fun c' ds' e => by cases e), (fun _ _ => rfl)⟩
    · rw [if_neg z] at hb; cases hb
  | _ => cases hb
theorem isi_exc_ne (cs : List Nat) (d : D) (c : Nat) : g_exc cs d ≠ .exc c := by
  cases d <;> (intro h; first | cases h | (simp only [g_exc] at h; split at h <;> cases h))
/-! is None, is True; chains of two comparisons -/
@[simp] def D.isNon : D → Bool
  | .non => true
  | _ => false
@[simp] def isNonD (neg : Bool) : D → D → Out D
  | d, .non => .ok (.bl (if neg then !d.isNon else d.isNon))
  | _, _ => .bad
theorem non_dec {H : Hp} {d : D} {v : V} (r : Rep T X.K H d v) : decide (v = .non) = d.isNon := by
  cases d with
  | non => cases r; rfl
  | bl b => cases r; rfl
  | int i => cases r; rfl
  | str z => cases r; rfl
  | tup ds => obtain ⟨a, vs, rfl, _⟩ := r; rfl
  | lst ds => obtain ⟨a, vs, rfl, _⟩ := r; rfl
  | ins c ds => obtain ⟨a, dx, fs, rfl, _⟩ := r; rfl
  | exc c => obtain ⟨a, φ, rfl, _⟩ := r; rfl
theorem od_isN : OpD T X (compareOp .Is) (isNonD false) := fun E => ⟨_, op_isN, fun dx dy x y σ H Q rx ry q => by
  cases dy with
  | non => exact ⟨ry, q _ H (Same.refl H) (congrArg V.bl (non_dec rx))⟩
  | _ => exact q.elim⟩
theorem od_isNotN : OpD T X (compareOp .IsNot) (isNonD true) := fun E => ⟨_, op_notN, fun dx dy x y σ H Q rx ry q => by
  cases dy with
  | non => exact ⟨ry, q _ H (Same.refl H) (congrArg (fun b => V.bl (!b)) (non_dec rx))⟩
  | _ => exact q.elim⟩
@[simp] def eChain (g g' : D → D → Out D) (fa fb fc : Ev) (ρ : Ro) : Out D := (fa ρ).bind fun x => (fb ρ).bind fun y => (g x y).bind fun z => z.toB.bind fun k => if k = true then (fc ρ).bind fun w => g' y w else .ok (.bl false)
theorem chain_use {G H : Hp} {E : Value → Shared → Prop} {σ : L2.St} {Q : VK} {g g' : D → D → Out D} {r r' : R2} {fc : Ev}
    (hg : ∀ (dx dy : D) (x y : V) (σ : L2.St) (H : Hp) (Q : VK), Rep T X.K H dx x → Rep T X.K H dy y → Acc T X E σ H (g dx dy) (kE T X.K H Q) → r x y H Q)
    (hg' : ∀ (dx dy : D) (x y : V) (σ : L2.St) (H : Hp) (Q : VK), Rep T X.K H dx x → Rep T X.K H dy y → Acc T X E σ H (g' dx dy) (kE T X.K H Q) → r' x y H Q) {ρ : Ro} (fr : FR T X.K G H σ ρ) (h : Acc T X E σ H (eChain g g' fa fb fc ρ) (kE T X.K H Q)) :
    tChain r r' (tE T X G E fa) (tE T X G E fb) (tE T X G E fc) σ H Q := by
  have h : Acc T X E σ H ((fa ρ).bind fun x => (fb ρ).bind fun y => (g x y).bind fun z => z.toB.bind fun k => if k = true then (fc ρ).bind fun w => g' y w else .ok (.bl false)) (kE T X.K H Q) := h
  refine ⟨ρ, fr, Acc.mono (Acc.bind h) fun dx _ hx v H1 s1 r1 => ⟨ρ, fr.mono s1, Acc.mono (Acc.bind (Acc.heap s1 hx)) fun dy _ hy u H2 s2 r2 => ?_⟩⟩
  refine hg dx dy v u σ H2 _ (Rep.mono s2 _ _ r1) r2 (Acc.mono (Acc.bind (Acc.heap s2 hy)) fun dz _ hz w H3 s3 r3 => ?_)
  obtain ⟨kk, rfl, hk⟩ := toB_inv hz
  refine ⟨kk, r3, ?_⟩
  cases kk with
  | true =>
    refine ⟨ρ, ((fr.mono s1).mono s2).mono s3, Acc.mono (Acc.bind (Acc.heap s3 hk)) fun dw _ hw t H4 s4 r4 => ?_⟩
    exact hg' dy dw u t σ H4 Q (Rep.mono s4 _ _ (Rep.mono s3 _ _ r2)) r4 (Acc.mono (Acc.heap s4 hw) fun d _ hd z H5 s5 r5 => hd z H5 ((((s1.trans s2).trans s3).trans s4).trans s5) r5)
  | false => exact hk _ H3 ((s1.trans s2).trans s3) rfl
theorem dt_chain {op op' : CmpOp} {g g' : D → D → Out D} {cc : Expr} {fc : Ev} (ho : OpD T X (compareOp op) g) (ho' : OpD T X (compareOp op') g') (ha : DE T X a fa) (hb : DE T X b fb) (hc : DE T X cc fc) (hm : lastMarks [op, op'] [b, cc] = false := by with_unfolding_all rfl) :
    DT T X (.Compare a [op, op'] [b, cc] pos) (fun ρ => (eChain g g' fa fb fc ρ).bind D.toB) := .mk fun G E hp => by
  obtain ⟨r, hr, hg⟩ := ho E
  obtain ⟨r', hr', hg'⟩ := ho' E
  refine PT.imp (pt_chain (X := X.wish E) hr hr' (ha.run G E hp) (hb.run G E hp) (hc.run G E hp) hm) fun σ H Q ⟨ρ, fr, h⟩ => chain_use hg hg' fr (Acc.mono (Acc.bind h) fun d _ hd v H1 s1 r1 => ?_)
  cases d with
  | bl kk => exact ⟨kk, r1, hd H1 s1⟩
  | _ => exact hd.elim
theorem de_chain {op op' : CmpOp} {g g' : D → D → Out D} {cc : Expr} {fc : Ev} (ho : OpD T X (compareOp op) g) (ho' : OpD T X (compareOp op') g') (ha : DE T X a fa) (hb : DE T X b fb) (hc : DE T X cc fc) (hm : lastMarks [op, op'] [b, cc] = false := by with_unfolding_all rfl) :
    DE T X (.Compare a [op, op'] [b, cc] pos) (eChain g g' fa fb fc) := .mk fun G E hp => by
  obtain ⟨r, hr, hg⟩ := ho E
  obtain ⟨r', hr', hg'⟩ := ho' E
  exact PE.imp (pe_chain (X := X.wish E) hr hr' (ha.run G E hp) (hb.run G E hp) (hc.run G E hp) hm) fun σ H Q ⟨ρ, fr, h⟩ => chain_use hg hg' fr h
end
end L3

set_option Elab.async false
set_option linter.all false
set_option autoImplicit false
set_option maxRecDepth 100000
namespace L3
open PySem PySem.Spec PyProof.Rows L2

section
variable {T : Tb} {ib : Bool} {X : Cx} {e o a b : Expr} {es : List Expr} {pos pos' p apos : Pos} {fe fo fa fb : Ev} {x : Str}
/-! is, is not: of bools and None -/
@[simp] def isD (neg : Bool) : D → D → Out D
  | .bl i, .bl j => .ok (.bl (if neg then !decide (i = j) else decide (i = j)))
  | d, .non => .ok (.bl (if neg then !d.isNon else d.isNon))
  | _, _ => .bad
theorem op_isB : OpR X (compareOp .Is) (fun x y H Q => ∃ i j, x = .bl i ∧ y = .bl j ∧ Q (.bl (decide (i = j))) H) := by
  intro pins s σ H x y v u Q I rx ry h
  obtain ⟨i, j, rfl, rfl, q⟩ := h
  cases rx
  cases ry
  exact is_bool (fin_bl I q (by cases i <;> cases j <;> rfl))
theorem op_isNotB : OpR X (compareOp .IsNot) (fun x y H Q => ∃ i j, x = .bl i ∧ y = .bl j ∧ Q (.bl (!decide (i = j))) H) := by
  intro pins s σ H x y v u Q I rx ry h
  obtain ⟨i, j, rfl, rfl, q⟩ := h
  cases rx
  cases ry
  exact isnot_bool (fin_bl I q (by cases i <;> cases j <;> rfl))
theorem od_is : OpD T X (compareOp .Is) (isD false) := fun E => ⟨_, OpR.or op_isN op_isB, fun dx dy x y σ H Q rx ry q => by
  cases dy with
  | non =>
    have q2 : Acc T X E σ H (.ok (.bl dx.isNon)) (kE T X.K H Q) := by cases dx <;> exact q
    exact .inl ⟨ry, q2 _ H (Same.refl H) (congrArg V.bl (non_dec rx))⟩
  | bl j =>
    cases dx with
    | bl i => exact .inr ⟨i, j, rx, ry, q _ H (Same.refl H) rfl⟩
    | _ => exact q.elim
  | _ => first | exact q.elim | (cases dx <;> exact q.elim)⟩
theorem od_isNot : OpD T X (compareOp .IsNot) (isD true) := fun E => ⟨_, OpR.or op_notN op_isNotB, fun dx dy x y σ H Q rx ry q => by
  cases dy with
  | non =>
    have q2 : Acc T X E σ H (.ok (.bl (!dx.isNon))) (kE T X.K H Q) := by cases dx <;> exact q
    exact .inl ⟨ry, q2 _ H (Same.refl H) (congrArg (fun b => V.bl (!b)) (non_dec rx))⟩
  | bl j =>
    cases dx with
    | bl i => exact .inr ⟨i, j, rx, ry, q _ H (Same.refl H) rfl⟩
    | _ => exact q.elim
  | _ => first | exact q.elim | (cases dx <;> exact q.elim)⟩
/-! a, b = t -/
@[simp] def gsSet : List Nat → Ro → List D → Out Ro
  | [], ρ, [] => .ok ρ
  | i :: is, ρ, d :: ds => gsSet is (ρ.set i (.sh d)) ds
  | _, _, _ => .bad
def TgsD (T : Tb) (X : Cx) (ts : List Expr) (is : List Nat) : Prop := ∀ E : Value → Shared → Prop, ∃ tg : TGs, PGs (X.wish E) ts tg ∧ ∀ (G H : Hp) (σ : L2.St) (ρ ρ' : Ro) (ds : List D) (vs : List V) (Q : L2.St → Hp → Prop), FR T X.K G H σ ρ → RepL T X.K H ds vs → gsSet is ρ ds = .ok ρ' → (∀ σ', FR T X.K G H σ' ρ' → Q σ' H) → tg vs σ H Q
theorem tgs_nil : TgsD T X [] [] := fun E => ⟨_, pgs_nil, fun G H σ ρ ρ' ds vs Q fr r e k => by
  cases ds with
  | nil => cases e; cases r; exact ⟨rfl, k σ fr⟩
  | cons d ds => cases e⟩
theorem tgs_cons (i : Nat) {is : List Nat} {ts : List Expr} (hN : X.N.Nodup) (hr : TgsD T X ts is) (hi : X.N[i]? = some x := by rfl) (hx : Loc X.env.scope x := by first | exact Or.inl rfl | exact Or.inr rfl) (hf : X.fn x = true ∨ X.env.scope.names.lookup x = some .local := by first | exact .inl rfl | exact .inr rfl | assumption) (hz : T.me = none ∨ i ≠ 0 := by first | exact Or.inr (by decide) | exact Or.inl (by assumption))
    (hs : (assignEach (.Name x p :: ts) X.env).map (·.2) = assign (.Name x p) X.env :: (assignEach ts X.env).map (·.2) := by rfl) : TgsD T X (.Name x p :: ts) (i :: is) := fun E => by
  obtain ⟨tg, h1, h2⟩ := hr E
  refine ⟨_, pgs_cons (X := X.wish E) (pg_name (X := X.wish E) (i := i) hN hi hx hf) h1 (by first | exact hs | rfl), fun G H σ ρ ρ' ds vs Q fr r e k => ?_⟩
  cases ds with
  | nil => cases e
  | cons d ds =>
    obtain ⟨v, us, rfl, r1, r2⟩ := r
    exact ⟨v, us, rfl, h2 G H _ _ ρ' ds us Q (fr.set_sh r1 hz) r2 e k⟩
@[simp] def gUnp (is : List Nat) (ρ : Ro) (d : D) : Out Ro := match d with
  | .tup ds => gsSet is ρ ds
  | _ => .bad
theorem gsSet_len : ∀ (is : List Nat) (ρ ρ' : Ro) (ds : List D), gsSet is ρ ds = .ok ρ' → ds.length = is.length
  | [], _, _, [], _ => rfl
  | [], _, _, _ :: _, e => by cases e
  | _ :: _, _, _, [], e => by cases e
  | i :: is, ρ, ρ', d :: ds, e => by
    have := gsSet_len is _ ρ' ds e
    simp [this]
theorem tg_unp {ts : List Expr} {is : List Nat} {kk : Nat} (hc : X.calm = true) (h : TgsD T X ts is) (hn : (assignEach ts X.env).length = is.length := by rfl) (hst : (assignEach ts X.env).findIdx? (·.1) = none := by rfl) : TgD T X (.Tuple ts kk pos) (gUnp is) := fun E => by
  obtain ⟨tg, h1, h2⟩ := h E
  refine ⟨_, pg_tup (X := X.wish E) (n := is.length) hc h1 hn hst, fun G H σ ρ ρ' d v Q fr r e k => ?_⟩
  cases d with
  | tup ds =>
    obtain ⟨a, vs, rfl, sq, rl⟩ := r
    exact ⟨a, vs, rfl, sq, (RepL.length _ _ rl).trans (gsSet_len is ρ ρ' ds e), h2 G H σ ρ ρ' ds vs Q fr rl e k⟩
  | _ => cases e
@[simp] def sUnp (is : List Nat) (fe : Ev) (ρ : Ro) : Fl := (fe ρ).fl ρ fun d => match gUnp is ρ d with
  | .ok ρ' => .nx ρ'
  | _ => .bad
theorem ds_unp {tg : Expr} {is : List Nat} (he : DE T X e fe) (hg : TgD T X tg (gUnp is)) (hs : swapsWithSole [tg] e pos.line X.env = pure false := by rfl) (hw : swappedStores [tg] e X.env = pure none := by rfl)
    (h1 : (assignEach [tg] X.env).map (·.2) = [assign tg X.env] := by rfl) : DS T ib X (.Assign [tg] e pos) (sUnp is fe) := .mk fun G E hp => by
  obtain ⟨tgr, hpg, hgr⟩ := hg E
  refine PS.imp (ps_asg (X := X.wish E) (he.run G E hp) hpg hs hw h1) fun D σ H ⟨ρ, fr, h⟩ => ⟨ρ, fr, Acc.mono (AccS.fl fr h) fun d _ hd v H1 s1 r1 => ?_⟩
  cases eg : gUnp is ρ d with
  | ok ρ' =>
    simp only [eg] at hd
    exact hgr G H1 σ ρ ρ' d v _ (fr.mono s1) r1 eg fun σ' fr' => hd σ' H1 fr' (Pers.of s1)
  | exc c => simp only [eg] at hd; exact hd.elim
  | bad => simp only [eg] at hd; exact hd.elim
end
end L3

set_option Elab.async false
set_option linter.all false
set_option autoImplicit false
set_option maxRecDepth 100000
namespace L3
open PySem PySem.Spec PyProof.Rows L2
section
variable {T : Tb} {X : Cx} {pos : Pos} {x : Str}
theorem de_globI {i : Int} (hg : Gl X x) (h : ∃ t, X.mg x = some (.int i t)) (hd : (x == ("__debug__" : Str)) = false := by decide) : DE T X (.Name x pos) (eC (.int i)) := by
  obtain ⟨t, h⟩ := h
  exact de_glob (v := .int i) hg h ⟨t, rfl⟩ (fun _ => rfl) hd
theorem de_globS {z : Str} (hg : Gl X x) (h : ∃ t, X.mg x = some (.str z t)) (hd : (x == ("__debug__" : Str)) = false := by decide) : DE T X (.Name x pos) (eC (.str z)) := by
  obtain ⟨t, h⟩ := h
  exact de_glob (v := .str z) hg h ⟨t, rfl⟩ (fun _ => rfl) hd
theorem hsh1 {fe : Ev} (ρ : Ro) (ds : List D) (h : aCons fe aNil ρ = .ok ds) : ds.length ≤ 1000 := by
  simp only [aCons, aNil] at h
  cases e : fe ρ with
  | ok d => rw [e] at h; cases h; show 1 ≤ 1000; decide
  | exc c => rw [e] at h; cases h
  | bad => rw [e] at h; cases h
theorem hdec_of {K : PySem.W.Frag} {k : Nat} {tab : List (Nat × Bool)} (h : ∀ q ∈ tab, PySem.W.exmOne K (.ref (T.ca q.1)) (.ref (T.ca k)) = some q.2) (c : Nat) (b : Bool) (e : tab.lookup c = some b) : PySem.W.exmOne K (.ref (T.ca c)) (.ref (T.ca k)) = some b := by
  have hm : (c, b) ∈ tab := by
    induction tab with
    | nil => cases e
    | cons q r ih =>
      obtain ⟨a, d⟩ := q
      rw [List.lookup_cons] at e
      by_cases z : c = a
      · subst z
        simp at e; subst e; exact List.mem_cons_self
      · have : (c == a) = false := beq_eq_false_iff_ne.mpr z
        rw [this] at e
        exact List.mem_cons_of_mem _ (ih (fun q hq => h q (List.mem_cons_of_mem _ hq)) e)
  exact h _ hm
end
/-- a def with or without defaults, as it stands behind the top -/
theorem fun_ex {K : PySem.W.Frag} {x qual : Str} {st : Stmt} {f : Addr} {fd : FuncData} (F : L2.Fun K x qual st f fd) : ∃ (oc : Value) (od : Option Addr) (dV kV doc pm : Value) (an : Option Addr) (cdv ct : Value) (osl : Array (Option Value)),
      fd = PySem.W.fnOf x qual (defArgs st) (defBody st) (defScope st) dV kV doc pm an cdv ct ∧ K.lookup f = some ⟨oc, od, .func fd, osl⟩ ∧ PySem.W.codeIn K cdv qual = true := by
  obtain ⟨oc, od, kV, doc, pm, an, cdv, ct, osl, e1, e2, e3⟩ := F.ex
  exact ⟨oc, od, .none, kV, doc, pm, an, cdv, ct, osl, e1, e2, e3⟩
end L3

set_option Elab.async false
set_option linter.all false
set_option autoImplicit false
set_option maxRecDepth 100000
namespace L3
open PySem PySem.Spec PyProof.Rows L2
section
variable {T : Tb} {ib : Bool} {X : Cx} {e o a : Expr} {es : List Expr} {pos p apos cpos : Pos} {fe fo : Ev} {fs : Ro → Out (List D)}
/-! ### methods of texts -/
/-- a method of the built-in type t, with shared values -/
def MtD (T : Tb) (X : Cx) (t id : String) (g : D → List D → Out D) : Prop := ∀ E : Value → Shared → Prop, ∃ r : V → List V → Hp → VK → Prop, MtR (X.wish E) id r ∧
  ∀ (d : D) (ds : List D) (v : V) (vs : List V) (σ : L2.St) (H : Hp) (Q : VK), Rep T X.K H d v → RepL T X.K H ds vs → Acc T X E σ H (g d ds) (kE T X.K H Q) → r v vs H Q
@[simp] def eMt (ty : D → Bool) (g : D → List D → Out D) (fo : Ev) (fs : Ro → Out (List D)) (ρ : Ro) : Out D := (fo ρ).bind fun d => if ty d = true then (fs ρ).bind fun ds => g d ds else .bad
@[simp] def isStrD : D → Bool
  | .str _ => true
  | _ => false
theorem de_mtS {name : Str} {id : String} {g : D → List D → Out D} (hm : MtD T X "str" id g) (slot : Slot "str" name id) (hty : typeOf (.builtin id) = pure (.type "method_descriptor")) (ho : DE T X o fo) (ha : DA T X (e :: es) fs)
    (hbase : attributeBase o name X.env (eval o X.env) = eval o X.env := by rfl)
    (hfew : ((backTo cpos (starEach (e :: es) X.env)).all (fun x => !x.1) && (backToKw cpos (keywordEach [] X.env)).all (fun x => x.1.isSome)
      && decide ((e :: es).length + ([] : List Keyword).length + (if ([] : List Keyword).isEmpty then 0 else 1) < 30)) = true := by exact few_of rfl rfl)
    (hline : (apos.endLine == cpos.line) = true := by rfl) (hs : starEach (e :: es) X.env = (false, eval e X.env) :: starEach es X.env := by exact star_of rfl) (hplain : (backTo cpos (starEach es X.env)).any (·.1) = false := by exact plain_of rfl) :
    DE T X (.Call (.Attribute o name apos) (e :: es) [] cpos) (eMt isStrD g fo fs) := .mk fun G E hp => by
  obtain ⟨r, hr, hg⟩ := hm E
  refine PE.imp (pe_bm (X := X.wish E) PySem.F.plainAttrs_str slot hty hr (ho.run G E hp) (ha.run G E hp) hbase hfew hline hs hplain) fun σ H Q ⟨ρ, fr, q⟩ => ?_
  have q : Acc T X E σ H ((fo ρ).bind fun d => if isStrD d = true then (fs ρ).bind fun ds => g d ds else .bad) (kE T X.K H Q) := q
  refine ⟨ρ, fr, Acc.mono (Acc.bind q) fun d _ hd v H1 s1 rd => ?_⟩
  by_cases z : isStrD d = true
  · rw [if_pos z] at hd
    cases d with
    | str x =>
      refine ⟨by rw [show v = V.str x from rd]; exact rfl, ρ, fr.mono s1, Acc.mono (Acc.bind (Acc.heap s1 hd)) fun ds _ hds vs H2 s2 rl => ?_⟩
      exact hg _ ds v vs σ H2 Q (Rep.mono s2 _ _ rd) rl (Acc.mono (Acc.heap s2 hds) fun d' _ k w H3 s3 r3 => k w H3 ((s1.trans s2).trans s3) r3)
    | _ => cases z
  · rw [if_neg z] at hd; exact hd.elim
@[simp] def zfillG : D → List D → Out D
  | .str x, [.int i] => if 0 ≤ i ∧ i ≤ 1000 then .ok (.str (if i ≤ x.length then x else zfilled x (i.toNat - x.length))) else .bad
  | _, _ => .bad
theorem md_zfill : MtD T X "str" "str.zfill" zfillG := fun E => by
  refine ⟨fun v vs H Q => ∃ x i, v = .str x ∧ vs = [.int i] ∧ (0 ≤ i ∧ i ≤ 1000) ∧ Q (.str (if i ≤ x.length then x else zfilled x (i.toNat - x.length))) H, ?_, ?_⟩
  · intro pins s σ H x xs v us Q I rx rv h
    obtain ⟨z, i, rfl, rfl, ⟨h0, h1⟩, q⟩ := h
    obtain ⟨t, rfl⟩ := rx
    obtain ⟨u, rfl, ⟨t', rfl⟩⟩ := rv.one
    have hr : (decide (i < -(2 ^ 63 : Int)) || decide (i ≥ 2 ^ 63)) = false := by
      rw [decide_eq_false (by omega), decide_eq_false (by omega)]; rfl
    have hl : Builtin.Str.tooLong i.toNat = false := by
      unfold Builtin.Str.tooLong
      rw [decide_eq_false]
      rw [sizeLine_eq]; omega
    refine PySem.call_gives PySem.F.slot_str_zfill (typeIs_str s z t) PySem.F.entry_str_zfill (PySem.F.args_str_zfill_2 _ _) (PySem.gives_str_zfill z i t t' hr hl) ?_
    by_cases hc : i ≤ (z.length : Int)
    · rw [if_pos hc] at q ⊢
      exact ⟨.str z, H, I, ⟨t, rfl⟩, q⟩
    · rw [if_neg hc] at q ⊢
      exact ⟨PySem.fits_zfilled hl hc, ⟨.str _, H, I.tok _, ⟨_, rfl⟩, q⟩⟩
  · intro d ds v vs σ H Q rd rl q
    cases d with
    | str x =>
      cases ds with
      | nil => exact q.elim
      | cons d1 r =>
        cases r with
        | nil =>
          cases d1 with
          | int i =>
            have q : Acc T X E σ H (if 0 ≤ i ∧ i ≤ 1000 then .ok (.str (if i ≤ x.length then x else zfilled x (i.toNat - x.length))) else .bad) (kE T X.K H Q) := q
            obtain ⟨w, rfl, rw'⟩ := rl.one
            by_cases z : 0 ≤ i ∧ i ≤ 1000
            · rw [if_pos z] at q
              exact ⟨x, i, rd, by rw [show w = V.int i from rw'], z, q _ H (Same.refl H) rfl⟩
            · rw [if_neg z] at q; exact q.elim
          | _ => exact q.elim
        | cons _ _ => cases d1 <;> exact q.elim
    | _ => exact q.elim
end
end L3

set_option Elab.async false
set_option linter.all false
set_option autoImplicit false
set_option maxRecDepth 100000
namespace L3
open PySem PySem.Spec PyProof.Rows L2

/-! ### displays of written values -/
def litOf : Expr → Option D
  | .Constant (.int i) _ _ => some (.int i)
  | .Constant (.str x) _ _ => some (.str x)
  | .Constant (.bool b) _ _ => some (.bl b)
  | .Constant .none _ _ => some .non
  | _ => none
def litsOf : List Expr → Option (List D)
  | [] => some []
  | e :: es => match litOf e, litsOf es with
    | some d, some ds => some (d :: ds)
    | _, _ => none
@[simp] def aLits (ds : List D) (ρ : Ro) : Out (List D) := .ok ds
section
variable {T : Tb} {X : Cx}
theorem de_lit : ∀ {e : Expr} {d : D}, litOf e = some d → DE T X e (eC d) := by
  intro e d h
  unfold litOf at h
  split at h <;> cases h
  · exact de_int
  · exact de_str
  · exact de_bl
  · exact de_non
theorem litOf_notStar : ∀ {e : Expr} {d : D}, litOf e = some d → notStar e = true := by
  intro e d h
  unfold litOf at h
  split at h <;> first | rfl | cases h
theorem da_lits : ∀ {es : List Expr} {ds : List D}, litsOf es = some ds → DA T X es (aLits ds)
  | [], ds, h => by
    cases h
    exact da_nil
  | e :: es, ds, h => by
    unfold litsOf at h
    cases e1 : litOf e with
    | none => rw [e1] at h; cases h
    | some d =>
      cases e2 : litsOf es with
      | none => rw [e1, e2] at h; cases h
      | some rs =>
        rw [e1, e2] at h
        cases h
        exact da_cons (de_lit e1) (da_lits e2) (star_of (litOf_notStar e1))
end
end L3

set_option Elab.async false
set_option linter.all false
set_option autoImplicit false
set_option maxRecDepth 100000
namespace L3
open PySem PySem.Spec PyProof.Rows L2

/-! ### what is walked, by values -/
/-- from H0 on the iterator yields ds (own lists may change meanwhile) -/
def Walk (T : Tb) (K : PySem.W.Frag) (G : Hp) (J : It) (ds : List D) (H0 : Hp) : Prop := ∀ (i : Nat) (H : Hp), Pers false H0 H → Same G H →
  (∀ d, ds[i]? = some d → J.go i H ∧ ∀ x H1, J.yld i H x H1 → Same H H1 ∧ Rep T K H1 d x) ∧ (ds.length ≤ i → J.stop i H)
def tI (T : Tb) (X : Cx) (G : Hp) (E : Value → Shared → Prop) (f : Ro → Out (List D)) : TI := fun σ H R => ∃ ρ, FR T X.K G H σ ρ ∧ Acc T X E σ H (f ρ) (fun ds => ∀ J H', Same H H' → Walk T X.K G J ds H' → R J H')
structure DI (T : Tb) (X : Cx) (tg e : Expr) (f : Ro → Out (List D)) : Prop where
  mk ::
  run : ∀ (G : Hp) (E : Value → Shared → Prop), PassesOwn (model X.prog X.w) X.A X.env E → PI (X.wish E) tg e (tI T X G E f)
section
variable {T : Tb} {X : Cx} {tg iter e a b : Expr} {body : List Stmt} {pos p : Pos} {fb : Ro → Fl} {fl fm : Ro → Out (List D)} {fe fa fc : Ev}
theorem ds_forI {g : Ro → D → Out Ro} (hc : X.calm = true) (hi : DI T X tg iter fl) (hg : TgD T X tg g) (hb : DSs T false X body fb)
    (hs : ∀ x, foldedSetIterable iter X.env x = pure x := by intro _; rfl) : DS T false X (.For tg iter body [] pos) (sFor fl g fb) := .mk fun G E hp => by
  obtain ⟨tgr, hpg, hgr⟩ := hg E
  refine PS.imp (ps_for (X := X.wish E) hp hc (hi.run G E hp) hpg (hb.run G E hp) hs) fun DD σ H ⟨ρ, fr, h⟩ => ⟨ρ, fr, Acc.mono (AccS.fl fr h) fun ds _ hd J H1 s1 wk => ?_⟩
  refine ⟨fun i m σ' H' => m = ds.length - i ∧ i ≤ ds.length ∧ ∃ ρ', FR T X.K G H' σ' ρ' ∧ Pers false H1 H' ∧ AccS T false X G E H' (forD (bodyD g fb) (ds.drop i) ρ') DD, ⟨ds.length, rfl, Nat.zero_le _, ρ, fr.mono s1, Pers.refl _, AccS.heap (Pers.of s1) hd⟩, ?_⟩
  rintro i m σ' H' ⟨rfl, hi, ρ', fr', p', ha⟩
  obtain ⟨w1, w2⟩ := wk i H' p' fr'.same
  by_cases hlt : i < ds.length
  · obtain ⟨d, e1⟩ : ∃ d, ds[i]? = some d := ⟨ds[i], by simp [hlt]⟩
    obtain ⟨go, yl⟩ := w1 d e1
    refine .inr ⟨go, fun σ2 H2 => ∃ ρ2, FR T X.K G H2 σ2 ρ2 ∧ Pers false H1 H2 ∧ AccS T false X G E H2 (forD (bodyD g fb) (ds.drop (i + 1)) ρ2) DD, fun σ2 H2 q => ⟨ds.length - (i + 1), by omega, rfl, hlt, q⟩, fun x H2 y => ?_⟩
    obtain ⟨s2, rd⟩ := yl x H2 y
    have e2 : ds.drop i = d :: ds.drop (i + 1) := by
      obtain ⟨hi', e3⟩ := List.getElem?_eq_some_iff.mp e1
      rw [List.drop_eq_getElem_cons hi', e3]
    rw [e2] at ha
    exact turn_for (ib := false) hgr (fun _ _ _ q => q) (fr'.mono s2) rd (AccS.heap (Pers.of s2) ha) fun ρ2 σ2 H3 fr2 p2 h2 => ⟨ρ2, fr2, (p'.trans (Pers.of s2)).trans p2, h2⟩
  · have e : i = ds.length := by omega
    subst e
    rw [List.drop_length] at ha
    exact .inl ⟨w2 (Nat.le_refl _), ha σ' H' fr' (Pers.refl _)⟩

/-! lists -/
theorem walk_list {G H1 : Hp} {E : Value → Shared → Prop} {l : Addr} {vs : List V} {ds : List D} (st : Stb X.K G H1 l vs) (r : RepL T X.K H1 ds vs) : Walk T X.K G (Itl X.K l) ds H1 := fun i H p sm => by
  have st' : Stb X.K G H l vs := st.pers p
  have sq := st'.sq sm
  have r' := RepL.pers p _ _ r
  refine ⟨fun d e => ?_, fun h => ⟨vs, sq, by rw [RepL.length _ _ r']; exact h⟩⟩
  obtain ⟨v, e1, rd⟩ := RepL.get _ _ _ _ r' e
  refine ⟨⟨vs, v, sq, e1⟩, fun x H2 ⟨e2, y⟩ => ?_⟩
  subst e2
  have := y vs sq
  rw [e1] at this; cases this
  exact ⟨Same.refl _, rd⟩
theorem di_list (hl : DP T X iter fl) : DI T X tg iter fl := .mk fun G E hp =>
  PI.imp (pi_list (hl.run G E hp)) fun σ H R ⟨ρ, fr, h⟩ => ⟨ρ, fr, Acc.mono h fun ds _ hd l vs H1 s1 st r =>
    ⟨l, rfl, ⟨vs, st.sq (fr.same.trans s1)⟩, hd _ H1 s1 (walk_list (E := E) st r)⟩⟩
/-! tuples -/
@[simp] def D.toT : D → Out (List D)
  | .tup ds => .ok ds
  | _ => .bad
@[simp] def eTupL (f : Ev) (ρ : Ro) : Out (List D) := (f ρ).bind D.toT
theorem sqT_pers {K : PySem.W.Frag} {H H' : Hp} {l : Addr} {vs : List V} (p : Pers false H H') (h : SqT K H l vs) : SqT K H' l vs := by
  rcases h with (r2 | ⟨o, r2⟩) | r2
  · exact .inl (.inl (p _ _ r2 rfl))
  · exact .inl (.inr ⟨o, p _ _ r2 rfl⟩)
  · exact .inr r2
theorem di_tup (hl : DE T X iter fe) : DI T X tg iter (eTupL fe) := .mk fun G E hp =>
  PI.imp (pi_tup (hl.run G E hp)) fun σ H R ⟨ρ, fr, h⟩ => ⟨ρ, fr, Acc.mono (Acc.bind h) fun d _ hd v H1 s1 r => by
    cases d with
    | tup ds =>
      obtain ⟨l, vs, rfl, sq, rl⟩ := r
      refine ⟨l, rfl, ⟨vs, sq⟩, hd _ H1 s1 fun i H2 p sm => ?_⟩
      have sq' := sqT_pers p sq
      have r' := RepL.pers p _ _ rl
      refine ⟨fun d e => ?_, fun h => ⟨vs, sq', by rw [RepL.length _ _ r']; exact h⟩⟩
      obtain ⟨v, e1, rd⟩ := RepL.get _ _ _ _ r' e
      refine ⟨⟨vs, v, sq', e1⟩, fun x H3 ⟨e2, y⟩ => ?_⟩
      subst e2
      have := y vs sq'
      rw [e1] at this; cases this
      exact ⟨Same.refl _, rd⟩
    | _ => exact hd.elim⟩
/-! ranges -/
def rgS (lo step : Int) (n : Nat) : List D := (List.range n).map fun (k : Nat) => D.int (lo + (k : Int) * step)
def Its (lo step : Int) (n : Nat) : It := ⟨fun i _ => i < n, fun i H x H' => H' = H ∧ x = .int (lo + i * step), fun i _ => n ≤ i⟩
theorem turn_rangeS {P : Program} {w : World} {K : PySem.W.Frag} {tg : Expr} (it : Addr) (lo step : Int) (n : Nat) : Turn P w K tg (Its lo step n) [it] it (fun i h => IsRangeIter h it (lo + (i : Nat) * step) ((n : Int) - (i : Nat)) step) where
  mem := by simp
  obj := fun i h st b hb => by
    have e : b = it := by simpa using hb
    subst e
    exact ⟨_, st, fun v z => by
      have z' : Data.fields _ = Data.cell v := z
      cases z'⟩
  keep := fun i h h' st k => k it (by simp) _ st
  item := by
    intro X hP hw hK hc i pins s σ H E I hf st hg
    subst hP hw hK
    obtain ⟨f0, f1, f2, f3, f4, f5⟩ := hf it (by simp)
    have W := Walks.range (prog := X.prog) (w := X.w) (I.ok.hd hc) it lo step n
    refine W.item i s _ _ hg st fun v h' tk hv st' kk => ?_
    obtain ⟨t, rfl⟩ := hv
    have I1 : Inv X pins σ H { s with heap := h', toks := tk } := I.turned (fun b o hb e => kk b o (by simpa using hb) e) f0 f1 f3 f4 f5
    exact ⟨_, rfl, go_of (s := { s with heap := h', toks := tk }) (n := "range_iterator") st' rfl rfl (by decide) ⟨.int (lo + i * step), H, I1, ⟨t, rfl⟩, ⟨rfl, rfl⟩, st', fun b hb => (hf b hb).1⟩⟩
  done := by
    intro X hP hw hK hc i pins s σ H E I hf st hg
    subst hP hw hK
    obtain ⟨f0, f1, f2, f3, f4, f5⟩ := hf it (by simp)
    exact wpAny_pyNext_range_end (I.ok.hd hc) st (by have : n ≤ i := hg; omega) fun h' eb => ⟨rfl, I.turned (t' := s.toks) (fun b o hb e => eb b o hb e) f0 f1 f3 f4 f5⟩
  self := fun _ _ _ _ _ st h => wpAny_pyIter_rangeiter st h
theorem size_bound {lo hi step : Int} (h1 : -(2 ^ 40) ≤ lo) (h2 : lo < 2 ^ 40) (h3 : -(2 ^ 40) ≤ hi) (h4 : hi < 2 ^ 40) (hs : step ≠ 0) : 0 ≤ Builtin.Range.rangeSize lo hi step ∧ Builtin.Range.rangeSize lo hi step < 2 ^ 42 := by
  have key : ∀ (u c : Int), 0 ≤ u → 0 < c → 0 ≤ u / c ∧ u / c ≤ u := fun u c hu hc => ⟨Int.ediv_nonneg hu (by omega), Int.ediv_le_self _ hu⟩
  unfold Builtin.Range.rangeSize
  split
  · split
    · obtain ⟨k1, k2⟩ := key (hi - lo - 1) step (by omega) (by omega)
      omega
    · omega
  · split
    · obtain ⟨k1, k2⟩ := key (lo - hi - 1) (-step) (by omega) (by omega)
      omega
    · omega
theorem small_of {lo hi step : Int} (h1 : -(2 ^ 40) ≤ lo) (h2 : lo < 2 ^ 40) (h3 : -(2 ^ 40) ≤ hi) (h4 : hi < 2 ^ 40) (h5 : -(2 ^ 40) ≤ step) (h6 : step < 2 ^ 40) (hs : step ≠ 0) : Builtin.Range.small lo hi step = true := by
  obtain ⟨k1, k2⟩ := size_bound h1 h2 h3 h4 hs
  unfold Builtin.Range.small
  simp only [Builtin.Range.rangeFitsLong, Bool.and_eq_true, Bool.or_eq_true, decide_eq_true_eq, beq_iff_eq]
  refine ⟨⟨⟨⟨by omega, by omega⟩, by omega⟩, by omega⟩, .inr ?_⟩
  split <;> simp only [Builtin.Range.rangeFitsLong, Bool.and_eq_true, decide_eq_true_eq] <;> omega
theorem range_itS {pins : List (Addr × Obj)} {σ : L2.St} {H : Hp} {s : Shared} {R : It → Hp → Prop} {E : Value → Shared → Prop} {lo hi step : Int} {t u v : Tok} {tk : Nat} (I : Inv X pins σ H s) (h1 : -(2 ^ 40) ≤ lo) (h2 : lo < 2 ^ 40) (h3 : -(2 ^ 40) ≤ hi) (h4 : hi < 2 ^ 40) (h5 : -(2 ^ 40) ≤ step) (h6 : step < 2 ^ 40) (hs : step ≠ 0)
    (q : R (Its lo step (Builtin.Range.rangeSize lo hi step).toNat) H) : wpAny (model X.prog X.w) X.A (pyIter (.ref s.heap.objs.size)) (PIE X pins σ tg R) E { s with heap := s.heap.push { cls := .type "range", data := .fields #[.int lo t, .int hi u, .int step v] }, toks := tk } := by
  refine wpAny_pyIter_range (IsRange.new ..) (small_of h1 h2 h3 h4 h5 h6 hs) ?_
  obtain ⟨k1, k2⟩ := size_bound h1 h2 h3 h4 hs
  have I1 : Inv X pins σ H { s with heap := s.heap.push { cls := .type "range", data := .fields #[.int lo t, .int hi u, .int step v] }, toks := tk } := I.kept fun b o e => Heap.get?_push_of_some _ e
  refine ⟨(s.heap.push { cls := .type "range", data := .fields #[.int lo t, .int hi u, .int step v] }).objs.size, [(s.heap.push { cls := .type "range", data := .fields #[.int lo t, .int hi u, .int step v] }).objs.size], _, _, H, rfl,
    I1.kept (t' := tk) fun b o e => Heap.get?_push_of_some _ e, turn_rangeS _ lo step (Builtin.Range.rangeSize lo hi step).toNat, ?_, fun b hb => ?_, q⟩
  · have e1 : lo + ((0 : Nat) : Int) * step = lo := by simp
    have e2 : (((Builtin.Range.rangeSize lo hi step).toNat : Nat) : Int) - ((0 : Nat) : Int) = Builtin.Range.rangeSize lo hi step := by omega
    show IsRangeIter _ _ (lo + ((0 : Nat) : Int) * step) ((((Builtin.Range.rangeSize lo hi step).toNat : Nat) : Int) - ((0 : Nat) : Int)) step
    rw [e1, e2]
    exact Heap.get?_push_size _ rfl
  · have e : b = (s.heap.push { cls := .type "range", data := .fields #[.int lo t, .int hi u, .int step v] }).objs.size := by simpa using hb
    subst e
    exact I1.fpOk (Nat.le_refl _) (I1.hok.fresh (Nat.le_refl _))
theorem walk_range {G H1 : Hp} {lo step : Int} {n : Nat} : Walk T X.K G (Its lo step n) (rgS lo step n) H1 := fun i H p sm => by
  refine ⟨fun d e => ?_, fun h => by show n ≤ i; simpa [rgS] using h⟩
  have hi : i < n := by
    have := (List.getElem?_eq_some_iff.mp e).1
    simpa [rgS] using this
  have ed : d = .int (lo + (i : Int) * step) := by
    rw [rgS, List.getElem?_map, List.getElem?_range hi] at e
    exact (Option.some.inj e).symm
  subst ed
  refine ⟨hi, fun x H2 ⟨e2, y⟩ => ?_⟩
  subst e2 y
  exact ⟨Same.refl _, rfl⟩
theorem walk_range1 {G H1 : Hp} {lo : Int} {n : Nat} : Walk T X.K G (Itr lo n) (rgD lo n) H1 := fun i H p sm => by
  refine ⟨fun d e => ?_, fun h => by show n ≤ i; simpa [rgD] using h⟩
  have hi : i < n := by
    have := (List.getElem?_eq_some_iff.mp e).1
    simpa [rgD] using this
  have ed : d = .int (lo + (i : Int)) := by
    rw [rgD, List.getElem?_map, List.getElem?_range hi] at e
    exact (Option.some.inj e).symm
  subst ed
  refine ⟨hi, fun x H2 ⟨e2, y⟩ => ?_⟩
  subst e2 y
  exact ⟨Same.refl _, rfl⟩
@[simp] def lRng (fn : Ro → Out (Int × Nat)) (ρ : Ro) : Out (List D) := (fn ρ).bind fun p => .ok (rgD p.1 p.2)
theorem di_rng {fn : Ro → Out (Int × Nat)} (hn : DN T X tg iter fn) : DI T X tg iter (lRng fn) := .mk fun G E hp =>
  PI.imp (hn.run G E hp) fun σ H R ⟨ρ, fr, h⟩ => ⟨ρ, fr, Acc.mono (Acc.bind h) fun p _ hd H1 s1 => hd _ H1 s1 walk_range1⟩
theorem dn_2 {p : Pos} (hg : Gl X "range") (hm : X.mg "range" = none) (ha : DE T X a fa) (hb : DE T X b fe) (hs : starEach [a, b] X.env = [(false, eval a X.env), (false, eval b X.env)] := by rfl) (hs2 : starEach [b] X.env = [(false, eval b X.env)] := by rfl) : DN T X tg (.Call (.Name "range" p) [a, b] [] pos) (n2 fa fe) := .mk fun G E hp => by
  refine PI.imp (pi_range2 (X := X.wish E) hg hm (pa_cons (X := X.wish E) (ha.run G E hp) (pa_cons (X := X.wish E) (hb.run G E hp) pa_nil hs2) (hs.trans (by rw [hs2]))) hs hs2) fun σ H R ⟨ρ, fr, h⟩ => ⟨ρ, fr, Acc.mono (Acc.bind h) fun d _ hd v H1 s1 r => ⟨ρ, fr.mono s1, Acc.mono (Acc.bind (Acc.heap s1 hd)) fun d' _ hd' v' H2 s2 r' => ?_⟩⟩
  cases d with
  | int i =>
    cases d' with
    | int j =>
      have hd2 : Acc T X E σ H1 (if (-(2 ^ 62) ≤ i ∧ i < 2 ^ 62) ∧ -(2 ^ 62) ≤ j ∧ j < 2 ^ 62 then Out.ok (i, (j - i).toNat) else .bad) (fun p => ∀ H', Same H H' → R (Itr p.1 p.2) H') := hd'
      by_cases z : (-(2 ^ 62) ≤ i ∧ i < 2 ^ 62) ∧ -(2 ^ 62) ≤ j ∧ j < 2 ^ 62
      · rw [if_pos z] at hd2
        exact ⟨i, j, by rw [show v = V.int i from r, show v' = V.int j from r'], ⟨z.1.1, z.1.2, z.2.1, z.2.2⟩, hd2 H2 (s1.trans s2)⟩
      · rw [if_neg z] at hd2; exact hd2.elim
    | _ => exact hd'.elim
  | _ => first | exact hd'.elim | (cases d' <;> exact hd'.elim)
/-- range(a, b, c) -/
def rngOk (i j k : Int) : Bool := decide (-(2 ^ 40) ≤ i) && decide (i < 2 ^ 40) && decide (-(2 ^ 40) ≤ j) && decide (j < 2 ^ 40) && decide (-(2 ^ 20) ≤ k) && decide (k < 2 ^ 20) && decide (k ≠ 0)
@[simp] def lRng3 (fa fb fc : Ev) (ρ : Ro) : Out (List D) := (fa ρ).bind fun d => (fb ρ).bind fun d' => (fc ρ).bind fun d'' => match d, d', d'' with
  | .int i, .int j, .int k => if rngOk i j k = true then .ok (rgS i k (Builtin.Range.rangeSize i j k).toNat) else .bad
  | _, _, _ => .bad
theorem di_rng3 {c : Expr} (hg : Gl X "range") (hm : X.mg "range" = none) (ha : DE T X a fa) (hb : DE T X b fe) (hc : DE T X c fc) (hs : starEach [a, b, c] X.env = (false, eval a X.env) :: starEach [b, c] X.env := by exact star_of rfl) (hs2 : starEach [b, c] X.env = (false, eval b X.env) :: starEach [c] X.env := by exact star_of rfl) (hs3 : starEach [c] X.env = (false, eval c X.env) :: starEach [] X.env := by exact star_of rfl)
    (hpl : (backTo pos (starEach [b, c] X.env)).any (·.1) = false := by exact plain_of rfl) : DI T X tg (.Call (.Name "range" p) [a, b, c] [] pos) (lRng3 fa fe fc) := .mk fun G E hp => by
  rintro pins s σ H R I ⟨ρ, fr, h⟩
  refine Call_ (ld_blt (X := X.wish E) I hg hm boot_range (PyProof.Rows.callWith_type1 (thn ((pa_cons (X := X.wish E) (ha.run G E hp) (pa_cons (X := X.wish E) (hb.run G E hp) (pa_cons (X := X.wish E) (hc.run G E hp) pa_nil hs3) hs2) hs) pos pins s σ H (fun vs H1 => ∃ i j k, vs = [.int i, .int j, .int k] ∧ rngOk i j k = true ∧ R (Its i k (Builtin.Range.rangeSize i j k).toNat) H1) I ⟨ρ, fr, ?_⟩) fun us s1 ⟨vs, H1, I1, r1, i, j, k, e, ok, q⟩ => ?_) hs hpl))
  · refine Acc.mono (Acc.bind h) fun d _ hd v H1 s1 r => ⟨ρ, fr.mono s1, Acc.mono (Acc.bind (Acc.heap s1 hd)) fun d' _ hd' v' H2 s2 r' => ⟨ρ, (fr.mono s1).mono s2, Acc.mono (Acc.bind (Acc.heap s2 hd')) fun d'' _ hd'' v'' H3 s3 r'' => ?_⟩⟩
    cases d with
    | int i =>
      cases d' with
      | int j =>
        cases d'' with
        | int k =>
          have hd2 : Acc T X E σ H2 (if rngOk i j k = true then Out.ok (rgS i k (Builtin.Range.rangeSize i j k).toNat) else .bad) (fun ds => ∀ J H', Same H H' → Walk T X.K G J ds H' → R J H') := hd''
          by_cases z : rngOk i j k = true
          · rw [if_pos z] at hd2
            exact ⟨i, j, k, by rw [show v = V.int i from r, show v' = V.int j from r', show v'' = V.int k from r''], z, hd2 _ H3 ((s1.trans s2).trans s3) walk_range⟩
          · rw [if_neg z] at hd2; exact hd2.elim
        | _ => exact hd''.elim
      | _ => first | exact hd''.elim | (cases d'' <;> exact hd''.elim)
    | _ => first | exact hd''.elim | (cases d' <;> first | exact hd''.elim | (cases d'' <;> exact hd''.elim))
  · subst e
    cases r1 with
    | cons r rr =>
      cases rr with
      | cons r' rr =>
        cases rr with
        | cons r'' rr =>
          cases rr
          obtain ⟨t, rfl⟩ := r
          obtain ⟨t', rfl⟩ := r'
          obtain ⟨t'', rfl⟩ := r''
          simp only [rngOk, Bool.and_eq_true, decide_eq_true_eq] at ok
          obtain ⟨⟨⟨⟨⟨⟨o1, o2⟩, o3⟩, o4⟩, o5⟩, o6⟩, o7⟩ := ok
          exact call_range_3 o7 (range_itS (X := X.wish E) I1 o1 o2 o3 o4 (by omega) (by omega) o7 q) (.inl (PyProof.noPylong_small (by omega)))
end
end L3

set_option Elab.async false
set_option linter.all false
set_option autoImplicit false
set_option maxRecDepth 100000
namespace L3
open PySem PySem.Spec PyProof.Rows L2

/-! ### the frame's own list is rewritten -/
section
variable {T : Tb} {K : PySem.W.Frag} {G H : Hp} {σ : L2.St} {ρ : Ro}
theorem pers_lst {b : Bool} {a : Addr} {vs ws : List V} (h : H a = some (.lst vs)) : Pers b H (upd H a (.lst ws)) := fun c o e st => by
  rw [upd_ne (fun z => by rw [z, h] at e; cases e; cases st)]; exact e
theorem FR.own_upd {i : Nat} {ds es : List D} {a : Addr} {vs ws : List V} (fr : FR T K G H σ ρ) (e : ρ[i]? = some (.ow ds)) (e1 : σ[i]? = some (some (.ref a))) (e2 : H a = some (.lst vs)) (e3 : G a = none) (r : RepL T K H es ws) :
    FR T K G (upd H a (.lst ws)) σ (ρ.set i (.ow es)) := by
  have p : Pers false H (upd H a (.lst ws)) := pers_lst e2
  have hl : i < ρ.length := (List.getElem?_eq_some_iff.mp e).1
  have lt : ∀ {m : Nat} {z : Sl}, (ρ.set i (.ow es))[m]? = some z → (m = i ∧ z = .ow es) ∨ (m ≠ i ∧ ρ[m]? = some z) := fun {m z} q => by
    by_cases hm : m = i
    · subst hm
      rw [List.getElem?_set_self hl] at q
      exact .inl ⟨rfl, (Option.some.inj q).symm⟩
    · rw [List.getElem?_set_ne (Ne.symm hm)] at q; exact .inr ⟨hm, q⟩
  refine ⟨fun b u q => ?_, by simp [fr.len], fun j s q => ?_, fun j k ds' es' hjk q1 q2 => ?_, fr.me, me0_set (fun _ _ z => by cases z) fr.me0⟩
  · rw [upd_ne (fun z => by rw [z, e3] at q; cases q)]; exact fr.same b u q
  · rcases lt q with ⟨rfl, rfl⟩ | ⟨hj, q⟩
    · exact ⟨a, ws, e1, upd_same, e3, RepL.pers p _ _ r⟩
    · have h := fr.sl j s q
      cases s with
      | no => trivial
      | sh d => obtain ⟨v, z1, z2⟩ := h; exact ⟨v, z1, Rep.pers p _ _ z2⟩
      | ow es' =>
        obtain ⟨b, ws', z1, z2, z3, z4⟩ := h
        have hab : b ≠ a := fun z => fr.ne j i es' ds hj q e (by rw [z1, e1, z])
        exact ⟨b, ws', z1, by rw [upd_ne hab]; exact z2, z3, RepL.pers p _ _ z4⟩
      | bo es' => obtain ⟨b, ws', z1, z2, z4⟩ := h; exact ⟨b, ws', z1, z2, RepL.pers p _ _ z4⟩
      | me c es' =>
        obtain ⟨b, dx, fs, z0, z1, z2, z3, z4, z5⟩ := h
        exact ⟨b, dx, fs, z0, z1, by rw [upd_ne (fun z => by rw [z, e2] at z2; cases z2)]; exact z2, z3, z4, RepL.pers p _ _ z5⟩
  · have own : ∀ (m : Nat) (ds' : List D), (ρ.set i (.ow es))[m]? = some (.ow ds') → ∃ ds'', ρ[m]? = some (.ow ds'') := fun m ds' q => by
      rcases lt q with ⟨rfl, _⟩ | ⟨_, q⟩
      · exact ⟨ds, e⟩
      · exact ⟨ds', q⟩
    obtain ⟨_, o1⟩ := own j _ q1
    obtain ⟨_, o2⟩ := own k _ q2
    exact fr.ne j k _ _ hjk o1 o2
end
section
variable {T : Tb} {ib : Bool} {X : Cx} {e e' o a b : Expr} {pos p p2 p3 : Pos} {fe fa fb : Ev} {fl fm : Ro → Out (List D)} {x : Str}
/-- xs.append(e) -/
@[simp] def sApp (i : Nat) (fe : Ev) (ρ : Ro) : Fl := match ρ[i]? with
  | some (.ow ds) => (fe ρ).fl ρ fun d => if ds.length < 1000000 then .nx (ρ.set i (.ow (ds ++ [d]))) else .bad
  | _ => .bad
theorem ds_app (i : Nat) (he : DE T X e fe) (hN : X.N[i]? = some x := by rfl) (hv : Vis X.env.scope x := by first | exact Or.inl rfl | exact Or.inr (Or.inl rfl) | exact Or.inr (Or.inr rfl)) (hd : (x == ("__debug__" : Str)) = false := by decide)
    (hcd : (x == ("__classdict__" : Str)) = false := by decide) (hs : starEach [e] X.env = (false, eval e X.env) :: starEach [] X.env := by exact star_of rfl) (hpl : (backTo p3 (starEach ([] : List Expr) X.env)).any (·.1) = false := by exact plain_of rfl) (hst : ([e] : List Expr).all notStar = true := by rfl)
    (hline : (p2.endLine == p3.line) = true := by rfl) :
    DS T ib X (.Expr (.Call (.Attribute (.Name x p) "append" p2) [e] [] p3) pos) (sApp i fe) := .mk fun G E hp =>
  PS.imp (ps_expr (X := X.wish E) (pe_bm (X := X.wish E) PySem.F.plainAttrs_list PySem.F.slot_list_append PySem.F.type_list_append mt_append (pe_var (X := X.wish E) hN hv hd hcd) (pa_cons (X := X.wish E) (he.run G E hp) pa_nil hs) rfl (few_of hst rfl) hline hs hpl) (swaps_of rfl)) fun D σ H ⟨ρ, fr, h⟩ => by
    unfold sApp at h
    split at h
    · rename_i ds e0
      obtain ⟨l, vs, e1, e2, e3, r⟩ := fr.sl i _ e0
      refine ⟨_, e1, .inl ⟨rfl, vs, SqL.of e2⟩, ρ, fr, Acc.mono (AccS.fl fr h) fun d _ hd v H1 s1 r1 => ?_⟩
      by_cases z : ds.length < 1000000
      · rw [if_pos z] at hd
        have r' := RepL.mono s1 _ _ r
        refine ⟨l, vs, v, rfl, rfl, s1 _ _ e2, ?_, hd σ _ ((fr.mono s1).own_upd e0 e1 (s1 _ _ e2) e3 (RepL.append _ _ _ _ r' ⟨v, [], rfl, r1, rfl⟩)) ((Pers.of s1).trans (pers_lst (s1 _ _ e2)))⟩
        rw [RepL.length _ _ r]
        have := line6 (n := 1000000) (by omega)
        omega
      · rw [if_neg z] at hd; exact hd.elim
    · exact h.elim
/-- xs.clear() -/
@[simp] def sClr (i : Nat) (ρ : Ro) : Fl := match ρ[i]? with
  | some (.ow _) => .nx (ρ.set i (.ow []))
  | _ => .bad
theorem ds_clr (i : Nat) (hN : X.N[i]? = some x := by rfl) (hv : Vis X.env.scope x := by first | exact Or.inl rfl | exact Or.inr (Or.inl rfl) | exact Or.inr (Or.inr rfl)) (hd : (x == ("__debug__" : Str)) = false := by decide)
    (hcd : (x == ("__classdict__" : Str)) = false := by decide) (hline : (p2.endLine == p3.line) = true := by rfl) :
    DS T ib X (.Expr (.Call (.Attribute (.Name x p) "clear" p2) [] [] p3) pos) (sClr i) := .mk fun G E hp =>
  PS.imp (ps_expr (X := X.wish E) (pe_bm0 (X := X.wish E) PySem.F.plainAttrs_list PySem.F.slot_list_clear PySem.F.type_list_clear mt_clear (pe_var (X := X.wish E) hN hv hd hcd) rfl hline) (swaps_of rfl)) fun D σ H ⟨ρ, fr, h⟩ => by
    unfold sClr at h
    split at h
    · rename_i ds e0
      obtain ⟨l, vs, e1, e2, e3, r⟩ := fr.sl i _ e0
      exact ⟨_, e1, .inl ⟨rfl, vs, SqL.of e2⟩, l, vs, rfl, rfl, e2, h σ _ (fr.own_upd e0 e1 e2 e3 (es := []) (ws := []) rfl) (pers_lst e2)⟩
    · exact h.elim
/-- xs.reverse() -/
@[simp] def sRvs (i : Nat) (ρ : Ro) : Fl := match ρ[i]? with
  | some (.ow ds) => .nx (ρ.set i (.ow ds.reverse))
  | _ => .bad
theorem ds_rvs (i : Nat) (hN : X.N[i]? = some x := by rfl) (hv : Vis X.env.scope x := by first | exact Or.inl rfl | exact Or.inr (Or.inl rfl) | exact Or.inr (Or.inr rfl)) (hd : (x == ("__debug__" : Str)) = false := by decide)
    (hcd : (x == ("__classdict__" : Str)) = false := by decide) (hline : (p2.endLine == p3.line) = true := by rfl) :
    DS T ib X (.Expr (.Call (.Attribute (.Name x p) "reverse" p2) [] [] p3) pos) (sRvs i) := .mk fun G E hp =>
  PS.imp (ps_expr (X := X.wish E) (pe_bm0 (X := X.wish E) PySem.F.plainAttrs_list PySem.F.slot_list_reverse PySem.F.type_list_reverse mt_reverse (pe_var (X := X.wish E) hN hv hd hcd) rfl hline) (swaps_of rfl)) fun D σ H ⟨ρ, fr, h⟩ => by
    unfold sRvs at h
    split at h
    · rename_i ds e0
      obtain ⟨l, vs, e1, e2, e3, r⟩ := fr.sl i _ e0
      exact ⟨_, e1, .inl ⟨rfl, vs, SqL.of e2⟩, l, vs, rfl, rfl, e2, h σ _ (fr.own_upd e0 e1 e2 e3 (RepL.reverse _ _ r)) (pers_lst e2)⟩
    · exact h.elim
theorem sole_of {t e : Expr} {n : Nat} {env : Env} (h : notComp e = true) : swapsWithSole [t] e n env = pure false := by
  rw [swapsWithSole]; exact swaps_of h
/-- xs[i] = e -/
@[simp] def setD (ds : List D) (k : Int) (d : D) : Option (List D) := (ixN ds.length k).map fun j => ds.set j d
@[simp] def sSetI (i : Nat) (fb fe : Ev) (ρ : Ro) : Fl := (fe ρ).fl ρ fun d => match ρ[i]? with
  | some (.ow ds) => (fb ρ).fl ρ fun k => (match k with
    | .int k => (match setD ds k d with | some ds' => .nx (ρ.set i (.ow ds')) | none => .bad)
    | _ => .bad)
  | _ => .bad
theorem ds_setI (i : Nat) (he : DE T X e fe) (hb : DE T X b fb) (hN : X.N[i]? = some x := by rfl) (hv : Vis X.env.scope x := by first | exact Or.inl rfl | exact Or.inr (Or.inl rfl) | exact Or.inr (Or.inr rfl)) (hd : (x == ("__debug__" : Str)) = false := by decide)
    (hcd : (x == ("__classdict__" : Str)) = false := by decide) (hs : swapsWithSole [.Subscript (.Name x p) b p2] e pos.line X.env = pure false := by exact sole_of rfl) (hw : swappedStores [.Subscript (.Name x p) b p2] e X.env = pure none := by rfl)
    (ha : ∀ v, assign (.Subscript (.Name x p) b p2) X.env v = (do
      let ov ← holding [v] (eval (.Name x p) X.env)
      let iv ← holding [v, ov] (eval b X.env)
      standAt p2
      holding [v, ov, iv] (setItem ov iv v)
      release [v, ov, iv] []) := by intro _; rfl) :
    DS T ib X (.Assign [.Subscript (.Name x p) b p2] e pos) (sSetI i fb fe) := .mk fun G E hp =>
  PS.imp (ps_asg (X := X.wish E) (he.run G E hp) (pg_sub (X := X.wish E) (pe_var (X := X.wish E) hN hv hd hcd) (hb.run G E hp) set_list ha) hs hw rfl) fun D σ H ⟨ρ, fr, h⟩ => by
    refine ⟨ρ, fr, Acc.mono (AccS.fl fr h) fun d _ hd v H1 s1 r1 => ?_⟩
    have fr1 := fr.mono s1
    split at hd
    · rename_i ds e0
      obtain ⟨l, vs, e1, e2, e3, r⟩ := fr1.sl i _ e0
      refine ⟨_, e1, ρ, fr1, Acc.mono (AccS.fl fr1 (AccS.heap (Pers.of s1) hd)) fun k _ hk u H2 s2 r2 => ?_⟩
      cases k with
      | int k =>
        have hk' : AccS T ib X G E H1 (match setD ds k d with | some ds' => .nx (ρ.set i (.ow ds')) | none => .bad) D := hk
        unfold setD at hk'
        have hl := RepL.length _ _ r
        cases ej : ixN ds.length k with
        | none => rw [ej] at hk'; exact hk'.elim
        | some j =>
          rw [ej] at hk'
          have r3 := RepL.set _ _ j _ _ (RepL.mono s2 _ _ r) (Rep.mono s2 _ _ r1)
          exact ⟨l, vs, k, j, rfl, r2, s2 _ _ e2, by rw [hl]; exact ej, hk' σ _ ((fr1.mono s2).own_upd e0 e1 (s2 _ _ e2) e3 r3) ((Pers.of s2).trans (pers_lst (s2 _ _ e2)))⟩
      | _ => exact hk.elim
    · exact hd.elim

/-! ### slices -/
def tOI (T : Tb) (X : Cx) (G : Hp) (E : Value → Shared → Prop) (f : Ro → Out (Option Int)) : TO := fun σ H Q => ∃ ρ, FR T X.K G H σ ρ ∧ Acc T X E σ H (f ρ) (fun o => ∀ H', Same H H' → Q o H')
structure DO (T : Tb) (X : Cx) (e : Option Expr) (f : Ro → Out (Option Int)) : Prop where
  mk ::
  run : ∀ (G : Hp) (E : Value → Shared → Prop), PassesOwn (model X.prog X.w) X.A X.env E → PO (X.wish E) e (tOI T X G E f)
theorem PO.imp {X : Cx} {e : Option Expr} {t t' : TO} (h : PO X e t) (k : ∀ σ H Q, t' σ H Q → t σ H Q) : PO X e t' := fun pins s σ H Q I q => h pins s σ H Q I (k σ H Q q)
@[simp] def oNo (ρ : Ro) : Out (Option Int) := .ok none
@[simp] def oSo (fe : Ev) (ρ : Ro) : Out (Option Int) := (fe ρ).bind fun d => match d with
  | .int i => .ok (some i)
  | _ => .bad
theorem do_no : DO T X none oNo := .mk fun G E hp => PO.imp po_none fun σ H Q ⟨ρ, fr, h⟩ => h H (Same.refl H)
theorem do_so (he : DE T X e fe) : DO T X (some e) (oSo fe) := .mk fun G E hp => PO.imp (po_some (he.run G E hp)) fun σ H Q ⟨ρ, fr, h⟩ => ⟨ρ, fr, Acc.mono (Acc.bind h) fun d _ hd v H1 s1 r => by
  cases d with
  | int i => exact ⟨i, r, hd H1 s1⟩
  | _ => exact hd.elim⟩
def cutD {α : Type} (ds : List α) (lo hi : Option Int) : List α := (ds.drop (HT.sIx ds.length 0 lo)).take (HT.sIx ds.length ds.length hi - HT.sIx ds.length 0 lo)
@[simp] def fCut (fl : Ro → Out (List D)) (fo fu : Ro → Out (Option Int)) (ρ : Ro) : Out (List D) := (fl ρ).bind fun ds => (fo ρ).bind fun lo => (fu ρ).bind fun hi => .ok (cutD ds lo hi)
theorem RepL.cut {K : PySem.W.Frag} {H : Hp} {ds : List D} {vs : List V} (r : RepL T K H ds vs) (lo hi : Option Int) : RepL T K H (cutD ds lo hi) (cutV vs lo hi) := by
  unfold cutD cutV
  rw [RepL.length _ _ r]
  exact RepL.take _ _ _ (RepL.drop _ _ _ r)
theorem df_cut {lo hi : Option Expr} {fo fu : Ro → Out (Option Int)} (hl : DL T X e fl) (ho : DO T X lo fo) (hu : DO T X hi fu) : DF T X (.Subscript e (.Slice lo hi none p2) pos) (fCut fl fo fu) := .mk fun G E hp =>
  PE.imp (pe_slice (X := X.wish E) sl_list (hl.run G E hp) (ho.run G E hp) (hu.run G E hp)) fun σ H Q ⟨ρ, fr, h⟩ => ⟨ρ, fr, Acc.mono (Acc.bind h) fun ds _ hd l vs H1 s1 sq r => ⟨ρ, fr.mono s1, Acc.mono (Acc.bind (Acc.heap s1 hd)) fun lo _ hlo H2 s2 => ⟨ρ, (fr.mono s1).mono s2, Acc.mono (Acc.bind (Acc.heap s2 hlo)) fun hi _ hhi H3 s3 =>
    ⟨l, vs, rfl, s3.seq (s2.seq sq), fun q hq => hhi q _ _ (((s1.trans s2).trans s3).trans (same_upd hq)) (((s1.trans s2).trans s3).free hq) upd_same (RepL.mono (same_upd hq) _ _ (RepL.cut (RepL.mono (s2.trans s3) _ _ r) lo hi))⟩⟩⟩⟩
/-! ### list + list, list * int -/
theorem op_catL : OpR X (binaryOp .Add) (fun x y H Q => ∃ l m xs zs, x = .ref l ∧ y = .ref m ∧ SqL X.K H l xs ∧ SqL X.K H m zs ∧ xs.length + zs.length ≤ sizeLine ∧ ∀ p, H p = none → Q (.ref p) (upd H p (.lst (xs ++ zs)))) := by
  intro pins s σ H x y v u Q I rx ry h
  obtain ⟨l, m, xs, zs, rfl, rfl, hH, hB, hz, q⟩ := h
  cases rx
  cases ry
  obtain ⟨its, r, pl, z1⟩ := I.list hH
  obtain ⟨its2, r2, pl2, z2⟩ := I.list hB
  have l1 := r.length
  have l2 := r2.length
  obtain ⟨⟨cls, dd, data, sl⟩, ho, hc, n, hd⟩ := pl.isList
  obtain ⟨⟨cls2, dd2, data2, sl2⟩, ho2, hc2, n2, hd2⟩ := pl2.isList
  simp only at hc hd hc2 hd2
  subst hc hd hc2 hd2
  have ea : its.toArray ++ its2.toArray = (its ++ its2).toArray := by simp
  refine concat_meets ⟨_, ho, rfl⟩ ⟨_, ho2, rfl⟩ noFill_list_add seq_list_add PySem.F.slot_list_add PySem.F.entry_list_add (PySem.F.args_list_add_2 _ _) (list_addW l m its.toArray its2.toArray n n2 dd dd2 sl sl2 (by rw [List.size_toArray, List.size_toArray]; omega)) ⟨ho, ho2, ?_⟩
  rw [ea]
  exact ⟨.ref _, _, I.lnew (t' := s.toks) (r.append r2) (by rw [List.length_append]; omega), rfl, q _ I.fresh⟩
@[simp] def fCat (fl fm : Ro → Out (List D)) (ρ : Ro) : Out (List D) := (fl ρ).bind fun ds => (fm ρ).bind fun es => if ds.length + es.length ≤ 1000000 then .ok (ds ++ es) else .bad
theorem df_cat (ha : DL T X a fl) (hb : DL T X b fm) : DF T X (.BinOp a .Add b pos) (fCat fl fm) := .mk fun G E hp =>
  PE.imp (pe_op (X := X.wish E) op_catL (ha.run G E hp) (hb.run G E hp)) fun σ H Q ⟨ρ, fr, h⟩ => ⟨ρ, fr, Acc.mono (Acc.bind h) fun ds _ hd l vs H1 s1 sq r => ⟨ρ, fr.mono s1, Acc.mono (Acc.bind (Acc.heap s1 hd)) fun es _ hes m ws H2 s2 sq2 r2 => by
    by_cases z : ds.length + es.length ≤ 1000000
    · rw [if_pos z] at hes
      refine ⟨l, m, vs, ws, rfl, rfl, s2.seq sq, sq2, ?_, fun q hq => hes q _ _ ((s1.trans s2).trans (same_upd hq)) ((s1.trans s2).free hq) upd_same (RepL.mono (same_upd hq) _ _ (RepL.append _ _ _ _ (RepL.mono s2 _ _ r) r2))⟩
      rw [RepL.length _ _ r, RepL.length _ _ r2]; exact line6 z
    · rw [if_neg z] at hes; exact hes.elim⟩⟩
theorem RepL.rep {K : PySem.W.Frag} {H : Hp} {ds : List D} {vs : List V} (r : RepL T K H ds vs) : ∀ k : Nat, RepL T K H (List.replicate k ds).flatten (List.replicate k vs).flatten
  | 0 => rfl
  | k + 1 => by
    rw [List.replicate_succ, List.replicate_succ, List.flatten_cons, List.flatten_cons]
    exact RepL.append _ _ _ _ r (RepL.rep r k)
@[simp] def fRep (fl : Ro → Out (List D)) (fb : Ev) (ρ : Ro) : Out (List D) := (fl ρ).bind fun ds => (fb ρ).bind fun d => match d with
  | .int k => if -(2 ^ 40) ≤ k ∧ k ≤ 1000000 ∧ ds.length * k.toNat ≤ 1000000 then .ok (List.replicate k.toNat ds).flatten else .bad
  | _ => .bad
theorem df_rep (ha : DF T X a fl) (hb : DE T X b fb) : DF T X (.BinOp a .Mult b pos) (fRep fl fb) := .mk fun G E hp =>
  PE.imp (pe_op (X := X.wish E) op_rep (ha.run G E hp) (hb.run G E hp)) fun σ H Q ⟨ρ, fr, h⟩ => ⟨ρ, fr, Acc.mono (Acc.bind h) fun ds _ hd l vs H1 s1 hl hl' r => ⟨ρ, fr.mono s1, Acc.mono (Acc.bind (Acc.heap s1 hd)) fun d _ hes v H2 s2 r2 => by
    cases d with
    | int k =>
      have hes' : Acc T X E σ H1 (if -(2 ^ 40) ≤ k ∧ k ≤ 1000000 ∧ ds.length * k.toNat ≤ 1000000 then .ok (List.replicate k.toNat ds).flatten else .bad) _ := hes
      by_cases z : -(2 ^ 40) ≤ k ∧ k ≤ 1000000 ∧ ds.length * k.toNat ≤ 1000000
      · rw [if_pos z] at hes'
        refine ⟨l, k, vs, rfl, r2, s2 _ _ hl', by omega, by omega, ?_, fun q hq => hes' q _ _ ((s1.trans s2).trans (same_upd hq)) ((s1.trans s2).free hq) upd_same (RepL.mono (same_upd hq) _ _ (RepL.rep (RepL.mono s2 _ _ r) _))⟩
        rw [RepL.length _ _ r]; exact line6 z.2.2
      · rw [if_neg z] at hes'; exact hes'.elim
    | _ => exact hes.elim⟩⟩
/-! ### list(x), tuple(x) -/
@[simp] def fListL (fl : Ro → Out (List D)) (ρ : Ro) : Out (List D) := fl ρ
theorem df_listL (hg : Gl X "list") (hm : X.mg "list" = none) (hl : DL T X e fl) (hs : starEach [e] X.env = (false, eval e X.env) :: starEach [] X.env := by exact star_of rfl) (hpl : (backTo pos (starEach ([] : List Expr) X.env)).any (·.1) = false := by exact plain_of rfl) : DF T X (.Call (.Name "list" p) [e] [] pos) (fListL fl) := .mk fun G E hp =>
  PE.imp (pe_callTy (X := X.wish E) call_list_of hg hm rfl (pa_cons (X := X.wish E) (hl.run G E hp) pa_nil hs) (by decide) (by decide) hs hpl) fun σ H Q ⟨ρ, fr, h⟩ => ⟨ρ, fr, Acc.mono h fun ds _ hd l vs H1 s1 sq r =>
    ⟨l, vs, rfl, .inl sq, fun q hq => hd q _ _ (s1.trans (same_upd hq)) (s1.free hq) upd_same (RepL.mono (same_upd hq) _ _ r)⟩⟩
theorem df_listT (hg : Gl X "list") (hm : X.mg "list" = none) (hl : DE T X e fe) (hs : starEach [e] X.env = (false, eval e X.env) :: starEach [] X.env := by exact star_of rfl) (hpl : (backTo pos (starEach ([] : List Expr) X.env)).any (·.1) = false := by exact plain_of rfl) : DF T X (.Call (.Name "list" p) [e] [] pos) (eTupL fe) := .mk fun G E hp =>
  PE.imp (pe_callTy (X := X.wish E) call_list_of hg hm rfl (pa_cons (X := X.wish E) (hl.run G E hp) pa_nil hs) (by decide) (by decide) hs hpl) fun σ H Q ⟨ρ, fr, h⟩ => ⟨ρ, fr, Acc.mono (Acc.bind h) fun d _ hd v H1 s1 r => by
    cases d with
    | tup ds =>
      obtain ⟨l, vs, rfl, sq, rl⟩ := r
      exact ⟨l, vs, rfl, .inr sq, fun q hq => hd q _ _ (s1.trans (same_upd hq)) (s1.free hq) upd_same (RepL.mono (same_upd hq) _ _ rl)⟩
    | _ => exact hd.elim⟩
@[simp] def eTupOf (fl : Ro → Out (List D)) (ρ : Ro) : Out D := (fl ρ).bind fun ds => .ok (.tup ds)
theorem de_tupL (hg : Gl X "tuple") (hm : X.mg "tuple" = none) (hl : DL T X e fl) (hs : starEach [e] X.env = (false, eval e X.env) :: starEach [] X.env := by exact star_of rfl) (hpl : (backTo pos (starEach ([] : List Expr) X.env)).any (·.1) = false := by exact plain_of rfl) : DE T X (.Call (.Name "tuple" p) [e] [] pos) (eTupOf fl) := .mk fun G E hp =>
  PE.imp (pe_callTy (X := X.wish E) call_tuple_of hg hm rfl (pa_cons (X := X.wish E) (hl.run G E hp) pa_nil hs) (by decide) (by decide) hs hpl) fun σ H Q ⟨ρ, fr, h⟩ => ⟨ρ, fr, Acc.mono (Acc.bind h) fun ds _ hd l vs H1 s1 sq r =>
    ⟨l, vs, rfl, .inl ⟨sq, fun q hq => hd _ _ (s1.trans (same_upd hq)) ⟨q, vs, rfl, SqT.of upd_same, RepL.mono (same_upd hq) _ _ r⟩⟩⟩⟩
/-! ### xs[::-1] -/
@[simp] def fRev (fl : Ro → Out (List D)) (ρ : Ro) : Out (List D) := (fl ρ).bind fun ds => .ok ds.reverse
theorem df_rev {k : Expr} {fk : Ev} (hl : DL T X e fl) (hk : DE T X k fk) (hk1 : ∀ ρ, fk ρ = .ok (.int (-1)) := by intro _; rfl) : DF T X (.Subscript e (.Slice none none (some k) p2) pos) (fRev fl) := .mk fun G E hp => by
  rintro pins s σ H Q I ⟨ρ, fr, h⟩
  refine Subscript_ (thn (hl.run G E hp pins s σ H (fun v H1 => ∃ l vs ds, v = .ref l ∧ Same H H1 ∧ SqL X.K H1 l vs ∧ RepL T X.K H1 ds vs ∧ Acc T X E σ H (.ok ds.reverse) (fun ds => ∀ a vs H', Same H H' → H a = none → H' a = some (.lst vs) → RepL T X.K H' ds vs → Q (.ref a) H')) I ⟨ρ, fr, Acc.mono (Acc.bind h) fun ds _ hd l vs H1 s1 sq r => ⟨l, vs, ds, rfl, s1, sq, r, hd⟩⟩) fun v s1 ⟨x, H1, I1, r1, l, vs, ds, ex, sm, sq, r, hd⟩ => ?_)
  subst ex
  cases r1
  refine wpAny_Slice ?_
  rw [evalPart_none]
  refine wpAny_pure ?_
  refine wpAny_pure ?_
  rw [evalPart_some]
  refine thn (hk.run G E hp pins s1 σ H1 (fun v H2 => v = .int (-1) ∧ Same H1 H2) I1 ⟨ρ, fr.mono sm, ?_⟩) fun vk s3 ⟨y, H3, I3, ry, ey, sm3⟩ => ?_
  · rw [hk1]
    exact fun v H' s' rv => ⟨rv, s'⟩
  subst ey
  obtain ⟨t, rfl⟩ := ry
  have I4 : Inv (X.wish E) pins σ H3 { s3 with heap := s3.heap.push { cls := .type "slice", data := .fields #[.none, .none, .int (-1) t] } } := I3.kept (t' := s3.toks) fun b ob q => Heap.get?_push_of_some _ q
  obtain ⟨its, rv, pl, hz⟩ := I4.list (sm3.seq sq)
  have hlen := rv.length
  show wpAny (model X.prog X.w) X.A (subscriptTail e (.Slice none none (some k) p2) (.ref l) (.ref s3.heap.objs.size)) (EP (X.wish E) pins σ Q) E { s3 with heap := s3.heap.push { cls := .type "slice", data := .fields #[.none, .none, .int (-1) t] } }
  refine tail_any (ops := [.ref l, .ref s3.heap.objs.size]) pl.isList.typeIs slot_list_getitem.lookup (wpAny_getItem_list_slice pl.isList (Heap.IsSliceOf.new ..) .none .none (.int (-1) t) (by simp) ?_ (by rw [List.size_toArray]; omega)) (by with_unfolding_all rfl)
  rw [PySem.W.krv_pick]
  refine ⟨.ref _, _, I4.lnew (t' := s3.toks) (ys := vs.reverse) (by simpa using rv.reverse) (by rw [List.length_reverse]; exact hz), rfl, ?_⟩
  have fr4 := I4.fresh
  exact hd _ vs.reverse _ ((sm.trans sm3).trans (same_upd fr4)) ((sm.trans sm3).free fr4) upd_same (RepL.mono (same_upd fr4) _ _ (RepL.reverse _ _ (RepL.mono sm3 _ _ r)))
end
end L3

set_option Elab.async false
set_option linter.all false
set_option autoImplicit false
set_option maxRecDepth 100000
namespace L3
open PySem PySem.Spec PyProof.Rows L2

/-! ### reversed(xs) -/
def Itv (K : PySem.W.Frag) (a : Addr) (n : Nat) : It := ⟨fun i H => i < n ∧ ∃ xs, SqL K H a xs ∧ xs.length = n, fun i H x H' => H' = H ∧ ∀ xs, SqL K H a xs → xs[n - 1 - i]? = some x, fun i _ => n ≤ i⟩
theorem turn_rev {P : Program} {w : World} {K : PySem.W.Frag} {tg : Expr} (a it : Addr) (n : Nat) : Turn P w K tg (Itv K a n) [it] it (fun i h => i ≤ n ∧ h.IsRevIter it a ((n : Int) - 1 - (i : Int))) where
  mem := by simp
  obj := fun i h st b hb => by
    have e : b = it := by simpa using hb
    subst e
    obtain ⟨_, o, e, c, d⟩ := st
    exact ⟨o, e, fun v z => by rw [d] at z; cases z⟩
  keep := fun i h h' st k => ⟨st.1, st.2.at fun o e => k it (by simp) o e⟩
  item := by
    intro X hP hw hK hc i pins s σ H E I hf st hg
    subst hP hw hK
    obtain ⟨hin, xs, hq, hn⟩ := hg
    obtain ⟨its, rv, p, hz⟩ := I.list hq
    obtain ⟨f0, f1, f2, f3, f4, f5⟩ := hf it (by simp)
    have hlt : n - 1 - i < xs.length := by omega
    obtain ⟨u, hu, ru⟩ := rv.get (show xs[n - 1 - i]? = some xs[n - 1 - i] by simp [hlt])
    have e1 : (n : Int) - 1 - (i : Int) = ((n - 1 - i : Nat) : Int) := by omega
    have hit := st.2
    rw [e1] at hit
    refine wpAny_pyNext_rev_item hit p.isList (x := u) (by simpa using hu) fun h' st' sb => ?_
    have I1 : Inv X pins σ H { s with heap := h' } := I.turned (t' := s.toks) (fun b o hb e => (sb.2 b hb).trans e) f0 f1 f3 f4 f5
    have e2 : ((n - 1 - i : Nat) : Int) - 1 = (n : Int) - 1 - ((i + 1 : Nat) : Int) := by omega
    rw [e2] at st'
    obtain ⟨o, e, c, d⟩ := id st'
    exact ⟨u, rfl, go_of (s := { s with heap := h' }) e c d (by decide) ⟨_, H, I1, ru, ⟨rfl, fun ys hy => by rw [I.list_inj hy hq]; simp [hlt]⟩, ⟨hin, st'⟩, fun b hb => (hf b hb).1⟩⟩
  done := by
    intro X hP hw hK hc i pins s σ H E I hf st hg
    subst hP hw hK
    obtain ⟨f0, f1, f2, f3, f4, f5⟩ := hf it (by simp)
    have hg' : n ≤ i := hg
    have e1 : (n : Int) - 1 - (i : Int) = -1 := by have := st.1; omega
    have hit := st.2
    rw [e1] at hit
    exact wpAny_pyNext_rev_end (I.ok.hd hc) hit fun h' eb => ⟨rfl, I.turned (t' := s.toks) (fun b o hb e => eb b o hb e) f0 f1 f3 f4 f5⟩
  self := fun _ _ _ _ _ st h => wpAny_pyIter_revIter st.2 h
section
variable {T : Tb} {X : Cx} {tg e a b : Expr} {pos p : Pos} {fl fm : Ro → Out (List D)}
@[simp] def lRev (fl : Ro → Out (List D)) (ρ : Ro) : Out (List D) := (fl ρ).bind fun ds => .ok ds.reverse
theorem walk_rev {G H1 : Hp} {l : Addr} {vs : List V} {ds : List D} (st : Stb X.K G H1 l vs) (r : RepL T X.K H1 ds vs) : Walk T X.K G (Itv X.K l vs.length) ds.reverse H1 := fun i H p sm => by
  have st' : Stb X.K G H l vs := st.pers p
  have sq := st'.sq sm
  have r' := RepL.pers p _ _ r
  have hl := RepL.length _ _ r'
  refine ⟨fun d e => ?_, fun h => by show vs.length ≤ i; rw [hl]; simpa using h⟩
  have hi : i < ds.length := by
    have := (List.getElem?_eq_some_iff.mp e).1
    simpa using this
  rw [List.getElem?_reverse hi] at e
  obtain ⟨v, e1, rd⟩ := RepL.get _ _ _ _ r' e
  refine ⟨⟨by omega, vs, sq, rfl⟩, fun x H2 ⟨e2, y⟩ => ?_⟩
  subst e2
  have := y vs sq
  rw [hl, e1] at this; cases this
  exact ⟨Same.refl _, rd⟩
theorem di_rev (hg : Gl X "reversed") (hm : X.mg "reversed" = none) (hl : DP T X e fl) (hs : starEach [e] X.env = (false, eval e X.env) :: starEach [] X.env := by exact star_of rfl) (hpl : (backTo pos (starEach ([] : List Expr) X.env)).any (·.1) = false := by exact plain_of rfl) :
    DI T X tg (.Call (.Name "reversed" p) [e] [] pos) (lRev fl) := .mk fun G E hp => by
  rintro pins s σ H R I ⟨ρ, fr, h⟩
  refine Call_ (ld_blt (X := X.wish E) I hg hm boot_reversed (PyProof.Rows.callWith_type1 (thn ((pa_cons (X := X.wish E) (hl.run G E hp) pa_nil hs) pos pins s σ H (fun us H1 => ∃ l vs, us = [.ref l] ∧ SqL X.K H1 l vs ∧ R (Itv X.K l vs.length) H1) I ⟨ρ, fr, Acc.mono (Acc.bind h) fun ds _ hd l vs H1 s1 st r => ⟨l, vs, rfl, st.sq (fr.same.trans s1), hd _ H1 s1 (walk_rev st r)⟩⟩) fun us s1 ⟨xs, H1, I1, r1, l, vs, e1, sq, q⟩ => ?_) hs hpl))
  subst e1
  obtain ⟨u, rfl, ru⟩ := Vals.one r1
  cases ru
  obtain ⟨its, rv, pl, hz⟩ := I1.list sq
  refine call_reversed_list pl.isList ?_
  have hlen := rv.length
  have I2 : Inv (X.wish E) pins σ H1 { s1 with heap := s1.heap.push (revObj l ((its.toArray.size : Int) - 1)) } := I1.kept (t' := s1.toks) fun b o e => Heap.get?_push_of_some _ e
  have hit : (s1.heap.push (revObj l ((its.toArray.size : Int) - 1))).IsRevIter s1.heap.objs.size l ((vs.length : Int) - 1 - ((0 : Nat) : Int)) := ⟨_, Heap.get?_push_size _ rfl, rfl, by simp [revObj, hlen]⟩
  refine wpAny_pyIter_revIter hit ⟨_, [s1.heap.objs.size], _, _, H1, rfl, I2, turn_rev l _ vs.length, ⟨Nat.zero_le _, hit⟩, fun b hb => ?_, q⟩
  have e : b = s1.heap.objs.size := by simpa using hb
  subst e
  have := I1.fpOk (Nat.le_refl _) (I1.hok.fresh (Nat.le_refl _))
  exact this
end

/-! ### zip(xs, ys), into a tuple of targets -/
def Itz (K : PySem.W.Frag) (a b : Addr) : It := ⟨fun i H => ∃ xs ys x y, SqL K H a xs ∧ SqL K H b ys ∧ xs[i]? = some x ∧ ys[i]? = some y,
  fun i H v H' => ∃ x y p, (∀ xs, SqL K H a xs → xs[i]? = some x) ∧ (∀ ys, SqL K H b ys → ys[i]? = some y) ∧ v = .ref p ∧ H p = none ∧ H' = upd H p (.tup [x, y]),
  fun i H => ∃ xs ys, SqL K H a xs ∧ SqL K H b ys ∧ (xs[i]? = none ∨ ys[i]? = none)⟩
theorem turn_zip {P : Program} {w : World} {K : PySem.W.Frag} {elts : List Expr} {x1 : Nat} {tp : Pos} (a b z TI TO i1 i2 : Addr) (D : ZipApart z TI TO i1 i2 a b) :
    Turn P w K (.Tuple elts x1 tp) (Itz K a b) [z, TI, TO, i1, i2] z (fun i h => IsZip h z TI TO .none ∧ IsPair h TI (.ref i1) (.ref i2) ∧ (∃ u v, IsPair h TO u v) ∧ h.IsListIter i1 a i ∧ h.IsListIter i2 b i) where
  mem := by simp
  obj := fun i h st c hc => by
    obtain ⟨s1, s2, ⟨u, v, s3⟩, s4, s5⟩ := st
    simp only [List.mem_cons, List.not_mem_nil, or_false] at hc
    rcases hc with rfl | rfl | rfl | rfl | rfl
    · exact ⟨_, s1, fun v z => by have z' : Data.fields _ = Data.cell v := z; cases z'⟩
    · exact ⟨_, s2, fun v z => by have z' : Data.seq _ _ = Data.cell v := z; cases z'⟩
    · exact ⟨_, s3, fun v z => by have z' : Data.seq _ _ = Data.cell v := z; cases z'⟩
    · obtain ⟨o, e, c, d⟩ := s4
      exact ⟨o, e, fun v z => by rw [d] at z; cases z⟩
    · obtain ⟨o, e, c, d⟩ := s5
      exact ⟨o, e, fun v z => by rw [d] at z; cases z⟩
  keep := fun i h h' st k => by
    obtain ⟨s1, s2, ⟨u, v, s3⟩, s4, s5⟩ := st
    exact ⟨k z (by simp) _ s1, k TI (by simp) _ s2, ⟨u, v, k TO (by simp) _ s3⟩, s4.at fun o e => k i1 (by simp) o e, s5.at fun o e => k i2 (by simp) o e⟩
  item := by
    intro X hP hw hK hc i pins s σ H E I hf st hg
    subst hP hw hK
    obtain ⟨xs, ys, x, y, hqa, hqb, hx, hy⟩ := hg
    obtain ⟨t1, t2, ⟨u0, v0, t3⟩, t4, t5⟩ := st
    obtain ⟨its, rv, pa, hza⟩ := I.list hqa
    obtain ⟨its2, rv2, pb, hzb⟩ := I.list hqb
    obtain ⟨u, hu, ru⟩ := rv.get hx
    obtain ⟨v, hv, rv'⟩ := rv2.get hy
    refine wpAny_pyNext_zip_item D t1 t2 t3 t4 t5 pa.isList pb.isList (x := u) (y := v) (by simpa using hu) (by simpa using hv) fun h' a1 a2 a3 a4 a5 a6 a7 => ⟨_, rfl, ?_⟩
    refine wpAny_letOwnedTupleGo_zip (s := { s with heap := h' }) a1 fun h'' b1 sb => ?_
    have inz := hf z (by simp)
    have szz : s.heap.objs.size ≠ z := fun e => absurd (Heap.lt_size t1) (by rw [← e]; exact Nat.lt_irrefl _)
    have kk : ∀ c o, c ∉ [z, TI, TO, i1, i2] → s.heap.get? c = some o → h''.get? c = some o := fun c o hcm e => by
      simp only [List.mem_cons, List.not_mem_nil, or_false, not_or] at hcm
      exact (sb.2 c hcm.1).trans (a7 c o hcm.1 hcm.2.2.1 hcm.2.2.2.1 hcm.2.2.2.2 e)
    have hfresh : H s.heap.objs.size = none := I.hok.fresh (Nat.le_refl _)
    have nfp : ∀ c u, H c = some u → c ∉ [z, TI, TO, i1, i2] := fun c u e hm => by rw [(hf c hm).1] at e; cases e
    have nsz : ∀ c u, H c = some u → c ≠ s.heap.objs.size := fun c u e z => by rw [z, hfresh] at e; cases e
    have tk : TI ∈ [z, TI, TO, i1, i2] := by simp
    have p5 : IsPair h'' s.heap.objs.size u v := (sb.2 _ szz).trans a5
    have I1 : Inv X pins σ (upd H s.heap.objs.size (.tup [x, y])) { s with heap := h'' } := by
      refine I.step (g' := s.gens) (d' := s.drawn) (t' := s.toks) (ch := [z, TI, TO, i1, i2]) (fun c hcm => ?_) (fun c o _ _ hcm e _ => kk c o hcm e) (fun c o _ _ hcm e _ => ⟨o.slots, kk c o hcm e⟩) (fun c o _ e n => ?_)
        (fun c o hcm e => ⟨o, kk c o hcm e⟩) (fun c xs e => ?_) (fun c o w e => ?_) (fun c ps e => ⟨#[], ?_⟩) (fun m hm => ?_) (fun c w e => ?_) I.bare
      · obtain ⟨f0, f1, f2, f3, f4, f5⟩ := hf c hcm
        exact ⟨f3, f1, f4, f5⟩
      · rw [upd_ne (Nat.ne_of_lt (Heap.lt_size e))]; exact n
      · rw [upd_ne (nsz c _ e)]; exact e
      · rw [upd_ne (nsz c _ e)]; exact e
      · rw [upd_ne (nsz c _ e), e]; simp
      · obtain ⟨o, es, ep, ho, r⟩ := hm
        refine ⟨o, es, ep, kk _ o (fun hm => ?_) ho, r⟩
        exact (hf _ hm).2.1 rfl
      · by_cases hcz : c = s.heap.objs.size
        · subst hcz
          rw [upd_same] at e; cases e
          exact ⟨by show 2 ≤ sizeLine; decide, [u, v], .cons ru (.cons rv' .nil), ⟨_, p5, rfl, _, rfl⟩⟩
        · rw [upd_ne hcz] at e
          refine (I.hok c w e).stay (fun c' w' hc' q => kk c' w' ?_ q) (fun c' q => ?_) fun c' xs q => ?_
          · rcases hc' with hc' | hc'
            · rw [hc']; exact nfp _ _ e
            · exact nfp _ _ hc'
          · rw [upd_ne (nsz c' _ q)]; exact q
          · rw [upd_ne (nsz c' _ q)]; exact q
    refine ⟨.ref s.heap.objs.size, _, I1, rfl, ⟨x, y, _, fun ws hw => by rw [I.list_inj hw hqa]; exact hx, fun ws hw => by rw [I.list_inj hw hqb]; exact hy, rfl, hfresh, rfl⟩, ⟨b1, ?_, ⟨u, v, (sb.2 _ D.TOz).trans a2⟩, a3.at fun o e => (sb.2 _ D.i1z).trans e, a4.at fun o e => (sb.2 _ D.i2z).trans e⟩, fun c hcm => ?_⟩
    · exact (sb.2 _ D.TIz).trans (a7 TI _ D.TIz D.TITO D.TIi1 D.TIi2 t2)
    · rw [upd_ne]
      · exact (hf c hcm).1
      · rintro rfl
        simp only [List.mem_cons, List.not_mem_nil, or_false] at hcm
        rcases hcm with e | e | e | e | e
        · exact szz e
        · exact absurd (Heap.lt_size t2) (by rw [← e]; exact Nat.lt_irrefl _)
        · exact absurd (Heap.lt_size t3) (by rw [← e]; exact Nat.lt_irrefl _)
        · obtain ⟨o, eo, _⟩ := t4
          exact absurd (Heap.lt_size eo) (by rw [← e]; exact Nat.lt_irrefl _)
        · obtain ⟨o, eo, _⟩ := t5
          exact absurd (Heap.lt_size eo) (by rw [← e]; exact Nat.lt_irrefl _)
  done := by
    intro X hP hw hK hc i pins s σ H E I hf st hg
    subst hP hw hK
    obtain ⟨xs, ys, hqa, hqb, hend⟩ := hg
    obtain ⟨t1, t2, ⟨u0, v0, t3⟩, t4, t5⟩ := st
    obtain ⟨its, rv, pa, hza⟩ := I.list hqa
    obtain ⟨its2, rv2, pb, hzb⟩ := I.list hqb
    have l1 := rv.length
    have l2 := rv2.length
    refine wpAny_pyNext_zip_end (I.ok.hd hc) D t1 t2 t3 t4 t5 pa.isList pb.isList ?_ fun h' a7 => ⟨rfl, ?_⟩
    · rcases hend with hend | hend
      · left
        rw [List.getElem?_eq_none_iff] at hend
        simp; omega
      · right
        rw [List.getElem?_eq_none_iff] at hend
        simp; omega
    · have kk : ∀ c o, c ∉ [z, TI, TO, i1, i2] → s.heap.get? c = some o → h'.get? c = some o := fun c o hcm e => by
        simp only [List.mem_cons, List.not_mem_nil, or_false, not_or] at hcm
        exact a7 c o hcm.1 hcm.2.2.1 hcm.2.2.2.1 hcm.2.2.2.2 e
      have nfp : ∀ c u, H c = some u → c ∉ [z, TI, TO, i1, i2] := fun c u e hm => by rw [(hf c hm).1] at e; cases e
      refine I.step (g' := s.gens) (d' := s.drawn) (t' := s.toks) (ch := [z, TI, TO, i1, i2]) (fun c hcm => ?_) (fun c o _ _ hcm e _ => kk c o hcm e) (fun c o _ _ hcm e _ => ⟨o.slots, kk c o hcm e⟩) (fun c o _ e n => n)
        (fun c o hcm e => ⟨o, kk c o hcm e⟩) (fun c xs e => e) (fun c o w e => e) (fun c ps e => ⟨#[], by rw [e]; simp⟩) (fun m hm => ?_) (fun c w e => ?_) I.bare
      · obtain ⟨f0, f1, f2, f3, f4, f5⟩ := hf c hcm
        exact ⟨f3, f1, f4, f5⟩
      · obtain ⟨o, es, ep, ho, r⟩ := hm
        exact ⟨o, es, ep, kk _ o (fun hm => (hf _ hm).2.1 rfl) ho, r⟩
      · refine (I.hok c w e).stay (fun c' w' hc' q => kk c' w' ?_ q) (fun c' q => q) fun c' xs q => q
        rcases hc' with hc' | hc'
        · rw [hc']; exact nfp _ _ e
        · exact nfp _ _ hc'
  self := fun _ _ _ _ _ st h => wpAny_pyIter_zip st.1 h
section
variable {T : Tb} {X : Cx} {a b : Expr} {pos p tp : Pos} {fl fm : Ro → Out (List D)} {elts : List Expr} {x1 : Nat}
@[simp] def lZip (fl fm : Ro → Out (List D)) (ρ : Ro) : Out (List D) := (fl ρ).bind fun ds => (fm ρ).bind fun es => .ok (List.zipWith (fun x y => D.tup [x, y]) ds es)
theorem walk_zip {G H1 : Hp} {l m : Addr} {vs ws : List V} {ds es : List D} (st : Stb X.K G H1 l vs) (r : RepL T X.K H1 ds vs) (st2 : Stb X.K G H1 m ws) (r2 : RepL T X.K H1 es ws) : Walk T X.K G (Itz X.K l m) (List.zipWith (fun x y => D.tup [x, y]) ds es) H1 := fun i H p sm => by
  have sq := (st.pers p).sq sm
  have sq2 := (st2.pers p).sq sm
  have r' := RepL.pers p _ _ r
  have r2' := RepL.pers p _ _ r2
  have hl := RepL.length _ _ r'
  have hl2 := RepL.length _ _ r2'
  refine ⟨fun d e => ?_, fun h => ⟨vs, ws, sq, sq2, ?_⟩⟩
  · rw [List.getElem?_zipWith] at e
    cases ed : ds[i]? with
    | none => rw [ed] at e; simp at e
    | some d1 =>
      cases ee : es[i]? with
      | none => rw [ed, ee] at e; simp at e
      | some d2 =>
        rw [ed, ee] at e
        have e' : D.tup [d1, d2] = d := by simpa using e
        subst e'
        obtain ⟨v, e1, rd⟩ := RepL.get _ _ _ _ r' ed
        obtain ⟨w, e2, rd2⟩ := RepL.get _ _ _ _ r2' ee
        refine ⟨⟨vs, ws, v, w, sq, sq2, e1, e2⟩, fun x H2 ⟨x', y', q, h1, h2, hx, hq, hH⟩ => ?_⟩
        have z1 := h1 vs sq
        have z2 := h2 ws sq2
        rw [e1] at z1; cases z1
        rw [e2] at z2; cases z2
        subst hx hH
        exact ⟨same_upd hq, q, [v, w], rfl, SqT.of upd_same, v, [w], rfl, Rep.mono (same_upd hq) _ _ rd, w, [], rfl, Rep.mono (same_upd hq) _ _ rd2, rfl⟩
  · rw [List.length_zipWith] at h
    rw [List.getElem?_eq_none_iff, List.getElem?_eq_none_iff]
    omega
theorem di_zip (hg : Gl X "zip") (hm : X.mg "zip" = none) (ha : DP T X a fl) (hb : DP T X b fm) (hs : starEach [a, b] X.env = (false, eval a X.env) :: starEach [b] X.env := by exact star_of rfl) (hs2 : starEach [b] X.env = (false, eval b X.env) :: starEach [] X.env := by exact star_of rfl) (hpl : (backTo pos (starEach [b] X.env)).any (·.1) = false := by exact plain_of rfl) :
    DI T X (.Tuple elts x1 tp) (.Call (.Name "zip" p) [a, b] [] pos) (lZip fl fm) := .mk fun G E hp => by
  rintro pins s σ H R I ⟨ρ, fr, h⟩
  refine Call_ (ld_blt (X := X.wish E) I hg hm boot_zip (PyProof.Rows.callWith_type1 (thn ((pa_cons (X := X.wish E) (ha.run G E hp) (pa_cons (X := X.wish E) (hb.run G E hp) pa_nil hs2) hs) pos pins s σ H (fun us H1 => ∃ l m vs ws, us = [.ref l, .ref m] ∧ SqL X.K H1 l vs ∧ SqL X.K H1 m ws ∧ R (Itz X.K l m) H1) I ⟨ρ, fr, Acc.mono (Acc.bind h) fun ds _ hd l vs H1 s1 st r => ⟨ρ, fr.mono s1, Acc.mono (Acc.bind (Acc.heap s1 hd)) fun es _ hes m ws H2 s2 st2 r2 => ?_⟩⟩) fun us s1 ⟨xs, H1, I1, r1, l, m, vs, ws, e1, sq, sq2, q⟩ => ?_) hs hpl))
  · have st' : Stb X.K G H2 l vs := st.pers (ib := false) (Pers.of s2)
    exact ⟨l, m, vs, ws, rfl, st'.sq ((fr.same.trans s1).trans s2), st2.sq ((fr.same.trans s1).trans s2), hes _ H2 (s1.trans s2) (walk_zip st' (RepL.mono s2 _ _ r) st2 r2)⟩
  · subst e1
    obtain ⟨u, v, rfl, ru, rv0⟩ := Vals.two r1
    cases ru
    cases rv0
    obtain ⟨its, rv, pl, hz⟩ := I1.list sq
    obtain ⟨its2, rv2, pl2, hz2⟩ := I1.list sq2
    have a1 : l < s1.heap.objs.size := by obtain ⟨_, e, _⟩ := pl.isList; exact Heap.lt_size e
    have a2 : m < s1.heap.objs.size := by obtain ⟨_, e, _⟩ := pl2.isList; exact Heap.lt_size e
    refine call_zip_2 pl.isList pl2.isList fun h' z1 z2 z3 z4 z5 z6 kp => ?_
    have I2 : Inv (X.wish E) pins σ H1 { s1 with heap := h' } := I1.kept (t' := s1.toks) kp
    refine wpAny_pyIter_zip z1 ⟨_, _, _, _, H1, rfl, I2, turn_zip l m _ _ _ _ _ (zipApart_new a1 a2), ⟨z1, z2, ⟨_, _, z3⟩, z4, z5⟩, fun c hcm => ?_, q⟩
    have ge : s1.heap.objs.size ≤ c := by
      simp only [List.mem_cons, List.not_mem_nil, or_false] at hcm
      rcases hcm with rfl | rfl | rfl | rfl | rfl <;> omega
    exact I1.fpOk ge (I1.hok.fresh ge)
end
end L3

set_option Elab.async false
set_option linter.all false
set_option autoImplicit false
set_option maxRecDepth 100000
namespace L3
open PySem PySem.Spec PyProof.Rows L2

/-! ### list(reversed(xs)) -/
theorem lri_noLen : typeLookup (.type "list_reverseiterator") "__len__" = pure none := by rw [typeLookup_type, builtinLookup_eq_fast]; kernel_rfl
theorem lri_hint : typeLookup (.type "list_reverseiterator") "__length_hint__" = pure (some (.builtin "list_reverseiterator.__length_hint__")) := by rw [typeLookup_type, builtinLookup_eq_fast]; kernel_rfl
section
variable {prog : Program} {w : World} {A : Around} {E : Value → Shared → Prop} {s : Shared}
theorem hint_rev {r l : Addr} {i : Int} {Q : Bool → Shared → Prop} (hr : s.heap.IsRevIter r l i) (h : Q false s) : wpAny (model prog w) A (Builtin.List.listLengthHint (.ref r)) Q E s := by
  unfold Builtin.List.listLengthHint
  refine wpAny_bind (wpAny_specialOf hr.typeIs lri_noLen ?_)
  show wpAny _ _ (specialOf (.ref r) "__length_hint__" >>= _) _ _ _
  refine wpAny_bind (wpAny_specialOf hr.typeIs lri_hint ?_)
  generalize hid : ("list_reverseiterator.__length_hint__" : String) = id0
  wp_delta
  rw [show splitId id0 = some ("list_reverseiterator", "__length_hint__") from by subst hid; decide +kernel]
  subst hid
  refine wpAny_bind (wpAny_isInstance (T := "list_reverseiterator") (b := true) hr.typeIs (by rw [isSubtype_type]; kernel_rfl) ?_)
  refine wpAny_ite_split (fun hab => absurd hab (by decide)) (fun _ => ?_)
  refine wpAny_ite_split (fun _ => ?_) (fun hab => absurd (by decide +kernel) hab)
  refine wpAny_ite_split (fun hab => absurd hab (by decide +kernel)) (fun _ => ?_)
  exact wpAny_pure h
theorem extend_rev {R : Result → Shared → Prop} {r l : Addr} {items : Array Value} (hh : A.handled = none) (hr : s.heap.IsRevIter r l ((items.size : Int) - 1)) (hl : s.heap.IsList l items) (hne : l ≠ r) (S : Addr) (res : Value) (c₀ : Nat) (hS : s.heap.get? S = some { cls := .type "list", data := .seq #[] c₀ }) (hSr : S ≠ r) (hSl : S ≠ l)
    (hR : ∀ h' tk acc' c', (∀ b o, b ≠ S → b ≠ r → s.heap.get? b = some o → h'.get? b = some o) → h'.get? S = some { cls := .type "list", dict := none, data := .seq acc' c', slots := #[] } →
      ItemsOf (fun i v => items[items.size - 1 - i]? = some v) acc' items.size → R (.ok (.ret res)) { s with heap := h', toks := tk }) (hn : items.size ≤ sizeLine) :
    wpAny (model prog w) A.in1 (Builtin.List.listExtendWith (.ref S) (.ref r) res)
      (fun fin s' => match fin with | .done f => R (.ok f) s' | .again c' => c'.quiet = true ∧ codeAny (model prog w) A c' R s') (fun e s' => R (.error e) s') s := by
  have hSf : S ∉ [r, l] := fun hm => by
    simp only [List.mem_cons, List.not_mem_nil, or_false] at hm
    exact hm.elim hSr hSl
  unfold Builtin.List.listExtendWith
  refine wpAny_bind (wpAny_typeOf hr.typeIs ?_)
  have h1 : Builtin.List.listSameRef (.ref S) (.ref r) = false := by simp [Builtin.List.listSameRef, hSr]
  have h2 : (Value.type "list_reverseiterator" == Value.type "list") = false := by decide
  have h3 : (Value.type "list_reverseiterator" == Value.type "tuple") = false := by decide
  simp only [h1, h2, h3, Bool.or_false, Bool.false_eq_true, if_false]
  refine wpAny_bind (wpAny_pyIter_revIter hr ?_)
  refine wpAny_bind (wpAny_holding (hint_rev hr ?_))
  have W := (Walks.listRev (prog := prog) (w := w) (A := A.in1) hh r l hne items).toS
  rw [if_neg (by decide)]
  refine wpAny_pure ⟨plainId_quiet F.plain_extend_loop _, codeAny_extend_loopS W hn _ hSf _ items.size 0 _ _ _ rfl (Nat.zero_le _) ⟨Nat.zero_le _, by simpa using hr, hl⟩ hS (ItemsOf.nil _) fun s' acc' c' hm hS' hacc => ?_⟩
  rw [Moved.eq_with hm]
  refine hR s'.heap s'.toks acc' c' (fun b ob hb hb2 e => hm.heap b ob (fun hmem => ?_) e) hS' hacc
  rcases List.mem_cons.mp hmem with e' | hmem
  · exact hb e'
  · exact hb2 (List.mem_singleton.mp hmem)
theorem init_rev {R : Result → Shared → Prop} {r l : Addr} {items : Array Value} (hh : A.handled = none) (hr : s.heap.IsRevIter r l ((items.size : Int) - 1)) (hl : s.heap.IsList l items) (hne : l ≠ r) (S : Addr) (hS : s.heap.get? S = some { cls := .type "list", data := .seq #[] }) (hSr : S ≠ r) (hSl : S ≠ l)
    (hR : ∀ h' tk acc' c', (∀ b o, b ≠ S → b ≠ r → s.heap.get? b = some o → h'.get? b = some o) → h'.get? S = some { cls := .type "list", dict := none, data := .seq acc' c', slots := #[] } →
      ItemsOf (fun i v => items[items.size - 1 - i]? = some v) acc' items.size → R (.ok (.ret .none)) { s with heap := h', toks := tk }) (hn : items.size ≤ sizeLine) :
    wpAny (model prog w) A.in1 (Builtin.«list.__init__» ⟨[.ref S, .ref r], []⟩)
      (fun fin s' => match fin with | .done f => R (.ok f) s' | .again c' => c'.quiet = true ∧ codeAny (model prog w) A c' R s') (fun e s' => R (.error e) s') s := by
  show wpAny _ _ (do let old ← Builtin.List.listItems (.ref S); Builtin.List.listUpdate (.ref S) (fun _ => #[]); letGo old.toList.reverse; Builtin.List.listExtendWith (.ref S) (.ref r) .none) _ _ s
  refine wpAny_bind ?_
  unfold Builtin.List.listItems
  refine wpAny_bind (wpAny_seqItems hS rfl (wpAny_pure ?_))
  show wpAny _ _ (updateSeq S (fun _ => #[]) >>= fun _ => letGo (#[] : Array Value).toList.reverse >>= fun _ => Builtin.List.listExtendWith (.ref S) (.ref r) .none) _ _ s
  refine wpAny_bind (wpAny_updateSeq hS rfl ?_)
  have hS₂ := Heap.get?_update_self (Obj.mapSeq (fun _ => (#[] : Array Value))) hS rfl
  have oth : ∀ b o, b ≠ S → s.heap.get? b = some o → (s.heap.update S (Obj.mapSeq (fun _ => (#[] : Array Value)))).get? b = some o :=
    fun b o hb e => (Heap.get?_update_other _ _ (Ne.symm hb)).trans e
  refine wpAny_bind (wpAny_letGo ?_)
  refine extend_rev (hn := hn) (s := { s with heap := s.heap.update S (Obj.mapSeq (fun _ => (#[] : Array Value))) }) hh (hr.at fun o e => oth r o (Ne.symm hSr) e) (hl.at fun o e => oth l o (Ne.symm hSl) e) hne S .none _ hS₂ hSr hSl fun h' tk acc' c' hk hS' hacc => ?_
  exact hR h' tk acc' c' (fun b o hb hb2 e => hk b o hb hb2 (oth b o hb e)) hS' hacc
theorem call_list_rev {Q : Value → Shared → Prop} {r l : Addr} {items : Array Value} (hh : A.handled = none) (hr : s.heap.IsRevIter r l ((items.size : Int) - 1)) (hl : s.heap.IsList l items) (hne : l ≠ r) (hn : items.size ≤ sizeLine)
    (hQ : ∀ h' tk acc' c', (∀ b o, b ≠ r → s.heap.get? b = some o → h'.get? b = some o) →
      h'.get? s.heap.objs.size = some { cls := .type "list", dict := none, data := .seq acc' c', slots := #[] } → ItemsOf (fun i v => items[items.size - 1 - i]? = some v) acc' items.size → Q (.ref s.heap.objs.size) { s with heap := h', toks := tk }) :
    wpAny (model prog w) A (call (.type "list") [.ref r]) Q E s := by
  refine callType_codes (Q₁ := fun obj s₁ => obj = .ref s.heap.objs.size ∧ s₁ = { s with heap := s.heap.push { cls := .type "list", data := .seq #[] } }) F.called_list (F.typeCall_list_1 _) F.entry_list_init
    (code_list_new _ ⟨rfl, rfl⟩) fun obj s₁ h₁ => ?_
  obtain ⟨rfl, rfl⟩ := h₁
  have hS : (s.heap.push { cls := .type "list", data := .seq #[] }).get? s.heap.objs.size = some { cls := .type "list", data := .seq #[] } := Heap.get?_push_size _ rfl
  have rlt : r < s.heap.objs.size := by obtain ⟨o, e, _⟩ := hr; exact Heap.lt_size e
  have llt : l < s.heap.objs.size := by obtain ⟨o, e, _⟩ := hl; exact Heap.lt_size e
  refine ⟨⟨_, hS, rfl⟩, F.args_list_init_2 _ _, init_rev (A := A.in1) hh (hr.at fun o e => Heap.get?_push_of_some _ e) (hl.at fun o e => Heap.get?_push_of_some _ e) hne _ hS (Nat.ne_of_gt rlt) (Nat.ne_of_gt llt) (fun h' tk acc' c' hk hS' hacc => ?_) hn⟩
  exact ⟨rfl, hQ h' tk acc' c' (fun b o hb e => hk b o (Nat.ne_of_lt (Heap.lt_size e)) hb (Heap.get?_push_of_some _ e)) hS' hacc⟩
end
/-- an iterator of ours has turned, a new list lies at l -/
theorem Inv.turnedNew {X : Cx} {pins : List (Addr × Obj)} {σ : L2.St} {H : Hp} {s : Shared} {h' : Heap} {it l : Addr} {ys : List V} {its : List Value} {n t' : Nat} (I : Inv X pins σ H s) (k : ∀ b o, b ≠ it → s.heap.get? b = some o → h'.get? b = some o) (fp : FpOk X pins H it) (hit : it < s.heap.objs.size) (hl : s.heap.objs.size ≤ l)
    (hz : ys.length ≤ sizeLine) (r : Vals ys its) (e : h'.get? l = some { cls := .type "list", data := .seq its.toArray n }) : Inv X pins σ (upd H l (.lst ys)) { s with heap := h', toks := t' } := by
  have hfresh : H l = none := I.hok.fresh hl
  have nsz : ∀ c u, H c = some u → c ≠ l := fun c u e z => by rw [z, hfresh] at e; cases e
  have nit : ∀ c u, H c = some u → c ≠ it := fun c u e z => by rw [z, fp.1] at e; cases e
  refine I.step (g' := s.gens) (d' := s.drawn) (t' := t') (ch := [it]) (fun c hcm => ?_) (fun c o _ _ hcm e _ => k c o (fun z => hcm (by simp [z])) e) (fun c o _ _ hcm e _ => ⟨o.slots, k c o (fun z => hcm (by simp [z])) e⟩) (fun c o _ e n => ?_)
    (fun c o hcm e => ⟨o, k c o (fun z => hcm (by simp [z])) e⟩) (fun c xs e => ?_) (fun c o w e => ?_) (fun c ps e => ⟨#[], ?_⟩) (fun m hm => ?_) (fun c w e0 => ?_) I.bare
  · have ec : c = it := by simpa using hcm
    subst ec
    obtain ⟨f0, f1, f2, f3, f4, f5⟩ := fp
    exact ⟨f3, f1, f4, f5⟩
  · rw [upd_ne (Nat.ne_of_lt (Nat.lt_of_lt_of_le (Heap.lt_size e) hl))]; exact n
  · rw [upd_ne (nsz c _ e)]; exact e
  · rw [upd_ne (nsz c _ e)]; exact e
  · rw [upd_ne (nsz c _ e), e]; simp
  · obtain ⟨o, es, ep, ho, r⟩ := hm
    exact ⟨o, es, ep, k _ o (Ne.symm fp.2.1) ho, r⟩
  · by_cases hcz : c = l
    · subst hcz
      rw [upd_same] at e0; cases e0
      exact ⟨hz, its, n, r, e⟩
    · rw [upd_ne hcz] at e0
      refine (I.hok c w e0).stay (fun c' w' hc' q => k c' w' ?_ q) (fun c' q => ?_) fun c' xs q => ?_
      · rcases hc' with hc' | hc'
        · rw [hc']; exact nit _ _ e0
        · exact nit _ _ hc'
      · rw [upd_ne (nsz c' _ q)]; exact q
      · rw [upd_ne (nsz c' _ q)]; exact q
section
variable {T : Tb} {X : Cx} {e : Expr} {pos p p2 pos2 : Pos} {fl : Ro → Out (List D)}
theorem df_listRev (hc : X.calm = true) (hg : Gl X "list") (hm : X.mg "list" = none) (hg2 : Gl X "reversed") (hm2 : X.mg "reversed" = none) (hl : DL T X e fl) (hs : starEach [e] X.env = (false, eval e X.env) :: starEach [] X.env := by exact star_of rfl) (hpl : (backTo pos2 (starEach ([] : List Expr) X.env)).any (·.1) = false := by exact plain_of rfl)
    (hpl2 : (backTo pos (starEach ([] : List Expr) X.env)).any (·.1) = false := by exact plain_of rfl) : DF T X (.Call (.Name "list" p) [.Call (.Name "reversed" p2) [e] [] pos2] [] pos) (fRev fl) := .mk fun G E hp => by
  rintro pins s σ H Q I ⟨ρ, fr, h⟩
  have hsO : starEach [.Call (.Name "reversed" p2) [e] [] pos2] X.env = (false, eval (.Call (.Name "reversed" p2) [e] [] pos2) X.env) :: starEach [] X.env := star_of rfl
  refine Call_ (ld_blt (X := X.wish E) I hg hm (u := .type "list") rfl (PyProof.Rows.callWith_type1 ?_ hsO hpl2))
  rw [show starEach [.Call (.Name "reversed" p2) [e] [] pos2] (X.wish E).env = (false, eval (.Call (.Name "reversed" p2) [e] [] pos2) X.env) :: starEach [] X.env from hsO]
  show wpAny _ _ (spliced ((false, eval (.Call (.Name "reversed" p2) [e] [] pos2) X.env) :: backTo pos (starEach [] X.env))) _ _ s
  refine Calls.spliced_cons (Call_ (ld_blt (X := X.wish E) I hg2 hm2 boot_reversed (PyProof.Rows.callWith_type1 (thn ((pa_cons (X := X.wish E) (hl.run G E hp) pa_nil hs) pos2 pins s σ H (fun us H1 => ∃ l vs ds, us = [.ref l] ∧ Same H H1 ∧ SqL X.K H1 l vs ∧ RepL T X.K H1 ds vs ∧ Acc T X E σ H (.ok ds.reverse) (fun ds => ∀ a vs H', Same H H' → H a = none → H' a = some (.lst vs) → RepL T X.K H' ds vs → Q (.ref a) H')) I ⟨ρ, fr, Acc.mono (Acc.bind h) fun ds _ hd l vs H1 s1 sq r => ⟨l, vs, ds, rfl, s1, sq, r, hd⟩⟩) fun us s1 ⟨xs, H1, I1, r1, l, vs, ds, e1, sm, sq, r, hd⟩ => ?_) hs hpl)))
  subst e1
  obtain ⟨u, rfl, ru⟩ := Vals.one r1
  cases ru
  obtain ⟨its, rv, pl, hz⟩ := I1.list sq
  have hlen := rv.length
  refine call_reversed_list pl.isList ?_
  have I2 : Inv (X.wish E) pins σ H1 { s1 with heap := s1.heap.push (revObj l ((its.toArray.size : Int) - 1)) } := I1.kept (t' := s1.toks) fun b o e => Heap.get?_push_of_some _ e
  have hit : (s1.heap.push (revObj l ((its.toArray.size : Int) - 1))).IsRevIter s1.heap.objs.size l ((its.toArray.size : Int) - 1) := ⟨_, Heap.get?_push_size _ rfl, rfl, rfl⟩
  have llt : l < s1.heap.objs.size := by obtain ⟨o, e, _⟩ := pl.isList; exact Heap.lt_size e
  refine Calls.spliced_nil ?_
  refine call_list_rev (s := { s1 with heap := s1.heap.push (revObj l ((its.toArray.size : Int) - 1)) }) (I1.ok.hd hc) hit (pl.isList.at fun o e => Heap.get?_push_of_some _ e) (Nat.ne_of_lt llt) (by rw [List.size_toArray]; omega) fun h' tk acc' c' hk hS' hacc => ?_
  have fp : FpOk (X.wish E) pins H1 s1.heap.objs.size := I1.fpOk (Nat.le_refl _) (I1.hok.fresh (Nat.le_refl _))
  have ea : acc' = its.reverse.toArray := by
    obtain ⟨z1, z2⟩ := hacc
    have z1' : acc'.size = its.length := by rw [z1]; simp
    apply Array.ext_getElem?
    intro i
    by_cases hi : i < acc'.size
    · have := z2 i acc'[i] (by simp [hi])
      rw [Array.getElem?_eq_getElem hi]
      simp only [List.getElem?_toArray, List.size_toArray] at this ⊢
      rw [List.getElem?_reverse (by omega)]
      exact this.symm
    · rw [Array.getElem?_eq_none (by omega), Array.getElem?_eq_none (by simp; omega)]
  subst ea
  have hfr : H1 (s1.heap.push (revObj l ((its.toArray.size : Int) - 1))).objs.size = none := I2.hok.fresh (Nat.le_refl _)
  refine ⟨.ref _, _, Inv.turnedNew (t' := tk) I2 hk fp (by rw [Heap.size_push]; exact Nat.lt_succ_self _) (Nat.le_refl _) (ys := vs.reverse) (by rw [List.length_reverse]; exact hz) rv.reverse hS', rfl, ?_⟩
  exact hd _ vs.reverse _ (sm.trans (same_upd hfr)) (sm.free hfr) upd_same (RepL.mono (same_upd hfr) _ _ (RepL.reverse _ _ r))
end
end L3

set_option Elab.async false
set_option linter.all false
set_option autoImplicit false
set_option maxRecDepth 100000
namespace L3
open PySem PySem.Spec PyProof.Rows L2

/-! ### a name whose value may be the frame's own list: is None, isinstance(x, list) -/
section
variable {T : Tb} {X : Cx} {pos p p2 p3 : Pos} {x : Str}
@[simp] def eIsNV (neg : Bool) (i : Nat) (ρ : Ro) : Out D := match ρ[i]? with
  | some (.sh d) => .ok (.bl (if neg then !d.isNon else d.isNon))
  | some (.ow _) => .ok (.bl neg)
  | some (.bo _) => .ok (.bl neg)
  | _ => .bad
theorem isNV_use {G H : Hp} {E : Value → Shared → Prop} {σ : L2.St} {ρ : Ro} {neg : Bool} {i : Nat} {k : D → Prop} (fr : FR T X.K G H σ ρ) (h : Acc T X E σ H (eIsNV neg i ρ) k) : ∃ v, σ[i]? = some (some v) ∧ k (.bl (if neg then !decide (v = .non) else decide (v = .non))) := by
  unfold eIsNV at h
  split at h
  · rename_i d e
    obtain ⟨v, e1, r⟩ := fr.sl i _ e
    have := non_dec r
    refine ⟨v, e1, ?_⟩
    rw [this]; exact h
  · rename_i ds e
    obtain ⟨a, vs, e1, e2, e3, r⟩ := fr.sl i _ e
    refine ⟨_, e1, ?_⟩
    have : decide (V.ref a = V.non) = false := by simp
    rw [this]
    cases neg <;> exact h
  · rename_i ds e
    obtain ⟨a, vs, e1, e2, r⟩ := fr.sl i _ e
    refine ⟨_, e1, ?_⟩
    have : decide (V.ref a = V.non) = false := by simp
    rw [this]
    cases neg <;> exact h
  · exact h.elim
theorem de_isNV (i : Nat) {j} (hN : X.N[i]? = some x := by rfl) (hv : Vis X.env.scope x := by first | exact Or.inl rfl | exact Or.inr (Or.inl rfl) | exact Or.inr (Or.inr rfl)) (hd : (x == ("__debug__" : Str)) = false := by decide)
    (hcd : (x == ("__classdict__" : Str)) = false := by decide) : DE T X (.Compare (.Name x p) [.Is] [.Constant .none j p2] pos) (eIsNV false i) := .mk fun G E hp =>
  PE.imp (pe_cmpR (X := X.wish E) op_isN (pe_var (X := X.wish E) hN hv hd hcd) pe_non (nomark _)) fun σ H Q ⟨ρ, fr, h⟩ => by
    obtain ⟨v, e1, k⟩ := isNV_use fr h
    exact ⟨v, e1, rfl, k _ H (Same.refl H) rfl⟩
theorem de_notNV (i : Nat) {j} (hN : X.N[i]? = some x := by rfl) (hv : Vis X.env.scope x := by first | exact Or.inl rfl | exact Or.inr (Or.inl rfl) | exact Or.inr (Or.inr rfl)) (hd : (x == ("__debug__" : Str)) = false := by decide)
    (hcd : (x == ("__classdict__" : Str)) = false := by decide) : DE T X (.Compare (.Name x p) [.IsNot] [.Constant .none j p2] pos) (eIsNV true i) := .mk fun G E hp =>
  PE.imp (pe_cmpR (X := X.wish E) op_notN (pe_var (X := X.wish E) hN hv hd hcd) pe_non (nomark _)) fun σ H Q ⟨ρ, fr, h⟩ => by
    obtain ⟨v, e1, k⟩ := isNV_use fr h
    exact ⟨v, e1, rfl, k _ H (Same.refl H) rfl⟩
@[simp] def tIsNV (neg : Bool) (i : Nat) (ρ : Ro) : Out Bool := (eIsNV neg i ρ).bind D.toB
theorem dt_isNV (i : Nat) {j} (hN : X.N[i]? = some x := by rfl) (hv : Vis X.env.scope x := by first | exact Or.inl rfl | exact Or.inr (Or.inl rfl) | exact Or.inr (Or.inr rfl)) (hd : (x == ("__debug__" : Str)) = false := by decide)
    (hcd : (x == ("__classdict__" : Str)) = false := by decide) : DT T X (.Compare (.Name x p) [.Is] [.Constant .none j p2] pos) (tIsNV false i) := .mk fun G E hp =>
  PT.imp (pt_cmpR (X := X.wish E) op_isN (pe_var (X := X.wish E) hN hv hd hcd) pe_non (nomark _)) fun σ H Q ⟨ρ, fr, h⟩ => by
    obtain ⟨v, e1, k⟩ := isNV_use fr (Acc.bind h)
    exact ⟨v, e1, rfl, _, rfl, k H (Same.refl H)⟩
theorem dt_notNV (i : Nat) {j} (hN : X.N[i]? = some x := by rfl) (hv : Vis X.env.scope x := by first | exact Or.inl rfl | exact Or.inr (Or.inl rfl) | exact Or.inr (Or.inr rfl)) (hd : (x == ("__debug__" : Str)) = false := by decide)
    (hcd : (x == ("__classdict__" : Str)) = false := by decide) : DT T X (.Compare (.Name x p) [.IsNot] [.Constant .none j p2] pos) (tIsNV true i) := .mk fun G E hp =>
  PT.imp (pt_cmpR (X := X.wish E) op_notN (pe_var (X := X.wish E) hN hv hd hcd) pe_non (nomark _)) fun σ H Q ⟨ρ, fr, h⟩ => by
    obtain ⟨v, e1, k⟩ := isNV_use fr (Acc.bind h)
    exact ⟨v, e1, rfl, _, rfl, k H (Same.refl H)⟩
@[simp] def eIsLV (i : Nat) (ρ : Ro) : Out D := match ρ[i]? with
  | some (.sh d) => (g_list d).bind fun b => .ok (.bl b)
  | some (.ow _) => .ok (.bl true)
  | some (.bo _) => .ok (.bl true)
  | _ => .bad
theorem de_isLV (i : Nat) (hg : Gl X "isinstance") (hm : X.mg "isinstance" = none) (hgc : Gl X "list") (hmc : X.mg "list" = none) (hN : X.N[i]? = some x := by rfl) (hv : Vis X.env.scope x := by first | exact Or.inl rfl | exact Or.inr (Or.inl rfl) | exact Or.inr (Or.inr rfl)) (hd : (x == ("__debug__" : Str)) = false := by decide)
    (hcd : (x == ("__classdict__" : Str)) = false := by decide) : DE T X (.Call (.Name "isinstance" p) [.Name x p2, .Name "list" p3] [] pos) (eIsLV i) := .mk fun G E hp => by
  rintro pins s σ H Q I ⟨ρ, fr, h⟩
  refine wpAny_Call_Name_kw (ld_blt (X := X.wish E) I hg hm (u := .builtin "isinstance") rfl ?_)
  have hs1 : starEach [.Name x p2, .Name "list" p3] X.env = (false, eval (.Name x p2) X.env) :: starEach [.Name "list" p3] X.env := rfl
  have fin : ∀ (v : V), σ[i]? = some (some v) → (∀ (s1 : Shared) (I1 : Inv (X.wish E) pins σ H s1) (u : Value), RelV v u → wpAny (model X.prog X.w) X.A (call (.builtin "isinstance") [u, .type "list"]) (EP (X.wish E) pins σ Q) E s1) →
      wpAny (model X.prog X.w) X.A (callWith pos (.builtin "isinstance") [] (backTo pos (starEach [.Name x p2, .Name "list" p3] X.env)) []) (EP (X.wish E) pins σ Q) E s := fun v e1 k => by
    refine PyProof.Rows.callWith_builtin1 (thn ((pa_cons (X := X.wish E) (pe_var (X := X.wish E) hN hv hd hcd) (pa_cons (X := X.wish E) (pe_bltn (X := X.wish E) hgc hmc boot_list (v := .ty "list") rfl) pa_nil rfl) hs1) pos pins s σ H (fun vs H1 => vs = [v, .ty "list"] ∧ H1 = H) I ⟨v, e1, rfl, rfl⟩) fun us s1 ⟨vs, H1, I1, rvs, ev, eH⟩ => ?_) hs1 rfl
    subst ev eH
    obtain ⟨u, u', rfl, r1, r2⟩ := Vals.two rvs
    cases (show u' = Value.type "list" from r2)
    exact k s1 I1 u r1
  have lst : ∀ (a : Addr) (vs : List V) (s1 : Shared) (I1 : Inv (X.wish E) pins σ H s1), SqL X.K H a vs → Q (.bl true) H → wpAny (model X.prog X.w) X.A (call (.builtin "isinstance") [.ref a, .type "list"]) (EP (X.wish E) pins σ Q) E s1 := fun a vs s1 I1 sq q => by
    obtain ⟨its, _, ⟨o, n, h1, h2, _⟩, _⟩ := I1.list sq
    exact PySem.W.kia_one PySem.W.kitx_list I1.kIn ⟨o, h1, h2⟩ (b := true) (by with_unfolding_all rfl) (fun z => nomatch z) fun tk => ⟨.bl true, H, I1.tok _, rfl, q⟩
  unfold eIsLV at h
  split at h
  · rename_i d e
    obtain ⟨v, e1, r⟩ := fr.sl i _ e
    refine fin v e1 fun s1 I1 u ru => ?_
    cases eg : g_list d with
    | ok b =>
      rw [eg] at h
      obtain ⟨z1, z2, z3⟩ := isi_list (T := T) (K := X.K) d b eg
      exact isi_run (X := X.wish E) I1 ru r z1 z2 z3 fun tk => ⟨.bl b, H, I1.tok _, rfl, h _ H (Same.refl H) rfl⟩
    | exc c => exact absurd eg (isi_list_ne d c)
    | bad => rw [eg] at h; exact h.elim
  · rename_i ds e
    obtain ⟨a, vs, e1, e2, e3, r⟩ := fr.sl i _ e
    refine fin _ e1 fun s1 I1 u ru => ?_
    cases ru
    exact lst a vs s1 I1 (SqL.of e2) (h _ H (Same.refl H) rfl)
  · rename_i ds e
    obtain ⟨a, vs, e1, e2, r⟩ := fr.sl i _ e
    refine fin _ e1 fun s1 I1 u ru => ?_
    cases ru
    exact lst a vs s1 I1 (SqL.of (fr.same _ _ e2)) (h _ H (Same.refl H) rfl)
  · exact h.elim
end
end L3

set_option Elab.async false
set_option linter.all false
set_option autoImplicit false
set_option maxRecDepth 100000
namespace L3
open PySem L2
/-! ### pure facts about texts -/
theorem str_ext {a b : Str} (h : a.cps.toList = b.cps.toList) : a = b := by
  cases a; cases b; simp at h; simp [h]
theorem cps_app (a b : Str) : (a ++ b).cps.toList = a.cps.toList ++ b.cps.toList := by
  show (a.cps ++ b.cps).toList = _; simp
theorem len_app (a b : Str) : (a ++ b).length = a.length + b.length := by
  show (a.cps ++ b.cps).size = _; simp [Str.length]
theorem len_cps (a : Str) : a.cps.toList.length = a.length := by simp [Str.length]
theorem app_assoc (a b c : Str) : a ++ b ++ c = a ++ (b ++ c) := str_ext (by simp [cps_app])
theorem nil_app (a : Str) : Str.empty ++ a = a := str_ext (by rw [cps_app]; simp [Str.empty])
theorem app_nil (a : Str) : a ++ Str.empty = a := str_ext (by rw [cps_app]; simp [Str.empty])
/-- the figures of a number -/
def dig (n : Nat) : Str := ⟨((Nat.toDigits 10 n).map Char.toNat).toArray⟩
theorem dig_list (n : Nat) : (dig n).cps.toList = (Nat.toDigits 10 n).map Char.toNat := by simp [dig]
theorem toString_dig (n : Nat) : Str.ofString (toString (n : Int)) = dig n := by
  rw [Str.ofString_eq_toList]
  show Str.mk _ = Str.mk _
  congr 2
  show (Nat.repr n).toList.map _ = _
  rw [Nat.toList_repr]
theorem toString_dig' {i : Int} (h : 0 ≤ i) : Str.ofString (toString i) = dig i.toNat := by
  obtain ⟨n, rfl⟩ := Int.eq_ofNat_of_zero_le h
  exact toString_dig n
theorem digitChar_48 : ∀ {r : Nat}, r < 10 → (Nat.digitChar r).toNat = 48 + r := by decide
theorem dig_small {n : Nat} (h : n < 10) : dig n = ⟨#[48 + n]⟩ := by
  apply str_ext
  rw [dig_list, Nat.toDigits_of_lt_base h]
  simp [digitChar_48 h]
theorem dig_big {n : Nat} (h : 10 ≤ n) : dig n = dig (n / 10) ++ ⟨#[48 + n % 10]⟩ := by
  apply str_ext
  rw [cps_app, dig_list, dig_list, Nat.toDigits_of_base_le (by decide) h]
  simp [digitChar_48 (Nat.mod_lt n (by decide : 0 < 10))]
theorem at_figs {r : Nat} (h : r < 10) : atI (Str.ofString "0123456789").cps.toList (r : Int) = some (48 + r) := by
  revert r; decide
theorem dig_len (k : Nat) : ∀ n, n < 10 ^ (k + 1) → (dig n).length ≤ k + 1 := by
  induction k with
  | zero => intro n h; rw [dig_small (by omega)]; simp [Str.length]
  | succ k ih =>
    intro n h
    by_cases h1 : n < 10
    · rw [dig_small h1]; simp [Str.length]
    · rw [dig_big (by omega), len_app]
      have := ih (n / 10) (by rw [Nat.pow_succ] at h; omega)
      have e : (Str.mk #[48 + n % 10]).length = 1 := rfl
      omega
theorem log2_lt {n k : Nat} (h : n < 2 ^ k) (hk : 0 < k) : n.log2 < k := by
  by_cases h0 : n = 0
  · subst h0; simpa [Nat.log2_zero] using hk
  · exact (Nat.log2_lt h0).mpr h
/-! ### loops -/
section
variable {b : Ro → D → Fl} {d : D} {ds : List D} {ρ ρ' : Ro}
theorem forD_nil : forD b [] ρ = .nx ρ := by rw [forD]
theorem forD_nx (h : b ρ d = .nx ρ') : forD b (d :: ds) ρ = forD b ds ρ' := by rw [forD, h]
theorem forD_ct (h : b ρ d = .ct ρ') : forD b (d :: ds) ρ = forD b ds ρ' := by rw [forD, h]
theorem forD_bk (h : b ρ d = .bk ρ') : forD b (d :: ds) ρ = .nx ρ' := by rw [forD, h]
theorem forD_rt {r : Rv} (h : b ρ d = .rt r) : forD b (d :: ds) ρ = .rt r := by rw [forD, h]
theorem forD_exc {c : Nat} (h : b ρ d = .exc c ρ') : forD b (d :: ds) ρ = .exc c ρ' := by rw [forD, h]
theorem forD_app {es : List D} : forD b (ds ++ es) ρ = (match forD b ds ρ with | .nx ρ' => forD b es ρ' | o => o) ∨ ∃ ρ', forD b (ds ++ es) ρ = .nx ρ' := by
  induction ds generalizing ρ with
  | nil => left; rw [forD_nil]; rfl
  | cons d ds ih =>
    cases h : b ρ d with
    | nx ρ1 => rw [List.cons_append, forD_nx h, forD_nx h]; exact ih
    | ct ρ1 => rw [List.cons_append, forD_ct h, forD_ct h]; exact ih
    | bk ρ1 => right; exact ⟨ρ1, by rw [List.cons_append, forD_bk h]⟩
    | rt r => left; rw [List.cons_append, forD_rt h, forD_rt h]
    | exc c ρ1 => left; rw [List.cons_append, forD_exc h, forD_exc h]
    | bad => left; rw [List.cons_append, forD, forD, h]
end
theorem sFor_ok {fl : Ro → Out (List D)} {g : Ro → D → Out Ro} {fb : Ro → Fl} {ρ : Ro} {ds : List D} (h : fl ρ = .ok ds) : sFor fl g fb ρ = forD (bodyD g fb) ds ρ := by rw [sFor, h, Out.ok_fl]
theorem rng_ok {fe : Ev} {ρ : Ro} {n : Nat} (h : fe ρ = .ok (.int n)) (hn : n < 1000000) : lRng (n1 fe) ρ = .ok (rgD 0 n) := by
  have e : n1 fe ρ = .ok (0, n) := by
    rw [n1, h, Out.ok_bind]
    show (if _ then _ else _) = _
    rw [if_pos ⟨by omega, by omega⟩, Int.toNat_natCast]
  rw [lRng, e, Out.ok_bind]
theorem rgD_succ (lo : Int) (n : Nat) : rgD lo (n + 1) = .int lo :: rgD (lo + 1) n := by
  rw [rgD, List.range_succ_eq_map, List.map_cons, List.map_map, rgD]
  congr 1
  · simp
  · apply List.map_congr_left
    intro k _
    simp only [Function.comp_apply]
    congr 1
    omega
theorem rgD_zero (lo : Int) : rgD lo 0 = [] := by simp [rgD]
theorem log2_sm {i : Int} (h : i.natAbs < 2 ^ 200) : i.natAbs.log2 < 1920 := Nat.lt_of_lt_of_le (log2_lt h (by decide)) (by decide)
end L3

set_option Elab.async false
set_option linter.all false
set_option autoImplicit false
set_option maxRecDepth 100000
namespace L3
open PySem PySem.Spec PyProof.Rows L2

/-! ### list comprehensions -/
/-- each item's value, where all of them come -/
def mapO (f : D → Out D) : List D → Option (List D)
  | [] => some []
  | d :: ds => match f d with
    | .ok e => (match mapO f ds with | some es => some (e :: es) | none => none)
    | _ => none
theorem mapO_get {f : D → Out D} : ∀ {ds es : List D}, mapO f ds = some es → es.length = ds.length ∧ ∀ (i : Nat) (d : D), ds[i]? = some d → ∃ e, f d = .ok e ∧ es[i]? = some e
  | [], es, h => by cases h; exact ⟨rfl, fun i d e => by simp at e⟩
  | d :: ds, es, h => by
    rw [mapO] at h
    cases e1 : f d with
    | ok e =>
      rw [e1] at h
      cases e2 : mapO f ds with
      | none => rw [e2] at h; cases h
      | some es' =>
        rw [e2] at h
        cases h
        obtain ⟨l, g⟩ := mapO_get e2
        refine ⟨by simp [l], fun i d' q => ?_⟩
        cases i with
        | zero => cases q; exact ⟨e, e1, rfl⟩
        | succ i => exact g i d' q
    | exc c => rw [e1] at h; cases h
    | bad => rw [e1] at h; cases h

/-! the names that a block closes over -/
theorem closure_go (env : Env) : ∀ (names : List (Str × NameKind)) (cs : List (Str × Addr)), (∀ y ∈ names, y.2 = .free → ∃ c, env.cells.lookup y.1 = some c) → (∀ y c, cs.lookup y = some c → env.cells.lookup y = some c) →
    ∃ cl : List (Str × Addr), (forIn names cs fun (x : Str × NameKind) (r : List (Str × Addr)) => (do if x.2 == NameKind.free then do let c ← cellOf env x.1; pure (ForInStep.yield ((x.1, c) :: r)) else pure (ForInStep.yield r) : Sem (ForInStep (List (Str × Addr))))) = pure cl ∧
      (∀ y c, cl.lookup y = some c → env.cells.lookup y = some c) ∧ (∀ y ∈ names, y.2 = .free → ∃ c, cl.lookup y.1 = some c) ∧ ∀ y c, cs.lookup y = some c → cl.lookup y = some c := by
  intro names
  induction names with
  | nil => intro cs _ h; exact ⟨cs, rfl, h, fun y hy => by simp at hy, fun _ _ e => e⟩
  | cons z names ih =>
    obtain ⟨n, k⟩ := z
    intro cs hf h
    by_cases hk : k = .free
    · subst hk
      obtain ⟨c, hc⟩ := hf (n, .free) (by simp) rfl
      have hc : env.cells.lookup n = some c := hc
      have h' : ∀ y c', ((n, c) :: cs).lookup y = some c' → env.cells.lookup y = some c' := fun y c' e => by
        rw [List.lookup_cons] at e
        cases ey : y == n with
        | true => rw [ey] at e; cases e; rw [eq_of_beq ey]; exact hc
        | false => rw [ey] at e; exact h y c' e
      obtain ⟨cl, e1, e2, e3, e4⟩ := ih ((n, c) :: cs) (fun y hy => hf y (by simp [hy])) h'
      have nn : cl.lookup n = some c := e4 n c (by simp [List.lookup_cons])
      refine ⟨cl, ?_, e2, fun y hy hy2 => ?_, fun y c' e => ?_⟩
      · rw [List.forIn_cons]
        have : cellOf env n = pure c := by unfold cellOf; rw [hc]
        simp only [beq_self_eq_true, if_true, this, pure_bind]
        exact e1
      · rcases List.mem_cons.mp hy with z | z
        · rw [z]; exact ⟨c, nn⟩
        · exact e3 y z hy2
      · by_cases ey : y = n
        · subst ey
          have := h y c' e
          rw [hc] at this; cases this
          exact nn
        · exact e4 y c' (by rw [List.lookup_cons, show (y == n) = false by simpa using ey]; exact e)
    · obtain ⟨cl, e1, e2, e3, e4⟩ := ih cs (fun y hy => hf y (by simp [hy])) h
      have hb : (k == NameKind.free) = false := by simpa using hk
      refine ⟨cl, ?_, e2, fun y hy hy2 => ?_, e4⟩
      · rw [List.forIn_cons]
        simp only [hb, Bool.false_eq_true, if_false, pure_bind]
        exact e1
      · rcases List.mem_cons.mp hy with z | z
        · rw [z] at hy2; exact absurd hy2 hk
        · exact e3 y z hy2
theorem closure_of (env : Env) (scope : Scope) (hf : ∀ y ∈ scope.names, y.2 = .free → ∃ c, env.cells.lookup y.1 = some c) :
    ∃ cl : List (Str × Addr), closureFor scope env = pure cl ∧ (∀ y c, cl.lookup y = some c → env.cells.lookup y = some c) ∧ ∀ y ∈ scope.names, y.2 = .free → ∃ c, cl.lookup y.1 = some c := by
  obtain ⟨cl, e1, e2, e3, _⟩ := closure_go env scope.names [] hf (fun y c e => by simp at e)
  refine ⟨cl, ?_, e2, e3⟩
  rw [closureFor]
  show (forIn scope.names [] _ >>= fun cs => pure cs) = pure cl
  rw [bind_pure]
  exact e1

/-- a block's context -/
abbrev CxC (X : Cx) (N' : List Str) (scope : Scope) (cl : List (Str × Addr)) (C : Addr) (s₀ : Shared) (H₀ : Hp) (ex : List Addr) : Cx :=
  { X with N := N', env := compEnvC scope cl C X.env, outer := X.stack, s₀ := s₀, H₀ := H₀, ex := ex, fn := fun _ => false, pn := [] }
structure Cap (X : Cx) (scope : Scope) (x : Str) (ys : List Str) (caps : List Nat) : Prop where
  kind : scope.kind = .function
  own : scope.names.lookup x = some .local
  nocell : ∀ y ∈ scope.names, y.2 ≠ .cell
  names : ∀ y ∈ scope.names, y.2 = .local → scope.names.lookup y.1 = some .local
  free : ∀ y ∈ scope.names, y.2 = .free → X.env.kindOf y.1 = some .cell ∨ X.env.kindOf y.1 = some .free
  nodup : (x :: ys).Nodup
  len : caps.length = ys.length
  cap : ∀ (j : Nat) (y : Str) (i : Nat), ys[j]? = some y → caps[j]? = some i → X.N[i]? = some y ∧ (X.env.kindOf y = some .cell ∨ X.env.kindOf y = some .free) ∧ scope.names.lookup y = some .free
theorem lookup_relabel {env : Env} : ∀ {names : List (Str × NameKind)} {x : Str} {k : NameKind}, (names.map fun (n, k) => if (k == NameKind.free && env.scope.kind == .function && env.kindOf n == some .cell) then (n, NameKind.cell) else (n, k)).lookup x = some k →
    ∃ k', names.lookup x = some k' ∧ (x, k') ∈ names ∧ (k = k' ∨ (k' = .free ∧ k = .cell))
  | [], _, _, h => by simp at h
  | (n, k0) :: r, x, k, h => by
    have ih := @lookup_relabel env r x k
    have h : List.lookup x ((if (k0 == NameKind.free && env.scope.kind == .function && env.kindOf n == some .cell) = true then (n, NameKind.cell) else (n, k0)) :: _) = some k := h
    cases hx : x == n with
    | true =>
      have e := eq_of_beq hx
      subst e
      refine ⟨k0, by simp [List.lookup_cons], by simp, ?_⟩
      by_cases hc : (k0 == NameKind.free && env.scope.kind == .function && env.kindOf x == some .cell) = true
      · rw [if_pos hc] at h
        simp only [List.lookup_cons, beq_self_eq_true] at h
        cases h
        right
        refine ⟨?_, rfl⟩
        simp only [Bool.and_eq_true] at hc
        exact eq_of_beq hc.1.1
      · rw [if_neg hc] at h
        simp only [List.lookup_cons, beq_self_eq_true] at h
        cases h
        exact .inl rfl
    | false =>
      have h' : List.lookup x (r.map fun (n, k) => if (k == NameKind.free && env.scope.kind == .function && env.kindOf n == some .cell) then (n, NameKind.cell) else (n, k)) = some k := by
        by_cases hc : (k0 == NameKind.free && env.scope.kind == .function && env.kindOf n == some .cell) = true
        · rw [if_pos hc] at h; simpa [List.lookup_cons, hx] using h
        · rw [if_neg hc] at h; simpa [List.lookup_cons, hx] using h
      obtain ⟨k', e1, e2, e3⟩ := ih h'
      exact ⟨k', by rw [List.lookup_cons, hx]; exact e1, List.mem_cons_of_mem _ e2, e3⟩
section
variable {X : Cx} {pins : List (Addr × Obj)} {σ : L2.St} {H : Hp} {s : Shared} {scope : Scope} {x : Str} {ys : List Str} {caps : List Nat} {cl : List (Str × Addr)} {ex : List Addr}
theorem Cap.has (cp : Cap X scope x ys caps) (hcl : ∀ y ∈ scope.names, y.2 = .free → ∃ c, cl.lookup y.1 = some c) : ∀ y, ((relabel scope X.env).names.lookup y = some .cell ∨ (relabel scope X.env).names.lookup y = some .free) → ∃ c, cl.lookup y = some c := by
  intro y h
  rcases h with h | h
  · obtain ⟨k', _, e2, e3⟩ := lookup_relabel (env := X.env) h
    rcases e3 with e3 | e3
    · exact absurd e3.symm (cp.nocell _ e2)
    · exact hcl _ e2 e3.1
  · obtain ⟨k', _, e2, e3⟩ := lookup_relabel (env := X.env) h
    rcases e3 with e3 | e3
    · exact hcl _ e2 e3.symm
    · cases e3.2
theorem ok_comp (I : Inv X pins σ H s) (cp : Cap X scope x ys caps) (h1 : ∀ y c, cl.lookup y = some c → X.env.cells.lookup y = some c) (h2 : ∀ y ∈ scope.names, y.2 = .free → ∃ c, cl.lookup y.1 = some c)
    (hx : ∀ b ∈ ex, FpOk X pins H b ∧ b < s.heap.objs.size) : (CxC X (x :: ys) scope cl s.heap.objs.size s H ex).Ok where
  mod := I.ok.mod
  kind := cp.kind
  glob := I.ok.glob
  blt := I.ok.blt
  above := Nat.le_refl _
  inj := fun a b c e1 e2 => I.ok.inj a b c (h1 _ _ e1) (h1 _ _ e2)
  has := fun y h => cp.has h2 y h
  cab := fun y c e => by cases e
  hd := I.ok.hd
  frames := I.ok.frames
  stk := .inl rfl
  exf := fun b hb => ⟨Nat.ne_of_lt (hx b hb).2, fun y c e => (hx b hb).1.2.2.2.2.1 y c (h1 _ _ e)⟩
  bs := I.bs
  bsz := Nat.le_trans I.ok.bsz I.sz
  noex := fun b o e hb => by
    rcases (hx b hb).1.2.2.2.1 with z | z
    · exact I.ok.noex b o e z
    · exact absurd (Nat.lt_of_lt_of_le (Heap.lt_size e) I.ok.bsz) (Nat.not_lt.mpr z)
  exfs := fun b hb hf => by
    rcases List.mem_cons.mp (I.stkSub b hf) with z | z
    · exact (hx b hb).1.2.1 z
    · exact (hx b hb).1.2.2.1 z
  funs := I.stack
  frf := I.stkFree
/-- the block's frame has come -/
theorem inv_comp {h' : Heap} {tk : Nat} {m : Str → Option Value} (I : Inv X pins σ H s) (cp : Cap X scope x ys caps) (h1 : ∀ y c, cl.lookup y = some c → X.env.cells.lookup y = some c) (h2 : ∀ y ∈ scope.names, y.2 = .free → ∃ c, cl.lookup y.1 = some c)
    (hx : ∀ b ∈ ex, FpOk X pins H b ∧ b < s.heap.objs.size) (hn : h'.Ns s.heap.objs.size m) (hk : ∀ b o, s.heap.get? b = some o → h'.get? b = some o) :
    Inv (CxC X (x :: ys) scope cl s.heap.objs.size s H ex) [] (none :: caps.map fun i => σ.getD i none) H { s with heap := h', toks := tk } where
  ok := ok_comp I cp h1 h2 hx
  os := rfl
  bare := I.bare
  base := Un.kept hk
  loc := by
    refine ⟨m, hn, fun j y v e1 e2 e3 => ?_⟩
    cases j with
    | zero => cases e2
    | succ j =>
      have e1 : ys[j]? = some y := e1
      have e2 : (caps.map fun i => σ.getD i none)[j]? = some (some v) := e2
      rw [List.getElem?_map] at e2
      cases ei : caps[j]? with
      | none => rw [ei] at e2; cases e2
      | some i =>
        rw [ei] at e2
        have e2 : σ.getD i none = some v := Option.some.inj e2
        obtain ⟨q1, q2, q3⟩ := cp.cap j y i e1 ei
        have e4 : σ[i]? = some (some v) := by
          rw [List.getD_eq_getElem?_getD] at e2
          cases q : σ[i]? with
          | none => rw [q] at e2; cases e2
          | some w => rw [q] at e2; exact congrArg some e2
        obtain ⟨m0, hn0, hl⟩ := I.loc
        obtain ⟨u, r, lk⟩ := hl i y v q1 e4 (q2.elim (fun z => .inr (.inl z)) fun z => .inr (.inr z))
        refine ⟨u, r, .inr ?_⟩
        have lc : ∃ c, X.env.cells.lookup y = some c ∧ s.heap.IsCell c (some u) := by
          rcases lk with ⟨z, _⟩ | ⟨_, z⟩
          · rcases q2 with q2 | q2 <;> (rw [q2] at z; cases z)
          · exact z
        obtain ⟨c, c1, c2⟩ := lc
        have mm : (y, NameKind.free) ∈ scope.names := by
          have : ∀ (l : List (Str × NameKind)) (k : NameKind), l.lookup y = some k → (y, k) ∈ l := by
            intro l
            induction l with
            | nil => intro k e; simp at e
            | cons z l ih =>
              intro k e
              rw [List.lookup_cons] at e
              cases hz : y == z.1 with
              | true => rw [hz] at e; cases e; rw [eq_of_beq hz]; simp
              | false => rw [hz] at e; exact List.mem_cons_of_mem _ (ih k e)
          exact this _ _ q3
        obtain ⟨c', c3⟩ := h2 _ mm rfl
        have := h1 _ _ c3
        have this : X.env.cells.lookup y = some c' := this
        rw [c1] at this; cases this
        refine ⟨?_, c, c3, ?_⟩
        · rcases e3 with e3 | e3
          · obtain ⟨k', z1, _, z3⟩ := lookup_relabel (env := X.env) (show ((scope.names.map _).lookup y) = some NameKind.local from e3)
            rw [q3] at z1; cases z1
            rcases z3 with z3 | z3
            · cases z3
            · cases z3.2
          · exact e3
        · obtain ⟨o, ho, hd⟩ := c2
          exact ⟨o, hk _ _ ho, hd⟩
  cell := fun y c e => by
    obtain ⟨v, o, ho, hd⟩ := I.cell y c (h1 _ _ e)
    exact ⟨v, o, hk _ _ ho, hd⟩
  free := I.hok.fresh (Nat.le_refl _)
  freeC := fun y c e => I.freeC y c (h1 _ _ e)
  pin := fun p hp => by simp at hp
  hok := I.hok.kept hk
  len := by simp [cp.len]
/-- behind the block -/
theorem inv_uncomp {s3 s' : Shared} {H' : Hp} {σ' : L2.St} {C : Addr} (I : Inv X pins σ H s3) (I' : Inv (CxC X (x :: ys) scope cl C s3 H ex) [] σ' H' s') (hx : ∀ b ∈ ex, FpOk X pins H b) : Inv X pins σ H' s' :=
  I.call' (ch := ex) I'.os I'.base I'.hok I'.bare fun b hb => ⟨(hx b hb).2.2.2.1, (hx b hb).2.1, (hx b hb).2.2.2.2.1, (hx b hb).2.2.2.2.2⟩
end
def capS : Sl → Sl
  | .sh d => .sh d
  | _ => .no
/-- the block's slots -/
def compR (caps : List Nat) (ρ : Ro) (d : D) : Ro := .sh d :: caps.map fun i => capS (ρ.getD i .no)
theorem fr_comp {T : Tb} {K : PySem.W.Frag} {G H H' : Hp} {σ : L2.St} {ρ : Ro} {caps : List Nat} {d : D} {v : V} {w : Option V} (hT : T.me = none) (fr : FR T K G H σ ρ) (p : Pers false H H') (r : Rep T K H' d v) :
    FR T K (fun _ => none) H' ((w :: caps.map fun i => σ.getD i none).set 0 (some v)) (compR caps ρ d) := by
  refine ⟨fun _ _ e => (by cases e), by simp [compR], fun i s e => ?_, fun i j ds es _ e1 _ => ?_, fun x e => ?_, fun i c ds e => ?_⟩
  · cases i with
    | zero =>
      have e : Sl.sh d = s := Option.some.inj e
      subst e
      exact ⟨v, rfl, r⟩
    | succ i =>
      have e : (caps.map fun i => capS (ρ.getD i .no))[i]? = some s := e
      show SlOk T K _ H' (caps.map fun i => σ.getD i none)[i]? s
      rw [List.getElem?_map] at e ⊢
      cases q : caps[i]? with
      | none => rw [q] at e; cases e
      | some k =>
        rw [q] at e
        have e : capS (ρ.getD k .no) = s := Option.some.inj e
        subst e
        rw [List.getD_eq_getElem?_getD]
        cases qr : ρ[k]? with
        | none => exact trivial
        | some z =>
          cases z with
          | sh d' =>
            obtain ⟨u, e1, r1⟩ := fr.sh_at qr
            refine ⟨u, ?_, Rep.pers p _ _ r1⟩
            show some (σ.getD k none) = _
            rw [List.getD_eq_getElem?_getD, e1]
            rfl
          | no => exact trivial
          | ow _ => exact trivial
          | bo _ => exact trivial
          | me _ _ => exact trivial
  · exfalso
    cases i with
    | zero => cases e1
    | succ i =>
      have e : (caps.map fun i => capS (ρ.getD i .no))[i]? = some (.ow ds) := e1
      rw [List.getElem?_map] at e
      cases q : caps[i]? with
      | none => rw [q] at e; cases e
      | some k =>
        rw [q] at e
        have e : capS (ρ.getD k .no) = .ow ds := Option.some.inj e
        cases z : ρ.getD k .no <;> (rw [z] at e; cases e)
  · rw [hT] at e; cases e
  · exfalso
    cases i with
    | zero => cases e
    | succ i =>
      have e : (caps.map fun i => capS (ρ.getD i .no))[i]? = some (.me c ds) := e
      rw [List.getElem?_map] at e
      cases q : caps[i]? with
      | none => rw [q] at e; cases e
      | some k =>
        rw [q] at e
        have e : capS (ρ.getD k .no) = .me c ds := Option.some.inj e
        cases z : ρ.getD k .no <;> (rw [z] at e; cases e)
end L3

set_option Elab.async false
set_option linter.all false
set_option autoImplicit false
set_option maxRecDepth 100000
namespace L3
open PySem PySem.Spec PyProof.Rows L2
section
variable {T : Tb} {X : Cx} {elt iter : Expr} {x : Str} {px pos : Pos} {scope : Scope} {ys : List Str} {caps : List Nat} {fe : Ev} {cl : List (Str × Addr)} {pins : List (Addr × Obj)} {σ : L2.St} {G H2 : Hp} {s2 : Shared} {J : It} {fp : List Addr} {it : Addr} {tn : Nat → Heap → Prop} {ρ : Ro} {ds es : List D}
theorem comp_core {RR : Value → Addr → Result → Shared → Prop} {E : Value → Shared → Prop} (hT : T.me = none) (hc : X.calm = true) (cp : Cap X scope x ys caps) (h1 : ∀ y c, cl.lookup y = some c → X.env.cells.lookup y = some c) (h2 : ∀ y ∈ scope.names, y.2 = .free → ∃ c, cl.lookup y.1 = some c)
    (he : ∀ (cl : List (Str × Addr)) (C : Addr) (s₀ : Shared) (H₀ : Hp) (ex : List Addr), DE T (CxC X (x :: ys) scope cl C s₀ H₀ ex) elt fe)
    (I2 : Inv X pins σ H2 s2) (Tn : Turn X.prog X.w X.K (.Name x px) J fp it tn) (t0 : tn 0 s2.heap) (f2 : ∀ b ∈ fp, FpOk X pins H2 b)
    (fr : FR T X.K G H2 σ ρ) (wk : Walk T X.K G J ds H2) (hm : mapO (fun d => fe (compR caps ρ d)) ds = some es) (hl : ds.length ≤ 1000000)
    (hRR : ∀ (a C : Addr) (s' : Shared) (m' : Str → Option Value) (Hn : Hp) (vs : List V), Inv X pins σ Hn s' → FpOk X pins Hn C → s'.heap.Ns C m' → Same H2 Hn → H2 a = none → Hn a = some (.lst vs) → RepL T X.K Hn es vs → RR (.ref a) C (.ok .next) s') :
    wpAny (model X.prog X.w) X.A (newList []) (fun acc s3 => wpAny (model X.prog X.w) X.A (newFunctionEnv scope X.env.globals cl [] X.env.qual none .none (some X.env)) (fun cenv s4 =>
      codeAny (model X.prog X.w) X.A (.compStart (.ListComp elt [⟨.Name x px, iter, [], 0⟩] scope pos) 0 (.ref it) acc { cenv with scope := relabel scope X.env }) (RR acc cenv.locals) s4) E s3) E s2 := by
  obtain ⟨ml, mg⟩ := mapO_get hm
  refine wpAny_newList (wpAny_newFunctionEnv cp.nocell (by intro y hy; simp at hy) (fun h' hns hsb => ?_) cp.kind)
  have I3 : Inv X pins σ (upd H2 s2.heap.objs.size (.lst [])) { s2 with heap := s2.heap.push { cls := .type "list", data := .seq ([] : List Value).toArray } } := I2.lnew (t' := s2.toks) .nil (Nat.zero_le _)
  have bl : ∀ b ∈ fp, b < s2.heap.objs.size := fun b hb => by
    obtain ⟨o, e, _⟩ := Tn.obj 0 _ t0 b hb
    exact Heap.lt_size e
  have ha0 : H2 s2.heap.objs.size = none := I2.hok.fresh (Nat.le_refl _)
  generalize hA : s2.heap.objs.size = a at *
  have f3 : ∀ b ∈ fp, FpOk X pins (upd H2 a (.lst [])) b := fun b hb => ⟨by rw [upd_ne (Nat.ne_of_lt (bl b hb))]; exact (f2 b hb).1, (f2 b hb).2⟩
  have hs3 : (s2.heap.push { cls := .type "list", data := .seq ([] : List Value).toArray }).objs.size = a + 1 := by rw [Heap.size_push, hA]
  generalize hH : s2.heap.push { cls := .type "list", data := .seq ([] : List Value).toArray } = hp3 at *
  have up3 : ∀ b o, s2.heap.get? b = some o → hp3.get? b = some o := fun b o e => hH ▸ Heap.get?_push_of_some _ e
  have k3 : ∀ b o, hp3.get? b = some o → h'.get? b = some o := fun b o e =>
    hsb.extBut b o (Nat.ne_of_lt (Heap.lt_size e)) (Heap.get?_push_of_some _ e)
  have t1 : tn 0 h' := Tn.keep 0 _ _ t0 fun b hb o e => k3 b o (up3 b o e)
  generalize hC : hp3.objs.size = C at *
  have I4 : Inv (CxC X (x :: ys) scope cl C { s2 with heap := hp3 } (upd H2 a (.lst [])) fp) [] (none :: caps.map fun i => σ.getD i none) (upd H2 a (.lst [])) { s2 with heap := h', toks := s2.toks + ([] : List (Str × Value)).length } := by
    have := inv_comp (ex := fp) (tk := s2.toks + ([] : List (Str × Value)).length) (h' := h') I3 cp h1 h2 (fun b hb => ⟨f3 b hb, by show b < hp3.objs.size; rw [hC, hs3]; exact Nat.lt_succ_of_lt (bl b hb)⟩) (by show h'.Ns hp3.objs.size _; rw [hC]; exact hns) k3
    have e : ({ s2 with heap := hp3 } : Shared).heap.objs.size = C := hC
    rw [e] at this
    exact this
  have sm0 : Same H2 (upd H2 a (.lst [])) := fun b o e => by
    have : b ≠ a := fun z => by rw [z, ha0] at e; cases e
    rw [upd_ne this]; exact e
  have own : (CxC X (x :: ys) scope cl C { s2 with heap := hp3 } (upd H2 a (.lst [])) fp).env.scope.names.lookup x = some .local := lookup_relabel_local cp.own
  have Icf : FpOk X pins (upd H2 a (.lst [])) C := I3.fpOk (by show hp3.objs.size ≤ C; rw [hC]; exact Nat.le_refl _) I4.free
  -- what the iterator's objects are to the block
  have fpc : ∀ {pn : List (Addr × Obj)} {H : Hp}, (∀ b ∈ fp, H b = none) → (∀ b ∈ fp, ∀ p ∈ pn, p.1 ≠ b) → ∀ b ∈ fp, FpOk (CxC X (x :: ys) scope cl C { s2 with heap := hp3 } (upd H2 a (.lst [])) fp) pn H b := fun hn hp b hb =>
    ⟨hn b hb, (I4.ok.exf b hb).1, I4.ok.exfs b hb, .inl hb, (I4.ok.exf b hb).2, hp b hb⟩
  have loop : ∀ s' : Shared, s' = { s2 with heap := h', toks := s2.toks + ([] : List (Str × Value)).length } →
      codeAny (model X.prog X.w) X.A (.compLoop (.ListComp elt [⟨.Name x px, iter, [], 0⟩] scope pos) 0 (.ref it) (.ref a) (compEnvC scope cl C X.env)) (RR (.ref a) C) s' := by
    rintro s' rfl
    refine codeAny_compLoop_tests (fun n s' => ∃ (i : Nat) (w : Option V) (H' : Hp) (vs : List V), n = ds.length - i ∧ i ≤ ds.length ∧ Inv (CxC X (x :: ys) scope cl C { s2 with heap := hp3 } (upd H2 a (.lst [])) fp) [] (w :: caps.map fun i => σ.getD i none) H' s' ∧ tn i s'.heap ∧ (∀ b ∈ fp, H' b = none) ∧
      Same H2 H' ∧ H' a = some (.lst vs) ∧ RepL T X.K H' (es.take i) vs) ?_ ds.length ⟨0, none, _, [], rfl, Nat.zero_le _, I4, t1, fun b hb => (f3 b hb).1, sm0, upd_same, by rw [List.take_zero]; exact rfl⟩
    rintro n s' ⟨i, w, H', vs, rfl, hi, I', ti, fn, sm, hv, rp⟩
    obtain ⟨w1, w2⟩ := wk i H' (Pers.of sm) (fr.same.trans sm)
    by_cases hlt : i < ds.length
    · obtain ⟨d, e1⟩ : ∃ d, ds[i]? = some d := ⟨ds[i], by simp [hlt]⟩
      obtain ⟨go, yl⟩ := w1 d e1
      obtain ⟨e, ef, ee⟩ := mg i d e1
      refine wpAny_mono (Tn.item ((CxC X (x :: ys) scope cl C { s2 with heap := hp3 } (upd H2 a (.lst [])) fp).wish fun _ _ => False) rfl rfl rfl hc i [] s' _ H' (fun _ _ => False) (I'.wish _) (fpc fn fun _ _ p hp => by cases hp) ti go) (fun r s1 h => ?_) fun _ _ z => z.elim
      obtain ⟨u, rfl, h⟩ := h
      show wpAny _ _ (assign (.Name x px) (compEnvC scope cl C X.env) u) _ _ s1
      refine (show wpAny (model X.prog X.w) X.A (letOwnedTupleGo (.Name x px) (.ref it) u >>= fun _ => assign (.Name x px) (compEnvC scope cl C X.env) u) _ _ s1 from wpAny_bind (wpAny_mono h (fun _ s5 h5 => ?_) fun _ _ z => z.elim))
      obtain ⟨y, H5, I5, r5, y5, t5, f5⟩ := h5
      obtain ⟨s5', rd⟩ := yl y H5 y5
      have I5' := I5.pinned (fpc f5 fun _ _ p hp => by cases hp) (Tn.obj _ _ t5)
      refine wpAny_mono (pg_name (X := (CxC X (x :: ys) scope cl C { s2 with heap := hp3 } (upd H2 a (.lst [])) fp).wish fun _ _ => False) (i := 0) cp.nodup rfl (.inl own) (.inr own) _ s5 _ H5 y u (fun σ' H'' => σ' = (w :: caps.map fun i => σ.getD i none).set 0 (some y) ∧ H'' = H5) I5' r5 ⟨rfl, rfl⟩) (fun _ s6 h6 => ?_) fun _ _ z => z.elim
      obtain ⟨σ6, H6, I6, rfl, rfl⟩ := h6
      refine wpAny_pure ?_
      show wpAny (model X.prog X.w) X.A (eval elt (compEnvC scope cl C X.env)) _ _ s6
      have fr6 : FR T X.K (fun _ => none) H6 ((w :: caps.map fun i => σ.getD i none).set 0 (some y)) (compR caps ρ d) := fr_comp hT fr (Pers.of (sm.trans s5')) rd
      refine wpAny_mono ((he cl C { s2 with heap := hp3 } (upd H2 a (.lst [])) fp).run (fun _ => none) (fun _ _ => False) PassesOwn.never _ s6 _ H6 (fun v H7 => Same H6 H7 ∧ Rep T X.K H7 e v) I6 ⟨compR caps ρ d, fr6, by rw [ef]; exact fun v H7 s7 r7 => ⟨s7, r7⟩⟩) (fun u7 s7 h7 => ?_) fun _ _ z => z.elim
      obtain ⟨v7, H7, I7, r7, sm7, rp7⟩ := h7
      have hv7 : H7 a = some (.lst vs) := sm7 _ _ (s5' _ _ hv)
      have lv : vs.length = i := by rw [RepL.length _ _ rp, List.length_take, ml, Nat.min_eq_left hi]
      refine wpAny_mono (mt_append (X := (CxC X (x :: ys) scope cl C { s2 with heap := hp3 } (upd H2 a (.lst [])) fp).wish fun _ _ => False) _ s7 _ H7 (.ref a) [v7] (.ref a) [u7] (fun _ H8 => H8 = upd H7 a (.lst (vs ++ [v7]))) I7 rfl (.cons r7 .nil) ⟨a, vs, v7, rfl, rfl, hv7, by rw [lv]; exact Nat.lt_of_lt_of_le hlt (Nat.le_trans hl (by unfold sizeLine; decide)), rfl⟩) (fun _ s8 h8 => ?_) fun _ _ z => z.elim
      obtain ⟨_, H8, I8, _, rfl⟩ := h8
      have st : es.take (i + 1) = es.take i ++ [e] := by
        obtain ⟨q1, q2⟩ := List.getElem?_eq_some_iff.mp ee
        rw [List.take_succ_eq_append_getElem q1, q2]
      have p8 : Pers false H7 (upd H7 a (.lst (vs ++ [v7]))) := pers_lst hv7
      refine ⟨ds.length - (i + 1), by omega, i + 1, some y, _, vs ++ [v7], rfl, hlt, I8.unwish.unpinned, ?_, fun b hb => ?_, fun b o q => ?_, upd_same, ?_⟩
      · exact Tn.keep _ _ _ t5 fun b hb o q => (I8.pin (b, o) (List.mem_append_right _ (List.mem_append_right _ (mem_pinsAt hb q)))).1
      · obtain ⟨o, q, d'⟩ := Tn.obj _ _ t5 b hb
        exact (I8.pin (b, o) (List.mem_append_right _ (List.mem_append_right _ (mem_pinsAt hb q)))).2.1
      · have : b ≠ a := fun z => by rw [z, ha0] at q; cases q
        rw [upd_ne this]
        exact sm7 _ _ (s5' _ _ (sm _ _ q))
      · rw [st]
        exact RepL.append _ _ _ _ (RepL.pers p8 _ _ (RepL.mono sm7 _ _ (RepL.mono s5' _ _ rp))) ⟨v7, [], rfl, Rep.pers p8 _ _ rp7, rfl⟩
    · have e : i = ds.length := by omega
      refine wpAny_mono (Tn.done ((CxC X (x :: ys) scope cl C { s2 with heap := hp3 } (upd H2 a (.lst [])) fp).wish fun _ _ => False) rfl rfl rfl hc i [] s' _ H' (fun _ _ => False) (I'.wish _) (fpc fn fun _ _ p hp => by cases hp) ti (w2 (by omega))) (fun r s1 h => ?_) fun _ _ z => z.elim
      obtain ⟨rfl, I1⟩ := h
      have I1 := I1.unwish
      obtain ⟨m', hn, _⟩ := I1.loc
      refine hRR a C s1 m' H' vs (inv_uncomp I3 I1 f3) ⟨I1.free, Icf.2⟩ hn sm ha0 hv ?_
      have : es.take i = es := by rw [List.take_of_length_le (by omega)]
      rwa [this] at rp
  exact codeAny_compStart_list (loop _ rfl) (Tn.self _ 0 _ _ _ t1 (loop _ rfl))
end
end L3

set_option Elab.async false
set_option linter.all false
set_option autoImplicit false
set_option maxRecDepth 100000
namespace L3
open PySem PySem.Spec PyProof.Rows L2
/-- how a block's list comes: t its reading -/
def CompOk (X : Cx) (e : Expr) (scope : Scope) (pos : Pos) (first : Sem Value) (t : TE) : Prop :=
  ∀ (pins : List (Addr × Obj)) (s : Shared) (σ : L2.St) (H : Hp) (Q : VK) (use : Option (Value → Sem Unit)) (QQ : Value → Shared → Prop), Inv X pins σ H s → t σ H Q →
    (∀ (a C : Addr) (s' : Shared) (m : Str → Option Value) (Hn : Hp), Inv X pins σ Hn s' → FpOk X pins Hn C → s'.heap.Ns C m → Q (.ref a) Hn → compPost (model X.prog X.w) X.A X.xe use QQ (.ref a) C (.ok .next) s') →
    wpAny (model X.prog X.w) X.A (comprehension e scope X.env pos (newList []) false first use) QQ X.xe s
section
variable {X : Cx} {elt iter : Expr} {x y : Str} {px py pos spos p' : Pos} {scope : Scope} {t : TE}
theorem CompOk.freeze {e : Expr} {first : Sem Value} (h : CompOk X e scope pos first t) : CompOk X e scope pos first (fun σ H Q => t σ H fun v H1 => ∃ a vs, v = .ref a ∧ H1 a = some (.lst vs) ∧ ∀ o, Q v (upd H1 a (.frz o (.lst vs)))) :=
  fun pins s σ H Q use QQ I q k => h pins s σ H _ use QQ I q fun a C s' m Hn I' f hn ⟨a', vs, e, ha, kq⟩ => by
    cases e
    obtain ⟨o, I2⟩ := Inv.freeze I' ha
    exact k a C s' m _ I2 ⟨by rw [upd_ne (fun z => by rw [← z, f.1] at ha; cases ha)]; exact f.1, f.2⟩ hn (kq o)
theorem CompOk.pe {gs : List Comprehension} (h : CompOk X (.ListComp elt gs scope pos) scope (firstIterPos gs pos) (firstIter gs X.env) t) (ha : firstAsync gs = false := by rfl) : PE X (.ListComp elt gs scope pos) t := fun pins s σ H Q I q => by
  rw [eval_ListComp, ha]
  refine h pins s σ H Q none _ I q fun a C s' m Hn I' f hn hq => ⟨m, hn, fun h' hs' => ?_⟩
  exact ⟨.ref a, Hn, I'.turned (t' := s'.toks) (fun b o hb e => hs'.extBut b o hb e) f.1 f.2.1 f.2.2.2.1 f.2.2.2.2.1 f.2.2.2.2.2, rfl, hq⟩
theorem CompOk.ps {gs : List Comprehension} {i : Nat} (h : CompOk X (.ListComp elt gs scope pos) scope (firstIterPos gs pos) (firstIter gs X.env) t) (hN : X.N.Nodup) (hi : X.N[i]? = some y) (hy : Loc X.env.scope y) (hf : X.fn y = true ∨ X.env.scope.names.lookup y = some .local)
    (hsw : swapsWith (.ListComp elt gs scope pos) (some (.Name y py)) spos.line X.env = pure true) (ha : firstAsync gs = false := by rfl) :
    PS X (.Assign [.Name y py] (.ListComp elt gs scope pos) spos) (tAsg t (gName i)) := fun pins s σ H D I q => by
  rw [exec_Assign_Name_used _ _ _ _ hsw]
  refine wpAny_bind (wpAny_standAt (wpAny_bind ?_))
  show wpAny _ X.A (do let _ ← comprehension (.ListComp elt gs scope pos) scope X.env (firstIterPos gs pos) (newList []) (firstAsync gs) (firstIter gs X.env) (some (assign (.Name y py) X.env))) _ _ s
  rw [ha]
  refine wpAny_bind (wpAny_mono (h pins s σ H _ (some (assign (.Name y py) X.env)) (fun _ s' => SP X pins D .next s') I q fun a C s' m Hn I' f hn hq => ?_) (fun _ s' hq => wpAny_pure (wpAny_pure hq)) fun _ _ z => z)
  show wpAny (model X.prog X.w) X.A (assign (.Name y py) X.env (.ref a)) _ X.xe s'
  obtain ⟨o, es, ep, ho, hd⟩ := hn
  have hdc : ∀ v, o.data ≠ .cell v := fun v z => by
    have := hd.1
    rw [z] at this; cases this
  have I2 : Inv X (pins ++ [(C, o)]) σ Hn s' := I'.pins_of fun p hp => (List.mem_append.mp hp).elim (fun z => I'.pin p (List.mem_append_right _ z)) fun z => by
    obtain rfl : p = (C, o) := by simpa using z
    exact ⟨ho, f.1, f.2.1, f.2.2.1, hdc⟩
  refine wpAny_mono (pg_name (X := X) (i := i) hN hi hy hf _ s' σ Hn (.ref a) (.ref a) D.nx I2 rfl hq) (fun _ s'' h'' => ?_) fun _ _ z => z
  obtain ⟨σ', H', I3, q3⟩ := h''
  have hC := I3.pin (C, o) (by simp)
  refine ⟨m, ⟨o, es, ep, hC.1, hd⟩, fun h' hs' => ?_⟩
  have I4 : Inv X pins σ' H' s'' := I3.unpinned
  have I5 : Inv X pins σ' H' { s'' with heap := h' } := I4.turned (t' := s''.toks) (fun b o hb e => hs'.extBut b o hb e) hC.2.1 f.2.1 f.2.2.2.1 f.2.2.2.2.1 f.2.2.2.2.2
  exact ⟨σ', H', I5, q3⟩
end
section
variable {T : Tb} {X : Cx} {elt iter : Expr} {x : Str} {px pos spos py : Pos} {scope : Scope} {ys : List Str} {caps : List Nat} {fe : Ev} {fl : Ro → Out (List D)}
@[simp] def fComp (fl : Ro → Out (List D)) (caps : List Nat) (fe : Ev) (ρ : Ro) : Out (List D) := (fl ρ).bind fun ds => if ds.length ≤ 1000000 then (match mapO (fun d => fe (compR caps ρ d)) ds with | some es => .ok es | none => .bad) else .bad
theorem compOk {G : Hp} {E : Value → Shared → Prop} (hp : PassesOwn (model X.prog X.w) X.A X.env E) (hT : T.me = none) (hc : X.calm = true) (hi : DI T X (.Name x px) iter fl) (cp : Cap X scope x ys caps)
    (he : ∀ (cl : List (Str × Addr)) (C : Addr) (s₀ : Shared) (H₀ : Hp) (ex : List Addr), DE T (CxC X (x :: ys) scope cl C s₀ H₀ ex) elt fe)
    (hs : ∀ x, foldedSetIterable iter X.env x = pure x) :
    CompOk (X.wish E) (.ListComp elt [⟨.Name x px, iter, [], 0⟩] scope pos) scope (firstIterPos [⟨.Name x px, iter, [], 0⟩] pos) (firstIter [⟨.Name x px, iter, [], 0⟩] X.env) (tF T X G E (fComp fl caps fe)) := by
  rintro pins s σ H Q use QQ I ⟨ρ, fr, h⟩ k
  obtain ⟨cl, hclos, h1, h2⟩ := closure_of X.env scope fun y hy hf => I.ok.has y.1 (cp.free y hy hf)
  refine wpAny_comprehension_free rfl hs hclos cp.kind cp.names ?_
  refine wpAny_mono (hi.run G E hp pins s σ H (fun J H' => ∃ ds es, Same H H' ∧ Walk T X.K G J ds H' ∧ mapO (fun d => fe (compR caps ρ d)) ds = some es ∧ ds.length ≤ 1000000 ∧ ∀ a vs H'', Same H H'' → H a = none → H'' a = some (.lst vs) → RepL T X.K H'' es vs → Q (.ref a) H'') I
    ⟨ρ, fr, Acc.mono (Acc.bind h) fun ds _ hd J H1 s1 wk => ?_⟩) (fun v s1 h1' => wpAny_mono h1' (fun itv s2 h2' => ?_) fun _ _ z => z) fun _ _ z => z
  · by_cases hl : ds.length ≤ 1000000
    · rw [if_pos hl] at hd
      cases hm : mapO (fun d => fe (compR caps ρ d)) ds with
      | none => rw [hm] at hd; exact hd.elim
      | some es =>
        rw [hm] at hd
        exact ⟨ds, es, s1, wk, hm, hl, hd⟩
    · rw [if_neg hl] at hd; exact hd.elim
  · obtain ⟨it, fp, tn, J, H2, rfl, I2, Tn, t0, f2, ds, es, sm, wk, hm, hl, kq⟩ := h2'
    refine comp_core (X := X) (E := E) (G := G) (RR := fun acc C => compPost (model X.prog X.w) X.A E use QQ acc C) hT hc cp h1 h2 he I2.unwish Tn t0 f2 (fr.mono sm) wk hm hl ?_
    intro a C s' m' Hn vs I' f hn smn ha hv rp
    exact k a C s' m' Hn (I'.wish E) f hn (kq a vs Hn (sm.trans smn) (sm.free ha) hv rp)
theorem df_comp (hT : T.me = none) (hc : X.calm = true) (hi : DI T X (.Name x px) iter fl) (cp : Cap X scope x ys caps)
    (he : ∀ (cl : List (Str × Addr)) (C : Addr) (s₀ : Shared) (H₀ : Hp) (ex : List Addr), DE T (CxC X (x :: ys) scope cl C s₀ H₀ ex) elt fe)
    (hs : ∀ x, foldedSetIterable iter X.env x = pure x := by intro _; rfl) : DF T X (.ListComp elt [⟨.Name x px, iter, [], 0⟩] scope pos) (fComp fl caps fe) := .mk fun G E hp =>
  CompOk.pe (X := X.wish E) (compOk hp hT hc hi cp he hs)
variable {ib : Bool} {y : Str}
/-- y = [.. for ..], y is changed later -/
theorem ds_setC (i : Nat) (hT : T.me = none) (hc : X.calm = true) (hN : X.N.Nodup) (hi : DI T X (.Name x px) iter fl) (cp : Cap X scope x ys caps)
    (he : ∀ (cl : List (Str × Addr)) (C : Addr) (s₀ : Shared) (H₀ : Hp) (ex : List Addr), DE T (CxC X (x :: ys) scope cl C s₀ H₀ ex) elt fe) (hiN : X.N[i]? = some y := by rfl) (hy : Loc X.env.scope y := by first | exact Or.inl rfl | exact Or.inr rfl)
    (hf : X.fn y = true ∨ X.env.scope.names.lookup y = some .local := by first | exact .inl rfl | exact .inr rfl | assumption)
    (hsw : swapsWith (.ListComp elt [⟨.Name x px, iter, [], 0⟩] scope pos) (some (.Name y py)) spos.line X.env = pure true := by rfl) (hs : ∀ x, foldedSetIterable iter X.env x = pure x := by intro _; rfl) :
    DS T ib X (.Assign [.Name y py] (.ListComp elt [⟨.Name x px, iter, [], 0⟩] scope pos) spos) (sSetR i (fun ρ => (fComp fl caps fe ρ).bind fun ds => .ok (.fr ds))) := .mk fun G E hp =>
  PS.imp (CompOk.ps (X := X.wish E) (i := i) (compOk (G := G) hp hT hc hi cp he hs) hN hiN hy hf hsw) fun D σ H ⟨ρ, fr, h⟩ => ⟨ρ, fr, Acc.mono (Acc.bind (AccS.fl fr h)) fun ds _ hd a vs H1 s1 ha ha' r =>
    hd _ _ ((fr.mono s1).set_ow ha' (fr.same.free ha) r (fun j es _ e => fresh_ne (H1 := H1) fr ha j es e) (.inl hT)) (Pers.of s1)⟩
/-- y = [.. for ..], y is shared -/
theorem ds_setCF (i : Nat) (hT : T.me = none) (hc : X.calm = true) (hN : X.N.Nodup) (hi : DI T X (.Name x px) iter fl) (cp : Cap X scope x ys caps)
    (he : ∀ (cl : List (Str × Addr)) (C : Addr) (s₀ : Shared) (H₀ : Hp) (ex : List Addr), DE T (CxC X (x :: ys) scope cl C s₀ H₀ ex) elt fe) (hiN : X.N[i]? = some y := by rfl) (hy : Loc X.env.scope y := by first | exact Or.inl rfl | exact Or.inr rfl)
    (hf : X.fn y = true ∨ X.env.scope.names.lookup y = some .local := by first | exact .inl rfl | exact .inr rfl | assumption)
    (hsw : swapsWith (.ListComp elt [⟨.Name x px, iter, [], 0⟩] scope pos) (some (.Name y py)) spos.line X.env = pure true := by rfl) (hs : ∀ x, foldedSetIterable iter X.env x = pure x := by intro _; rfl) :
    DS T ib X (.Assign [.Name y py] (.ListComp elt [⟨.Name x px, iter, [], 0⟩] scope pos) spos) (sSet i (fLst (fComp fl caps fe))) := .mk fun G E hp =>
  PS.imp (CompOk.ps (X := X.wish E) (i := i) (CompOk.freeze (compOk (G := G) hp hT hc hi cp he hs)) hN hiN hy hf hsw) fun D σ H ⟨ρ, fr, h⟩ => ⟨ρ, fr, Acc.mono (Acc.bind (AccS.fl fr h)) fun ds _ hd a vs H1 s1 ha ha' r => ⟨a, vs, rfl, ha', fun o => by
    have s2 : Same H (upd H1 a (.frz o (.lst vs))) := fun b u e => by
      rw [upd_ne (fun z => by rw [z, ha] at e; cases e)]; exact s1 b u e
    exact hd _ _ ((fr.mono s2).set_sh ⟨a, vs, rfl, .inl ⟨o, upd_same⟩, RepL.froz ha' _ _ r⟩ (.inl hT)) (Pers.of s2)⟩⟩
end
end L3

set_option Elab.async false
set_option linter.all false
set_option autoImplicit false
set_option maxRecDepth 100000
namespace L3
open PySem PySem.Spec PyProof.Rows L2
/-! ### slices of texts -/
section
variable {X : Cx}
theorem sl_str : SlR X (fun x lo hi H Q => ∃ z, x = .str z ∧ z.length ≤ sizeLine ∧ Q (.str (Txt.slice z lo hi)) H) := by
  intro pins s σ H x v vl vu lo hi sl Q I rx hs pl pu h
  obtain ⟨z, rfl, hz, q⟩ := h
  obtain ⟨t, rfl⟩ := rx
  obtain ⟨o, ho, hc, hd⟩ := hs
  refine ⟨"str", _, F.slot_str_getitem.lookup, typeIs_str _ _ _, ?_⟩
  have fin : ∀ t' k, EP X pins σ Q (.str (Txt.slice z lo hi) t') { s with toks := k } := fun t' k => ⟨.str _, H, I.tok k, ⟨t', rfl⟩, q⟩
  cases pl with
  | none =>
    cases pu with
    | none => exact wpAny_getItem_str_slice (l := none) (u := none) (st := none) ⟨o, ho, hc, hd⟩ rfl (post_val_or_str ⟨Nat.le_trans (Txt.slice_le z _ _) hz, fin⟩)
    | int j u => exact wpAny_getItem_str_slice (l := none) (u := some (j, u)) (st := none) ⟨o, ho, hc, hd⟩ rfl (post_val_or_str ⟨Nat.le_trans (Txt.slice_le z _ _) hz, fin⟩)
  | int i u =>
    cases pu with
    | none => exact wpAny_getItem_str_slice (l := some (i, u)) (u := none) (st := none) ⟨o, ho, hc, hd⟩ rfl (post_val_or_str ⟨Nat.le_trans (Txt.slice_le z _ _) hz, fin⟩)
    | int j u' => exact wpAny_getItem_str_slice (l := some (i, u)) (u := some (j, u')) (st := none) ⟨o, ho, hc, hd⟩ rfl (post_val_or_str ⟨Nat.le_trans (Txt.slice_le z _ _) hz, fin⟩)
end
section
variable {T : Tb} {X : Cx} {a b e : Expr} {pos p p2 : Pos} {fa fb fe : Ev} {lo hi : Option Expr} {fo fu : Ro → Out (Option Int)}
@[simp] def eCutS (fe : Ev) (fo fu : Ro → Out (Option Int)) (ρ : Ro) : Out D := (fe ρ).bind fun d => (fo ρ).bind fun lo => (fu ρ).bind fun hi => match d with
  | .str z => if z.length ≤ 1000000 then .ok (.str (Txt.slice z lo hi)) else .bad
  | _ => .bad
theorem de_cutS (he : DE T X e fe) (hl : DO T X lo fo) (hu : DO T X hi fu) : DE T X (.Subscript e (.Slice lo hi none p2) pos) (eCutS fe fo fu) := .mk fun G E hp => by
  refine PE.imp (pe_slice (X := X.wish E) sl_str (he.run G E hp) (hl.run G E hp) (hu.run G E hp)) fun σ H Q ⟨ρ, fr, h⟩ => ⟨ρ, fr, Acc.mono (Acc.bind h) fun d _ hd v H1 s1 r1 => ?_⟩
  refine ⟨ρ, fr.mono s1, Acc.mono (Acc.bind (Acc.heap s1 hd)) fun l _ hl' H2 s2 => ?_⟩
  refine ⟨ρ, (fr.mono s1).mono s2, Acc.mono (Acc.bind (Acc.heap s2 hl')) fun u _ hu' H3 s3 => ?_⟩
  cases d with
  | str z =>
    have hu'' : Acc T X E σ H2 (if z.length ≤ 1000000 then .ok (.str (Txt.slice z l u)) else .bad) (kE T X.K H Q) := hu'
    by_cases c : z.length ≤ 1000000
    · rw [if_pos c] at hu''
      exact ⟨z, r1, line6 c, hu'' _ H3 ((s1.trans s2).trans s3) rfl⟩
    · rw [if_neg c] at hu''; exact hu''.elim
  | _ => exact hu'.elim
/-! ### a text's signs -/
def Itx (z : Str) : It := ⟨fun i _ => i < z.length, fun i H x H' => H' = H ∧ ∃ c, z.cps[i]? = some c ∧ x = .str ⟨#[c]⟩, fun i _ => z.length ≤ i⟩
theorem turn_str {P : Program} {w : World} {K : PySem.W.Frag} {tg : Expr} {ty : String} (it : Addr) (z : Str) (t : Tok) (hn : ["enumerate", "zip", "dict_itemiterator", "dict_reverseitemiterator", "odict_iterator", "itertools.zip_longest", "itertools.pairwise"].contains ty = false)
    (W : ∀ A : Around, A.handled = none → Walks P w A it [it] [it] z.cps.size (SignAt z) (fun i h => h.IsStrIter it ty z t i))
    (hself : ∀ (A : Around) (i : Nat) (s : Shared) (Q : Value → Shared → Prop) (E : Value → Shared → Prop), s.heap.IsStrIter it ty z t i → Q (.ref it) s → wpAny (model P w) A (pyIter (.ref it)) Q E s) : Turn P w K tg (Itx z) [it] it (fun i h => i ≤ z.cps.size ∧ h.IsStrIter it ty z t i) where
  mem := by simp
  obj := fun i h st b hb => by
    have e : b = it := by simpa using hb
    subst e
    obtain ⟨_, o, ho, _, hd⟩ := st
    exact ⟨o, ho, fun v q => by rw [hd] at q; cases q⟩
  keep := fun i h h' st k => by
    obtain ⟨l, o, ho, r⟩ := st
    exact ⟨l, o, k it (by simp) o ho, r⟩
  item := by
    intro X hP hw hK hc i pins s σ H E I hf st hg
    subst hP hw hK
    obtain ⟨f0, f1, f2, f3, f4, f5⟩ := hf it (by simp)
    refine (W X.A (I.ok.hd hc)).item i s _ _ hg st.2 fun v h' tk hv st' kk => ?_
    obtain ⟨c, u, hcx, rfl⟩ := hv
    have I1 : Inv X pins σ H { s with heap := h', toks := tk } := I.turned (fun b o hb e => kk b o (by simpa using hb) e) f0 f1 f3 f4 f5
    obtain ⟨o, ho, hcl, hd⟩ := id st'
    exact ⟨_, rfl, go_of (s := { s with heap := h', toks := tk }) (n := ty) ho hcl hd hn ⟨.str ⟨#[c]⟩, H, I1, ⟨u, rfl⟩, ⟨rfl, c, hcx, rfl⟩, ⟨hg, st'⟩, fun b hb => (hf b hb).1⟩⟩
  done := by
    intro X hP hw hK hc i pins s σ H E I hf st hg
    subst hP hw hK
    obtain ⟨f0, f1, f2, f3, f4, f5⟩ := hf it (by simp)
    have hi : i = z.cps.size := Nat.le_antisymm st.1 hg
    subst hi
    exact (W X.A (I.ok.hd hc)).done s _ _ st.2 fun h' tk kk => ⟨rfl, I.turned (t' := tk) (fun b o hb e => kk b o (by simpa using hb) e) f0 f1 f3 f4 f5⟩
  self := fun A i s Q E st h => hself A i s Q E st.2 h
end
section
variable {X : Cx} {tg : Expr}
theorem pi_str {l : Expr} {tl : TE} (hl : PE X l tl) : PI X tg l (fun σ H R => tl σ H fun x H1 => ∃ z, x = .str z ∧ R (Itx z) H1) := by
  intro pins s σ H R I h
  refine thn (hl pins s σ H _ I h) fun v s1 ⟨x, H1, I1, r1, q1⟩ => ?_
  obtain ⟨z, rfl, q⟩ := q1
  obtain ⟨t, rfl⟩ := r1
  have fin : ∀ (ob : Obj), ∀ b ∈ [s1.heap.objs.size], FpOk X pins H1 b := fun ob b hb => by
    have e : b = s1.heap.objs.size := by simpa using hb
    subst e
    exact I1.fpOk (Nat.le_refl _) (I1.hok.fresh (Nat.le_refl _))
  cases ha : z.cps.all (· < 128) with
  | true =>
    refine wpAny_pyIter_ascii ha ?_
    exact ⟨s1.heap.objs.size, [s1.heap.objs.size], _, _, H1, rfl, I1.kept (t' := s1.toks) fun b o e => Heap.get?_push_of_some _ e, turn_str _ z t (by decide) (fun A' hA => Walks.strAscii hA _ z t) (fun _ _ _ _ _ st hQ => wpAny_pyIter_striter_ascii st hQ), ⟨Nat.zero_le _, _, Heap.get?_push_size _ rfl, rfl, rfl⟩, fin default, q⟩
  | false =>
    refine wpAny_pyIter_wide ha ?_
    exact ⟨s1.heap.objs.size, [s1.heap.objs.size], _, _, H1, rfl, I1.kept (t' := s1.toks) fun b o e => Heap.get?_push_of_some _ e, turn_str _ z t (by decide) (fun A' hA => Walks.strWide hA _ z t) (fun _ _ _ _ _ st hQ => wpAny_pyIter_striter_wide st hQ), ⟨Nat.zero_le _, _, Heap.get?_push_size _ rfl, rfl, rfl⟩, fin default, q⟩
end
section
variable {T : Tb} {X : Cx} {tg e : Expr} {fe : Ev}
/-- the signs, each a text -/
def signs (z : Str) : List D := z.cps.toList.map fun c => D.str ⟨#[c]⟩
@[simp] def D.toS : D → Out (List D)
  | .str z => .ok (signs z)
  | _ => .bad
@[simp] def eSgn (f : Ev) (ρ : Ro) : Out (List D) := (f ρ).bind D.toS
theorem di_str (he : DE T X e fe) : DI T X tg e (eSgn fe) := .mk fun G E hp =>
  PI.imp (pi_str (X := X.wish E) (he.run G E hp)) fun σ H R ⟨ρ, fr, h⟩ => ⟨ρ, fr, Acc.mono (Acc.bind h) fun d _ hd v H1 s1 r1 => by
    cases d with
    | str z =>
      refine ⟨z, r1, hd _ H1 s1 fun i H' p sm => ⟨fun d' e' => ?_, fun hl => ?_⟩⟩
      · have hd' : z.cps.toList[i]?.map (fun c => D.str ⟨#[c]⟩) = some d' := by rw [← e', signs, List.getElem?_map]
        cases q : z.cps.toList[i]? with
        | none => rw [q] at hd'; cases hd'
        | some c =>
          rw [q] at hd'
          obtain rfl : D.str ⟨#[c]⟩ = d' := Option.some.inj hd'
          have q2 : z.cps[i]? = some c := by rw [← Array.getElem?_toList]; exact q
          refine ⟨?_, fun x H2 ⟨e2, c', e3, e4⟩ => ?_⟩
          · obtain ⟨hl, _⟩ := Array.getElem?_eq_some_iff.mp q2
            exact hl
          · subst e2
            rw [q2] at e3; cases e3
            exact ⟨Same.refl _, e4⟩
      · have : (signs z).length = z.length := by simp [signs, Str.length]
        rw [this] at hl
        exact hl
    | _ => exact hd.elim⟩
end
/-! ### all, any, sum -/
section
variable {X : Cx}
theorem Inv.walked {pins : List (Addr × Obj)} {σ : L2.St} {H : Hp} {s : Shared} {ob : Obj} {h' : Heap} {tk : Nat} (I : Inv X pins σ H s) (k : ∀ b o, b ∉ [s.heap.objs.size] → (s.heap.push ob).get? b = some o → h'.get? b = some o) : Inv X pins σ H { s with heap := h', toks := tk } :=
  I.kept fun b u e => k b u (by simpa using Nat.ne_of_lt (Heap.lt_size e)) (Heap.get?_push_of_some _ e)
def boolV : V → Option Bool
  | .bl b => some b
  | _ => none
def boolsV (ys : List V) (bs : List Bool) : Prop := ys = bs.map V.bl
theorem vals_bl : ∀ {bs : List Bool} {us : List Value}, Vals (bs.map V.bl) us → us = bs.map Value.bool
  | [], _, .nil => rfl
  | b :: bs, _, .cons r t => by rw [vals_bl t, show _ = Value.bool b from r]; rfl
theorem range_all (bs : List Bool) : (List.range bs.length).all (fun i => bs.getD i false) = bs.all id := by
  rw [Bool.eq_iff_iff]
  simp only [List.all_eq_true, List.mem_range, id]
  constructor
  · intro h b hb
    obtain ⟨i, hi, rfl⟩ := List.mem_iff_getElem.mp hb
    have := h i hi
    rwa [List.getD_eq_getElem?_getD, List.getElem?_eq_getElem hi] at this
  · intro h i hi
    rw [List.getD_eq_getElem?_getD, List.getElem?_eq_getElem hi]
    exact h _ (List.getElem_mem hi)
theorem range_any (bs : List Bool) : (List.range bs.length).any (fun i => bs.getD i false) = bs.any id := by
  rw [Bool.eq_iff_iff]
  simp only [List.any_eq_true, List.mem_range, id]
  constructor
  · rintro ⟨i, hi, h⟩
    rw [List.getD_eq_getElem?_getD, List.getElem?_eq_getElem hi] at h
    exact ⟨_, List.getElem_mem hi, h⟩
  · rintro ⟨b, hb, h⟩
    obtain ⟨i, hi, rfl⟩ := List.mem_iff_getElem.mp hb
    exact ⟨i, hi, by rw [List.getD_eq_getElem?_getD, List.getElem?_eq_getElem hi]; exact h⟩
theorem truth_bl {P : Program} {w : World} {A : Around} (bs : List Bool) : TruthOf P w A (fun i v => (bs.map Value.bool).toArray[i]? = some v) (fun i => bs.getD i false) := fun i v s Q E hP hQ => by
  have hP : ((bs.map Value.bool)[i]?) = some v := by rw [← hP]; simp
  rw [List.getElem?_map] at hP
  cases q : bs[i]? with
  | none => rw [q] at hP; cases hP
  | some b =>
    rw [q] at hP
    obtain rfl : Value.bool b = v := Option.some.inj hP
    have hQ : Q (bs.getD i false) s := hQ
    rw [List.getD_eq_getElem?_getD, q] at hQ
    exact wpAny_truthy_bool hQ
theorem call_all (hc : X.calm = true) : CallR X (.builtin "all") (fun xs H Q => ∃ (a : Addr) (bs : List Bool), xs = [.ref a] ∧ SqL X.K H a (bs.map V.bl) ∧ Q (.bl (bs.all id)) H) := by
  intro pins s σ H xs us Q I rv h
  obtain ⟨a, bs, rfl, hq, q⟩ := h
  obtain ⟨u, rfl, ru⟩ := rv.one
  cases ru
  obtain ⟨its, r, pl, hz⟩ := I.list hq
  obtain rfl := vals_bl r
  have ha : a ≠ s.heap.objs.size := by
    obtain ⟨o, ho, _⟩ := pl.isList
    exact Nat.ne_of_lt (Heap.lt_size ho)
  have W := Walks.list (prog := X.prog) (w := X.w) (A := X.A.in1) (show X.A.in1.handled = none from I.ok.hd hc) s.heap.objs.size a ha (bs.map Value.bool).toArray
  refine call_all_walk (wpAny_pyIter_list pl.isList ⟨_, _, _, _, _, _, fun i => bs.getD i false, rfl, W, ⟨⟨_, Heap.get?_push_size _ rfl, rfl, rfl⟩, ?_⟩, truth_bl bs, fun h' tk hk => ?_⟩)
  · obtain ⟨o, ho, r'⟩ := pl.isList
    exact ⟨o, Heap.get?_push_of_some _ ho, r'⟩
  · have I2 := Inv.walked (s := s) (tk := tk) I hk
    refine ⟨.bl (bs.all id), H, I2, ?_, q⟩
    rw [List.size_toArray, List.length_map, range_all]
    rfl
theorem call_any (hc : X.calm = true) : CallR X (.builtin "any") (fun xs H Q => ∃ (a : Addr) (bs : List Bool), xs = [.ref a] ∧ SqL X.K H a (bs.map V.bl) ∧ Q (.bl (bs.any id)) H) := by
  intro pins s σ H xs us Q I rv h
  obtain ⟨a, bs, rfl, hq, q⟩ := h
  obtain ⟨u, rfl, ru⟩ := rv.one
  cases ru
  obtain ⟨its, r, pl, hz⟩ := I.list hq
  obtain rfl := vals_bl r
  have ha : a ≠ s.heap.objs.size := by
    obtain ⟨o, ho, _⟩ := pl.isList
    exact Nat.ne_of_lt (Heap.lt_size ho)
  have W := Walks.list (prog := X.prog) (w := X.w) (A := X.A.in1) (show X.A.in1.handled = none from I.ok.hd hc) s.heap.objs.size a ha (bs.map Value.bool).toArray
  refine call_any_walk (wpAny_pyIter_list pl.isList ⟨_, _, _, _, _, _, fun i => bs.getD i false, rfl, W, ⟨⟨_, Heap.get?_push_size _ rfl, rfl, rfl⟩, ?_⟩, truth_bl bs, fun h' tk hk => ?_⟩)
  · obtain ⟨o, ho, r'⟩ := pl.isList
    exact ⟨o, Heap.get?_push_of_some _ ho, r'⟩
  · have I2 := Inv.walked (s := s) (tk := tk) I hk
    refine ⟨.bl (bs.any id), H, I2, ?_, q⟩
    rw [List.size_toArray, List.length_map, range_any]
    rfl

def isum : List Int → Int
  | [] => 0
  | i :: is => i + isum is
theorem preSum_take (is : List Int) : ∀ j, j ≤ is.length → preSum (fun i => is.getD i 0) j = isum (is.take j) := by
  intro j
  induction j with
  | zero => intro _; simp [preSum, isum]
  | succ j ih =>
    intro h
    rw [preSum, ih (by omega)]
    have e : is.take (j + 1) = is.take j ++ [is.getD j 0] := by
      rw [List.take_succ_eq_append_getElem (by omega), List.getD_eq_getElem?_getD, List.getElem?_eq_getElem (by omega)]
      rfl
    rw [e]
    have : ∀ (xs : List Int) (y : Int), isum (xs ++ [y]) = isum xs + y := by
      intro xs y
      induction xs with
      | nil => simp [isum]
      | cons x xs ih => simp [isum, ih]; omega
    rw [this]
theorem vals_int : ∀ {is : List Int} {us : List Value}, Vals (is.map V.int) us → us.length = is.length ∧ ∀ (i : Nat) (v : Value), us[i]? = some v → ∃ t, v = .int (is.getD i 0) t
  | [], _, .nil => ⟨rfl, fun i v e => by simp at e⟩
  | j :: is, _, .cons r t => by
    obtain ⟨l, g⟩ := vals_int t
    refine ⟨by simp [l], fun i v e => ?_⟩
    cases i with
    | zero =>
      obtain ⟨tk, rfl⟩ := r
      cases e
      exact ⟨tk, rfl⟩
    | succ i => exact g i v e
theorem call_sum (hc : X.calm = true) : CallR X (.builtin "sum") (fun xs H Q => ∃ (a : Addr) (is : List Int), xs = [.ref a] ∧ SqL X.K H a (is.map V.int) ∧ (∀ j, j < is.length → InLong (is.getD j 0) ∧ InLong (isum (is.take (j + 1)))) ∧ Q (.int (isum is)) H) := by
  intro pins s σ H xs us Q I rv h
  obtain ⟨a, is, rfl, hq, hf, q⟩ := h
  obtain ⟨u, rfl, ru⟩ := rv.one
  cases ru
  obtain ⟨its, r, pl, hz⟩ := I.list hq
  obtain ⟨hl, hg⟩ := vals_int r
  have ha : a ≠ s.heap.objs.size := by
    obtain ⟨o, ho, _⟩ := pl.isList
    exact Nat.ne_of_lt (Heap.lt_size ho)
  have hlt : a < s.heap.objs.size := by
    obtain ⟨o, ho, _⟩ := pl.isList
    exact Heap.lt_size ho
  have W := Walks.list (prog := X.prog) (w := X.w) (A := X.A.in1) (show X.A.in1.handled = none from I.ok.hd hc) s.heap.objs.size a ha its.toArray
  refine call_sum_walk (wpAny_pyIter_list pl.isList ⟨_, _, _, _, _, _, fun i => is.getD i 0, rfl, W, ⟨⟨_, Heap.get?_push_size _ rfl, rfl, rfl⟩, ?_⟩, ?_, ?_, ?_, fun h' tk t' hk => ?_⟩)
  · obtain ⟨o, ho, r'⟩ := pl.isList
    exact ⟨o, Heap.get?_push_of_some _ ho, r'⟩
  · intro b hb
    show b < (s.heap.push _).objs.size
    rw [Heap.size_push]
    simp only [List.mem_cons, List.not_mem_nil, or_false] at hb
    rcases hb with rfl | rfl
    · exact Nat.lt_succ_self _
    · exact Nat.lt_succ_of_lt hlt
  · intro i v e
    exact hg i v (by rw [← e]; simp)
  · intro j hj
    rw [List.size_toArray, hl] at hj
    rw [preSum_take is (j + 1) hj]
    exact hf j hj
  · have I2 := Inv.walked (s := s) (tk := tk) I hk
    refine ⟨.int (isum is), H, I2, ⟨t', ?_⟩, q⟩
    rw [List.size_toArray, hl, preSum_take is is.length (Nat.le_refl _), List.take_length]
end
section
variable {T : Tb} {X : Cx}
def blsD : List D → Option (List Bool)
  | [] => some []
  | .bl b :: ds => (match blsD ds with | some bs => some (b :: bs) | none => none)
  | _ => none
theorem blsD_rep {K : PySem.W.Frag} {H : Hp} : ∀ {ds : List D} {bs : List Bool} {vs : List V}, blsD ds = some bs → RepL T K H ds vs → vs = bs.map V.bl
  | [], bs, vs, h, r => by cases h; exact r
  | d :: ds, bs, vs, h, r => by
    cases d with
    | bl b =>
      have h : (match blsD ds with | some bs => some (b :: bs) | none => none) = some bs := h
      cases q : blsD ds with
      | none => rw [q] at h; cases h
      | some bs' =>
        rw [q] at h; cases h
        obtain ⟨v, r', rfl, r1, r2⟩ := r
        rw [blsD_rep q r2, show v = V.bl b from r1]; rfl
    | _ => cases h
def intsD : List D → Option (List Int)
  | [] => some []
  | .int b :: ds => (match intsD ds with | some bs => some (b :: bs) | none => none)
  | _ => none
theorem intsD_rep {K : PySem.W.Frag} {H : Hp} : ∀ {ds : List D} {bs : List Int} {vs : List V}, intsD ds = some bs → RepL T K H ds vs → vs = bs.map V.int
  | [], bs, vs, h, r => by cases h; exact r
  | d :: ds, bs, vs, h, r => by
    cases d with
    | int b =>
      have h : (match intsD ds with | some bs => some (b :: bs) | none => none) = some bs := h
      cases q : intsD ds with
      | none => rw [q] at h; cases h
      | some bs' =>
        rw [q] at h; cases h
        obtain ⟨v, r', rfl, r1, r2⟩ := r
        rw [intsD_rep q r2, show v = V.int b from r1]; rfl
    | _ => cases h
def allG : List D → Out D
  | [.lst ds] => (match blsD ds with | some bs => .ok (.bl (bs.all id)) | none => .bad)
  | _ => .bad
def anyG : List D → Out D
  | [.lst ds] => (match blsD ds with | some bs => .ok (.bl (bs.any id)) | none => .bad)
  | _ => .bad
theorem cd_all (hc : X.calm = true) : CaD T X (.builtin "all") allG := fun E => ⟨_, call_all hc, fun ds vs σ H Q r h => by
  unfold allG at h
  split at h
  · rename_i ds'
    obtain ⟨v, rfl, a, ws, rfl, fz, rl⟩ := r.one
    cases q : blsD ds' with
    | none => rw [q] at h; exact h.elim
    | some bs =>
      rw [q] at h
      obtain rfl := blsD_rep q rl
      exact ⟨a, bs, rfl, fz.sq, h _ H (Same.refl H) rfl⟩
  · exact h.elim⟩
theorem cd_any (hc : X.calm = true) : CaD T X (.builtin "any") anyG := fun E => ⟨_, call_any hc, fun ds vs σ H Q r h => by
  unfold anyG at h
  split at h
  · rename_i ds'
    obtain ⟨v, rfl, a, ws, rfl, fz, rl⟩ := r.one
    cases q : blsD ds' with
    | none => rw [q] at h; exact h.elim
    | some bs =>
      rw [q] at h
      obtain rfl := blsD_rep q rl
      exact ⟨a, bs, rfl, fz.sq, h _ H (Same.refl H) rfl⟩
  · exact h.elim⟩
/-- small numbers, not many of them -/
def sumOk (is : List Int) : Bool := decide (is.length ≤ 1000) && is.all fun i => decide (-1000000000 ≤ i) && decide (i ≤ 1000000000)
theorem isum_bd : ∀ (is : List Int), (∀ i ∈ is, -1000000000 ≤ i ∧ i ≤ 1000000000) → -(1000000000 * (is.length : Int)) ≤ isum is ∧ isum is ≤ 1000000000 * (is.length : Int)
  | [], _ => by simp [isum]
  | i :: is, h => by
    have h1 := isum_bd is fun j hj => h j (by simp [hj])
    have h2 := h i (by simp)
    simp only [isum, List.length_cons, Int.natCast_add, Int.natCast_one]
    omega
theorem sumOk_long {is : List Int} (h : sumOk is = true) : ∀ j, j < is.length → InLong (is.getD j 0) ∧ InLong (isum (is.take (j + 1))) := by
  unfold sumOk at h
  simp only [Bool.and_eq_true, decide_eq_true_eq, List.all_eq_true] at h
  intro j hj
  constructor
  · rw [List.getD_eq_getElem?_getD, List.getElem?_eq_getElem hj]
    have := h.2 _ (List.getElem_mem hj)
    unfold InLong
    show _ ≤ is[j] ∧ is[j] < _
    omega
  · have := isum_bd (is.take (j + 1)) fun i hi => h.2 i (List.mem_of_mem_take hi)
    have l : (is.take (j + 1)).length ≤ 1000 := by rw [List.length_take]; omega
    unfold InLong
    omega
def sumG : List D → Out D
  | [.lst ds] => (match intsD ds with | some is => if sumOk is = true then .ok (.int (isum is)) else .bad | none => .bad)
  | _ => .bad
theorem cd_sum (hc : X.calm = true) : CaD T X (.builtin "sum") sumG := fun E => ⟨_, call_sum hc, fun ds vs σ H Q r h => by
  unfold sumG at h
  split at h
  · rename_i ds'
    obtain ⟨v, rfl, a, ws, rfl, fz, rl⟩ := r.one
    cases q : intsD ds' with
    | none => rw [q] at h; exact h.elim
    | some is =>
      rw [q] at h
      have h : Acc T X E σ H (if sumOk is = true then .ok (.int (isum is)) else .bad) (kE T X.K H Q) := h
      by_cases c : sumOk is = true
      · rw [if_pos c] at h
        obtain rfl := intsD_rep q rl
        exact ⟨a, is, rfl, fz.sq, sumOk_long c, h _ H (Same.refl H) rfl⟩
      · rw [if_neg c] at h; exact h.elim
  · exact h.elim⟩
/-! ### in -/
/-- what holds no object -/
def flatD : D → Option V
  | .non => some .non
  | .bl b => some (.bl b)
  | .int i => some (.int i)
  | .str x => some (.str x)
  | _ => none
theorem flatD_rep {K : PySem.W.Frag} {H : Hp} {d : D} {v w : V} (h : flatD d = some w) (r : Rep T K H d v) : v = w ∧ flatV w = true := by
  cases d <;> first | (cases h; done) | (cases h; exact ⟨r, rfl⟩)
def flatsD : List D → Option (List V)
  | [] => some []
  | d :: ds => (match flatD d, flatsD ds with | some v, some vs => some (v :: vs) | _, _ => none)
theorem flatsD_rep {K : PySem.W.Frag} {H : Hp} : ∀ {ds : List D} {vs ws : List V}, flatsD ds = some ws → RepL T K H ds vs → vs = ws ∧ ws.all flatV = true
  | [], vs, ws, h, r => by cases h; exact ⟨r, rfl⟩
  | d :: ds, vs, ws, h, r => by
    rw [flatsD] at h
    cases q1 : flatD d with
    | none => rw [q1] at h; cases h
    | some v =>
      cases q2 : flatsD ds with
      | none => rw [q1, q2] at h; cases h
      | some vs' =>
        rw [q1, q2] at h; cases h
        obtain ⟨v', r', rfl, r1, r2⟩ := r
        obtain ⟨e1, e2⟩ := flatsD_rep q2 r2
        obtain ⟨e3, e4⟩ := flatD_rep q1 r1
        rw [e1, e3]
        exact ⟨rfl, by rw [List.all_cons, e4, e2]; rfl⟩
def inD (neg : Bool) : D → D → Out D
  | .str i, .str j => .ok (.bl (if neg then !(!(Builtin.Str.occurrences j i 0 j.length 1).isEmpty) else (!(Builtin.Str.occurrences j i 0 j.length 1).isEmpty)))
  | d, .lst ds => (match flatD d, flatsD ds with | some x, some xs => .ok (.bl (if neg then !inV x xs else inV x xs)) | _, _ => .bad)
  | d, .tup ds => (match flatD d, flatsD ds with | some x, some xs => .ok (.bl (if neg then !inV x xs else inV x xs)) | _, _ => .bad)
  | _, _ => .bad
theorem od_inG (neg : Bool) (op : CmpOp) (h1 : ∀ E, OpR (X.wish E) (compareOp op) (fun x y H Q => ∃ i j, x = .str i ∧ y = .str j ∧ Q (.bl (if neg then !(!(Builtin.Str.occurrences j i 0 j.length 1).isEmpty) else (!(Builtin.Str.occurrences j i 0 j.length 1).isEmpty))) H))
    (h2 : ∀ E, OpR (X.wish E) (compareOp op) (rIn X.K neg)) : OpD T X (compareOp op) (inD neg) := fun E => ⟨_, OpR.or (h1 E) (h2 E), fun dx dy x y σ H Q rx ry q => by
  cases dy with
  | str j =>
    cases dx with
    | str i => exact .inl ⟨i, j, rx, ry, q _ H (Same.refl H) rfl⟩
    | _ => exact q.elim
  | lst ds =>
    right
    have q : Acc T X E σ H (match flatD dx, flatsD ds with | some x, some xs => .ok (.bl (if neg then !inV x xs else inV x xs)) | _, _ => .bad) (kE T X.K H Q) := by cases dx <;> exact q
    cases q1 : flatD dx with
    | none => rw [q1] at q; exact q.elim
    | some v =>
      cases q2 : flatsD ds with
      | none => rw [q1, q2] at q; exact q.elim
      | some vs =>
        rw [q1, q2] at q
        obtain ⟨a, ws, rfl, fz, rl⟩ := ry
        obtain ⟨rfl, f2⟩ := flatsD_rep q2 rl
        obtain ⟨rfl, f1⟩ := flatD_rep q1 rx
        exact ⟨a, _, rfl, .inl fz.sq, f1, f2, q _ H (Same.refl H) rfl⟩
  | tup ds =>
    right
    have q : Acc T X E σ H (match flatD dx, flatsD ds with | some x, some xs => .ok (.bl (if neg then !inV x xs else inV x xs)) | _, _ => .bad) (kE T X.K H Q) := by cases dx <;> exact q
    cases q1 : flatD dx with
    | none => rw [q1] at q; exact q.elim
    | some v =>
      cases q2 : flatsD ds with
      | none => rw [q1, q2] at q; exact q.elim
      | some vs =>
        rw [q1, q2] at q
        obtain ⟨a, ws, rfl, fz, rl⟩ := ry
        obtain ⟨rfl, f2⟩ := flatsD_rep q2 rl
        obtain ⟨rfl, f1⟩ := flatD_rep q1 rx
        exact ⟨a, _, rfl, .inr fz, f1, f2, q _ H (Same.refl H) rfl⟩
  | _ => cases dx <;> exact q.elim⟩
theorem od_in : OpD T X (compareOp .In) (inD false) := od_inG false .In (fun E => op_in_str) fun E => op_in_seq
theorem od_notIn : OpD T X (compareOp .NotIn) (inD true) := od_inG true .NotIn (fun E => op_notin_str) fun E => op_notIn_seq
end
end L3

set_option Elab.async false
set_option linter.all false
set_option autoImplicit false
set_option maxRecDepth 100000
namespace L3
open PySem PySem.Spec PyProof.Rows L2
/-! ### == of tuples of what holds no object -/
def eqTV (vs ws : List V) : Bool := (List.range (min vs.length ws.length)).all (fun j => eqV (vs.getD j .non) (ws.getD j .non)) && vs.length == ws.length
section
variable {X : Cx}
theorem vals_at : ∀ {xs : List V} {us : List Value}, Vals xs us → ∀ (j : Nat) (h : j < us.length), RelV (xs.getD j .non) us[j]
  | _, _, .nil, j, h => by simp at h
  | _, _, .cons r t, 0, _ => r
  | _, _, .cons r t, j + 1, h => by
    have := vals_at t j (by simpa using h)
    simpa using this
theorem flat_at : ∀ {xs : List V}, xs.all flatV = true → ∀ j, flatV (xs.getD j .non) = true
  | [], _, j => by simp [flatV]
  | x :: xs, h, 0 => by rw [List.all_cons, Bool.and_eq_true] at h; exact h.1
  | x :: xs, h, j + 1 => by
    rw [List.all_cons, Bool.and_eq_true] at h
    simpa using flat_at h.2 j
def rTT (K : PySem.W.Frag) (neg : Bool) : R2 := fun x y H Q => ∃ (a b : Addr) (xs ys : List V), x = .ref a ∧ y = .ref b ∧ SqT K H a xs ∧ SqT K H b ys ∧ xs.all flatV = true ∧ ys.all flatV = true ∧ Q (.bl (if neg then !eqTV xs ys else eqTV xs ys)) H
theorem op_eqTT (hu : X.A.units < cLine) : OpR X (compareOp .Eq) (rTT X.K false) := by
  intro pins s σ H x y v u Q I rx ry h
  obtain ⟨a, b, xs, ys, rfl, rfl, h1, h2, f1, f2, q⟩ := h
  cases rx
  cases ry
  obtain ⟨its, r, pl, hz⟩ := I.tuple h1
  obtain ⟨its2, r2, pl2, hz2⟩ := I.tuple h2
  refine SeqAt.eq_tupleAt (e := fun j => eqV (xs.getD j .non) (ys.getD j .non)) pl pl2 hu (fun j j1 j2 => ?_) ⟨.bl _, H, I, ?_, q⟩
  · have e1 := vals_at r j (by simpa using j1)
    have e2 := vals_at r2 j (by simpa using j2)
    simpa using eqAt_V e1 e2 (flat_at f1 j) (flat_at f2 j)
  · rw [List.size_toArray, List.size_toArray, ← r.length, ← r2.length]; rfl
theorem op_neTT (hu : X.A.units < cLine) : OpR X (compareOp .NotEq) (rTT X.K true) := by
  intro pins s σ H x y v u Q I rx ry h
  obtain ⟨a, b, xs, ys, rfl, rfl, h1, h2, f1, f2, q⟩ := h
  cases rx
  cases ry
  obtain ⟨its, r, pl, hz⟩ := I.tuple h1
  obtain ⟨its2, r2, pl2, hz2⟩ := I.tuple h2
  refine SeqAt.RcNeAt.tuples (e := fun j => eqV (xs.getD j .non) (ys.getD j .non)) pl pl2 hu (fun j j1 j2 => ?_) X.prog X.w X.xe _ ⟨.bl _, H, I, ?_, q⟩
  · have e1 := vals_at r j (by simpa using j1)
    have e2 := vals_at r2 j (by simpa using j2)
    simpa using eqAt_V e1 e2 (flat_at f1 j) (flat_at f2 j)
  · rw [List.size_toArray, List.size_toArray, ← r.length, ← r2.length]; rfl
end
section
variable {T : Tb} {X : Cx} {x : Str} {pos : Pos}
def eqTD (neg : Bool) : D → D → Out D
  | .tup xs, .tup ys => (match flatsD xs, flatsD ys with | some vs, some ws => .ok (.bl (if neg then !eqTV vs ws else eqTV vs ws)) | _, _ => .bad)
  | _, _ => .bad
theorem od_TTG (neg : Bool) (op : CmpOp) (h : ∀ E, OpR (X.wish E) (compareOp op) (rTT X.K neg)) : OpD T X (compareOp op) (eqTD neg) := fun E => ⟨_, h E, fun dx dy x y σ H Q rx ry q => by
  cases dx with
  | tup xs =>
    cases dy with
    | tup ys =>
      have q : Acc T X E σ H (match flatsD xs, flatsD ys with | some vs, some ws => .ok (.bl (if neg then !eqTV vs ws else eqTV vs ws)) | _, _ => .bad) (kE T X.K H Q) := q
      cases q1 : flatsD xs with
      | none => rw [q1] at q; exact q.elim
      | some vs =>
        cases q2 : flatsD ys with
        | none => rw [q1, q2] at q; exact q.elim
        | some ws =>
          rw [q1, q2] at q
          obtain ⟨a, us, rfl, s1, r1⟩ := rx
          obtain ⟨b, us2, rfl, s2, r2⟩ := ry
          obtain ⟨rfl, f1⟩ := flatsD_rep q1 r1
          obtain ⟨rfl, f2⟩ := flatsD_rep q2 r2
          exact ⟨a, b, _, _, rfl, rfl, s1, s2, f1, f2, q _ H (Same.refl H) rfl⟩
    | _ => exact q.elim
  | _ => first | exact q.elim | (cases dy <;> exact q.elim)⟩
theorem od_eqTT {k : Nat} (hr : Room k X.A) : OpD T X (compareOp .Eq) (eqTD false) := od_TTG false .Eq fun E => op_eqTT (X := X.wish E) hr.units0
theorem od_neTT {k : Nat} (hr : Room k X.A) : OpD T X (compareOp .NotEq) (eqTD true) := od_TTG true .NotEq fun E => op_neTT (X := X.wish E) hr.units0
/-! ### a module's tuple -/
def TupIn (K : PySem.W.Frag) (mg : Str → Option Value) (x : Str) (ds : List D) : Prop := ∃ (a : Addr) (vs : List V), mg x = some (.ref a) ∧ (∀ H, SqT K H a vs) ∧ flatsD ds = some vs
theorem repL_flat {K : PySem.W.Frag} {H : Hp} : ∀ {ds : List D} {vs : List V}, flatsD ds = some vs → RepL T K H ds vs
  | [], vs, h => by cases h; exact rfl
  | d :: ds, vs, h => by
    rw [flatsD] at h
    cases q1 : flatD d with
    | none => rw [q1] at h; cases h
    | some v =>
      cases q2 : flatsD ds with
      | none => rw [q1, q2] at h; cases h
      | some ws =>
        rw [q1, q2] at h
        cases h
        refine ⟨v, ws, rfl, ?_, repL_flat q2⟩
        cases d <;> first | (cases q1; done) | (cases q1; exact rfl)
theorem de_globT {ds : List D} (hg : Gl X x) (h : TupIn X.K X.mg x ds) (hd : (x == ("__debug__" : Str)) = false := by decide) : DE T X (.Name x pos) (eC (.tup ds)) := by
  obtain ⟨a, vs, hm, sq, hf⟩ := h
  exact de_glob (v := .ref a) hg hm rfl (fun H => ⟨a, vs, rfl, sq H, repL_flat hf⟩) hd
theorem tupIn_mk {K : PySem.W.Frag} {mg : Str → Option Value} {a : Addr} {od : Option Addr} {its : Array Value} {n : Nat} {sl : Array (Option Value)} {ds : List D} {vs : List V} (hm : mg x = some (.ref a)) (hk : K.lookup a = some ⟨.type "tuple", od, .seq its n, sl⟩)
    (hz : its.size ≤ 1000000) (hv : Vals vs its.toList) (hf : flatsD ds = some vs) : TupIn K mg x ds :=
  ⟨a, vs, hm, fun H => .inr ⟨_, its, n, hk, rfl, rfl, line6 hz, hv⟩, hf⟩
/-! ### defs with defaults -/
structure FunG (K : PySem.W.Frag) (x qual : Str) (st : Stmt) (f : Addr) (fd : FuncData) : Prop where
  ex : ∃ (oc : Value) (od : Option Addr) (dV kV doc pm : Value) (an : Option Addr) (cdv ct : Value) (osl : Array (Option Value)),
    fd = PySem.W.fnOf x qual (defArgs st) (defBody st) (defScope st) dV kV doc pm an cdv ct ∧ K.lookup f = some ⟨oc, od, .func fd, osl⟩ ∧ PySem.W.codeIn K cdv qual = true
  kp : PySem.W.keepIn K (.ref f) = true
theorem fun_mkG {K : PySem.W.Frag} {x qual : Str} {st : Stmt} {f : Addr} {oc : Value} {od an : Option Addr} {osl : Array (Option Value)} {dV kV doc pm cdv ct : Value} (l : K.lookup f = some ⟨oc, od, .func (PySem.W.fnOf x qual (defArgs st) (defBody st) (defScope st) dV kV doc pm an cdv ct), osl⟩)
    (c : PySem.W.codeIn K cdv qual = true) (k : PySem.W.keepIn K (.ref f) = true) : FunG K x qual st f (PySem.W.fnOf x qual (defArgs st) (defBody st) (defScope st) dV kV doc pm an cdv ct) := ⟨⟨oc, od, dV, kV, doc, pm, an, cdv, ct, osl, rfl, l, c⟩, k⟩
theorem binds_dflt {K : PySem.W.Frag} {fd : FuncData} {ps : List Str} {ds : List Value} {dt : Addr} {oc : Value} {od : Option Addr} {items : Array Value} {n : Nat} {sl : Array (Option Value)} (hd : fd.defaults = .ref dt) (lk : K.lookup dt = some ⟨oc, od, .seq items n, sl⟩)
    (m : Nat) (hm : m + ds.length = ps.length) (h : ∀ us : List Value, us.length = m → ∃ k, bindArgs fd ⟨us, []⟩ = seqItems? fd.defaults >>= k ∧ k (some items) = pure (ps.zip (us ++ ds))) : Binds K fd ps ds := fun s us kin hl => by
  obtain ⟨k, h1, h2⟩ := h us (by rw [List.length_append] at hl; omega)
  exact BindsTo.of_defaults hd (kin dt _ lk) rfl h1 h2
end
end L3
namespace L3
open PySem L2
theorem capG {X : Cx} {scope : Scope} {x : Str} (ys : List Str) (caps : List Nat) (hk : scope.kind = .function := by rfl) (own : scope.names.lookup x = some .local := by rfl)
    (h : (scope.names.all fun y => !(y.2 == .cell) && (!(y.2 == .local) || scope.names.lookup y.1 == some .local)) = true := by decide +kernel) (hf : (scope.names.all fun y => !(y.2 == .free) || X.env.kindOf y.1 == some .cell) = true := by rfl)
    (hn : (x :: ys).Nodup := by decide) (hl : caps.length = ys.length := by rfl)
    (hc : ∀ (j : Nat) (y : Str) (i : Nat), ys[j]? = some y → caps[j]? = some i → X.N[i]? = some y ∧ X.env.kindOf y = some .cell ∧ scope.names.lookup y = some .free) : Cap X scope x ys caps where
  kind := hk
  own := own
  nocell := fun y hy e => by
    have := List.all_eq_true.mp h y hy
    rw [e] at this; simp at this
  names := fun y hy e => by
    have := List.all_eq_true.mp h y hy
    rw [e] at this; simpa using this
  free := fun y hy e => by
    have := List.all_eq_true.mp hf y hy
    rw [e] at this; exact .inl (by simpa using this)
  nodup := hn
  len := hl
  cap := fun j y i e1 e2 => let ⟨a, b, c⟩ := hc j y i e1 e2; ⟨a, .inl b, c⟩
theorem cap0 {X : Cx} {scope : Scope} {x : Str} (hk : scope.kind = .function := by rfl) (own : scope.names.lookup x = some .local := by rfl)
    (h : (scope.names.all fun y => !(y.2 == .cell) && !(y.2 == .free) && (!(y.2 == .local) || scope.names.lookup y.1 == some .local)) = true := by decide +kernel) : Cap X scope x [] [] where
  kind := hk
  own := own
  nocell := fun y hy e => by
    have := List.all_eq_true.mp h y hy
    rw [e] at this; simp at this
  names := fun y hy e => by
    have := List.all_eq_true.mp h y hy
    rw [e] at this; simpa using this
  free := fun y hy e => by
    have := List.all_eq_true.mp h y hy
    rw [e] at this; simp at this
  nodup := by simp
  len := rfl
  cap := fun j y i e1 _ => by simp at e1
theorem capNil {X : Cx} {scope : Scope} : ∀ (j : Nat) (y : Str) (i : Nat), ([] : List Str)[j]? = some y → ([] : List Nat)[j]? = some i → X.N[i]? = some y ∧ X.env.kindOf y = some .cell ∧ scope.names.lookup y = some .free := fun j y i e _ => by simp at e
theorem capCons {X : Cx} {scope : Scope} {y0 : Str} {ys : List Str} {i0 : Nat} {caps : List Nat} (h1 : X.N[i0]? = some y0) (h2 : X.env.kindOf y0 = some .cell) (h3 : scope.names.lookup y0 = some .free)
    (h : ∀ (j : Nat) (y : Str) (i : Nat), ys[j]? = some y → caps[j]? = some i → X.N[i]? = some y ∧ X.env.kindOf y = some .cell ∧ scope.names.lookup y = some .free) :
    ∀ (j : Nat) (y : Str) (i : Nat), (y0 :: ys)[j]? = some y → (i0 :: caps)[j]? = some i → X.N[i]? = some y ∧ X.env.kindOf y = some .cell ∧ scope.names.lookup y = some .free := fun j y i e1 e2 => by
  cases j with
  | zero => cases e1; cases e2; exact ⟨h1, h2, h3⟩
  | succ j => exact h j y i e1 e2
theorem vcI {i : Int} {k : Tok} {xs : List V} {us : List Value} (h : Vals xs us) : Vals (.int i :: xs) (.int i k :: us) := .cons ⟨k, rfl⟩ h
theorem vcS {z : Str} {k : Tok} {xs : List V} {us : List Value} (h : Vals xs us) : Vals (.str z :: xs) (.str z k :: us) := .cons ⟨k, rfl⟩ h
end L3

set_option Elab.async false
set_option linter.all false
set_option autoImplicit false
set_option maxRecDepth 100000
namespace L3
open PySem PySem.Spec PyProof.Rows L2
/-! ### methods -/
theorem lookup_notin {m : Str} : ∀ {fs : List (Str × V)}, m ∉ fs.map (·.1) → fs.lookup m = none
  | [], _ => rfl
  | (n, v) :: fs, h => by
    simp only [List.map_cons, List.mem_cons, not_or] at h
    rw [List.lookup_cons, show (m == n) = false by simpa using h.1]
    exact lookup_notin h.2
section
variable {T : Tb} {X : Cx} {e o : Expr} {es : List Expr} {m : Str} {pos apos : Pos} {fo : Ev} {fs : Ro → Out (List Sl)} {F : Fn} {k n c : Nat} {f : Addr} {fd : FuncData} {ps : List Str}
@[simp] def rMeth0 (c : Nat) (F : Fn) (fo : Ev) (ρ : Ro) : Out Rv := (fo ρ).bind fun d => match d with
  | .ins c' xs => if c' = c then F [.sh (.ins c' xs)] else .bad
  | _ => .bad
theorem rv_adj {K : PySem.W.Frag} {H H1 H' : Hp} {v : V} {r : Rv} (s1 : Same H H1) (h : RvOk T K H1 H' v r) : RvOk T K H H' v r := by
  cases r with
  | sh d => exact h
  | fr ds =>
    obtain ⟨a, us, e1, e2, e3, e4⟩ := h
    exact ⟨a, us, e1, e2, s1.free e3, e4⟩
theorem dr_meth0 {pl : Sem Bool} (he : DE T X o fo) (cls : Cls X.K (T.ca c)) (hm : Meth X.K (T.ca c) m f) (hmf : m ∉ T.fl c) (FO : FnOk X.prog X.w X.K X.mg X.base (CXE T X.prog X.w) k f fd ps (spD T X.K ps.length F)) (hr : Room k X.A) (hb : Binds X.K fd ps []) (hn : ps.length = 1)
    (ht : eval (.Call (.Attribute o m apos) [] [] pos) X.env = (do
      let ov ← eval o X.env
      standAt apos.atName
      let (f, first) ← holding [ov] (getMethod ov m pl)
      callWith pos f first (backTo pos (starEach [] X.env)) (backToKw pos (keywordEach [] X.env))) := by rfl) :
    DR T X (.Call (.Attribute o m apos) [] [] pos) (rMeth0 c F fo) := .mk fun G E hp => by
  rintro pins s σ H Q I ⟨ρ, fr, h⟩
  refine PySem.W.methodCall_KW (pl := pl) (thn (he.run G E hp pins s σ H (fun x H1 => ∃ ds, Same H H1 ∧ Rep T X.K H1 (.ins c ds) x ∧ Acc T X E σ H1 (F [.sh (.ins c ds)]) (fun r => ∀ v H', Same H1 H' → RvOk T X.K H1 H' v r → Q v H')) I ⟨ρ, fr, ?_⟩) fun u s1 ⟨x, H1, I1, rx, ds, sm, rp, q⟩ => ?_) ht
  · refine Acc.mono (Acc.bind h) fun d _ hd v H1 s1 r1 => ?_
    cases d with
    | ins c' xs =>
      have hd : Acc T X E σ H (if c' = c then F [.sh (.ins c' xs)] else .bad) _ := hd
      by_cases hc : c' = c
      · subst hc
        rw [if_pos rfl] at hd
        exact ⟨xs, s1, r1, Acc.mono (Acc.heap s1 hd) fun r _ hr' v H' s2 r2 => hr' v H' (s1.trans s2) (rv_adj s1 r2)⟩
      · rw [if_neg hc] at hd; exact hd.elim
    | _ => exact hd.elim
  · obtain ⟨a, dx, fl, rfl, ha, hf, rl⟩ := id rp
    obtain rfl : u = Value.ref a := rx
    refine getmeth_ok (X := X.wish E) I1 ha cls hm (lookup_notin (by rw [hf]; exact hmf)) ?_
    exact PySem.W.callWith_K0 (first := [.ref a]) I1.kIn hm.kp (run_D (X := X) (us := [.ref a]) (vs := [.ref a]) (dvs := []) (ds := []) (ss := [.sh (.ins c ds)]) FO hr hb .nil I1 (.cons rfl .nil) (show ArgsOk T X.K H1 [.ref a] [.sh (.ins c ds)] from ⟨_, [], rfl, rp, rfl⟩) (by simp [hn]) q)
@[simp] def rMeth (c : Nat) (F : Fn) (fo : Ev) (fs : Ro → Out (List Sl)) (ρ : Ro) : Out Rv := (fo ρ).bind fun d => match d with
  | .ins c' xs => if c' = c then (fs ρ).bind fun ss => if ss.length + 1 = n then F (.sh (.ins c' xs) :: ss) else .bad else .bad
  | _ => .bad
theorem dr_meth {pl : Sem Bool} (he : DE T X o fo) (cls : Cls X.K (T.ca c)) (hm : Meth X.K (T.ca c) m f) (hmf : m ∉ T.fl c) (FO : FnOk X.prog X.w X.K X.mg X.base (CXE T X.prog X.w) k f fd ps (spD T X.K ps.length F)) (hr : Room k X.A) (hb : Binds X.K fd ps []) (hn : n = ps.length) (ha : DG T X (e :: es) fs)
    (hst : starEach (e :: es) X.env = (false, eval e X.env) :: starEach es X.env := by exact star_of rfl) (hpl : (backTo pos (starEach es X.env)).any (·.1) = false := by exact plain_of rfl)
    (ht : eval (.Call (.Attribute o m apos) (e :: es) [] pos) X.env = (do
      let ov ← eval o X.env
      standAt apos.atName
      let (f, first) ← holding [ov] (getMethod ov m pl)
      callWith pos f first (backTo pos (starEach (e :: es) X.env)) (backToKw pos (keywordEach [] X.env))) := by rfl) :
    DR T X (.Call (.Attribute o m apos) (e :: es) [] pos) (rMeth (n := n) c F fo fs) := .mk fun G E hp => by
  rintro pins s σ H Q I ⟨ρ, fr, h⟩
  refine PySem.W.methodCall_KW (pl := pl) (thn (he.run G E hp pins s σ H (fun x H1 => ∃ ds, Same H H1 ∧ Rep T X.K H1 (.ins c ds) x ∧ Acc T X E σ H1 ((fs ρ).bind fun ss => if ss.length + 1 = n then F (.sh (.ins c ds) :: ss) else .bad) (fun r => ∀ v H', Same H1 H' → RvOk T X.K H1 H' v r → Q v H')) I ⟨ρ, fr, ?_⟩) fun u s1 ⟨x, H1, I1, rx, ds, sm, rp, q⟩ => ?_) ht
  · refine Acc.mono (Acc.bind h) fun d _ hd v H1 s1 r1 => ?_
    cases d with
    | ins c' xs =>
      have hd : Acc T X E σ H (if c' = c then (fs ρ).bind fun ss => if ss.length + 1 = n then F (.sh (.ins c' xs) :: ss) else .bad else .bad) _ := hd
      by_cases hc : c' = c
      · subst hc
        rw [if_pos rfl] at hd
        exact ⟨xs, s1, r1, Acc.mono (Acc.heap s1 hd) fun r _ hr' v H' s2 r2 => hr' v H' (s1.trans s2) (rv_adj s1 r2)⟩
      · rw [if_neg hc] at hd; exact hd.elim
    | _ => exact hd.elim
  · obtain ⟨a, dx, fl, rfl, ha', hf, rl⟩ := id rp
    obtain rfl : u = Value.ref a := rx
    refine getmeth_ok (X := X.wish E) I1 ha' cls hm (lookup_notin (by rw [hf]; exact hmf)) ?_
    refine PySem.W.callWith_K (first := [.ref a]) (h₀ := X.base) I.ok.mod.kin hm.kp (thn (ha.run G E hp pos pins s1 σ H1 (fun vs H2 => ∃ ss, ArgsOk T X.K H2 vs ss ∧ ss.length + 1 = n ∧ Same H1 H2 ∧ Acc T X E σ H2 (F (.sh (.ins c ds) :: ss)) (fun r => ∀ v H', Same H2 H' → RvOk T X.K H2 H' v r → Q v H')) I1 ⟨ρ, fr.mono sm, ?_⟩) fun us s2 ⟨vs, H2, I2, r, ss, ha2, hl2, s2', q2⟩ => ⟨I2.kIn, ?_⟩) hst hpl
    · refine Acc.mono (Acc.bind q) fun ss _ hss vs H2 s2 r2 => ?_
      by_cases hl : ss.length + 1 = n
      · rw [if_pos hl] at hss
        exact ⟨ss, r2, hl, s2, Acc.mono (Acc.heap s2 hss) fun r _ hr' v H' s3 r3 => hr' v H' (s2.trans s3) (rv_adj s2 r3)⟩
      · rw [if_neg hl] at hss; exact hss.elim
    · have la := ArgsOk.length ss vs ha2
      have lr := r.length
      exact run_D (X := X) (us := .ref a :: us) (vs := .ref a :: vs) (dvs := []) (ds := []) FO hr hb .nil I2 (.cons rfl r) (by rw [List.append_nil]; exact ⟨_, vs, rfl, Rep.mono s2' _ _ rp, ha2⟩) (by simp only [List.length_append, List.length_cons, List.length_nil]; omega) q2
end
end L3

set_option Elab.async false
set_option linter.all false
set_option autoImplicit false
set_option maxRecDepth 100000
namespace L3
open PySem PySem.Spec PyProof.Rows L2
open Sem (wp)
/-! ### int of a text of figures -/
theorem no_int_str : typeLookup (.type "str") "__int__" = pure none := by rw [typeLookup_type, builtinLookup_eq_fast]; kernel_rfl
theorem no_index_str : typeLookup (.type "str") "__index__" = pure none := by rw [typeLookup_type, builtinLookup_eq_fast]; kernel_rfl
theorem no_trunc_str : typeLookup (.type "str") "__trunc__" = pure none := by rw [typeLookup_type, builtinLookup_eq_fast]; kernel_rfl
def dgV (c : Nat) : Option Nat :=
  if 48 ≤ c && c ≤ 57 then some (c - 48)
  else if 97 ≤ c && c ≤ 122 then some (c - 87)
  else if 65 ≤ c && c ≤ 90 then some (c - 55)
  else none
def blk (c : Nat) : Bool := c == 32 || (9 ≤ c && c ≤ 13)
def dgS (base : Nat) (cs : List Nat) : Option (Array Nat) := do
  let (ds, afterDigit) ← cs.foldlM (init := ((#[] : Array Nat), false)) fun (ds, afterDigit) c =>
    if c == 95 then (if afterDigit then some (ds, false) else none)
    else match dgV c with
      | some d => if d < base then some (ds.push d, true) else none
      | none => none
  if afterDigit then some ds else none
def pfx : List Nat → Option Nat
  | 48 :: c :: _ =>
    if c == 120 || c == 88 then some 16 else if c == 111 || c == 79 then some 8 else if c == 98 || c == 66 then some 2 else none
  | _ => none
def sgn (t : List Nat) : Bool × List Nat := match t with
  | 45 :: r => (true, r)
  | 43 :: r => (false, r)
  | _ => (false, t)
def pr2 (t : List Nat) : List Nat := match t.drop 2 with
  | 95 :: r => r
  | r => r
def rdN {N : Type} (inv : N) (tl : Nat → N) (lib : N) (val : Int → N) (limit base : Nat) (text : List Nat) : N :=
  let t := text.dropWhile blk
  let (negative, t) := sgn t
  let afterPrefix := pr2 t
  let (b, zeroOnly, t) := match pfx t with
    | some p => if base == 0 || base == p then (p, false, afterPrefix) else (base, false, t)
    | none => if base == 0 then (10, t.head? == some 48, t) else (base, false, t)
  match dgS b (t.reverse.dropWhile blk).reverse with
  | none => inv
  | some ds =>
    if ![2, 4, 8, 16, 32].contains b && limit != 0 && ds.size > limit then tl ds.size else
    if b == 10 && ds.size > 6000 then lib else
    let n := ds.foldl (fun acc d => acc * b + d) 0
    if zeroOnly && n != 0 then inv else val (if negative then -(n : Int) else n)
def rd0 {N : Type} (inv : N) (tl : Nat → N) (lib : N) (val : Int → N) (limit base : Nat) (text : List Nat) : N :=
  let t := text.dropWhile blk
  let (negative, t) := match t with
    | 45 :: r => (true, r)
    | 43 :: r => (false, r)
    | _ => (false, t)
  let afterPrefix := match t.drop 2 with
    | 95 :: r => r
    | r => r
  let (b, zeroOnly, t) := match pfx t with
    | some p => if base == 0 || base == p then (p, false, afterPrefix) else (base, false, t)
    | none => if base == 0 then (10, t.head? == some 48, t) else (base, false, t)
  match dgS b (t.reverse.dropWhile blk).reverse with
  | none => inv
  | some ds =>
    if ![2, 4, 8, 16, 32].contains b && limit != 0 && ds.size > limit then tl ds.size else
    if b == 10 && ds.size > 6000 then lib else
    let n := ds.foldl (fun acc d => acc * b + d) 0
    if zeroOnly && n != 0 then inv else val (if negative then -(n : Int) else n)
theorem rd0_eq {N : Type} (inv : N) (tl : Nat → N) (lib : N) (val : Int → N) (limit base : Nat) (text : List Nat) : rd0 inv tl lib val limit base text = rdN inv tl lib val limit base text := by
  unfold rd0 rdN sgn pr2
  rfl
def figs (cs : List Nat) : Bool := cs.all fun c => decide (48 ≤ c) && decide (c ≤ 57)
def numL (cs : List Nat) : Nat := cs.foldl (fun acc c => acc * 10 + (c - 48)) 0
theorem fig_of {cs : List Nat} (h : figs cs = true) {c : Nat} (hc : c ∈ cs) : 48 ≤ c ∧ c ≤ 57 := by
  have := List.all_eq_true.mp h c hc
  simpa using this
theorem dgS_go : ∀ (cs : List Nat), figs cs = true → ∀ (ds : Array Nat) (a : Bool), (cs.foldlM (init := (ds, a)) fun (x : Array Nat × Bool) c =>
    (if c == 95 then (if x.2 then some (x.1, false) else none) else match dgV c with | some d => if d < 10 then some (x.1.push d, true) else none | none => none : Option (Array Nat × Bool))) = some ((ds.toList ++ cs.map (· - 48)).toArray, a || !cs.isEmpty)
  | [], _, ds, a => by simp
  | c :: cs, h, ds, a => by
    have hc := fig_of h (c := c) (by simp)
    have hr : figs cs = true := by
      unfold figs at h ⊢
      rw [List.all_cons, Bool.and_eq_true] at h
      exact h.2
    have e1 : (c == 95) = false := by simp; omega
    have e2 : dgV c = some (c - 48) := by unfold dgV; rw [if_pos (by simp; omega)]
    have e3 : c - 48 < 10 := by omega
    rw [List.foldlM_cons]
    simp only [e1, e2, e3, Bool.false_eq_true, if_false, if_true]
    show ((some (ds.push (c - 48), true) : Option _) >>= _) = _
    rw [Option.bind_eq_bind, Option.bind_some, dgS_go cs hr]
    simp
theorem dgS_figs {cs : List Nat} (h : figs cs = true) (hn : cs ≠ []) : dgS 10 cs = some (cs.map (· - 48)).toArray := by
  unfold dgS
  have := dgS_go cs h #[] false
  have e : (!cs.isEmpty) = true := by cases cs <;> simp at hn ⊢
  show (cs.foldlM (init := ((#[] : Array Nat), false)) _ >>= _) = _
  rw [show (cs.foldlM (init := ((#[] : Array Nat), false)) fun (x : Array Nat × Bool) c => (match x with | (ds, afterDigit) => if c == 95 then (if afterDigit then some (ds, false) else none) else match dgV c with | some d => if d < 10 then some (ds.push d, true) else none | none => none : Option (Array Nat × Bool))) = _ from this]
  simp [e]
theorem drop_blk {cs : List Nat} (h : figs cs = true) : cs.dropWhile blk = cs := by
  cases cs with
  | nil => rfl
  | cons c cs =>
    have hc := fig_of h (c := c) (by simp)
    have : blk c = false := by unfold blk; simp; omega
    rw [List.dropWhile_cons, this]
    rfl
theorem figs_rev {cs : List Nat} (h : figs cs = true) : figs cs.reverse = true := by
  unfold figs at *
  rw [List.all_reverse]; exact h
theorem rdN_figs {N : Type} (inv : N) (tl : Nat → N) (lib : N) (val : Int → N) {cs : List Nat} (h : figs cs = true) (hn : cs ≠ []) (hl : cs.length ≤ 600) : rdN inv tl lib val 0 10 cs = val (numL cs) := by
  have e0 := drop_blk h
  have e1 : (cs.reverse.dropWhile blk).reverse = cs := by rw [drop_blk (figs_rev h), List.reverse_reverse]
  have e2 := dgS_figs h hn
  have e3 : pfx cs = none := by
    unfold pfx
    split
    · rename_i c r
      have hc := fig_of h (c := c) (by simp)
      rw [if_neg (by simp; omega), if_neg (by simp; omega), if_neg (by simp; omega)]
    · rfl
  have sg : sgn cs = (false, cs) := by
    cases cs with
    | nil => rfl
    | cons c r =>
      have hc := fig_of h (c := c) (by simp)
      unfold sgn
      split
      · rename_i e; cases e; omega
      · rename_i e; cases e; omega
      · rfl
  unfold rdN
  simp only [e0, sg, e3]
  rw [show ((10 : Nat) == 0) = false from rfl]
  simp only [Bool.false_eq_true, if_false, e1, e2]
  have s1 : (cs.map (· - 48)).toArray.size = cs.length := by simp
  rw [s1]
  rw [if_neg (by simp), if_neg (by simp; omega), if_neg (by simp)]
  congr 2
  rw [numL]
  simp [List.foldl_map]
theorem tw_figs : ∀ {cs : List Nat}, figs cs = true → cs.takeWhile (fun c => c != 0) = cs
  | [], _ => rfl
  | c :: cs, h => by
    have hc := fig_of h (c := c) (by simp)
    have hr : figs cs = true := by
      unfold figs at h ⊢
      rw [List.all_cons, Bool.and_eq_true] at h
      exact h.2
    have e : (c != 0) = true := by simp; omega
    rw [List.takeWhile_cons, e]
    simp [tw_figs hr]
set_option maxHeartbeats 2000000 in
theorem meets_int_str (x : Str) (u : Tok) (h : figs x.cps.toList = true) (hn : x.cps.toList ≠ []) (hl : x.length ≤ 600) : Meets (Builtin.«int.__new__» ⟨[.type "int", .str x u], []⟩) (Made.int (numL x.cps.toList)).spec :=
  Meets.of_wp fun prog w A R s hs => by
    obtain ⟨hp, g, d, tk, os⟩ := s
    have f1 := F.conv_sub_int
    have f2 := F.madeHere_int
    have hT : (⟨hp, g, d, tk, os⟩ : Shared).TypeIs (.str x u) "str" := rfl
    have g1 := no_int_str
    have g2 := no_index_str
    have g3 := no_trunc_str
    have a1 : (x.cps.all fun c => decide (c < 128)) = true := by
      rw [← Array.all_toList, List.all_eq_true]
      intro c hc
      have := fig_of h hc
      simp; omega
    have a2 : List.takeWhile (fun c => c != 0) x.cps.toList = x.cps.toList := tw_figs h
    have a4 : x.cps.toList.length = x.length := by simp [Str.length]
    have a3 : x.cps.toList.length ≤ 640 := by omega
    have rd : ∀ {N : Type} (inv : N) (tl : Nat → N) (lib : N) (val : Int → N), rdN inv tl lib val 0 10 x.cps.toList = val (numL x.cps.toList) := fun inv tl lib val => rdN_figs inv tl lib val h hn (by omega)
    repeat (any_goals (first | assumption | wp_step))
    all_goals (rw [a1]; simp only [if_true, a2, if_pos a3, pure_bind])
    split
    · rename_i m heq
      have h2 := (show rd0 _ _ _ _ 0 10 x.cps.toList = _ from heq)
      rw [rd0_eq, rd] at h2
      cases h2
    · rename_i heq
      have h2 := (show rd0 _ _ _ _ 0 10 x.cps.toList = _ from heq)
      rw [rd0_eq, rd] at h2
      cases h2
    · rename_i i heq
      have h2 := (show rd0 _ _ _ _ 0 10 x.cps.toList = _ from heq)
      rw [rd0_eq, rd] at h2
      cases h2
      rw [if_pos (by simp)]
      repeat (any_goals (first | assumption | wp_step))
      all_goals first | exact ⟨_, rfl, hs⟩ | skip
    · rename_i heq
      have h2 := (show rd0 _ _ _ _ 0 10 x.cps.toList = _ from heq)
      rw [rd0_eq, rd] at h2
      cases h2
section
variable {X : Cx}
theorem call_intS : CallR X (.type "int") (fun xs H Q => ∃ x, xs = [.str x] ∧ figs x.cps.toList = true ∧ x.cps.toList ≠ [] ∧ x.length ≤ 600 ∧ Q (.int (numL x.cps.toList)) H) := by
  intro pins s σ H xs us Q I rv h
  obtain ⟨x, rfl, h1, h2, h3, q⟩ := h
  obtain ⟨u, rfl, ru⟩ := rv.one
  obtain ⟨t, rfl⟩ := ru
  refine call_int_1 (meets_int_str x t h1 h2 h3) (show (Made.int (numL x.cps.toList)).post _ s from ⟨rfl, ?_⟩)
  exact ⟨.int _, H, I.tok _, ⟨_, rfl⟩, q⟩
end
end L3

set_option Elab.async false
set_option linter.all false
set_option autoImplicit false
set_option maxRecDepth 100000
namespace L3
open PySem PySem.Spec PyProof.Rows L2
/-! ### int of a text, join, split, index -/
section
variable {T : Tb} {X : Cx} {e o : Expr} {es : List Expr} {pos cpos apos p : Pos} {fe fo : Ev} {fs : Ro → Out (List D)}
@[simp] def intG2 : List D → Out D
  | [.int i] => .ok (.int i)
  | [.bl b] => .ok (.int (if b then 1 else 0))
  | [.str x] => if figs x.cps.toList = true ∧ x.cps.toList ≠ [] ∧ x.length ≤ 600 then .ok (.int (numL x.cps.toList)) else .bad
  | _ => .bad
theorem cd_int2 : CaD T X (.type "int") intG2 := fun E => ⟨fun vs H Q => ((∃ i, vs = [.int i] ∧ Q (.int i) H) ∨ ∃ k, vs = [.bl k] ∧ Q (.int (if k then 1 else 0)) H) ∨ ∃ x, vs = [.str x] ∧ figs x.cps.toList = true ∧ x.cps.toList ≠ [] ∧ x.length ≤ 600 ∧ Q (.int (numL x.cps.toList)) H,
  fun pins s σ H xs us Q I rv h => h.elim (fun h => call_int1 (X := X.wish E) pins s σ H xs us Q I rv h) (fun h => call_intS (X := X.wish E) pins s σ H xs us Q I rv h), fun ds vs σ H Q r h => by
  unfold intG2 at h
  split at h
  · rename_i i
    obtain ⟨v, rfl, rv⟩ := r.one
    exact .inl (.inl ⟨i, by rw [show v = V.int i from rv], h _ H (Same.refl H) rfl⟩)
  · rename_i b
    obtain ⟨v, rfl, rv⟩ := r.one
    exact .inl (.inr ⟨b, by rw [show v = V.bl b from rv], h _ H (Same.refl H) rfl⟩)
  · rename_i x
    obtain ⟨v, rfl, rv⟩ := r.one
    by_cases c : figs x.cps.toList = true ∧ x.cps.toList ≠ [] ∧ x.length ≤ 600
    · rw [if_pos c] at h
      exact .inr ⟨x, by rw [show v = V.str x from rv], c.1, c.2.1, c.2.2, h _ H (Same.refl H) rfl⟩
    · rw [if_neg c] at h; exact h.elim
  · exact h.elim⟩
def strsD : List D → Option (List Str)
  | [] => some []
  | .str x :: ds => (match strsD ds with | some xs => some (x :: xs) | none => none)
  | _ => none
theorem strsD_rep {K : PySem.W.Frag} {H : Hp} : ∀ {ds : List D} {xs : List Str} {vs : List V}, strsD ds = some xs → RepL T K H ds vs → vs = xs.map V.str
  | [], xs, vs, h, r => by cases h; exact r
  | d :: ds, xs, vs, h, r => by
    cases d with
    | str b =>
      have h : (match strsD ds with | some bs => some (b :: bs) | none => none) = some xs := h
      cases q : strsD ds with
      | none => rw [q] at h; cases h
      | some bs' =>
        rw [q] at h; cases h
        obtain ⟨v, r', rfl, r1, r2⟩ := r
        rw [strsD_rep q r2, show v = V.str b from r1]; rfl
    | _ => cases h
theorem vals_str : ∀ {xs : List Str} {us : List Value}, Vals (xs.map V.str) us → ∃ l : List (Str × Tok), us = strValues l ∧ l.map (·.1) = xs
  | [], _, .nil => ⟨[], rfl, rfl⟩
  | x :: xs, _, .cons r t => by
    obtain ⟨l, rfl, e⟩ := vals_str t
    obtain ⟨k, rfl⟩ := r
    exact ⟨(x, k) :: l, rfl, by rw [List.map_cons, e]⟩
def joinG : D → List D → Out D
  | .str x, [.lst ds] => (match strsD ds with | some ts => if JoinOk x ts = true then .ok (.str (Txt.join x ts)) else .bad | none => .bad)
  | _, _ => .bad
theorem md_join : MtD T X "str" "str.join" joinG := fun E => by
  refine ⟨fun v vs H Q => ∃ x a ts, v = .str x ∧ vs = [.ref a] ∧ SqL X.K H a (ts.map V.str) ∧ JoinOk x ts = true ∧ Q (.str (Txt.join x ts)) H, ?_, ?_⟩
  · intro pins s σ H x xs v us Q I rx rv h
    obtain ⟨z, a, ts, rfl, rfl, hq, ok, q⟩ := h
    obtain ⟨t, rfl⟩ := rx
    obtain ⟨u, rfl, ru⟩ := rv.one
    cases ru
    obtain ⟨its, r, pl, hz⟩ := I.list hq
    obtain ⟨l, rfl, e⟩ := vals_str r
    exact SC.join pl.isList e ok fun t' k => ⟨.str _, H, I.tok k, ⟨t', rfl⟩, q⟩
  · intro d ds v vs σ H Q rd rl q
    unfold joinG at q
    split at q
    · rename_i x ds'
      obtain ⟨w, rfl, a, ws, rfl, fz, rl'⟩ := rl.one
      cases e : strsD ds' with
      | none => rw [e] at q; exact q.elim
      | some ts =>
        rw [e] at q
        have q : Acc T X E σ H (if JoinOk x ts = true then .ok (.str (Txt.join x ts)) else .bad) (kE T X.K H Q) := q
        obtain rfl := strsD_rep e rl'
        by_cases c : JoinOk x ts = true
        · rw [if_pos c] at q
          exact ⟨x, a, ts, rd, rfl, fz.sq, c, q _ H (Same.refl H) rfl⟩
        · rw [if_neg c] at q; exact q.elim
    · exact q.elim
def indexG : D → List D → Out D
  | .str x, [.str y] => if (Builtin.Str.occurrences x y 0 x.length 1).isEmpty = false then .ok (.int (Txt.find x y)) else .bad
  | _, _ => .bad
theorem md_index (hc : X.calm = true) : MtD T X "str" "str.index" indexG := fun E => by
  refine ⟨fun v vs H Q => ∃ x y, v = .str x ∧ vs = [.str y] ∧ (Builtin.Str.occurrences x y 0 x.length 1).isEmpty = false ∧ Q (.int (Txt.find x y)) H, ?_, ?_⟩
  · intro pins s σ H x xs v us Q I rx rv h
    obtain ⟨z, y, rfl, rfl, ok, q⟩ := h
    obtain ⟨t, rfl⟩ := rx
    obtain ⟨u, rfl, t', rfl⟩ := rv.one
    exact index_or (I.ok.hd hc) (fun _ h => by rw [ok] at h; cases h) fun _ _ => ⟨.int _, H, I.tok _, ⟨_, rfl⟩, q⟩
  · intro d ds v vs σ H Q rd rl q
    unfold indexG at q
    split at q
    · rename_i x y
      obtain ⟨w, rfl, rw'⟩ := rl.one
      by_cases c : (Builtin.Str.occurrences x y 0 x.length 1).isEmpty = false
      · rw [if_pos c] at q
        exact ⟨x, y, rd, by rw [show w = V.str y from rw'], c, q _ H (Same.refl H) rfl⟩
      · rw [if_neg c] at q; exact q.elim
    · exact q.elim
/-! split -/
theorem vals_strs (l : List (Str × Tok)) : Vals ((l.map (·.1)).map V.str) (strValues l) := by
  induction l with
  | nil => exact .nil
  | cons p l ih => exact .cons ⟨p.2, rfl⟩ ih
theorem mt_split : MtR X "str.split" (fun v vs H Q => ∃ x y, v = .str x ∧ vs = [.str y] ∧ y.length ≠ 0 ∧ x.length ≤ 1000000 ∧ (Txt.split x y).length ≤ 1000000 ∧ ∀ a, H a = none → Q (.ref a) (upd H a (.lst ((Txt.split x y).map V.str)))) := by
  intro pins s σ H x xs v us Q I rx rv h
  obtain ⟨z, y, rfl, rfl, hy, hl, hp, q⟩ := h
  obtain ⟨t, rfl⟩ := rx
  obtain ⟨u, rfl, t', rfl⟩ := rv.one
  have hy' : (y.length == 0) = false := by simpa using hy
  have fin : ∀ (l : List (Str × Tok)) (k : Nat), l.map (·.1) = Txt.split z y → EP X pins σ Q (.ref s.heap.objs.size) { s with heap := s.heap.push { cls := .type "list", data := .seq (strValues l).toArray }, toks := k } := fun l k e => by
    have I2 := I.lnew (t' := k) (its := strValues l) (ys := (l.map (·.1)).map V.str) (vals_strs l) (by rw [e, List.length_map]; exact line6 hp)
    rw [e] at I2
    exact ⟨.ref s.heap.objs.size, _, I2, rfl, q _ I.fresh⟩
  have spl : Txt.split z y = if (decide (z.length < y.length) || decide (Builtin.Str.strKind z < Builtin.Str.strKind y)) = true then [z] else if (Builtin.Str.occurrences z y 0 z.length (z.length + 1)).isEmpty = true then [z] else Builtin.Str.partsBetween z (Builtin.Str.occurrences z y 0 z.length (z.length + 1)) y.length := rfl
  cases h1 : (decide (z.length < y.length) || decide (Builtin.Str.strKind z < Builtin.Str.strKind y)) with
  | true =>
    refine call_meets F.slot_str_split (typeIs_str _ _ _) F.entry_str_split (F.args_str_split_2 _ _) (meets_str_split_cannot_occur z y t t' h1) ?_
    exact fin [(z, t)] s.toks (by rw [spl, if_pos h1]; rfl)
  | false =>
    cases hf : (Builtin.Str.occurrences z y 0 z.length (z.length + 1)).isEmpty with
    | true =>
      refine call_meets F.slot_str_split (typeIs_str _ _ _) F.entry_str_split (F.args_str_split_2 _ _) (meets_str_split_not_found z y t t' h1 hy' hf) ?_
      exact fin [(z, t)] s.toks (by rw [spl, if_neg (by rw [h1]; decide), if_pos hf]; rfl)
    | false =>
      have e0 : Txt.split z y = Builtin.Str.partsBetween z (Builtin.Str.occurrences z y 0 z.length (z.length + 1)) y.length := by rw [spl, if_neg (by rw [h1]; decide), if_neg (by rw [hf]; decide)]
      refine call_meets F.slot_str_split (typeIs_str _ _ _) F.entry_str_split (F.args_str_split_2 _ _) (meets_str_split_sep z y t t' h1 hy' hf (line6 hl) (by rw [← e0]; exact line6 hp)) ?_
      show wants (EP X pins σ Q) X.xe _ { s with toks := _, heap := s.heap.push { cls := .type "list", data := .seq (strsFrom s.toks (Builtin.Str.partsBetween z (Builtin.Str.occurrences z y 0 z.length (z.length + 1)) y.length)).toArray } }
      rw [strsFrom_eq]
      exact fin (numbered s.toks _) _ ((numbered_texts _ _).trans e0.symm)
def spl2 (x : Str) : D → Out (List D)
  | .str y => if y.length ≠ 0 ∧ x.length ≤ 1000000 ∧ (Txt.split x y).length ≤ 1000000 then .ok ((Txt.split x y).map D.str) else .bad
  | _ => .bad
def fSplit (fo fe : Ev) (ρ : Ro) : Out (List D) := (fo ρ).bind fun d => match d with
  | .str x => (fe ρ).bind (spl2 x)
  | _ => .bad
theorem repL_strs {K : PySem.W.Frag} {H : Hp} : ∀ xs : List Str, RepL T K H (xs.map D.str) (xs.map V.str)
  | [] => rfl
  | x :: xs => ⟨_, _, rfl, rfl, repL_strs xs⟩
theorem df_split (ho : DE T X o fo) (he : DE T X e fe) (hbase : attributeBase o "split" X.env (eval o X.env) = eval o X.env := by rfl)
    (hfew : ((backTo cpos (starEach [e] X.env)).all (fun x => !x.1) && (backToKw cpos (keywordEach [] X.env)).all (fun x => x.1.isSome)
      && decide (([e] : List Expr).length + ([] : List Keyword).length + (if ([] : List Keyword).isEmpty then 0 else 1) < 30)) = true := by exact few_of rfl rfl)
    (hline : (apos.endLine == cpos.line) = true := by rfl) (hs : starEach [e] X.env = (false, eval e X.env) :: starEach [] X.env := by exact star_of rfl) (hplain : (backTo cpos (starEach ([] : List Expr) X.env)).any (·.1) = false := by exact plain_of rfl) :
    DF T X (.Call (.Attribute o "split" apos) [e] [] cpos) (fSplit fo fe) := .mk fun G E hp => by
  refine PE.imp (pe_bm (X := X.wish E) PySem.F.plainAttrs_str PySem.F.slot_str_split PySem.F.type_str_split mt_split (ho.run G E hp) (pa_cons (X := X.wish E) (he.run G E hp) pa_nil hs) hbase hfew hline hs hplain) fun σ H Q ⟨ρ, fr, q⟩ => ?_
  refine ⟨ρ, fr, Acc.mono (Acc.bind q) fun d _ hd v H1 s1 rd => ?_⟩
  cases d with
  | str x =>
    refine ⟨by rw [show v = V.str x from rd]; exact rfl, ρ, fr.mono s1, Acc.mono (Acc.bind (Acc.heap s1 hd)) fun d' _ hd' v' H2 s2 rd' => ?_⟩
    cases d' with
    | str y =>
      have hd' : Acc T X E σ H1 (if y.length ≠ 0 ∧ x.length ≤ 1000000 ∧ (Txt.split x y).length ≤ 1000000 then .ok ((Txt.split x y).map D.str) else .bad) _ := hd'
      by_cases c : y.length ≠ 0 ∧ x.length ≤ 1000000 ∧ (Txt.split x y).length ≤ 1000000
      · rw [if_pos c] at hd'
        exact ⟨x, y, rd, by rw [show v' = V.str y from rd'], c.1, c.2.1, c.2.2, fun a ha => hd' a _ _ ((s1.trans s2).trans (same_upd ha)) ((s1.trans s2).free ha) upd_same (RepL.mono (same_upd ha) _ _ (repL_strs _))⟩
      · rw [if_neg c] at hd'; exact hd'.elim
    | _ => exact hd'.elim
  | _ => exact hd.elim
end
end L3

namespace Lw
open PySem L2 L3
def top (i : Nat) : Stmt := PySem.Challenge.pw_doughhours_k02_minute_of.main.body.getD i (.Pass ⟨0, 0, 0, 0⟩)
abbrev s_0 : Stmt := top 6
abbrev s_1 : Stmt := top 7
abbrev s_2 : Stmt := top 8
abbrev s_3 : Stmt := top 10
abbrev s_4 : Stmt := top 11
abbrev s_5 : Stmt := top 12
abbrev s_6 : Stmt := top 13
abbrev s_7 : Stmt := top 14
abbrev s_8 : Stmt := top 15
abbrev s_9 : Stmt := top 16
abbrev s_10 : Stmt := top 17
structure Tx (K : PySem.W.Frag) (mg : Str → Option Value) (fa : Nat → Addr) (fd : Nat → FuncData) (T : Tb) : Prop where
  me : T.me = none
  F0 : L2.Fun K "clock" "clock" s_0 (fa 0) (fd 0)
  b0 : Binds K (fd 0) ["minute"] []
  m0 : mg "clock" = some (.ref (fa 0))
  F1 : L2.Fun K "is_figures" "is_figures" s_1 (fa 1) (fd 1)
  b1 : Binds K (fd 1) ["text"] []
  m1 : mg "is_figures" = some (.ref (fa 1))
  F2 : L2.Fun K "minute_of" "minute_of" s_2 (fa 2) (fd 2)
  b2 : Binds K (fd 2) ["text"] []
  m2 : mg "minute_of" = some (.ref (fa 2))
  F3 : L2.Fun K "_law_at" "_law_at" s_3 (fa 3) (fd 3)
  b3 : Binds K (fd 3) ["_law_script", "_law_k"] []
  m3 : mg "_law_at" = some (.ref (fa 3))
  F4 : L2.Fun K "_law_is" "_law_is" s_4 (fa 4) (fd 4)
  b4 : Binds K (fd 4) ["_law_found", "_law_due_here"] []
  m4 : mg "_law_is" = some (.ref (fa 4))
  F5 : L2.Fun K "_law_sign" "_law_sign" s_5 (fa 5) (fd 5)
  b5 : Binds K (fd 5) ["_law_cell"] []
  m5 : mg "_law_sign" = some (.ref (fa 5))
  F6 : L2.Fun K "_law_text" "_law_text" s_6 (fa 6) (fd 6)
  b6 : Binds K (fd 6) ["_law_script"] []
  m6 : mg "_law_text" = some (.ref (fa 6))
  F7 : L2.Fun K "_law_spoiled" "_law_spoiled" s_7 (fa 7) (fd 7)
  b7 : Binds K (fd 7) ["_law_script", "_law_text_here"] []
  m7 : mg "_law_spoiled" = some (.ref (fa 7))
  F8 : L2.Fun K "_law_due" "_law_due" s_8 (fa 8) (fd 8)
  b8 : Binds K (fd 8) ["_law_text_here"] []
  m8 : mg "_law_due" = some (.ref (fa 8))
  F9 : L2.Fun K "_law_asked" "_law_asked" s_9 (fa 9) (fd 9)
  b9 : Binds K (fd 9) ["_law_text_here"] []
  m9 : mg "_law_asked" = some (.ref (fa 9))
  F10 : L2.Fun K "law" "law" s_10 (fa 10) (fd 10)
  b10 : Binds K (fd 10) ["_law_script"] []
  m10 : mg "law" = some (.ref (fa 10))
  mC0 : mg "DoughError" = some (.ref (T.ca 0))
  xc0 : ExcC K (T.ca 0)
  mC1 : mg "BadTime" = some (.ref (T.ca 1))
  xc1 : ExcC K (T.ca 1)
  exm0_0 : PySem.W.exmOne K (.ref (T.ca 0)) (.ref (T.ca 0)) = some true
  exm1_0 : PySem.W.exmOne K (.ref (T.ca 1)) (.ref (T.ca 0)) = some true
  kit1_1 : PySem.W.kitOne K (.ref (T.ca 1)) (.ref (T.ca 1)) = some true
  kitV0 : PySem.W.kitOne K (.ref (T.ca 0)) (.type "ValueError") = some true
  kitV1 : PySem.W.kitOne K (.ref (T.ca 1)) (.type "ValueError") = some true
  c_FIGURES : ∃ t, mg "FIGURES" = some (.str "0123456789" t)
  c_HOUR : ∃ t, mg "HOUR" = some (.int 60 t)
  n_ValueError : mg "ValueError" = none
  n_all : mg "all" = none
  n_bool : mg "bool" = none
  n_int : mg "int" = none
  n_isinstance : mg "isinstance" = none
  n_len : mg "len" = none
  n_str : mg "str" = none
section
variable {P : Program} {w : World} {K : PySem.W.Frag} {mg : Str → Option Value} {base : Heap} {fa : Nat → Addr} {fd : Nat → FuncData} {T : Tb}
theorem sc_0 : FnScope ["minute", "hours", "rest"] ["minute"] (defScope s_0) := ⟨rfl, rfl, rfl, by decide +kernel, rfl, by decide +kernel, by decide +kernel⟩
/-! clock(minute): minute, hours, rest -/
def g_0_1 (ρ : Ro) : Fl := (sRet (eJ (jVal fmtD (eVar 1) (jLit ":" (jVal fmtD (eVar 2) jN0))))) ρ
def g_0_2 (ρ : Ro) : Fl := ((sSet 2 (eMt isStrD zfillG (eCB strG (aCons (e2 (i2c modOk fun i j => .int (i % j)) (eVar 0) (eC (.int 60))) aNil)) (aCons (eC (.int 2)) aNil))) ρ).bind g_0_1
def g_0_3 (ρ : Ro) : Fl := ((sSet 1 (e2 (i2c divOk fun i j => .int (i / j)) (eVar 0) (eC (.int 60)))) ρ).bind g_0_2
def F_0 : Fn := fnF 3 g_0_3
theorem ok_0 (x : Tx K mg fa fd T) : FnOk P w K mg base (CXE T P w) 1 (fa 0) (fd 0) ["minute"] (spD T K 1 F_0) :=
  have hT := x.me
  fn_D x.me x.F0 sc_0 fun cdv A outer s H E hr =>
    (show DSs T false _ _ g_0_3 from dss_cons (ds_set 1 sc_0.nd (de_op od_fdiv (de_var 0) (de_globI rfl x.c_HOUR)))
      (show DSs T false _ _ g_0_2 from dss_cons (ds_set 2 sc_0.nd (de_mtS md_zfill PySem.F.slot_str_zfill PySem.F.type_str_zfill (de_callTy cd_str rfl x.n_str rfl (da_cons (de_op od_mod (de_var 0) (de_globI rfl x.c_HOUR)) da_nil)) (da_cons de_int da_nil)))
      (show DSs T false _ _ g_0_1 from dss_one (ds_ret (de_join (dj_val (de_var 1) (dj_lit (dj_val (de_var 2) dj_nil))))))))
theorem sc_1 : FnScope ["text"] ["text"] (defScope s_1) := ⟨rfl, rfl, rfl, by decide +kernel, rfl, by decide +kernel, by decide +kernel⟩
/-! is_figures(text): text -/
def g_1_1 (ρ : Ro) : Fl := (sRet (eAndD (e2 (fun a b => bD true (eqS a b)) (eVar 0) (eC (.str ""))) (eCB allG (aCons (fLst (fComp (eSgn (eVar 0)) [] (e2 (inD false) (eVar 0) (eC (.str "0123456789"))))) aNil)))) ρ
def F_1 : Fn := fnF 1 g_1_1
theorem ok_1 (x : Tx K mg fa fd T) : FnOk P w K mg base (CXE T P w) 1 (fa 1) (fd 1) ["text"] (spD T K 1 F_1) :=
  have hT := x.me
  fn_D x.me x.F1 sc_1 fun cdv A outer s H E hr =>
    (show DSs T false _ _ g_1_1 from dss_one (ds_ret (de_and (de_cmp od_ne (de_var 0) de_str (nomark _)) (de_one (de_callB (cd_all rfl) rfl x.n_all rfl (da_cons (DF.de (df_comp hT rfl (di_str (de_var 0)) cap0 (fun cl C s₀ H₀ ex => (de_cmp od_in (de_var 0) (de_globS rfl x.c_FIGURES) rfl)))) da_nil))))))
theorem sc_2 : FnScope ["text", "parts", "minute"] ["text"] (defScope s_2) := ⟨rfl, rfl, rfl, by decide +kernel, rfl, by decide +kernel, by decide +kernel⟩
/-! minute_of(text): text, parts, minute -/
def g_2_1 (ρ : Ro) : Fl := (sRaise 1 (aCons (eJ (jVal reprD (eVar 0) (jLit " is not hours, a colon and minutes" jN0))) aNil)) ρ
def g_2_2 (ρ : Ro) : Fl := (sRaise 1 (aCons (eJ (jVal reprD (eVar 0) (jLit " is not the text of a minute" jN0))) aNil)) ρ
def g_2_3 (ρ : Ro) : Fl := (sRet (eVar 2)) ρ
def g_2_4 (ρ : Ro) : Fl := ((sIf (tB2 (fun a b => bD true (eqS a b)) (rD (rCall (n := 1) F_0 [] (gSh (eVar 2) gN0))) (eVar 0)) g_2_2 Fl.nx) ρ).bind g_2_3
def g_2_5 (ρ : Ro) : Fl := ((sSet 2 (e2 addD (e2 (i2c mulOk fun i j => .int (i * j)) (eCB intG2 (aCons (e2 ixD (eVar 1) (eC (.int 0))) aNil)) (eC (.int 60))) (eCB intG2 (aCons (e2 ixD (eVar 1) (eC (.int 1))) aNil)))) ρ).bind g_2_4
def g_2_6 (ρ : Ro) : Fl := ((sIf (tOrD (tB2 (fun a b => bD true (eqS a b)) (eCB lenG (aCons (eVar 1) aNil)) (eC (.int 2))) (tOrD (tNotD (tTru (rD (rCall (n := 1) F_1 [] (gSh (e2 ixD (eVar 1) (eC (.int 0))) gN0))))) (tNotD (tTru (rD (rCall (n := 1) F_1 [] (gSh (e2 ixD (eVar 1) (eC (.int 1))) gN0))))))) g_2_1 Fl.nx) ρ).bind g_2_5
def g_2_7 (ρ : Ro) : Fl := ((sSet 1 (fLst (fSplit (eVar 0) (eC (.str ":"))))) ρ).bind g_2_6
def F_2 : Fn := fnF 3 g_2_7
theorem ok_2 (x : Tx K mg fa fd T) : FnOk P w K mg base (CXE T P w) 2 (fa 2) (fd 2) ["text"] (spD T K 1 F_2) :=
  have hT := x.me
  fn_D x.me x.F2 sc_2 fun cdv A outer s H E hr =>
    (show DSs T false _ _ g_2_7 from dss_cons (ds_set 1 sc_2.nd (DF.de (df_split (de_var 0) de_str)))
      (show DSs T false _ _ g_2_6 from dss_cons (ds_if (DW.dt (dw_or (dt_cmp od_ne (de_callB cd_len rfl x.n_len rfl (da_cons (de_var 1) da_nil)) de_int (nomark _)) (dw_or (dt_not (dt_truth (DR.de (dr_call (ok_1 x) (hr.mono (by decide)) rfl x.m1 x.F1.kp x.b1 .nil (fun _ => rfl) rfl (dg_sh (de_ix (de_var 1) de_int) dg_nil))))) (dw_or1 (dt_not (dt_truth (DR.de (dr_call (ok_1 x) (hr.mono (by decide)) rfl x.m1 x.F1.kp x.b1 .nil (fun _ => rfl) rfl (dg_sh (de_ix (de_var 1) de_int) dg_nil))))))))) (show DSs T false _ _ g_2_1 from dss_one (ds_raise (c := 1) rfl x.xc1 rfl x.mC1 (da_cons (de_join (dj_repr (de_var 0) (dj_lit dj_nil))) da_nil) hsh1)) dss_nil)
      (show DSs T false _ _ g_2_5 from dss_cons (ds_set 2 sc_2.nd (de_op od_add (de_op od_mul (de_callTy cd_int2 rfl x.n_int rfl (da_cons (de_ix (de_var 1) de_int) da_nil)) (de_globI rfl x.c_HOUR)) (de_callTy cd_int2 rfl x.n_int rfl (da_cons (de_ix (de_var 1) de_int) da_nil))))
      (show DSs T false _ _ g_2_4 from dss_cons (ds_if (dt_cmp od_ne (DR.de (dr_call (ok_0 x) (hr.mono (by decide)) rfl x.m0 x.F0.kp x.b0 .nil (fun _ => rfl) rfl (dg_sh (de_var 2) dg_nil))) (de_var 0) (nomark _)) (show DSs T false _ _ g_2_2 from dss_one (ds_raise (c := 1) rfl x.xc1 rfl x.mC1 (da_cons (de_join (dj_repr (de_var 0) (dj_lit dj_nil))) da_nil) hsh1)) dss_nil)
      (show DSs T false _ _ g_2_3 from dss_one (ds_ret (de_var 2)))))))
theorem sc_3 : FnScope ["_law_script", "_law_k"] ["_law_script", "_law_k"] (defScope s_3) := ⟨rfl, rfl, rfl, by decide +kernel, rfl, by decide +kernel, by decide +kernel⟩
/-! _law_at(_law_script, _law_k): _law_script, _law_k -/
def g_3_1 (ρ : Ro) : Fl := (sRet (e2 ixD (eVar 0) (eVar 1))) ρ
def g_3_2 (ρ : Ro) : Fl := (sRet (eC (.int 0))) ρ
def g_3_3 (ρ : Ro) : Fl := ((sIf (tB2 (i2 fun i j => .bl (decide (i < j))) (eVar 1) (eCB lenG (aCons (eVar 0) aNil))) g_3_1 Fl.nx) ρ).bind g_3_2
def F_3 : Fn := fnF 2 g_3_3
theorem ok_3 (x : Tx K mg fa fd T) : FnOk P w K mg base (CXE T P w) 1 (fa 3) (fd 3) ["_law_script", "_law_k"] (spD T K 2 F_3) :=
  have hT := x.me
  fn_D x.me x.F3 sc_3 fun cdv A outer s H E hr =>
    (show DSs T false _ _ g_3_3 from dss_cons (ds_if (dt_cmp od_lt (de_var 1) (de_callB cd_len rfl x.n_len rfl (da_cons (de_var 0) da_nil)) (nomark _)) (show DSs T false _ _ g_3_1 from dss_one (ds_ret (de_ix (de_var 0) (de_var 1)))) dss_nil)
      (show DSs T false _ _ g_3_2 from dss_one (ds_ret de_int)))
theorem sc_4 : FnScope ["_law_found", "_law_due_here"] ["_law_found", "_law_due_here"] (defScope s_4) := ⟨rfl, rfl, rfl, by decide +kernel, rfl, by decide +kernel, by decide +kernel⟩
/-! _law_is(_law_found, _law_due_here): _law_found, _law_due_here -/
def g_4_1 (ρ : Ro) : Fl := (sRet (eAndD (eIsi g_int (eVar 0)) (eAndD (eNotD (eIsi g_bool (eVar 0))) (e2 (fun a b => bD false (eqS a b)) (eVar 0) (eVar 1))))) ρ
def F_4 : Fn := fnF 2 g_4_1
theorem ok_4 (x : Tx K mg fa fd T) : FnOk P w K mg base (CXE T P w) 1 (fa 4) (fd 4) ["_law_found", "_law_due_here"] (spD T K 2 F_4) :=
  have hT := x.me
  fn_D x.me x.F4 sc_4 fun cdv A outer s H E hr =>
    (show DSs T false _ _ g_4_1 from dss_one (ds_ret (de_and (de_isiB rfl x.n_isinstance (de_var 0) rfl x.n_int rfl isi_int isi_int_ne) (de_and (de_not (de_isiB rfl x.n_isinstance (de_var 0) rfl x.n_bool rfl isi_bool isi_bool_ne)) (de_one (de_cmp od_eq (de_var 0) (de_var 1) (nomark _)))))))
theorem sc_5 : FnScope ["_law_cell", "_law_signs"] ["_law_cell"] (defScope s_5) := ⟨rfl, rfl, rfl, by decide +kernel, rfl, by decide +kernel, by decide +kernel⟩
/-! _law_sign(_law_cell): _law_cell, _law_signs -/
def g_5_1 (ρ : Ro) : Fl := (sRet (e2 ixD (eVar 1) (e2 (i2c modOk fun i j => .int (i % j)) (eVar 0) (eCB lenG (aCons (eVar 1) aNil))))) ρ
def g_5_2 (ρ : Ro) : Fl := ((sSet 1 (e2 addD (eVar 1) (eC (.str "[\\]^_`abcdefghijklmnopqrstuvwxyz{|}~")))) ρ).bind g_5_1
def g_5_3 (ρ : Ro) : Fl := ((sSet 1 (eC (.str " !\"#$&'()*+,-./0123456789:;<=>?@ABCDEFGHIJKLMNOPQRSTUVWXYZ"))) ρ).bind g_5_2
def F_5 : Fn := fnF 2 g_5_3
theorem ok_5 (x : Tx K mg fa fd T) : FnOk P w K mg base (CXE T P w) 1 (fa 5) (fd 5) ["_law_cell"] (spD T K 1 F_5) :=
  have hT := x.me
  fn_D x.me x.F5 sc_5 fun cdv A outer s H E hr =>
    (show DSs T false _ _ g_5_3 from dss_cons (ds_set 1 sc_5.nd de_str)
      (show DSs T false _ _ g_5_2 from dss_cons (ds_set 1 sc_5.nd (de_op od_add (de_var 1) de_str))
      (show DSs T false _ _ g_5_1 from dss_one (ds_ret (de_ix (de_var 1) (de_op od_mod (de_var 0) (de_callB cd_len rfl x.n_len rfl (da_cons (de_var 1) da_nil))))))))
theorem sc_6 : FnScope ["_law_script", "_law_cell", "_law_hours", "_law_within"] ["_law_script"] (defScope s_6) := ⟨rfl, rfl, rfl, by decide +kernel, rfl, by decide +kernel, by decide +kernel⟩
/-! _law_text(_law_script): _law_script, _law_cell, _law_hours, _law_within -/
def g_6_1 (ρ : Ro) : Fl := (sSet 3 (e2 addD (eC (.int 60)) (e2 (i2c modOk fun i j => .int (i % j)) (eVar 3) (eC (.int 40))))) ρ
def g_6_2 (ρ : Ro) : Fl := (sRet (e2 addD (e2 addD (e2 addD (eCB strG (aCons (eVar 2) aNil)) (eC (.str ":"))) (eCB strG (aCons (e2 (i2c divOk fun i j => .int (i / j)) (eVar 3) (eC (.int 10))) aNil))) (eCB strG (aCons (e2 (i2c modOk fun i j => .int (i % j)) (eVar 3) (eC (.int 10))) aNil)))) ρ
def g_6_3 (ρ : Ro) : Fl := ((sIf (tB2 (fun a b => bD false (eqS a b)) (e2 (i2c modOk fun i j => .int (i % j)) (rD (rCall (n := 2) F_3 [] (gSh (eVar 0) (gSh (eC (.int 0)) gN0)))) (eC (.int 9))) (eC (.int 5))) g_6_1 Fl.nx) ρ).bind g_6_2
def g_6_4 (ρ : Ro) : Fl := ((sSet 3 (e2 (i2c modOk fun i j => .int (i % j)) (rD (rCall (n := 2) F_3 [] (gSh (eVar 0) (gSh (eC (.int 2)) gN0)))) (eC (.int 60)))) ρ).bind g_6_3
def g_6_5 (ρ : Ro) : Fl := ((sSet 2 (e2 ixD (fLst (fDisp (aCons (e2 (i2c modOk fun i j => .int (i % j)) (eVar 1) (e2 (i2c powOk fun i j => .int (i ^ j.toNat)) (eC (.int 10)) (eC (.int 12)))) (aCons (e2 (i2c modOk fun i j => .int (i % j)) (eVar 1) (eC (.int 31))) (aCons (eC (.int 0)) aNil))))) (e2 (i2c modOk fun i j => .int (i % j)) (e2 (i2c divOk fun i j => .int (i / j)) (rD (rCall (n := 2) F_3 [] (gSh (eVar 0) (gSh (eC (.int 0)) gN0)))) (eC (.int 9))) (eC (.int 3))))) ρ).bind g_6_4
def g_6_6 (ρ : Ro) : Fl := ((sSet 1 (rD (rCall (n := 2) F_3 [] (gSh (eVar 0) (gSh (eC (.int 1)) gN0))))) ρ).bind g_6_5
def F_6 : Fn := fnF 4 g_6_6
theorem ok_6 (x : Tx K mg fa fd T) : FnOk P w K mg base (CXE T P w) 2 (fa 6) (fd 6) ["_law_script"] (spD T K 1 F_6) :=
  have hT := x.me
  fn_D x.me x.F6 sc_6 fun cdv A outer s H E hr =>
    (show DSs T false _ _ g_6_6 from dss_cons (ds_set 1 sc_6.nd (DR.de (dr_call (ok_3 x) (hr.mono (by decide)) rfl x.m3 x.F3.kp x.b3 .nil (fun _ => rfl) rfl (dg_sh (de_var 0) (dg_sh de_int dg_nil)))))
      (show DSs T false _ _ g_6_5 from dss_cons (ds_set 2 sc_6.nd (de_ix (DF.de (df_lst (da_cons (de_op od_mod (de_var 1) (de_op od_pow de_int de_int)) (da_cons (de_op od_mod (de_var 1) de_int) (da_cons de_int da_nil))))) (de_op od_mod (de_op od_fdiv (DR.de (dr_call (ok_3 x) (hr.mono (by decide)) rfl x.m3 x.F3.kp x.b3 .nil (fun _ => rfl) rfl (dg_sh (de_var 0) (dg_sh de_int dg_nil)))) de_int) de_int)))
      (show DSs T false _ _ g_6_4 from dss_cons (ds_set 3 sc_6.nd (de_op od_mod (DR.de (dr_call (ok_3 x) (hr.mono (by decide)) rfl x.m3 x.F3.kp x.b3 .nil (fun _ => rfl) rfl (dg_sh (de_var 0) (dg_sh de_int dg_nil)))) de_int))
      (show DSs T false _ _ g_6_3 from dss_cons (ds_if (dt_cmp od_eq (de_op od_mod (DR.de (dr_call (ok_3 x) (hr.mono (by decide)) rfl x.m3 x.F3.kp x.b3 .nil (fun _ => rfl) rfl (dg_sh (de_var 0) (dg_sh de_int dg_nil)))) de_int) de_int (nomark _)) (show DSs T false _ _ g_6_1 from dss_one (ds_set 3 sc_6.nd (de_op od_add de_int (de_op od_mod (de_var 3) de_int)))) dss_nil)
      (show DSs T false _ _ g_6_2 from dss_one (ds_ret (de_op od_add (de_op od_add (de_op od_add (de_callTy cd_str rfl x.n_str rfl (da_cons (de_var 2) da_nil)) de_str) (de_callTy cd_str rfl x.n_str rfl (da_cons (de_op od_fdiv (de_var 3) de_int) da_nil))) (de_callTy cd_str rfl x.n_str rfl (da_cons (de_op od_mod (de_var 3) de_int) da_nil)))))))))
theorem sc_7 : FnScope ["_law_script", "_law_text_here", "_law_mode", "_law_cell", "_law_sign_here", "_law_place"] ["_law_script", "_law_text_here"] (defScope s_7) := ⟨rfl, rfl, rfl, by decide +kernel, rfl, by decide +kernel, by decide +kernel⟩
/-! _law_spoiled(_law_script, _law_text_here): _law_script, _law_text_here, _law_mode, _law_cell, _law_sign_here, _law_place -/
def g_7_1 (ρ : Ro) : Fl := (sSet 4 (rD (rCall (n := 1) F_5 [] (gSh (e2 (i2c divOk fun i j => .int (i / j)) (rD (rCall (n := 2) F_3 [] (gSh (eVar 0) (gSh (eC (.int 4)) gN0)))) (eC (.int 40))) gN0)))) ρ
def g_7_2 (ρ : Ro) : Fl := (sRet (e2 addD (e2 addD (eCutS (eVar 1) oNo (oSo (eVar 5))) (eVar 4)) (eCutS (eVar 1) (oSo (e2 addD (eVar 5) (eC (.int 1)))) oNo))) ρ
def g_7_3 (ρ : Ro) : Fl := (sRet (e2 addD (e2 addD (eCutS (eVar 1) oNo (oSo (eVar 5))) (eVar 4)) (eCutS (eVar 1) (oSo (eVar 5)) oNo))) ρ
def g_7_4 (ρ : Ro) : Fl := (sRet (e2 addD (eCutS (eVar 1) oNo (oSo (eVar 5))) (eCutS (eVar 1) (oSo (e2 addD (eVar 5) (eC (.int 1)))) oNo))) ρ
def g_7_5 (ρ : Ro) : Fl := (sRet (e2 addD (eC (.str "0")) (eVar 1))) ρ
def g_7_6 (ρ : Ro) : Fl := (sRet (eC (.str ""))) ρ
def g_7_7 (ρ : Ro) : Fl := (sRet (eMt isStrD joinG (eC (.str "")) (aCons (fLst (fComp (eLst (fLst (fCut (eLst (eVar 0)) (oSo (eC (.int 5))) (oSo (eC (.int 13)))))) [] (e2 ixD (eC (.str "0123456789:: +-_.aZ6")) (e2 (i2c modOk fun i j => .int (i % j)) (eVar 0) (eC (.int 20)))))) aNil))) ρ
def g_7_8 (ρ : Ro) : Fl := (sRet (e2 addD (eVar 1) (eVar 4))) ρ
def g_7_9 (ρ : Ro) : Fl := (sRet (eVar 1)) ρ
def g_7_10 (ρ : Ro) : Fl := ((sIf (tAndD (tB2 (fun a b => bD false (eqS a b)) (eVar 2) (eC (.int 8))) (tB2 (fun a b => bD false (eqS a b)) (e2 (i2c modOk fun i j => .int (i % j)) (eVar 3) (eC (.int 3))) (eC (.int 0)))) g_7_8 Fl.nx) ρ).bind g_7_9
def g_7_11 (ρ : Ro) : Fl := ((sIf (tB2 (fun a b => bD false (eqS a b)) (eVar 2) (eC (.int 7))) g_7_7 Fl.nx) ρ).bind g_7_10
def g_7_12 (ρ : Ro) : Fl := ((sIf (tB2 (fun a b => bD false (eqS a b)) (eVar 2) (eC (.int 6))) g_7_6 Fl.nx) ρ).bind g_7_11
def g_7_13 (ρ : Ro) : Fl := ((sIf (tB2 (fun a b => bD false (eqS a b)) (eVar 2) (eC (.int 4))) g_7_5 Fl.nx) ρ).bind g_7_12
def g_7_14 (ρ : Ro) : Fl := ((sIf (tB2 (fun a b => bD false (eqS a b)) (eVar 2) (eC (.int 3))) g_7_4 Fl.nx) ρ).bind g_7_13
def g_7_15 (ρ : Ro) : Fl := ((sIf (tB2 (fun a b => bD false (eqS a b)) (eVar 2) (eC (.int 2))) g_7_3 Fl.nx) ρ).bind g_7_14
def g_7_16 (ρ : Ro) : Fl := ((sIf (tB2 (fun a b => bD false (eqS a b)) (eVar 2) (eC (.int 1))) g_7_2 Fl.nx) ρ).bind g_7_15
def g_7_17 (ρ : Ro) : Fl := ((sSet 5 (e2 (i2c modOk fun i j => .int (i % j)) (eVar 3) (eCB lenG (aCons (eVar 1) aNil)))) ρ).bind g_7_16
def g_7_18 (ρ : Ro) : Fl := ((sIf (tB2 (fun a b => bD false (eqS a b)) (e2 (i2c modOk fun i j => .int (i % j)) (e2 (i2c divOk fun i j => .int (i / j)) (rD (rCall (n := 2) F_3 [] (gSh (eVar 0) (gSh (eC (.int 4)) gN0)))) (eC (.int 20))) (eC (.int 2))) (eC (.int 1))) g_7_1 Fl.nx) ρ).bind g_7_17
def g_7_19 (ρ : Ro) : Fl := ((sSet 4 (e2 ixD (eC (.str "0123456789:: +-_.aZ6")) (e2 (i2c modOk fun i j => .int (i % j)) (rD (rCall (n := 2) F_3 [] (gSh (eVar 0) (gSh (eC (.int 4)) gN0)))) (eC (.int 20))))) ρ).bind g_7_18
def g_7_20 (ρ : Ro) : Fl := ((sSet 3 (rD (rCall (n := 2) F_3 [] (gSh (eVar 0) (gSh (eC (.int 3)) gN0))))) ρ).bind g_7_19
def g_7_21 (ρ : Ro) : Fl := ((sSet 2 (e2 (i2c modOk fun i j => .int (i % j)) (rD (rCall (n := 2) F_3 [] (gSh (eVar 0) (gSh (eC (.int 0)) gN0)))) (eC (.int 9)))) ρ).bind g_7_20
def F_7 : Fn := fnF 6 g_7_21
theorem ok_7 (x : Tx K mg fa fd T) : FnOk P w K mg base (CXE T P w) 2 (fa 7) (fd 7) ["_law_script", "_law_text_here"] (spD T K 2 F_7) :=
  have hT := x.me
  fn_D x.me x.F7 sc_7 fun cdv A outer s H E hr =>
    (show DSs T false _ _ g_7_21 from dss_cons (ds_set 2 sc_7.nd (de_op od_mod (DR.de (dr_call (ok_3 x) (hr.mono (by decide)) rfl x.m3 x.F3.kp x.b3 .nil (fun _ => rfl) rfl (dg_sh (de_var 0) (dg_sh de_int dg_nil)))) de_int))
      (show DSs T false _ _ g_7_20 from dss_cons (ds_set 3 sc_7.nd (DR.de (dr_call (ok_3 x) (hr.mono (by decide)) rfl x.m3 x.F3.kp x.b3 .nil (fun _ => rfl) rfl (dg_sh (de_var 0) (dg_sh de_int dg_nil)))))
      (show DSs T false _ _ g_7_19 from dss_cons (ds_set 4 sc_7.nd (de_ix de_str (de_op od_mod (DR.de (dr_call (ok_3 x) (hr.mono (by decide)) rfl x.m3 x.F3.kp x.b3 .nil (fun _ => rfl) rfl (dg_sh (de_var 0) (dg_sh de_int dg_nil)))) de_int)))
      (show DSs T false _ _ g_7_18 from dss_cons (ds_if (dt_cmp od_eq (de_op od_mod (de_op od_fdiv (DR.de (dr_call (ok_3 x) (hr.mono (by decide)) rfl x.m3 x.F3.kp x.b3 .nil (fun _ => rfl) rfl (dg_sh (de_var 0) (dg_sh de_int dg_nil)))) de_int) de_int) de_int (nomark _)) (show DSs T false _ _ g_7_1 from dss_one (ds_set 4 sc_7.nd (DR.de (dr_call (ok_5 x) (hr.mono (by decide)) rfl x.m5 x.F5.kp x.b5 .nil (fun _ => rfl) rfl (dg_sh (de_op od_fdiv (DR.de (dr_call (ok_3 x) (hr.mono (by decide)) rfl x.m3 x.F3.kp x.b3 .nil (fun _ => rfl) rfl (dg_sh (de_var 0) (dg_sh de_int dg_nil)))) de_int) dg_nil))))) dss_nil)
      (show DSs T false _ _ g_7_17 from dss_cons (ds_set 5 sc_7.nd (de_op od_mod (de_var 3) (de_callB cd_len rfl x.n_len rfl (da_cons (de_var 1) da_nil))))
      (show DSs T false _ _ g_7_16 from dss_cons (ds_if (dt_cmp od_eq (de_var 2) de_int (nomark _)) (show DSs T false _ _ g_7_2 from dss_one (ds_ret (de_op od_add (de_op od_add (de_cutS (de_var 1) do_no (do_so (de_var 5))) (de_var 4)) (de_cutS (de_var 1) (do_so (de_op od_add (de_var 5) de_int)) do_no)))) dss_nil)
      (show DSs T false _ _ g_7_15 from dss_cons (ds_if (dt_cmp od_eq (de_var 2) de_int (nomark _)) (show DSs T false _ _ g_7_3 from dss_one (ds_ret (de_op od_add (de_op od_add (de_cutS (de_var 1) do_no (do_so (de_var 5))) (de_var 4)) (de_cutS (de_var 1) (do_so (de_var 5)) do_no)))) dss_nil)
      (show DSs T false _ _ g_7_14 from dss_cons (ds_if (dt_cmp od_eq (de_var 2) de_int (nomark _)) (show DSs T false _ _ g_7_4 from dss_one (ds_ret (de_op od_add (de_cutS (de_var 1) do_no (do_so (de_var 5))) (de_cutS (de_var 1) (do_so (de_op od_add (de_var 5) de_int)) do_no)))) dss_nil)
      (show DSs T false _ _ g_7_13 from dss_cons (ds_if (dt_cmp od_eq (de_var 2) de_int (nomark _)) (show DSs T false _ _ g_7_5 from dss_one (ds_ret (de_op od_add de_str (de_var 1)))) dss_nil)
      (show DSs T false _ _ g_7_12 from dss_cons (ds_if (dt_cmp od_eq (de_var 2) de_int (nomark _)) (show DSs T false _ _ g_7_6 from dss_one (ds_ret de_str)) dss_nil)
      (show DSs T false _ _ g_7_11 from dss_cons (ds_if (dt_cmp od_eq (de_var 2) de_int (nomark _)) (show DSs T false _ _ g_7_7 from dss_one (ds_ret (de_mtS md_join PySem.F.slot_str_join PySem.F.type_str_join de_str (da_cons (DF.de (df_comp hT rfl (di_list (DE.dp (DF.de (df_cut (DE.dl (de_var 0)) (do_so de_int) (do_so de_int))))) cap0 (fun cl C s₀ H₀ ex => (de_ix de_str (de_op od_mod (de_var 0) de_int))))) da_nil)))) dss_nil)
      (show DSs T false _ _ g_7_10 from dss_cons (ds_if (DW.dt (dw_and (dt_cmp od_eq (de_var 2) de_int (nomark _)) (dw_and1 (dt_cmp od_eq (de_op od_mod (de_var 3) de_int) de_int (nomark _))))) (show DSs T false _ _ g_7_8 from dss_one (ds_ret (de_op od_add (de_var 1) (de_var 4)))) dss_nil)
      (show DSs T false _ _ g_7_9 from dss_one (ds_ret (de_var 1)))))))))))))))
theorem sc_8 : FnScope ["_law_text_here", "_law_parts", "_law_hours", "_law_sign_here"] ["_law_text_here"] (defScope s_8) := ⟨rfl, rfl, rfl, by decide +kernel, rfl, by decide +kernel, by decide +kernel⟩
/-! _law_due(_law_text_here): _law_text_here, _law_parts, _law_hours, _law_sign_here -/
def g_8_1 (ρ : Ro) : Fl := (sRet (eNeg (eC (.int 1)))) ρ
def g_8_2 (ρ : Ro) : Fl := (sRet (eNeg (eC (.int 1)))) ρ
def g_8_3 (ρ : Ro) : Fl := (sRet (eNeg (eC (.int 1)))) ρ
def g_8_4 (ρ : Ro) : Fl := (sSet 2 (e2 addD (e2 (i2c mulOk fun i j => .int (i * j)) (eC (.int 10)) (eVar 2)) (eMt isStrD indexG (eC (.str "0123456789")) (aCons (eVar 3) aNil)))) ρ
def g_8_5 (ρ : Ro) : Fl := ((sIf (tB2 (inD true) (eVar 3) (eC (.str "0123456789"))) g_8_3 Fl.nx) ρ).bind g_8_4
def g_8_6 (ρ : Ro) : Fl := (sRet (eNeg (eC (.int 1)))) ρ
def g_8_7 (ρ : Ro) : Fl := (sRet (e2 addD (e2 addD (e2 (i2c mulOk fun i j => .int (i * j)) (eC (.int 60)) (eVar 2)) (e2 (i2c mulOk fun i j => .int (i * j)) (eC (.int 10)) (eMt isStrD indexG (eC (.str "012345")) (aCons (e2 ixD (e2 ixD (eVar 1) (eC (.int 1))) (eC (.int 0))) aNil)))) (eMt isStrD indexG (eC (.str "0123456789")) (aCons (e2 ixD (e2 ixD (eVar 1) (eC (.int 1))) (eC (.int 1))) aNil)))) ρ
def g_8_8 (ρ : Ro) : Fl := ((sIf (tOrD (tB2 (inD true) (e2 ixD (e2 ixD (eVar 1) (eC (.int 1))) (eC (.int 0))) (eC (.str "012345"))) (tB2 (inD true) (e2 ixD (e2 ixD (eVar 1) (eC (.int 1))) (eC (.int 1))) (eC (.str "0123456789")))) g_8_6 Fl.nx) ρ).bind g_8_7
def g_8_9 (ρ : Ro) : Fl := ((sFor (eSgn (e2 ixD (eVar 1) (eC (.int 0)))) (gSet 3) g_8_5) ρ).bind g_8_8
def g_8_10 (ρ : Ro) : Fl := ((sSet 2 (eC (.int 0))) ρ).bind g_8_9
def g_8_11 (ρ : Ro) : Fl := ((sIf (tAndD (tB2 (fun a b => bD false (eqS a b)) (e2 ixD (e2 ixD (eVar 1) (eC (.int 0))) (eC (.int 0))) (eC (.str "0"))) (tB2 (i2 fun i j => .bl (decide (j < i))) (eCB lenG (aCons (e2 ixD (eVar 1) (eC (.int 0))) aNil)) (eC (.int 1)))) g_8_2 Fl.nx) ρ).bind g_8_10
def g_8_12 (ρ : Ro) : Fl := ((sIf (tOrD (tB2 (fun a b => bD true (eqS a b)) (eCB lenG (aCons (eVar 1) aNil)) (eC (.int 2))) (tOrD (tB2 (fun a b => bD false (eqS a b)) (e2 ixD (eVar 1) (eC (.int 0))) (eC (.str ""))) (tB2 (fun a b => bD true (eqS a b)) (eCB lenG (aCons (e2 ixD (eVar 1) (eC (.int 1))) aNil)) (eC (.int 2))))) g_8_1 Fl.nx) ρ).bind g_8_11
def g_8_13 (ρ : Ro) : Fl := ((sSet 1 (fLst (fSplit (eVar 0) (eC (.str ":"))))) ρ).bind g_8_12
def F_8 : Fn := fnF 4 g_8_13
theorem ok_8 (x : Tx K mg fa fd T) : FnOk P w K mg base (CXE T P w) 1 (fa 8) (fd 8) ["_law_text_here"] (spD T K 1 F_8) :=
  have hT := x.me
  fn_D x.me x.F8 sc_8 fun cdv A outer s H E hr =>
    (show DSs T false _ _ g_8_13 from dss_cons (ds_set 1 sc_8.nd (DF.de (df_split (de_var 0) de_str)))
      (show DSs T false _ _ g_8_12 from dss_cons (ds_if (DW.dt (dw_or (dt_cmp od_ne (de_callB cd_len rfl x.n_len rfl (da_cons (de_var 1) da_nil)) de_int (nomark _)) (dw_or (dt_cmp od_eq (de_ix (de_var 1) de_int) de_str (nomark _)) (dw_or1 (dt_cmp od_ne (de_callB cd_len rfl x.n_len rfl (da_cons (de_ix (de_var 1) de_int) da_nil)) de_int (nomark _)))))) (show DSs T false _ _ g_8_1 from dss_one (ds_ret (de_neg de_int))) dss_nil)
      (show DSs T false _ _ g_8_11 from dss_cons (ds_if (DW.dt (dw_and (dt_cmp od_eq (de_ix (de_ix (de_var 1) de_int) de_int) de_str (nomark _)) (dw_and1 (dt_cmp od_gt (de_callB cd_len rfl x.n_len rfl (da_cons (de_ix (de_var 1) de_int) da_nil)) de_int (nomark _))))) (show DSs T false _ _ g_8_2 from dss_one (ds_ret (de_neg de_int))) dss_nil)
      (show DSs T false _ _ g_8_10 from dss_cons (ds_set 2 sc_8.nd de_int)
      (show DSs T false _ _ g_8_9 from dss_cons (ds_forI rfl (di_str (de_ix (de_var 1) de_int)) (tg_name 3 sc_8.nd) (show DSs T false _ _ g_8_5 from dss_cons (ds_if (dt_cmp od_notIn (de_var 3) de_str rfl) (show DSs T false _ _ g_8_3 from dss_one (ds_ret (de_neg de_int))) dss_nil)
      (show DSs T false _ _ g_8_4 from dss_one (ds_set 2 sc_8.nd (de_op od_add (de_op od_mul de_int (de_var 2)) (de_mtS (md_index rfl) PySem.F.slot_str_index PySem.F.type_str_index de_str (da_cons (de_var 3) da_nil)))))))
      (show DSs T false _ _ g_8_8 from dss_cons (ds_if (DW.dt (dw_or (dt_cmp od_notIn (de_ix (de_ix (de_var 1) de_int) de_int) de_str rfl) (dw_or1 (dt_cmp od_notIn (de_ix (de_ix (de_var 1) de_int) de_int) de_str rfl)))) (show DSs T false _ _ g_8_6 from dss_one (ds_ret (de_neg de_int))) dss_nil)
      (show DSs T false _ _ g_8_7 from dss_one (ds_ret (de_op od_add (de_op od_add (de_op od_mul de_int (de_var 2)) (de_op od_mul de_int (de_mtS (md_index rfl) PySem.F.slot_str_index PySem.F.type_str_index de_str (da_cons (de_ix (de_ix (de_var 1) de_int) de_int) da_nil)))) (de_mtS (md_index rfl) PySem.F.slot_str_index PySem.F.type_str_index de_str (da_cons (de_ix (de_ix (de_var 1) de_int) de_int) da_nil)))))))))))
theorem sc_9 : FnScope ["_law_text_here", "e", "_law_fine"] ["_law_text_here"] (defScope s_9) := ⟨rfl, rfl, rfl, by decide +kernel, rfl, by decide +kernel, by decide +kernel⟩
/-! _law_asked(_law_text_here): _law_text_here, e, _law_fine -/
def g_9_1 (ρ : Ro) : Fl := (sRet (eTup (aCons (eC (.str "told")) (aCons (rD (rCall (n := 1) F_2 [] (gSh (eVar 0) gN0))) aNil)))) ρ
def g_9_2 (ρ : Ro) : Fl := (sSet 2 (eAndD (eIsi (g_exc [1]) (eVar 1)) (eIsi (g_exc [0, 1]) (eVar 1)))) ρ
def g_9_3 (ρ : Ro) : Fl := (sRet (eTup (aCons (eC (.str "refused")) (aCons (eVar 2) aNil)))) ρ
def g_9_4 (ρ : Ro) : Fl := ((sTry g_9_1 (hConsAs 1 (fun c => List.lookup c [(0, true), (1, true)]) g_9_2 (fun _ _ => .bad))) ρ).bind g_9_3
def F_9 : Fn := fnF 3 g_9_4
theorem ok_9 (x : Tx K mg fa fd T) : FnOk P w K mg base (CXE T P w) 3 (fa 9) (fd 9) ["_law_text_here"] (spD T K 1 F_9) :=
  have hT := x.me
  fn_D x.me x.F9 sc_9 fun cdv A outer s H E hr =>
    (show DSs T false _ _ g_9_4 from dss_cons (ds_try rfl rfl (fun pn => (show DSs T false _ _ g_9_1 from dss_one (ds_ret (de_tup (da_cons de_str (da_cons (DR.de (dr_call (ok_2 x) (hr.mono (by decide)) rfl x.m2 x.F2.kp x.b2 .nil (fun _ => rfl) rfl (dg_sh (de_var 0) dg_nil))) da_nil)))))) (dh_consAs (k := 0) (m := fun c => List.lookup c [(0, true), (1, true)]) 1 sc_9.nd rfl x.mC0 (hdec_of (List.forall_mem_cons.mpr ⟨x.exm0_0, List.forall_mem_cons.mpr ⟨x.exm1_0, List.forall_mem_nil _⟩⟩)) (fun u => (show DSs T false _ _ g_9_2 from dss_one (ds_set 2 sc_9.nd (de_and (de_isiC rfl x.n_isinstance (de_var 1) rfl x.mC1 (isi_exc (cs := [1]) (List.forall_mem_cons.mpr ⟨x.kit1_1, List.forall_mem_nil _⟩)) (isi_exc_ne _)) (de_one (de_isiB rfl x.n_isinstance (de_var 1) rfl x.n_ValueError rfl (isi_exc (cs := [0, 1]) (List.forall_mem_cons.mpr ⟨x.kitV0, List.forall_mem_cons.mpr ⟨x.kitV1, List.forall_mem_nil _⟩⟩)) (isi_exc_ne _))))))) dh_nil))
      (show DSs T false _ _ g_9_3 from dss_one (ds_ret (de_tup (da_cons de_str (da_cons (de_var 2) da_nil))))))
theorem sc_10 : FnScope ["_law_script", "_law_text_here", "_law_due_here", "_law_word", "_law_found"] ["_law_script"] (defScope s_10) := ⟨rfl, rfl, rfl, by decide +kernel, rfl, by decide +kernel, by decide +kernel⟩
/-! law(_law_script): _law_script, _law_text_here, _law_due_here, _law_word, _law_found -/
def g_10_1 (ρ : Ro) : Fl := (sRet (eAndD (e2 (fun a b => bD false (eqS a b)) (eVar 3) (eC (.str "refused"))) (e2 (isD false) (eVar 4) (eC (.bl true))))) ρ
def g_10_2 (ρ : Ro) : Fl := (sRet (eAndD (e2 (fun a b => bD false (eqS a b)) (eVar 3) (eC (.str "told"))) (rD (rCall (n := 2) F_4 [] (gSh (eVar 4) (gSh (eVar 2) gN0)))))) ρ
def g_10_3 (ρ : Ro) : Fl := ((sIf (tB2 (i2 fun i j => .bl (decide (i < j))) (eVar 2) (eC (.int 0))) g_10_1 Fl.nx) ρ).bind g_10_2
def g_10_4 (ρ : Ro) : Fl := ((sUnp [3, 4] (rD (rCall (n := 1) F_9 [] (gSh (eVar 1) gN0)))) ρ).bind g_10_3
def g_10_5 (ρ : Ro) : Fl := ((sSet 2 (rD (rCall (n := 1) F_8 [] (gSh (eVar 1) gN0)))) ρ).bind g_10_4
def g_10_6 (ρ : Ro) : Fl := ((sSet 1 (rD (rCall (n := 2) F_7 [] (gSh (eVar 0) (gSh (rD (rCall (n := 1) F_6 [] (gSh (eVar 0) gN0))) gN0))))) ρ).bind g_10_5
def F_10 : Fn := fnF 5 g_10_6
theorem ok_10 (x : Tx K mg fa fd T) : FnOk P w K mg base (CXE T P w) 4 (fa 10) (fd 10) ["_law_script"] (spD T K 1 F_10) :=
  have hT := x.me
  fn_D x.me x.F10 sc_10 fun cdv A outer s H E hr =>
    (show DSs T false _ _ g_10_6 from dss_cons (ds_set 1 sc_10.nd (DR.de (dr_call (ok_7 x) (hr.mono (by decide)) rfl x.m7 x.F7.kp x.b7 .nil (fun _ => rfl) rfl (dg_sh (de_var 0) (dg_sh (DR.de (dr_call (ok_6 x) (hr.mono (by decide)) rfl x.m6 x.F6.kp x.b6 .nil (fun _ => rfl) rfl (dg_sh (de_var 0) dg_nil))) dg_nil)))))
      (show DSs T false _ _ g_10_5 from dss_cons (ds_set 2 sc_10.nd (DR.de (dr_call (ok_8 x) (hr.mono (by decide)) rfl x.m8 x.F8.kp x.b8 .nil (fun _ => rfl) rfl (dg_sh (de_var 1) dg_nil))))
      (show DSs T false _ _ g_10_4 from dss_cons (ds_unp (DR.de (dr_call (ok_9 x) (hr.mono (by decide)) rfl x.m9 x.F9.kp x.b9 .nil (fun _ => rfl) rfl (dg_sh (de_var 1) dg_nil))) (tg_unp rfl (tgs_cons 3 sc_10.nd (tgs_cons 4 sc_10.nd tgs_nil))))
      (show DSs T false _ _ g_10_3 from dss_cons (ds_if (dt_cmp od_lt (de_var 2) de_int (nomark _)) (show DSs T false _ _ g_10_1 from dss_one (ds_ret (de_and (de_cmp od_eq (de_var 3) de_str (nomark _)) (de_one (de_cmp od_is (de_var 4) de_bl (nomark _)))))) dss_nil)
      (show DSs T false _ _ g_10_2 from dss_one (ds_ret (de_and (de_cmp od_eq (de_var 3) de_str (nomark _)) (de_one (DR.de (dr_call (ok_4 x) (hr.mono (by decide)) rfl x.m4 x.F4.kp x.b4 .nil (fun _ => rfl) rfl (dg_sh (de_var 4) (dg_sh (de_var 2) dg_nil))))))))))))
end
theorem all_mk {l : PySem.W.OpenLaw} {w : World} {K : PySem.W.Frag} {h : Heap} {mg : Str → Option Value} {fa : Addr} {f0 f1 f2 f3 f4 f5 f6 f7 f8 f9 f10 C0 C1 : Addr} (X : K.In h) (G : h.Ns mainGlobals mg) (hfa : mg "law" = some (.ref fa))
    {od0 an0 : Option Addr} {sl0 : Array (Option Value)} {oc0 kV0 dc0 pm0 cd0 ct0 : Value}
    {od1 an1 : Option Addr} {sl1 : Array (Option Value)} {oc1 kV1 dc1 pm1 cd1 ct1 : Value}
    {od2 an2 : Option Addr} {sl2 : Array (Option Value)} {oc2 kV2 dc2 pm2 cd2 ct2 : Value}
    {od3 an3 : Option Addr} {sl3 : Array (Option Value)} {oc3 kV3 dc3 pm3 cd3 ct3 : Value}
    {od4 an4 : Option Addr} {sl4 : Array (Option Value)} {oc4 kV4 dc4 pm4 cd4 ct4 : Value}
    {od5 an5 : Option Addr} {sl5 : Array (Option Value)} {oc5 kV5 dc5 pm5 cd5 ct5 : Value}
    {od6 an6 : Option Addr} {sl6 : Array (Option Value)} {oc6 kV6 dc6 pm6 cd6 ct6 : Value}
    {od7 an7 : Option Addr} {sl7 : Array (Option Value)} {oc7 kV7 dc7 pm7 cd7 ct7 : Value}
    {od8 an8 : Option Addr} {sl8 : Array (Option Value)} {oc8 kV8 dc8 pm8 cd8 ct8 : Value}
    {od9 an9 : Option Addr} {sl9 : Array (Option Value)} {oc9 kV9 dc9 pm9 cd9 ct9 : Value}
    {od10 an10 : Option Addr} {sl10 : Array (Option Value)} {oc10 kV10 dc10 pm10 cd10 ct10 : Value}
    {t_FIGURES : Tok}
    {t_HOUR : Tok}
    (aC0 : PySem.W.nsIn K mainGlobals "DoughError" = some (some (.ref C0)))
    (aC1 : PySem.W.nsIn K mainGlobals "BadTime" = some (some (.ref C1)))
    (a0 : PySem.W.nsIn K mainGlobals "clock" = some (some (.ref f0)))
    (l0 : K.lookup f0 = some ⟨oc0, od0, .func (PySem.W.fnOf "clock" "clock" (defArgs s_0) (defBody s_0) (defScope s_0) .none kV0 dc0 pm0 an0 cd0 ct0), sl0⟩)
    (c0 : PySem.W.codeIn K cd0 "clock" = true)
    (k0 : PySem.W.keepIn K (.ref f0) = true)
    (a1 : PySem.W.nsIn K mainGlobals "is_figures" = some (some (.ref f1)))
    (l1 : K.lookup f1 = some ⟨oc1, od1, .func (PySem.W.fnOf "is_figures" "is_figures" (defArgs s_1) (defBody s_1) (defScope s_1) .none kV1 dc1 pm1 an1 cd1 ct1), sl1⟩)
    (c1 : PySem.W.codeIn K cd1 "is_figures" = true)
    (k1 : PySem.W.keepIn K (.ref f1) = true)
    (a2 : PySem.W.nsIn K mainGlobals "minute_of" = some (some (.ref f2)))
    (l2 : K.lookup f2 = some ⟨oc2, od2, .func (PySem.W.fnOf "minute_of" "minute_of" (defArgs s_2) (defBody s_2) (defScope s_2) .none kV2 dc2 pm2 an2 cd2 ct2), sl2⟩)
    (c2 : PySem.W.codeIn K cd2 "minute_of" = true)
    (k2 : PySem.W.keepIn K (.ref f2) = true)
    (a3 : PySem.W.nsIn K mainGlobals "_law_at" = some (some (.ref f3)))
    (l3 : K.lookup f3 = some ⟨oc3, od3, .func (PySem.W.fnOf "_law_at" "_law_at" (defArgs s_3) (defBody s_3) (defScope s_3) .none kV3 dc3 pm3 an3 cd3 ct3), sl3⟩)
    (c3 : PySem.W.codeIn K cd3 "_law_at" = true)
    (k3 : PySem.W.keepIn K (.ref f3) = true)
    (a4 : PySem.W.nsIn K mainGlobals "_law_is" = some (some (.ref f4)))
    (l4 : K.lookup f4 = some ⟨oc4, od4, .func (PySem.W.fnOf "_law_is" "_law_is" (defArgs s_4) (defBody s_4) (defScope s_4) .none kV4 dc4 pm4 an4 cd4 ct4), sl4⟩)
    (c4 : PySem.W.codeIn K cd4 "_law_is" = true)
    (k4 : PySem.W.keepIn K (.ref f4) = true)
    (a5 : PySem.W.nsIn K mainGlobals "_law_sign" = some (some (.ref f5)))
    (l5 : K.lookup f5 = some ⟨oc5, od5, .func (PySem.W.fnOf "_law_sign" "_law_sign" (defArgs s_5) (defBody s_5) (defScope s_5) .none kV5 dc5 pm5 an5 cd5 ct5), sl5⟩)
    (c5 : PySem.W.codeIn K cd5 "_law_sign" = true)
    (k5 : PySem.W.keepIn K (.ref f5) = true)
    (a6 : PySem.W.nsIn K mainGlobals "_law_text" = some (some (.ref f6)))
    (l6 : K.lookup f6 = some ⟨oc6, od6, .func (PySem.W.fnOf "_law_text" "_law_text" (defArgs s_6) (defBody s_6) (defScope s_6) .none kV6 dc6 pm6 an6 cd6 ct6), sl6⟩)
    (c6 : PySem.W.codeIn K cd6 "_law_text" = true)
    (k6 : PySem.W.keepIn K (.ref f6) = true)
    (a7 : PySem.W.nsIn K mainGlobals "_law_spoiled" = some (some (.ref f7)))
    (l7 : K.lookup f7 = some ⟨oc7, od7, .func (PySem.W.fnOf "_law_spoiled" "_law_spoiled" (defArgs s_7) (defBody s_7) (defScope s_7) .none kV7 dc7 pm7 an7 cd7 ct7), sl7⟩)
    (c7 : PySem.W.codeIn K cd7 "_law_spoiled" = true)
    (k7 : PySem.W.keepIn K (.ref f7) = true)
    (a8 : PySem.W.nsIn K mainGlobals "_law_due" = some (some (.ref f8)))
    (l8 : K.lookup f8 = some ⟨oc8, od8, .func (PySem.W.fnOf "_law_due" "_law_due" (defArgs s_8) (defBody s_8) (defScope s_8) .none kV8 dc8 pm8 an8 cd8 ct8), sl8⟩)
    (c8 : PySem.W.codeIn K cd8 "_law_due" = true)
    (k8 : PySem.W.keepIn K (.ref f8) = true)
    (a9 : PySem.W.nsIn K mainGlobals "_law_asked" = some (some (.ref f9)))
    (l9 : K.lookup f9 = some ⟨oc9, od9, .func (PySem.W.fnOf "_law_asked" "_law_asked" (defArgs s_9) (defBody s_9) (defScope s_9) .none kV9 dc9 pm9 an9 cd9 ct9), sl9⟩)
    (c9 : PySem.W.codeIn K cd9 "_law_asked" = true)
    (k9 : PySem.W.keepIn K (.ref f9) = true)
    (a10 : PySem.W.nsIn K mainGlobals "law" = some (some (.ref f10)))
    (l10 : K.lookup f10 = some ⟨oc10, od10, .func (PySem.W.fnOf "law" "law" (defArgs s_10) (defBody s_10) (defScope s_10) .none kV10 dc10 pm10 an10 cd10 ct10), sl10⟩)
    (c10 : PySem.W.codeIn K cd10 "law" = true)
    (k10 : PySem.W.keepIn K (.ref f10) = true)
    (xc0 : PySem.W.excIn K C0 veMro "ValueError.__new__" = true)
    (xc1 : PySem.W.excIn K C1 veMro "ValueError.__new__" = true)
    (exm0_0 : PySem.W.exmOne K (.ref C0) (.ref C0) = some true)
    (exm1_0 : PySem.W.exmOne K (.ref C1) (.ref C0) = some true)
    (kit1_1 : PySem.W.kitOne K (.ref C1) (.ref C1) = some true)
    (kitV0 : PySem.W.kitOne K (.ref C0) (.type "ValueError") = some true)
    (kitV1 : PySem.W.kitOne K (.ref C1) (.type "ValueError") = some true)
    (cc_FIGURES : PySem.W.nsIn K mainGlobals "FIGURES" = some (some (.str "0123456789" t_FIGURES)))
    (cc_HOUR : PySem.W.nsIn K mainGlobals "HOUR" = some (some (.int 60 t_HOUR)))
    (z_ValueError : PySem.W.nsIn K mainGlobals "ValueError" = some none)
    (z_all : PySem.W.nsIn K mainGlobals "all" = some none)
    (z_bool : PySem.W.nsIn K mainGlobals "bool" = some none)
    (z_int : PySem.W.nsIn K mainGlobals "int" = some none)
    (z_isinstance : PySem.W.nsIn K mainGlobals "isinstance" = some none)
    (z_len : PySem.W.nsIn K mainGlobals "len" = some none)
    (z_str : PySem.W.nsIn K mainGlobals "str" = some none)
    : ∃ fd : FuncData, (∀ (s : Shared) (v : Value), BindsTo s fd ⟨[v], []⟩ [("_law_script", v)]) ∧ ∃ T : Tb, ∀ base : Heap, K.In base → base.Ns mainGlobals mg → FnOk l.prog w K mg base (CXE T l.prog w) 4 fa fd ["_law_script"] (spD T K 1 F_10) := by
  have e := hfa.symm.trans (PySem.W.mg_of X G a10)
  cases e
  have F0 := fun_mk (st := s_0) l0 c0 k0
  have F1 := fun_mk (st := s_1) l1 c1 k1
  have F2 := fun_mk (st := s_2) l2 c2 k2
  have F3 := fun_mk (st := s_3) l3 c3 k3
  have F4 := fun_mk (st := s_4) l4 c4 k4
  have F5 := fun_mk (st := s_5) l5 c5 k5
  have F6 := fun_mk (st := s_6) l6 c6 k6
  have F7 := fun_mk (st := s_7) l7 c7 k7
  have F8 := fun_mk (st := s_8) l8 c8 k8
  have F9 := fun_mk (st := s_9) l9 c9 k9
  have F10 := fun_mk (st := s_10) l10 c10 k10
  refine ⟨PySem.W.fnOf "law" "law" (defArgs s_10) (defBody s_10) (defScope s_10) .none kV10 dc10 pm10 an10 cd10 ct10, fun s v => .of_eq rfl, ⟨fun i => ([C0, C1] : List Addr).getD i 0, fun a => [], none⟩, fun base _ _ => ok_10 (fa := fun i => ([f0, f1, f2, f3, f4, f5, f6, f7, f8, f9, fa] : List Addr).getD i 0) (fd := fun i => ([PySem.W.fnOf "clock" "clock" (defArgs s_0) (defBody s_0) (defScope s_0) .none kV0 dc0 pm0 an0 cd0 ct0, PySem.W.fnOf "is_figures" "is_figures" (defArgs s_1) (defBody s_1) (defScope s_1) .none kV1 dc1 pm1 an1 cd1 ct1, PySem.W.fnOf "minute_of" "minute_of" (defArgs s_2) (defBody s_2) (defScope s_2) .none kV2 dc2 pm2 an2 cd2 ct2, PySem.W.fnOf "_law_at" "_law_at" (defArgs s_3) (defBody s_3) (defScope s_3) .none kV3 dc3 pm3 an3 cd3 ct3, PySem.W.fnOf "_law_is" "_law_is" (defArgs s_4) (defBody s_4) (defScope s_4) .none kV4 dc4 pm4 an4 cd4 ct4, PySem.W.fnOf "_law_sign" "_law_sign" (defArgs s_5) (defBody s_5) (defScope s_5) .none kV5 dc5 pm5 an5 cd5 ct5, PySem.W.fnOf "_law_text" "_law_text" (defArgs s_6) (defBody s_6) (defScope s_6) .none kV6 dc6 pm6 an6 cd6 ct6, PySem.W.fnOf "_law_spoiled" "_law_spoiled" (defArgs s_7) (defBody s_7) (defScope s_7) .none kV7 dc7 pm7 an7 cd7 ct7, PySem.W.fnOf "_law_due" "_law_due" (defArgs s_8) (defBody s_8) (defScope s_8) .none kV8 dc8 pm8 an8 cd8 ct8, PySem.W.fnOf "_law_asked" "_law_asked" (defArgs s_9) (defBody s_9) (defScope s_9) .none kV9 dc9 pm9 an9 cd9 ct9, PySem.W.fnOf "law" "law" (defArgs s_10) (defBody s_10) (defScope s_10) .none kV10 dc10 pm10 an10 cd10 ct10] : List FuncData).getD i (PySem.W.fnOf "law" "law" (defArgs s_10) (defBody s_10) (defScope s_10) .none kV10 dc10 pm10 an10 cd10 ct10)) ?_⟩
  exact {
    me := rfl
    F0 := F0
    b0 := F0.binds fun _ _ _ _ _ _ us hl => match us, hl with | [_], _ => rfl
    m0 := PySem.W.mg_of X G a0
    F1 := F1
    b1 := F1.binds fun _ _ _ _ _ _ us hl => match us, hl with | [_], _ => rfl
    m1 := PySem.W.mg_of X G a1
    F2 := F2
    b2 := F2.binds fun _ _ _ _ _ _ us hl => match us, hl with | [_], _ => rfl
    m2 := PySem.W.mg_of X G a2
    F3 := F3
    b3 := F3.binds fun _ _ _ _ _ _ us hl => match us, hl with | [_, _], _ => rfl
    m3 := PySem.W.mg_of X G a3
    F4 := F4
    b4 := F4.binds fun _ _ _ _ _ _ us hl => match us, hl with | [_, _], _ => rfl
    m4 := PySem.W.mg_of X G a4
    F5 := F5
    b5 := F5.binds fun _ _ _ _ _ _ us hl => match us, hl with | [_], _ => rfl
    m5 := PySem.W.mg_of X G a5
    F6 := F6
    b6 := F6.binds fun _ _ _ _ _ _ us hl => match us, hl with | [_], _ => rfl
    m6 := PySem.W.mg_of X G a6
    F7 := F7
    b7 := F7.binds fun _ _ _ _ _ _ us hl => match us, hl with | [_, _], _ => rfl
    m7 := PySem.W.mg_of X G a7
    F8 := F8
    b8 := F8.binds fun _ _ _ _ _ _ us hl => match us, hl with | [_], _ => rfl
    m8 := PySem.W.mg_of X G a8
    F9 := F9
    b9 := F9.binds fun _ _ _ _ _ _ us hl => match us, hl with | [_], _ => rfl
    m9 := PySem.W.mg_of X G a9
    F10 := F10
    b10 := F10.binds fun _ _ _ _ _ _ us hl => match us, hl with | [_], _ => rfl
    m10 := PySem.W.mg_of X G a10
    mC0 := PySem.W.mg_of X G aC0
    xc0 := xc0
    mC1 := PySem.W.mg_of X G aC1
    xc1 := xc1
    exm0_0 := exm0_0
    exm1_0 := exm1_0
    kit1_1 := kit1_1
    kitV0 := kitV0
    kitV1 := kitV1
    c_FIGURES := ⟨_, PySem.W.mg_of X G cc_FIGURES⟩
    c_HOUR := ⟨_, PySem.W.mg_of X G cc_HOUR⟩
    n_ValueError := PySem.W.mg_none_of X G z_ValueError
    n_all := PySem.W.mg_none_of X G z_all
    n_bool := PySem.W.mg_none_of X G z_bool
    n_int := PySem.W.mg_none_of X G z_int
    n_isinstance := PySem.W.mg_none_of X G z_isinstance
    n_len := PySem.W.mg_none_of X G z_len
    n_str := PySem.W.mg_none_of X G z_str
  }
end Lw

open PySem L2 L3
set_option maxRecDepth 100000
namespace Lw
/-! plain texts -/
structure Tz (n : Nat) (z : Str) : Prop where
  len : z.length ≤ n
  cps : ∀ c ∈ z.cps.toList, c < 128
theorem Tz.mono {n m : Nat} {z : Str} (h : Tz n z) (e : n ≤ m) : Tz m z := ⟨Nat.le_trans h.len e, h.cps⟩
theorem Tz.app {n m : Nat} {y z : Str} (h : Tz n y) (k : Tz m z) : Tz (n + m) (y ++ z) :=
  ⟨by rw [len_app]; exact Nat.add_le_add h.len k.len, fun c hc => by
    rw [cps_app, List.mem_append] at hc
    exact hc.elim (h.cps c) (k.cps c)⟩
theorem Tz.slice {n : Nat} {z : Str} (h : Tz n z) (lo hi : Option Int) : Tz n (Txt.slice z lo hi) :=
  ⟨Nat.le_trans (Txt.slice_le z lo hi) h.len, fun c hc => by
    unfold Txt.slice at hc
    split at hc
    · exact h.cps c hc
    · simp only [List.mem_filterMap] at hc
      obtain ⟨i, _, e⟩ := hc
      exact h.cps c (by rw [Array.mem_toList_iff]; exact Array.mem_of_getElem? e)⟩
theorem Tz.sign {c : Nat} (h : c < 128) : Tz 1 ⟨#[c]⟩ := ⟨Nat.le_refl _, fun d hd => by
  have : d = c := by simpa using hd
  rw [this]; exact h⟩
theorem Tz.repr {n : Nat} {z : Str} (h : Tz n z) (hn : n ≤ 1000) : (reprText z).length ≤ 200000 := by
  have := PySem.StrLaws.reprText_len z fun c hc => Nat.lt_of_lt_of_le (h.cps c hc) (by decide)
  have := h.len
  omega
theorem atI_ex {α : Type} {xs : List α} {i : Int} (h0 : 0 ≤ i) (h1 : i < xs.length) : ∃ v, atI xs i = some v ∧ v ∈ xs := by
  obtain ⟨k, rfl⟩ := Int.eq_ofNat_of_zero_le h0
  have hk : k < xs.length := by omega
  exact ⟨xs[k], atI_nat (by simp [hk]), List.getElem_mem hk⟩
/-- a sign of a text -/
theorem ix_text {n : Nat} {z : Str} {i : Int} (h : Tz n z) (hn : n ≤ 1000) (h0 : 0 ≤ i) (h1 : i < z.length) : ∃ c, c < 128 ∧ ixD (.str z) (.int i) = .ok (.str ⟨#[c]⟩) := by
  obtain ⟨c, e, m⟩ := atI_ex (xs := z.cps.toList) h0 (by rw [len_cps]; exact h1)
  refine ⟨c, h.cps c m, ?_⟩
  have hl : z.length ≤ 1000000 := by have := h.len; omega
  simp only [ixD, if_pos hl, e]
/-! figures and numbers -/
theorem numL_snoc (cs : List Nat) (c : Nat) : numL (cs ++ [c]) = numL cs * 10 + (c - 48) := by
  simp [numL, List.foldl_append]
theorem figs_app (a b : List Nat) : figs (a ++ b) = (figs a && figs b) := by simp [figs, List.all_append]
theorem figs_one {c : Nat} (h : 48 ≤ c ∧ c ≤ 57) : figs [c] = true := by simp [figs, h.1, h.2]
theorem dig_figs (n : Nat) : figs (dig n).cps.toList = true := by
  induction n using Nat.strongRecOn with
  | _ n ih =>
    by_cases h : n < 10
    · rw [dig_small h]
      exact figs_one (by omega)
    · rw [dig_big (by omega), cps_app, figs_app, ih (n / 10) (by omega)]
      exact figs_one (by omega)
theorem dig_num (n : Nat) : numL (dig n).cps.toList = n := by
  induction n using Nat.strongRecOn with
  | _ n ih =>
    by_cases h : n < 10
    · rw [dig_small h]
      show numL [48 + n] = n
      simp [numL]
    · rw [dig_big (by omega), cps_app]
      show numL ((dig (n / 10)).cps.toList ++ [48 + n % 10]) = n
      rw [numL_snoc, ih (n / 10) (by omega)]
      omega
/-- no nought ahead of other figures -/
def lead (cs : List Nat) : Prop := cs.head? = some 48 → cs.length ≤ 1
theorem head_app {a b : List Nat} (h : a ≠ []) : (a ++ b).head? = a.head? := by
  cases a with
  | nil => exact absurd rfl h
  | cons x a => rfl
theorem dig_ne (n : Nat) : (dig n).cps.toList ≠ [] := by
  by_cases h : n < 10
  · rw [dig_small h]; simp
  · rw [dig_big (by omega), cps_app]; simp
theorem dig_head : ∀ n : Nat, 1 ≤ n → (dig n).cps.toList.head? ≠ some 48 := by
  intro n
  induction n using Nat.strongRecOn with
  | _ n ih =>
    intro hn
    by_cases h : n < 10
    · rw [dig_small h]
      simp; omega
    · rw [dig_big (by omega), cps_app, head_app (dig_ne _)]
      exact ih (n / 10) (by omega) (by omega)
theorem dig_lead (n : Nat) : lead (dig n).cps.toList := by
  intro h
  by_cases hn : n = 0
  · subst hn; rw [dig_small (by decide)]; simp
  · exact absurd h (dig_head n (by omega))
theorem num_pos : ∀ {cs : List Nat}, figs cs = true → cs ≠ [] → cs.head? ≠ some 48 → 1 ≤ numL cs := by
  intro cs
  induction h : cs.length using Nat.strongRecOn generalizing cs with
  | _ k ih =>
    intro hf hn hh
    rcases List.eq_nil_or_concat cs with rfl | ⟨r, c, rfl⟩
    · exact absurd rfl hn
    · rw [List.concat_eq_append] at *
      rw [numL_snoc]
      rw [figs_app, Bool.and_eq_true] at hf
      by_cases hr : r = []
      · subst hr
        have := fig_of hf.2 (c := c) (by simp)
        have : c ≠ 48 := fun e => hh (by rw [e]; rfl)
        omega
      · have := ih r.length (by rw [← h]; simp) rfl hf.1 hr (by rw [head_app hr] at hh; exact hh)
        omega
theorem canon : ∀ {cs : List Nat}, figs cs = true → cs ≠ [] → lead cs → (dig (numL cs)).cps.toList = cs := by
  intro cs
  induction h : cs.length using Nat.strongRecOn generalizing cs with
  | _ k ih =>
    intro hf hn hl
    rcases List.eq_nil_or_concat cs with rfl | ⟨r, c, rfl⟩
    · exact absurd rfl hn
    · rw [List.concat_eq_append] at *
      rw [figs_app, Bool.and_eq_true] at hf
      have hc := fig_of hf.2 (c := c) (by simp)
      by_cases hr : r = []
      · subst hr
        rw [numL_snoc]
        show (dig (numL [] * 10 + (c - 48))).cps.toList = [c]
        rw [show numL [] = 0 from rfl, dig_small (by omega)]
        show [48 + (0 * 10 + (c - 48))] = [c]
        congr 1
        omega
      · have hh : r.head? ≠ some 48 := fun e => by
          have := hl (by rw [head_app hr]; exact e)
          have hp : 0 < r.length := List.length_pos_iff.mpr hr
          rw [List.length_append, List.length_singleton] at this
          omega
        have hp := num_pos hf.1 hr hh
        have e := ih r.length (by rw [← h]; simp) rfl hf.1 hr (fun q => absurd q hh)
        rw [numL_snoc, dig_big (by omega), cps_app, show (numL r * 10 + (c - 48)) / 10 = numL r by omega, e]
        show r ++ [48 + (numL r * 10 + (c - 48)) % 10] = r ++ [c]
        congr 2
        omega
theorem num_lt : ∀ {cs : List Nat}, figs cs = true → numL cs < 10 ^ cs.length := by
  intro cs
  induction h : cs.length using Nat.strongRecOn generalizing cs with
  | _ k ih =>
    intro hf
    rcases List.eq_nil_or_concat cs with rfl | ⟨r, c, rfl⟩
    · subst h; decide
    · rw [List.concat_eq_append] at *
      rw [figs_app, Bool.and_eq_true] at hf
      have hc := fig_of hf.2 (c := c) (by simp)
      have e := ih r.length (by rw [← h]; simp) rfl hf.1
      have hk : k = r.length + 1 := by rw [← h]; simp
      rw [numL_snoc, hk, Nat.pow_succ]
      omega
theorem unique : ∀ {p q p' q' : List Nat}, 58 ∉ p → 58 ∉ p' → p ++ 58 :: q = p' ++ 58 :: q' → p = p' ∧ q = q'
  | [], q, [], q', _, _, e => by simpa using e
  | [], q, c :: p', q', _, h', e => by
    have : 58 = c := by injection e
    exact absurd (by rw [this]; simp) h'
  | c :: p, q, [], q', h, _, e => by
    have : c = 58 := by injection e
    exact absurd (by rw [this]; simp) h
  | c :: p, q, c' :: p', q', h, h', e => by
    injection e with e1 e2
    obtain ⟨r1, r2⟩ := unique (fun z => h (by simp [z])) (fun z => h' (by simp [z])) e2
    rw [e1, r1, r2]
    exact ⟨rfl, rfl⟩
theorem figs_no58 {cs : List Nat} (h : figs cs = true) : 58 ∉ cs := fun hc => by have := fig_of h hc; omega
/-- the text of q hours and r minutes -/
def txt (q r : Nat) : Str := dig q ++ ⟨#[58]⟩ ++ ⟨#[48 + r / 10, 48 + r % 10]⟩
theorem txt_cps (q r : Nat) : (txt q r).cps.toList = (dig q).cps.toList ++ 58 :: [48 + r / 10, 48 + r % 10] := by
  unfold txt
  rw [cps_app, cps_app]
  simp
/-- a minute's text, read -/
structure Due (p q : List Nat) (v : Nat) : Prop where
  ne : p ≠ []
  ld : lead p
  fp : figs p = true
  q : ∃ a b, q = [a, b] ∧ (48 ≤ a ∧ a ≤ 53) ∧ (48 ≤ b ∧ b ≤ 57) ∧ v = 60 * numL p + 10 * (a - 48) + (b - 48)
theorem due_told {p q : List Nat} {v : Nat} (d : Due p q v) : figs q = true ∧ q ≠ [] ∧ numL p * 60 + numL q = v ∧ (txt (v / 60) (v % 60)).cps.toList = p ++ 58 :: q := by
  obtain ⟨a, b, rfl, ha, hb, rfl⟩ := d.q
  have hq : figs [a, b] = true := by simp [figs]; omega
  have nq : numL [a, b] = 10 * (a - 48) + (b - 48) := by simp [numL]; omega
  refine ⟨hq, by simp, by rw [nq]; omega, ?_⟩
  have e1 : (60 * numL p + 10 * (a - 48) + (b - 48)) / 60 = numL p := by omega
  have e2 : (60 * numL p + 10 * (a - 48) + (b - 48)) % 60 = 10 * (a - 48) + (b - 48) := by omega
  rw [txt_cps, e1, e2, canon d.fp d.ne d.ld]
  have e3 : 48 + (10 * (a - 48) + (b - 48)) / 10 = a := by omega
  have e4 : 48 + (10 * (a - 48) + (b - 48)) % 10 = b := by omega
  rw [e3, e4]
theorem told_due {p q : List Nat} (hp : figs p = true) (hq : figs q = true) (h : (txt ((numL p * 60 + numL q) / 60) ((numL p * 60 + numL q) % 60)).cps.toList = p ++ 58 :: q) : Due p q (numL p * 60 + numL q) := by
  rw [txt_cps] at h
  generalize hm : numL p * 60 + numL q = m at *
  obtain ⟨e1, e2⟩ := unique (figs_no58 (dig_figs _)) (figs_no58 hp) h
  subst e1
  rw [dig_num]  at hm
  refine ⟨dig_ne _, dig_lead _, dig_figs _, _, _, e2.symm, ⟨by omega, by omega⟩, ⟨by omega, by omega⟩, ?_⟩
  rw [dig_num]
  omega
abbrev ten : Str := "0123456789"
abbrev six : Str := "012345"
abbrev col : Str := ":"
theorem col_eq : col = ⟨#[58]⟩ := by decide +kernel
def oin (t : Str) (c : Nat) : Bool := !(Builtin.Str.occurrences t ⟨#[c]⟩ 0 t.length 1).isEmpty
theorem oin_ten : ∀ c, c < 128 → oin ten c = (decide (48 ≤ c) && decide (c ≤ 57)) := by decide +kernel
theorem oin_six : ∀ c, c < 128 → oin six c = (decide (48 ≤ c) && decide (c ≤ 53)) := by decide +kernel
theorem find_ten : ∀ c, c < 128 → 48 ≤ c → c ≤ 57 → Txt.find ten ⟨#[c]⟩ = ((c - 48 : Nat) : Int) := by decide +kernel
theorem find_six : ∀ c, c < 128 → 48 ≤ c → c ≤ 53 → Txt.find six ⟨#[c]⟩ = ((c - 48 : Nat) : Int) := by decide +kernel
theorem in_t (t : Str) (c : Nat) : inD false (.str ⟨#[c]⟩) (.str t) = .ok (.bl (oin t c)) := rfl
theorem notIn_t (t : Str) (c : Nat) : inD true (.str ⟨#[c]⟩) (.str t) = .ok (.bl (!oin t c)) := rfl
theorem mapO_ten (ρ : Ro) : ∀ cs : List Nat, mapO (fun d => e2 (inD false) (eVar 0) (eC (.str ten)) (compR [] ρ d)) (cs.map fun c => D.str ⟨#[c]⟩) = some ((cs.map (oin ten)).map D.bl)
  | [] => rfl
  | c :: cs => by
    rw [List.map_cons, mapO, mapO_ten ρ cs]
    rfl
theorem blsD_map : ∀ bs : List Bool, blsD (bs.map D.bl) = some bs
  | [] => rfl
  | b :: bs => by rw [List.map_cons, blsD, blsD_map bs]
theorem fnF1 {n : Nat} {f : Ro → Fl} {ss ρ : Ro} {r : Rv} (h : ss ++ List.replicate (n - ss.length) .no = ρ) (e : f ρ = .rt r) : fnF n f ss = .ok r := by rw [fnF, h, e]
theorem fnFx {n : Nat} {f : Ro → Fl} {ss ρ ρ' : Ro} {c : Nat} (h : ss ++ List.replicate (n - ss.length) .no = ρ) (e : f ρ = .exc c ρ') : fnF n f ss = .exc c := by rw [fnF, h, e]
theorem set_ok2 {i : Nat} {f : Ev} {ρ : Ro} {v : D} {G : Ro → Fl} (h : f ρ = .ok v) : ((sSet i f ρ).bind G) = G (ρ.set i (.sh v)) := by
  rw [sSet, h, Out.ok_fl, Fl.nx_bind]
theorem figs_all {cs : List Nat} (h : ∀ c ∈ cs, c < 128) : cs.all (oin ten) = figs cs := by
  unfold figs
  induction cs with
  | nil => rfl
  | cons c cs ih => rw [List.all_cons, List.all_cons, ih fun d hd => h d (by simp [hd]), oin_ten c (h c (by simp))]
theorem all_ten (z : Str) (hz : Tz 1000 z) (ρ : Ro) (h0 : eVar 0 ρ = .ok (.str z)) : eCB allG (aCons (fLst (fComp (eSgn (eVar 0)) [] (e2 (inD false) (eVar 0) (eC (.str ten))))) aNil) ρ = .ok (.bl (figs z.cps.toList)) := by
  have hl := hz.len
  have e1 : fComp (eSgn (eVar 0)) [] (e2 (inD false) (eVar 0) (eC (.str ten))) ρ = .ok ((z.cps.toList.map (oin ten)).map D.bl) := by
    rw [fComp, eSgn, h0, Out.ok_bind, D.toS, Out.ok_bind]
    rw [if_pos (by simp [signs, Str.length] at hl ⊢; omega), signs, mapO_ten]
  rw [eCB, aCons, fLst, e1, Out.ok_bind, Out.ok_bind, aNil, Out.ok_bind, Out.ok_bind]
  rw [allG, blsD_map, ← figs_all hz.cps]
  simp [List.all_map]
theorem empty_iff (z : Str) : z = Str.ofString "" ↔ z.cps.toList = [] := by
  constructor
  · rintro rfl; decide +kernel
  · intro h; exact str_ext (by rw [h]; decide +kernel)
open Classical in
theorem isfig_ok (z : Str) (hz : Tz 1000 z) : F_1 [.sh (.str z)] = .ok (.sh (.bl (decide (z.cps.toList ≠ [] ∧ figs z.cps.toList = true)))) := by
  have al := all_ten z hz [.sh (.str z)] rfl
  refine fnF1 (ρ := [.sh (.str z)]) rfl ?_
  rw [g_1_1]
  generalize hA : eCB allG (aCons (fLst (fComp (eSgn (eVar 0)) [] (e2 (inD false) (eVar 0) (eC (.str "0123456789"))))) aNil) = A
  have al : A [.sh (.str z)] = .ok (.bl (figs z.cps.toList)) := by rw [← hA]; exact al
  clear hA
  by_cases h : z = Str.ofString ""
  · have : ¬ (z.cps.toList ≠ [] ∧ figs z.cps.toList = true) := fun q => q.1 ((empty_iff z).mp h)
    rw [decide_eq_false this]
    simp -implicitDefEqProofs [h]
  · have hn : z.cps.toList ≠ [] := fun q => h ((empty_iff z).mpr q)
    have : decide (z.cps.toList ≠ [] ∧ figs z.cps.toList = true) = figs z.cps.toList := by
      cases hf : figs z.cps.toList <;> simp [hn]
    rw [this]
    simp -implicitDefEqProofs [h, al]
/-! the clock -/
theorem two : ∀ r : Nat, r < 60 → (if (2 : Int) ≤ ((dig r).length : Int) then dig r else zfilled (dig r) ((2 : Int).toNat - (dig r).length)) = ⟨#[48 + r / 10, 48 + r % 10]⟩ := by decide +kernel
theorem log2_60 {n : Nat} (h : n < 10 ^ 60) : n.log2 < 1920 := Nat.lt_of_lt_of_le (log2_lt (k := 200) (Nat.lt_trans h (by decide)) (by decide)) (by decide)
theorem colon : (Str.ofString ":") = ⟨#[58]⟩ := by decide +kernel
theorem clk (i : Int) (q r : Nat) (e1 : i % 60 = r) (e2 : i / 60 = q) (hr : r < 60) (hq : q < 10 ^ 60) : F_0 [.sh (.int i)] = .ok (.sh (.str (txt q r))) := by
  have t := two r hr
  have l1 : r.log2 < 1920 := log2_60 (Nat.lt_of_lt_of_le hr (by decide))
  have l2 : q.log2 < 1920 := log2_60 hq
  have d1 := toString_dig r
  have d2 := toString_dig q
  have l3 : (dig q).length ≤ 200000 := Nat.le_trans (dig_len 59 _ hq) (by decide)
  have l4 : (Str.mk #[48 + r / 10, 48 + r % 10]).length = 2 := rfl
  have l5 : (Str.mk #[58]).length = 1 := rfl
  generalize he : (Str.mk #[48 + r / 10, 48 + r % 10]) = z at *
  generalize hd : dig r = dr at *
  have d1' : Str.ofString ((r : Int).repr) = dr := d1
  have d2' : Str.ofString ((q : Int).repr) = dig q := d2
  simp only [Int.reduceToNat] at t
  simp [F_0, g_0_3, g_0_2, g_0_1, e1, e2, l1, l2, d1', d2', t, l3, l4, l5, txt, nil_app, colon, he, hd]
/-! the parts -/
theorem join_len : ∀ ps : List Str, ps.length ≤ (Str.join col ps).length + 1 ∧ ∀ p ∈ ps, p.length ≤ (Str.join col ps).length ∧ ∀ c ∈ p.cps.toList, c ∈ (Str.join col ps).cps.toList
  | [] => ⟨by simp, fun p hp => by simp at hp⟩
  | [p] => ⟨by simp, fun q hq => by
      have : q = p := by simpa using hq
      subst this
      exact ⟨Nat.le_refl _, fun c hc => hc⟩⟩
  | p :: q :: r => by
    obtain ⟨h1, h2⟩ := join_len (q :: r)
    have e : Str.join col (p :: q :: r) = p ++ col ++ Str.join col (q :: r) := rfl
    have lc : col.length = 1 := by decide +kernel
    rw [e, len_app, len_app, lc]
    refine ⟨by simp only [List.length_cons] at *; omega, fun x hx => ?_⟩
    rw [cps_app, cps_app]
    rcases List.mem_cons.mp hx with rfl | hx
    · exact ⟨by omega, fun c hc => by simp [hc]⟩
    · obtain ⟨h3, h4⟩ := h2 x hx
      exact ⟨by omega, fun c hc => by simp only [List.mem_append]; exact .inr (h4 c hc)⟩
theorem parts_ok (x : Str) (hx : Tz 40 x) : (Txt.split x col).length ≤ 41 ∧ ∀ p ∈ Txt.split x col, Tz 40 p ∧ 58 ∉ p.cps.toList := by
  have j := PySem.StrLaws.join_split x col
  obtain ⟨h1, h2⟩ := join_len (Txt.split x col)
  rw [j] at h1 h2
  have hl := hx.len
  refine ⟨by omega, fun p hp => ⟨⟨Nat.le_trans (h2 p hp).1 hl, fun c hc => hx.cps c ((h2 p hp).2 c hc)⟩, ?_⟩⟩
  have := PySem.StrLaws.split_free x 58 p (by rw [← col_eq]; exact hp)
  exact this
theorem split_ok (x : Str) (hx : Tz 40 x) (ρ : Ro) (h0 : eVar 0 ρ = .ok (.str x)) : fLst (fSplit (eVar 0) (eC (.str ":"))) ρ = .ok (.lst ((Txt.split x col).map D.str)) := by
  have hp := (parts_ok x hx).1
  have hl := hx.len
  rw [fLst, fSplit, h0, Out.ok_bind]
  show Out.bind (spl2 x (.str col)) _ = _
  rw [spl2, if_pos ⟨by decide +kernel, by omega, by omega⟩, Out.ok_bind]
theorem two_parts {x p q : Str} (h : Txt.split x col = [p, q]) : x.cps.toList = p.cps.toList ++ 58 :: q.cps.toList := by
  have j := PySem.StrLaws.join_split x col
  rw [h] at j
  rw [← j]
  show (p ++ col ++ q).cps.toList = _
  rw [cps_app, cps_app, col_eq]
  simp
/-! the program -/
theorem split_cases (x : Str) : (∃ p q, Txt.split x col = [p, q]) ∨ (Txt.split x col).length ≠ 2 := by
  cases h : Txt.split x col with
  | nil => right; decide
  | cons p r =>
    cases r with
    | nil => right; simp
    | cons q r =>
      cases r with
      | nil => exact .inl ⟨p, q, rfl⟩
      | cons _ _ => right; simp
theorem exc1 (x : Str) (hx : Tz 40 x) (a b : Sl) : g_2_1 [.sh (.str x), a, b] = .exc 1 [.sh (.str x), a, b] := by
  have rp := (hx.mono (by decide : 40 ≤ 1000)).repr (Nat.le_refl _)
  have l1 : Str.length " is not hours, a colon and minutes" ≤ 200000 := by decide
  simp -implicitDefEqProofs [g_2_1, rp, l1]
theorem exc2 (x : Str) (hx : Tz 40 x) (a b : Sl) : g_2_2 [.sh (.str x), a, b] = .exc 1 [.sh (.str x), a, b] := by
  have rp := (hx.mono (by decide : 40 ≤ 1000)).repr (Nat.le_refl _)
  have l1 : Str.length " is not the text of a minute" ≤ 200000 := by decide
  simp -implicitDefEqProofs [g_2_2, rp, l1]
theorem mo_many (x : Str) (hx : Tz 40 x) (h : (Txt.split x col).length ≠ 2) : F_2 [.sh (.str x)] = .exc 1 := by
  refine fnFx (ρ := [.sh (.str x), .no, .no]) rfl (ρ' := [.sh (.str x), .sh (.lst ((Txt.split x col).map D.str)), .no]) ?_
  rw [g_2_7, set_ok2 (split_ok x hx _ rfl)]
  show g_2_6 [.sh (.str x), .sh (.lst ((Txt.split x col).map D.str)), .no] = _
  have hl : ¬ (((Txt.split x col).map D.str).length : Int) = 2 := by rw [List.length_map]; omega
  generalize (Txt.split x col).map D.str = ps at *
  have e := exc1 x hx (.sh (.lst ps)) .no
  rw [g_2_6]
  generalize g_2_5 = G
  generalize g_2_1 = G' at *
  simp -implicitDefEqProofs [hl, e]
theorem z20 : ∀ a b : D, atI [a, b] 0 = some a := fun _ _ => rfl
theorem z21 : ∀ a b : D, atI [a, b] 1 = some b := fun _ _ => rfl
open Classical in
theorem mo_two (x p q : Str) (hx : Tz 40 x) (hs : Txt.split x col = [p, q]) : F_2 [.sh (.str x)] =
    if (p.cps.toList ≠ [] ∧ figs p.cps.toList = true) ∧ (q.cps.toList ≠ [] ∧ figs q.cps.toList = true) ∧ txt ((numL p.cps.toList * 60 + numL q.cps.toList) / 60) ((numL p.cps.toList * 60 + numL q.cps.toList) % 60) = x then .ok (.sh (.int (numL p.cps.toList * 60 + numL q.cps.toList : Nat))) else .exc 1 := by
  have hp := ((parts_ok x hx).2 p (by rw [hs]; simp)).1
  have hq := ((parts_ok x hx).2 q (by rw [hs]; simp)).1
  have fp := isfig_ok p (hp.mono (by decide))
  have fq := isfig_ok q (hq.mono (by decide))
  have sp := split_ok x hx [.sh (.str x), .no, .no] rfl
  rw [hs] at sp
  have start : g_2_7 [.sh (.str x), .no, .no] = g_2_6 [.sh (.str x), .sh (.lst [.str p, .str q]), .no] := by
    rw [g_2_7, set_ok2 sp]; rfl
  have e1 := exc1 x hx (.sh (.lst [.str p, .str q])) .no
  by_cases h1 : p.cps.toList ≠ [] ∧ figs p.cps.toList = true
  · rw [decide_eq_true h1] at fp
    by_cases h2 : q.cps.toList ≠ [] ∧ figs q.cps.toList = true
    · rw [decide_eq_true h2] at fq
      have g6 : g_2_6 [.sh (.str x), .sh (.lst [.str p, .str q]), .no] = g_2_5 [.sh (.str x), .sh (.lst [.str p, .str q]), .no] := by
        rw [g_2_6]
        generalize g_2_5 = G
        generalize g_2_1 = G'
        simp -implicitDefEqProofs [fp, fq, z20, z21]
      have lp := hp.len
      have lq := hq.len
      have bp := num_lt h1.2
      have bq := num_lt h2.2
      rw [len_cps] at bp bq
      have bp : numL p.cps.toList < 10 ^ 40 := Nat.lt_of_lt_of_le bp (Nat.pow_le_pow_right (by decide) lp)
      have bq : numL q.cps.toList < 10 ^ 40 := Nat.lt_of_lt_of_le bq (Nat.pow_le_pow_right (by decide) lq)
      have i1 : intG2 [.str p] = .ok (.int (numL p.cps.toList)) := by
        rw [intG2, if_pos ⟨h1.2, h1.1, by omega⟩]
      have i2 : intG2 [.str q] = .ok (.int (numL q.cps.toList)) := by
        rw [intG2, if_pos ⟨h2.2, h2.1, by omega⟩]
      have mo : mulOk (numL p.cps.toList : Int) 60 = true := by simp [mulOk]
      have f5 : e2 addD (e2 (i2c mulOk fun i j => .int (i * j)) (eCB intG2 (aCons (e2 ixD (eVar 1) (eC (.int 0))) aNil)) (eC (.int 60))) (eCB intG2 (aCons (e2 ixD (eVar 1) (eC (.int 1))) aNil)) [.sh (.str x), .sh (.lst [.str p, .str q]), .no] = .ok (.int ((numL p.cps.toList * 60 + numL q.cps.toList : Nat) : Int)) := by
        rw [Int.natCast_add, Int.natCast_mul]
        simp -implicitDefEqProofs [-intG2, i1, i2, z20, z21, mo]
      generalize hm : numL p.cps.toList * 60 + numL q.cps.toList = m at *
      have bm : m / 60 < 10 ^ 60 := by
        have : m / 60 ≤ m := Nat.div_le_self _ _
        have h40 : (10 : Nat) ^ 40 * 100 ≤ 10 ^ 60 := by decide
        omega
      have ck := clk (m : Int) (m / 60) (m % 60) (by omega) (by omega) (by omega) bm
      have g5 : g_2_5 [.sh (.str x), .sh (.lst [.str p, .str q]), .no] = g_2_4 [.sh (.str x), .sh (.lst [.str p, .str q]), .sh (.int m)] := by
        rw [g_2_5, set_ok2 f5]; rfl
      have e2' := exc2 x hx (.sh (.lst [.str p, .str q])) (.sh (.int m))
      by_cases h3 : txt (m / 60) (m % 60) = x
      · rw [if_pos ⟨h1, h2, h3⟩]
        refine fnF1 (ρ := [.sh (.str x), .no, .no]) rfl ?_
        rw [start, g6, g5]
        rw [h3] at ck
        rw [g_2_4]
        generalize g_2_2 = G'
        simp -implicitDefEqProofs [ck, g_2_3]
      · rw [if_neg (fun z => h3 z.2.2)]
        refine fnFx (ρ := [.sh (.str x), .no, .no]) rfl (ρ' := [.sh (.str x), .sh (.lst [.str p, .str q]), .sh (.int m)]) ?_
        rw [start, g6, g5, g_2_4]
        generalize g_2_3 = G
        generalize g_2_2 = G' at *
        generalize txt (m / 60) (m % 60) = tt at *
        simp -implicitDefEqProofs [ck, h3, e2']
    · rw [decide_eq_false h2] at fq
      rw [if_neg (fun z => h2 z.2.1)]
      refine fnFx (ρ := [.sh (.str x), .no, .no]) rfl (ρ' := [.sh (.str x), .sh (.lst [.str p, .str q]), .no]) ?_
      rw [start, g_2_6]
      generalize g_2_5 = G
      generalize g_2_1 = G' at *
      simp -implicitDefEqProofs [fp, fq, z20, z21, e1]
  · rw [decide_eq_false h1] at fp
    rw [if_neg (fun z => h1 z.1)]
    refine fnFx (ρ := [.sh (.str x), .no, .no]) rfl (ρ' := [.sh (.str x), .sh (.lst [.str p, .str q]), .no]) ?_
    rw [start, g_2_6]
    generalize g_2_5 = G
    generalize g_2_1 = G' at *
    simp -implicitDefEqProofs [fp, z20, z21, e1]
/-! what is due -/
theorem due_loop (x ps : Sl) : ∀ (cs : List Nat) (h : Nat) (y : Sl), (∀ c ∈ cs, c < 128) → ∃ y', forD (bodyD (gSet 3) g_8_5) (cs.map fun c => D.str ⟨#[c]⟩) [x, ps, .sh (.int h), y] = if figs cs = true then .nx [x, ps, .sh (.int (cs.foldl (fun acc c => acc * 10 + (c - 48)) h : Nat)), y'] else .rt (.sh (.int (-1))) := by
  intro cs
  induction cs with
  | nil => intro h y _; exact ⟨y, by rw [List.map_nil, forD_nil, if_pos (show figs [] = true from rfl)]; rfl⟩
  | cons c cs ih =>
    intro h y hc
    have c1 := hc c (by simp)
    have ic := notIn_t ten c
    by_cases hf : 48 ≤ c ∧ c ≤ 57
    · have ot : oin ten c = true := by rw [oin_ten c c1]; simp [hf.1, hf.2]
      rw [ot] at ic
      have ne : (Builtin.Str.occurrences ten ⟨#[c]⟩ 0 ten.length 1).isEmpty = false := by
        have : (!(Builtin.Str.occurrences ten ⟨#[c]⟩ 0 ten.length 1).isEmpty) = true := ot
        simpa using this
      have ix : indexG (.str ten) [.str ⟨#[c]⟩] = .ok (.int ((c - 48 : Nat) : Int)) := by
        rw [indexG, if_pos ne, find_ten c c1 hf.1 hf.2]
      have mo : mulOk 10 (h : Int) = true := by simp [mulOk]
      have e : bodyD (gSet 3) g_8_5 [x, ps, .sh (.int h), y] (.str ⟨#[c]⟩) = .nx [x, ps, .sh (.int ((h * 10 + (c - 48) : Nat) : Int)), .sh (.str ⟨#[c]⟩)] := by
        have f4 : e2 addD (e2 (i2c mulOk fun i j => .int (i * j)) (eC (.int 10)) (eVar 2)) (eMt isStrD indexG (eC (.str "0123456789")) (aCons (eVar 3) aNil)) [x, ps, .sh (.int h), .sh (.str ⟨#[c]⟩)] = .ok (.int ((h * 10 + (c - 48) : Nat) : Int)) := by
          rw [Int.natCast_add, Int.natCast_mul, Int.mul_comm]
          simp -implicitDefEqProofs [mo, ix]
        have g4 : g_8_4 [x, ps, .sh (.int h), .sh (.str ⟨#[c]⟩)] = .nx [x, ps, .sh (.int ((h * 10 + (c - 48) : Nat) : Int)), .sh (.str ⟨#[c]⟩)] := by
          rw [g_8_4, sSet, f4, Out.ok_fl]; rfl
        have g5 : g_8_5 [x, ps, .sh (.int h), .sh (.str ⟨#[c]⟩)] = g_8_4 [x, ps, .sh (.int h), .sh (.str ⟨#[c]⟩)] := by
          rw [g_8_5]
          generalize g_8_4 = G
          generalize g_8_3 = G'
          simp -implicitDefEqProofs [ic]
        rw [← g4, ← g5, bodyD, gSet]
        rfl
      obtain ⟨y', ey⟩ := ih (h * 10 + (c - 48)) (.sh (.str ⟨#[c]⟩)) (fun d hd => hc d (by simp [hd]))
      refine ⟨y', ?_⟩
      rw [List.map_cons, forD_nx e, ey]
      have : figs (c :: cs) = figs cs := by unfold figs; rw [List.all_cons]; simp [hf.1, hf.2]
      rw [this]
      rfl
    · have ot : oin ten c = false := by rw [oin_ten c c1]; simp; omega
      rw [ot] at ic
      have e : bodyD (gSet 3) g_8_5 [x, ps, .sh (.int h), y] (.str ⟨#[c]⟩) = .rt (.sh (.int (-1))) := by
        have g5 : g_8_5 [x, ps, .sh (.int h), .sh (.str ⟨#[c]⟩)] = .rt (.sh (.int (-1))) := by
          rw [g_8_5]
          generalize g_8_4 = G
          simp -implicitDefEqProofs [ic, g_8_3]
        rw [← g5, bodyD, gSet]
        rfl
      refine ⟨y, ?_⟩
      have : ¬ figs (c :: cs) = true := fun z => hf (fig_of z (by simp))
      rw [List.map_cons, forD_rt e, if_neg this]
theorem due_many (x : Str) (hx : Tz 40 x) (h : (Txt.split x col).length ≠ 2) : F_8 [.sh (.str x)] = .ok (.sh (.int (-1))) := by
  refine fnF1 (ρ := [.sh (.str x), .no, .no, .no]) rfl ?_
  rw [g_8_13, set_ok2 (split_ok x hx _ rfl)]
  show g_8_12 [.sh (.str x), .sh (.lst ((Txt.split x col).map D.str)), .no, .no] = _
  have hl : ¬ (((Txt.split x col).map D.str).length : Int) = 2 := by rw [List.length_map]; omega
  generalize (Txt.split x col).map D.str = ps at *
  rw [g_8_12]
  generalize g_8_11 = G
  simp -implicitDefEqProofs [hl, g_8_1]

theorem two_chars {q : Str} (h : q.length = 2) : ∃ a b, q = ⟨#[a, b]⟩ := by
  have hl : q.cps.toList.length = 2 := by rw [len_cps]; exact h
  cases e : q.cps.toList with
  | nil => rw [e] at hl; cases hl
  | cons a r =>
    cases r with
    | nil => rw [e] at hl; cases hl
    | cons b r =>
      cases r with
      | nil => exact ⟨a, b, str_ext (by rw [e])⟩
      | cons _ _ => rw [e] at hl; simp at hl
theorem idx {t : Str} {c k : Nat} (ot : oin t c = true) (hf : Txt.find t ⟨#[c]⟩ = (k : Int)) : indexG (.str t) [.str ⟨#[c]⟩] = .ok (.int (k : Int)) := by
  have ne : (Builtin.Str.occurrences t ⟨#[c]⟩ 0 t.length 1).isEmpty = false := by
    have : (!(Builtin.Str.occurrences t ⟨#[c]⟩ 0 t.length 1).isEmpty) = true := ot
    simpa using this
  rw [indexG, if_pos ne, hf]
open Classical in
theorem due_two (x p q : Str) (hx : Tz 40 x) (hs : Txt.split x col = [p, q]) : F_8 [.sh (.str x)] = .ok (.sh (.int (if Due p.cps.toList q.cps.toList (numL p.cps.toList * 60 + numL q.cps.toList) then ((numL p.cps.toList * 60 + numL q.cps.toList : Nat) : Int) else -1))) := by
  have hp := ((parts_ok x hx).2 p (by rw [hs]; simp)).1
  have hq := ((parts_ok x hx).2 q (by rw [hs]; simp)).1
  have lp : p.length ≤ 1000000 := by have := hp.len; omega
  have lq : q.length ≤ 1000000 := by have := hq.len; omega
  have sp := split_ok x hx [.sh (.str x), .no, .no, .no] rfl
  rw [hs] at sp
  refine fnF1 (ρ := [.sh (.str x), .no, .no, .no]) rfl ?_
  rw [g_8_13, set_ok2 sp]
  show g_8_12 [.sh (.str x), .sh (.lst [.str p, .str q]), .no, .no] = _
  by_cases h1 : p = Str.ofString ""
  · have nd : ¬ Due p.cps.toList q.cps.toList (numL p.cps.toList * 60 + numL q.cps.toList) := fun d => d.ne ((empty_iff p).mp h1)
    rw [if_neg nd, g_8_12]
    generalize g_8_11 = G
    simp -implicitDefEqProofs [z20, h1, g_8_1]
  · have hne : p.cps.toList ≠ [] := fun z => h1 ((empty_iff p).mpr z)
    by_cases h2 : q.length = 2
    · obtain ⟨a, b, rfl⟩ := two_chars h2
      have ha : a < 128 := hq.cps a (by simp)
      have hb : b < 128 := hq.cps b (by simp)
      have g12 : g_8_12 [.sh (.str x), .sh (.lst [.str p, .str ⟨#[a, b]⟩]), .no, .no] = g_8_11 [.sh (.str x), .sh (.lst [.str p, .str ⟨#[a, b]⟩]), .no, .no] := by
        rw [g_8_12]
        generalize g_8_11 = G
        generalize g_8_1 = G'
        have l2 : ((Str.mk #[a, b]).length : Int) = 2 := rfl
        simp -implicitDefEqProofs [z20, z21, h1, l2, lq]
      rw [g12]
      -- the first sign
      obtain ⟨c0, r0, e0⟩ : ∃ c r, p.cps.toList = c :: r := by
        cases e : p.cps.toList with
        | nil => exact absurd e hne
        | cons c r => exact ⟨c, r, rfl⟩
      have a0 : atI p.cps.toList (0 : Int) = some c0 := atI_nat (j := 0) (by rw [e0]; rfl)
      have zero : (Str.ofString "0") = ⟨#[48]⟩ := by decide +kernel
      have mk_inj : ∀ c : Nat, (Str.mk #[c] = Str.ofString "0") ↔ c = 48 := fun c => by
        rw [zero]
        constructor
        · intro h; injection h with h; simpa using h
        · rintro rfl; rfl
      by_cases h3 : c0 = 48 ∧ 1 < p.length
      · have nd : ¬ Due p.cps.toList (Str.mk #[a, b]).cps.toList (numL p.cps.toList * 60 + numL (Str.mk #[a, b]).cps.toList) := fun d => by
          have := d.ld (by rw [e0, h3.1]; rfl)
          rw [len_cps] at this
          omega
        have c1 : (Str.mk #[c0] = Str.ofString "0") := (mk_inj c0).mpr h3.1
        have c2 : (1 : Int) < p.length := by omega
        rw [if_neg nd, g_8_11]
        generalize g_8_10 = G
        simp -implicitDefEqProofs [z20, lp, a0, c1, c2, h3.2, g_8_2]
      · have hld : lead p.cps.toList := fun z => by
          rw [e0] at z
          have hz : c0 = 48 := by simpa using z
          rw [len_cps]
          have : ¬ 1 < p.length := fun y => h3 ⟨hz, y⟩
          omega
        have g11 : g_8_11 [.sh (.str x), .sh (.lst [.str p, .str ⟨#[a, b]⟩]), .no, .no] = g_8_10 [.sh (.str x), .sh (.lst [.str p, .str ⟨#[a, b]⟩]), .no, .no] := by
          rw [g_8_11]
          generalize g_8_10 = G
          generalize g_8_2 = G'
          by_cases hz : c0 = 48
          · have c1 : (Str.mk #[c0] = Str.ofString "0") := (mk_inj c0).mpr hz
            have c2 : ¬ 1 < p.length := fun y => h3 ⟨hz, y⟩
            have c3 : ¬ (1 : Int) < p.length := by omega
            simp -implicitDefEqProofs [z20, lp, a0, c1, c2, c3]
          · have c1 : ¬ (Str.mk #[c0] = Str.ofString "0") := fun y => hz ((mk_inj c0).mp y)
            simp -implicitDefEqProofs [z20, lp, a0, c1]
        obtain ⟨y', lp'⟩ := due_loop (.sh (.str x)) (.sh (.lst [.str p, .str ⟨#[a, b]⟩])) p.cps.toList 0 .no hp.cps
        have fS : eSgn (e2 ixD (eVar 1) (eC (.int 0))) [.sh (.str x), .sh (.lst [.str p, .str ⟨#[a, b]⟩]), .sh (.int ((0 : Nat) : Int)), .no] = .ok (p.cps.toList.map fun c => D.str ⟨#[c]⟩) := by
          simp -implicitDefEqProofs [z20, signs]
        have g10 : g_8_10 [.sh (.str x), .sh (.lst [.str p, .str ⟨#[a, b]⟩]), .no, .no] = g_8_9 [.sh (.str x), .sh (.lst [.str p, .str ⟨#[a, b]⟩]), .sh (.int ((0 : Nat) : Int)), .no] := by
          rw [g_8_10, set_ok2 (v := .int 0) rfl]; rfl
        rw [g11, g10, g_8_9, sFor_ok fS, lp']
        by_cases h4 : figs p.cps.toList = true
        · rw [if_pos h4, Fl.nx_bind]
          rw [show p.cps.toList.foldl (fun acc c => acc * 10 + (c - 48)) 0 = numL p.cps.toList from rfl]
          have nq : numL (Str.mk #[a, b]).cps.toList = (a - 48) * 10 + (b - 48) := by
            show ((0 * 10 + (a - 48)) * 10 + (b - 48)) = _
            omega
          have x0 : atI (Str.mk #[a, b]).cps.toList (0 : Int) = some a := rfl
          have x1 : atI (Str.mk #[a, b]).cps.toList (1 : Int) = some b := rfl
          have n6 := notIn_t six a
          have n10 := notIn_t ten b
          by_cases h5 : 48 ≤ a ∧ a ≤ 53
          · have o6 : oin six a = true := by rw [oin_six a ha]; simp [h5.1, h5.2]
            rw [o6] at n6
            by_cases h6 : 48 ≤ b ∧ b ≤ 57
            · have o10 : oin ten b = true := by rw [oin_ten b hb]; simp [h6.1, h6.2]
              rw [o10] at n10
              have k6 := idx o6 (find_six a ha h5.1 h5.2)
              have k10 := idx o10 (find_ten b hb h6.1 h6.2)
              have D : Due p.cps.toList (Str.mk #[a, b]).cps.toList (numL p.cps.toList * 60 + numL (Str.mk #[a, b]).cps.toList) := ⟨hne, hld, h4, a, b, rfl, h5, h6, by rw [nq]; omega⟩
              rw [if_pos D, nq]
              have m1 : mulOk 60 (numL p.cps.toList : Int) = true := by simp [mulOk]
              have m2 : mulOk 10 ((a - 48 : Nat) : Int) = true := by simp [mulOk]
              have g8 : g_8_8 [.sh (.str x), .sh (.lst [.str p, .str ⟨#[a, b]⟩]), .sh (.int (numL p.cps.toList : Nat)), y'] = g_8_7 [.sh (.str x), .sh (.lst [.str p, .str ⟨#[a, b]⟩]), .sh (.int (numL p.cps.toList : Nat)), y'] := by
                rw [g_8_8]
                generalize g_8_7 = G
                generalize g_8_6 = G'
                generalize Str.mk #[a, b] = qq at *
                simp -implicitDefEqProofs [z21, lq, x0, x1, n6, n10]
              have ev : ((numL p.cps.toList * 60 + ((a - 48) * 10 + (b - 48)) : Nat) : Int) = 60 * (numL p.cps.toList : Int) + 10 * ((a - 48 : Nat) : Int) + ((b - 48 : Nat) : Int) := by omega
              rw [g8, ev, g_8_7]
              generalize Str.mk #[a, b] = qq at *
              generalize ((a - 48 : Nat) : Int) = ia at *
              generalize ((b - 48 : Nat) : Int) = ib at *
              generalize (numL p.cps.toList : Int) = ip at *
              simp -implicitDefEqProofs [z21, lq, x0, x1, k6, k10, m1, m2]
            · have o10 : oin ten b = false := by rw [oin_ten b hb]; simp; omega
              rw [o10] at n10
              have nd : ¬ Due p.cps.toList (Str.mk #[a, b]).cps.toList (numL p.cps.toList * 60 + numL (Str.mk #[a, b]).cps.toList) := fun d => by
                obtain ⟨a', b', e, _, hb', _⟩ := d.q
                have : [a, b] = [a', b'] := e
                simp at this
                exact h6 (by rw [this.2]; exact hb')
              rw [if_neg nd, g_8_8]
              generalize g_8_7 = G
              generalize Str.mk #[a, b] = qq at *
              simp -implicitDefEqProofs [z21, lq, x0, x1, n6, n10, g_8_6]
          · have o6 : oin six a = false := by rw [oin_six a ha]; simp; omega
            rw [o6] at n6
            have nd : ¬ Due p.cps.toList (Str.mk #[a, b]).cps.toList (numL p.cps.toList * 60 + numL (Str.mk #[a, b]).cps.toList) := fun d => by
              obtain ⟨a', b', e, ha', _, _⟩ := d.q
              have : [a, b] = [a', b'] := e
              simp at this
              exact h5 (by rw [this.1]; exact ha')
            rw [if_neg nd, g_8_8]
            generalize g_8_7 = G
            generalize Str.mk #[a, b] = qq at *
            simp -implicitDefEqProofs [z21, lq, x0, x1, n6, g_8_6]
        · have nd : ¬ Due p.cps.toList (Str.mk #[a, b]).cps.toList (numL p.cps.toList * 60 + numL (Str.mk #[a, b]).cps.toList) := fun d => h4 d.fp
          rw [if_neg h4, Fl.rt_bind, if_neg nd]
    · have nd : ¬ Due p.cps.toList q.cps.toList (numL p.cps.toList * 60 + numL q.cps.toList) := fun d => by
        obtain ⟨a, b, e, _⟩ := d.q
        have : q.cps.toList.length = 2 := by rw [e]; rfl
        rw [len_cps] at this
        exact h2 this
      have h2' : ¬ (q.length : Int) = 2 := by omega
      rw [if_neg nd, g_8_12]
      generalize g_8_11 = G
      simp -implicitDefEqProofs [z20, z21, h1, h2, h2', lq, g_8_1]
theorem setE {i : Nat} {f : Ev} {ρ : Ro} {v : D} (h : f ρ = .ok v) : sSet i f ρ = .nx (ρ.set i (.sh v)) := by
  rw [sSet, h, Out.ok_fl]
theorem at_3 (ns : List Int) (k : Nat) : F_3 [.sh (.lst (ns.map D.int)), .sh (.int k)] = .ok (.sh (.int (ns.getD k 0))) := by
  by_cases h : k < ns.length
  · have e : atI (ns.map D.int) (k : Int) = some (.int ns[k]) := atI_nat (by simp [h])
    simp -implicitDefEqProofs [F_3, g_3_3, g_3_2, g_3_1, h, e]
  · simp -implicitDefEqProofs [F_3, g_3_3, g_3_2, g_3_1, h]
theorem is_4 (i j : Int) : F_4 [.sh (.int i), .sh (.int j)] = .ok (.sh (.bl (decide (i = j)))) := by simp -implicitDefEqProofs [F_4, g_4_1]
/-! a sign -/
abbrev s1 : Str := " !\"#$&'()*+,-./0123456789:;<=>?@ABCDEFGHIJKLMNOPQRSTUVWXYZ"
abbrev s2 : Str := "[\\]^_`abcdefghijklmnopqrstuvwxyz{|}~"
theorem s1_tz : Tz 100 s1 := ⟨by decide +kernel, by decide +kernel⟩
theorem s2_tz : Tz 100 s2 := ⟨by decide +kernel, by decide +kernel⟩
theorem s12_pos : 0 < (s1 ++ s2).length := by decide +kernel
theorem sign_ok (c : Int) : ∃ z, Tz 1 z ∧ F_5 [.sh (.int c)] = .ok (.sh (.str z)) := by
  have hl : s1.length + s2.length ≤ 1000000 := by have := s1_tz.len; have := s2_tz.len; omega
  have hp := s12_pos
  have hz := s1_tz.app s2_tz
  obtain ⟨d, hd, e⟩ := ix_text (z := s1 ++ s2) (i := c % ((s1 ++ s2).length : Int)) hz (by decide) (Int.emod_nonneg _ (by omega)) (Int.emod_lt_of_pos _ (by omega))
  refine ⟨_, .sign hd, ?_⟩
  have hl2 : (s1 ++ s2).length ≤ 1000000 := by have := hz.len; omega
  have f2 : e2 addD (eVar 1) (eC (.str "[\\]^_`abcdefghijklmnopqrstuvwxyz{|}~")) [.sh (.int c), .sh (.str s1)] = .ok (.str (s1 ++ s2)) := by
    show (if s1.length + s2.length ≤ 1000000 then Out.ok (D.str (s1 ++ s2)) else .bad) = _
    rw [if_pos hl]
  have f1 : e2 ixD (eVar 1) (e2 (i2c modOk fun i j => .int (i % j)) (eVar 0) (eCB lenG (aCons (eVar 1) aNil))) [.sh (.int c), .sh (.str (s1 ++ s2))] = .ok (.str ⟨#[d]⟩) := by
    generalize hS : s1 ++ s2 = S at *
    have hp' : (0 : Int) < S.length := by omega
    simp -implicitDefEqProofs [hl2, hp, hp', e, -ixD]
  have g1 : g_5_1 [.sh (.int c), .sh (.str (s1 ++ s2))] = .rt (.sh (.str ⟨#[d]⟩)) := by
    rw [g_5_1, sRet, f1, Out.ok_fl]
  have g2 : g_5_2 [.sh (.int c), .sh (.str s1)] = .rt (.sh (.str ⟨#[d]⟩)) := by
    rw [g_5_2, setE f2, Fl.nx_bind, ← g1]; rfl
  have g3 : g_5_3 [.sh (.int c), .no] = .rt (.sh (.str ⟨#[d]⟩)) := by
    have f3 : eC (.str " !\"#$&'()*+,-./0123456789:;<=>?@ABCDEFGHIJKLMNOPQRSTUVWXYZ") [.sh (.int c), .no] = .ok (.str s1) := rfl
    rw [g_5_3, setE f3, Fl.nx_bind, ← g2]; rfl
  have : F_5 = fnF 2 g_5_3 := rfl
  rw [this, fnF]
  show (match g_5_3 [.sh (.int c), .no] with | .nx _ => _ | .rt r => _ | .exc c _ => _ | _ => _) = _
  rw [g3]

abbrev t1 : Str := "abcdefghijklm"
abbrev t2 : Str := "zyxwvutsrqponm"
theorem t1_tz : Tz 20 t1 := ⟨by decide +kernel, by decide +kernel⟩
theorem t2_tz : Tz 20 t2 := ⟨by decide +kernel, by decide +kernel⟩
theorem empty_tz : Tz 0 (Str.ofString "") := ⟨by decide +kernel, by decide +kernel⟩
theorem cutS_ok {n : Nat} {z : Str} (h : Tz n z) (hn : n ≤ 1000) {fe : Ev} {fo fu : Ro → Out (Option Int)} {ρ : Ro} {lo hi : Option Int} (h1 : fe ρ = .ok (.str z)) (h2 : fo ρ = .ok lo) (h3 : fu ρ = .ok hi) : eCutS fe fo fu ρ = .ok (.str (Txt.slice z lo hi)) := by
  rw [eCutS, h1, h2, h3, Out.ok_bind, Out.ok_bind, Out.ok_bind]
  show (if _ then _ else _) = _
  rw [if_pos (by have := h.len; omega)]
theorem add_ok {n m : Nat} {y z : Str} (h : Tz n y) (k : Tz m z) (hn : n + m ≤ 1000) {fa fb : Ev} {ρ : Ro} (h1 : fa ρ = .ok (.str y)) (h2 : fb ρ = .ok (.str z)) : e2 addD fa fb ρ = .ok (.str (y ++ z)) := by
  rw [e2, h1, h2, Out.ok_bind, Out.ok_bind]
  show (if _ then _ else _) = _
  rw [if_pos (by have := h.len; have := k.len; omega)]

/-! the texts that are tried -/
theorem dig_tz {n k : Nat} (h : n < 10 ^ (k + 1)) : Tz (k + 1) (dig n) := ⟨dig_len k n h, fun c hc => by have := fig_of (dig_figs n) hc; omega⟩
theorem strG_nat (n : Nat) (h : n < 10 ^ 60) : strG [.int (n : Int)] = .ok (.str (dig n)) := by
  have l := log2_60 h
  have d := toString_dig n
  have d' : Str.ofString ((n : Int).repr) = dig n := d
  simp [l, d']
theorem cb_str {fe : Ev} {ρ : Ro} {n : Nat} (h : fe ρ = .ok (.int (n : Int))) (hn : n < 10 ^ 60) : eCB strG (aCons fe aNil) ρ = .ok (.str (dig n)) := by
  rw [eCB, aCons, h, Out.ok_bind, aNil, Out.ok_bind, Out.ok_bind, strG_nat n hn]
theorem col_tz : Tz 1 col := ⟨by decide +kernel, by decide +kernel⟩
theorem text_ok (ns : List Int) : ∃ z, Tz 16 z ∧ 1 ≤ z.length ∧ F_6 [.sh (.lst (ns.map D.int))] = .ok (.sh (.str z)) := by
  have a0 := at_3 ns 0
  have a1 := at_3 ns 1
  have a2 := at_3 ns 2
  simp only [Int.ofNat_eq_natCast, Int.natCast_zero, Int.natCast_one, Int.cast_ofNat_Int] at a0 a1 a2
  generalize ns.map D.int = nn at *
  generalize ns.getD 0 0 = x0 at a0
  generalize ns.getD 1 0 = x1 at a1
  generalize ns.getD 2 0 = x2 at a2
  have hours : ∃ h : Nat, h < 10 ^ 12 ∧ e2 ixD (fLst (fDisp (aCons (e2 (i2c modOk fun i j => .int (i % j)) (eVar 1) (e2 (i2c powOk fun i j => .int (i ^ j.toNat)) (eC (.int 10)) (eC (.int 12)))) (aCons (e2 (i2c modOk fun i j => .int (i % j)) (eVar 1) (eC (.int 31))) (aCons (eC (.int 0)) aNil))))) (e2 (i2c modOk fun i j => .int (i % j)) (e2 (i2c divOk fun i j => .int (i / j)) (rD (rCall (n := 2) F_3 [] (gSh (eVar 0) (gSh (eC (.int 0)) gN0)))) (eC (.int 9))) (eC (.int 3))) [.sh (.lst nn), .sh (.int x1), .no, .no] = .ok (.int (h : Int)) := by
    have three : x0 / 9 % 3 = 0 ∨ x0 / 9 % 3 = 1 ∨ x0 / 9 % 3 = 2 := by omega
    have y0 : ∀ a b c : D, atI [a, b, c] 0 = some a := fun _ _ _ => rfl
    have y1 : ∀ a b c : D, atI [a, b, c] 1 = some b := fun _ _ _ => rfl
    have y2 : ∀ a b c : D, atI [a, b, c] 2 = some c := fun _ _ _ => rfl
    have p12 : (10 : Int) ^ 12 = 1000000000000 := by decide
    rcases three with e | e | e
    · obtain ⟨h, hh⟩ := Int.eq_ofNat_of_zero_le (show 0 ≤ x1 % 1000000000000 by omega)
      exact ⟨h, by omega, by simp -implicitDefEqProofs [a0, e, y0]; exact hh⟩
    · obtain ⟨h, hh⟩ := Int.eq_ofNat_of_zero_le (show 0 ≤ x1 % 31 by omega)
      exact ⟨h, by omega, by simp -implicitDefEqProofs [a0, e, y1]; exact hh⟩
    · exact ⟨0, by decide, by simp -implicitDefEqProofs [a0, e, y2]⟩
  obtain ⟨h, hh, f5⟩ := hours
  have fin : ∀ w : Nat, w < 100 → ∃ z, Tz 16 z ∧ 1 ≤ z.length ∧ g_6_2 [.sh (.lst nn), .sh (.int x1), .sh (.int (h : Int)), .sh (.int (w : Int))] = .rt (.sh (.str z)) := by
    intro w hw
    have d1 : e2 (i2c divOk fun i j => .int (i / j)) (eVar 3) (eC (.int 10)) [.sh (.lst nn), .sh (.int x1), .sh (.int (h : Int)), .sh (.int (w : Int))] = .ok (.int ((w / 10 : Nat) : Int)) := by
      simp -implicitDefEqProofs
    have d2 : e2 (i2c modOk fun i j => .int (i % j)) (eVar 3) (eC (.int 10)) [.sh (.lst nn), .sh (.int x1), .sh (.int (h : Int)), .sh (.int (w : Int))] = .ok (.int ((w % 10 : Nat) : Int)) := by
      simp -implicitDefEqProofs
    have th : Tz 13 (dig h) := dig_tz (k := 12) (Nat.lt_of_lt_of_le hh (by decide))
    have t1 : Tz 1 (dig (w / 10)) := dig_tz (k := 0) (by omega)
    have t2 : Tz 1 (dig (w % 10)) := dig_tz (k := 0) (by omega)
    have big : ∀ n, n < 10 ^ 13 → n < 10 ^ 60 := fun n hn => Nat.lt_of_lt_of_le hn (by decide)
    refine ⟨_, ((th.app col_tz).app t1).app t2, ?_, ?_⟩
    · rw [len_app, len_app, len_app]
      have : col.length = 1 := by decide +kernel
      omega
    · rw [g_6_2, sRet, add_ok ((th.app col_tz).app t1) t2 (by decide) (add_ok (th.app col_tz) t1 (by decide) (add_ok th col_tz (by decide) (cb_str rfl (big h (Nat.lt_of_lt_of_le hh (by decide)))) rfl) (cb_str d1 (big _ (by omega)))) (cb_str d2 (big _ (by omega))), Out.ok_fl]
  obtain ⟨w, hw⟩ := Int.eq_ofNat_of_zero_le (show 0 ≤ x2 % 60 by omega)
  have f4 : e2 (i2c modOk fun i j => .int (i % j)) (rD (rCall (n := 2) F_3 [] (gSh (eVar 0) (gSh (eC (.int 2)) gN0)))) (eC (.int 60)) [.sh (.lst nn), .sh (.int x1), .sh (.int (h : Int)), .no] = .ok (.int (w : Int)) := by
    simp -implicitDefEqProofs [a2]
    exact hw
  have f6 : rD (rCall (n := 2) F_3 [] (gSh (eVar 0) (gSh (eC (.int 1)) gN0))) [.sh (.lst nn), .no, .no, .no] = .ok (.int x1) := by
    simp -implicitDefEqProofs [a1]
  have g3 : ∃ z, Tz 16 z ∧ 1 ≤ z.length ∧ g_6_3 [.sh (.lst nn), .sh (.int x1), .sh (.int (h : Int)), .sh (.int (w : Int))] = .rt (.sh (.str z)) := by
    by_cases c : x0 % 9 = 5
    · obtain ⟨z, hz, hl, e⟩ := fin (60 + w % 40) (by omega)
      refine ⟨z, hz, hl, ?_⟩
      have g1 : g_6_1 [.sh (.lst nn), .sh (.int x1), .sh (.int (h : Int)), .sh (.int (w : Int))] = .nx [.sh (.lst nn), .sh (.int x1), .sh (.int (h : Int)), .sh (.int ((60 + w % 40 : Nat) : Int))] := by
        simp -implicitDefEqProofs [g_6_1]
      rw [← e, g_6_3]
      generalize g_6_2 = G
      simp -implicitDefEqProofs [a0, c, g1]
    · obtain ⟨z, hz, hl, e⟩ := fin w (by omega)
      refine ⟨z, hz, hl, ?_⟩
      rw [← e, g_6_3]
      generalize g_6_2 = G
      generalize g_6_1 = G'
      simp -implicitDefEqProofs [a0, c]
  obtain ⟨z, hz, hl, g3⟩ := g3
  refine ⟨z, hz, hl, fnF1 (ρ := [.sh (.lst nn), .no, .no, .no]) rfl ?_⟩
  rw [g_6_6, set_ok2 f6]
  show g_6_5 [.sh (.lst nn), .sh (.int x1), .no, .no] = _
  rw [g_6_5, set_ok2 f5]
  show g_6_4 [.sh (.lst nn), .sh (.int x1), .sh (.int (h : Int)), .no] = _
  rw [g_6_4, set_ok2 f4]
  exact g3
abbrev alf : Str := "0123456789:: +-_.aZ6"
theorem alf_tz : Tz 20 alf := ⟨by decide +kernel, by decide +kernel⟩
theorem alf_len : alf.length = 20 := by decide +kernel
theorem e_nil : (Str.ofString "") = ⟨#[]⟩ := by decide +kernel
theorem mapO_alf (ρ : Ro) : ∀ xs : List Int, ∃ cs : List Nat, cs.length = xs.length ∧ (∀ c ∈ cs, c < 128) ∧ mapO (fun d => e2 ixD (eC (.str alf)) (e2 (i2c modOk fun i j => .int (i % j)) (eVar 0) (eC (.int 20))) (compR [] ρ d)) (xs.map D.int) = some (cs.map fun c => D.str ⟨#[c]⟩)
  | [] => ⟨[], rfl, by simp, rfl⟩
  | x :: xs => by
    obtain ⟨cs, h1, h2, h3⟩ := mapO_alf ρ xs
    obtain ⟨c, hc, e⟩ := ix_text (z := alf) (i := x % 20) alf_tz (by decide) (by omega) (by rw [alf_len]; omega)
    refine ⟨c :: cs, by simp [h1], fun d hd => ?_, ?_⟩
    · rcases List.mem_cons.mp hd with rfl | hd
      · exact hc
      · exact h2 d hd
    · have f : e2 ixD (eC (.str alf)) (e2 (i2c modOk fun i j => .int (i % j)) (eVar 0) (eC (.int 20))) (compR [] ρ (.int x)) = .ok (.str ⟨#[c]⟩) := by
        show Out.bind (Out.ok (D.str alf)) _ = _
        rw [Out.ok_bind]
        show ixD (.str alf) (.int (x % 20)) = _
        exact e
      rw [List.map_cons, mapO, f, h3]
      rfl
theorem strsD_map : ∀ cs : List Nat, strsD (cs.map fun c => D.str ⟨#[c]⟩) = some (cs.map fun c => (⟨#[c]⟩ : Str))
  | [] => rfl
  | c :: cs => by rw [List.map_cons, strsD, strsD_map cs]; rfl
theorem joinFold (sep : Str) (hs : sep.length = 0) : ∀ (cs : List Nat) (n : Nat), (cs.map fun c => (⟨#[c]⟩ : Str)).foldl (fun a t => a + t.length + sep.length) n = n + cs.length
  | [], n => rfl
  | c :: cs, n => by
    rw [List.map_cons, List.foldl_cons, joinFold sep hs cs]
    have : (Str.mk #[c]).length = 1 := rfl
    rw [this, hs]
    simp; omega
theorem join_alf (cs : List Nat) (hl : cs.length ≤ 100) : joinG (.str (Str.ofString "")) [.lst (cs.map fun c => D.str ⟨#[c]⟩)] = .ok (.str ⟨cs.toArray⟩) := by
  have s0 : (Str.ofString "").length = 0 := by decide +kernel
  have ok : JoinOk (Str.ofString "") (cs.map fun c => (⟨#[c]⟩ : Str)) = true := by
    unfold JoinOk
    rw [List.foldl_toArray', joinFold _ s0] <;> try rfl
    unfold Builtin.Str.tooLong
    rw [sizeLine_eq]
    simp; omega
  have jn : Txt.join (Str.ofString "") (cs.map fun c => (⟨#[c]⟩ : Str)) = ⟨cs.toArray⟩ := by
    show Builtin.Str.glued (Str.ofString "") _ = _
    rw [PySem.StrLaws.glued_eq_join, e_nil]
    exact PyProof.Rows.join_ones cs
  rw [joinG, strsD_map]
  show (if _ then _ else _) = _
  rw [if_pos ok, jn]
theorem cut_map (ns : List Int) (lo hi : Option Int) : cutD (ns.map D.int) lo hi = (cutD ns lo hi).map D.int := by
  simp [cutD, List.map_take, List.map_drop]
theorem cut_len8 (ns : List Int) (h : ns.length ≤ 63) : (cutD ns (some 5) (some 13)).length ≤ 40 := by
  unfold cutD
  rw [List.length_take, List.length_drop]
  have : HT.sIx ns.length ns.length (some 13) ≤ 13 := by simp [HT.sIx]; omega
  omega
theorem mode7 (ns : List Int) (hn : ns.length ≤ 63) (b c d e f : Sl) : ∃ z, Tz 40 z ∧ g_7_7 [.sh (.lst (ns.map D.int)), b, c, d, e, f] = .rt (.sh (.str z)) := by
  obtain ⟨cs, h1, h2, h3⟩ := mapO_alf [.sh (.lst (ns.map D.int)), b, c, d, e, f] (cutD ns (some 5) (some 13))
  have hl := cut_len8 ns hn
  have fc : fComp (eLst (fLst (fCut (eLst (eVar 0)) (oSo (eC (.int 5))) (oSo (eC (.int 13)))))) [] (e2 ixD (eC (.str alf)) (e2 (i2c modOk fun i j => .int (i % j)) (eVar 0) (eC (.int 20)))) [.sh (.lst (ns.map D.int)), b, c, d, e, f] = .ok (cs.map fun c => D.str ⟨#[c]⟩) := by
    have f0 : eLst (fLst (fCut (eLst (eVar 0)) (oSo (eC (.int 5))) (oSo (eC (.int 13))))) [.sh (.lst (ns.map D.int)), b, c, d, e, f] = .ok ((cutD ns (some 5) (some 13)).map D.int) := by
      rw [← cut_map]; rfl
    rw [fComp, f0, Out.ok_bind, if_pos (by rw [List.length_map]; omega), h3]
  refine ⟨⟨cs.toArray⟩, ⟨by show cs.toArray.size ≤ 40; simp; omega, fun c hc => h2 c (by simpa using hc)⟩, ?_⟩
  have ev : eMt isStrD joinG (eC (.str "")) (aCons (fLst (fComp (eLst (fLst (fCut (eLst (eVar 0)) (oSo (eC (.int 5))) (oSo (eC (.int 13)))))) [] (e2 ixD (eC (.str alf)) (e2 (i2c modOk fun i j => .int (i % j)) (eVar 0) (eC (.int 20)))))) aNil) [.sh (.lst (ns.map D.int)), b, c, d, e, f] = .ok (.str ⟨cs.toArray⟩) := by
    rw [eMt]
    show Out.bind (Out.ok (D.str (Str.ofString ""))) _ = _
    rw [Out.ok_bind, if_pos (show isStrD (D.str (Str.ofString "")) = true from rfl), aCons, fLst, fc, Out.ok_bind, Out.ok_bind, aNil, Out.ok_bind, Out.ok_bind]
    exact join_alf cs (by omega)
  rw [g_7_7, sRet]
  rw [show eMt isStrD joinG (eC (.str "")) (aCons (fLst (fComp (eLst (fLst (fCut (eLst (eVar 0)) (oSo (eC (.int 5))) (oSo (eC (.int 13)))))) [] (e2 ixD (eC (.str "0123456789:: +-_.aZ6")) (e2 (i2c modOk fun i j => .int (i % j)) (eVar 0) (eC (.int 20)))))) aNil) [.sh (.lst (ns.map D.int)), b, c, d, e, f] = .ok (.str ⟨cs.toArray⟩) from ev, Out.ok_fl]

theorem spoil_ok (ns : List Int) (hn : ns.length ≤ 63) (z : Str) (hz : Tz 16 z) (hpos : 1 ≤ z.length) : ∃ y, Tz 40 y ∧ F_7 [.sh (.lst (ns.map D.int)), .sh (.str z)] = .ok (.sh (.str y)) := by
  have a0 := at_3 ns 0
  have a3 := at_3 ns 3
  have a4 := at_3 ns 4
  simp only [Int.ofNat_eq_natCast, Int.natCast_zero, Int.natCast_one, Int.cast_ofNat_Int] at a0 a3 a4
  have m7 := mode7 ns hn
  generalize ns.map D.int = nn at *
  generalize ns.getD 0 0 = x0 at a0
  generalize ns.getD 3 0 = x3 at a3
  generalize ns.getD 4 0 = x4 at a4
  have hl : z.length ≤ 1000000 := by have := hz.len; omega
  -- the sign
  obtain ⟨c, hc, ec⟩ := ix_text (z := alf) (i := x4 % 20) alf_tz (by decide) (by omega) (by rw [alf_len]; omega)
  obtain ⟨s', hs', es⟩ := sign_ok (x4 / 40)
  have f21 : e2 (i2c modOk fun i j => .int (i % j)) (rD (rCall (n := 2) F_3 [] (gSh (eVar 0) (gSh (eC (.int 0)) gN0)))) (eC (.int 9)) [.sh (.lst nn), .sh (.str z), .no, .no, .no, .no] = .ok (.int (x0 % 9)) := by
    simp -implicitDefEqProofs [a0]
  have f20 : rD (rCall (n := 2) F_3 [] (gSh (eVar 0) (gSh (eC (.int 3)) gN0))) [.sh (.lst nn), .sh (.str z), .sh (.int (x0 % 9)), .no, .no, .no] = .ok (.int x3) := by
    simp -implicitDefEqProofs [a3]
  have f19 : e2 ixD (eC (.str "0123456789:: +-_.aZ6")) (e2 (i2c modOk fun i j => .int (i % j)) (rD (rCall (n := 2) F_3 [] (gSh (eVar 0) (gSh (eC (.int 4)) gN0)))) (eC (.int 20))) [.sh (.lst nn), .sh (.str z), .sh (.int (x0 % 9)), .sh (.int x3), .no, .no] = .ok (.str ⟨#[c]⟩) := by
    have e1 : e2 (i2c modOk fun i j => .int (i % j)) (rD (rCall (n := 2) F_3 [] (gSh (eVar 0) (gSh (eC (.int 4)) gN0)))) (eC (.int 20)) [.sh (.lst nn), .sh (.str z), .sh (.int (x0 % 9)), .sh (.int x3), .no, .no] = .ok (.int (x4 % 20)) := by
      simp -implicitDefEqProofs [a4]
    rw [e2, e1]
    exact ec
  have main : ∀ sg : Str, Tz 1 sg → ∃ y, Tz 40 y ∧ g_7_17 [.sh (.lst nn), .sh (.str z), .sh (.int (x0 % 9)), .sh (.int x3), .sh (.str sg), .no] = .rt (.sh (.str y)) := by
    intro sg hs
    have hp : (0 : Int) < z.length := by omega
    generalize hpl : x3 % (z.length : Int) = pl
    have f17 : e2 (i2c modOk fun i j => .int (i % j)) (eVar 3) (eCB lenG (aCons (eVar 1) aNil)) [.sh (.lst nn), .sh (.str z), .sh (.int (x0 % 9)), .sh (.int x3), .sh (.str sg), .no] = .ok (.int pl) := by
      have hp' : 0 < z.length := hpos
      simp -implicitDefEqProofs [hl, hp, hp', hpl]
    have g17 : g_7_17 [.sh (.lst nn), .sh (.str z), .sh (.int (x0 % 9)), .sh (.int x3), .sh (.str sg), .no] = g_7_16 [.sh (.lst nn), .sh (.str z), .sh (.int (x0 % 9)), .sh (.int x3), .sh (.str sg), .sh (.int pl)] := by
      rw [g_7_17, set_ok2 f17]; rfl
    rw [g17]
    generalize hmd : x0 % 9 = md
    have b1 : eCutS (eVar 1) oNo (oSo (eVar 5)) [.sh (.lst nn), .sh (.str z), .sh (.int md), .sh (.int x3), .sh (.str sg), .sh (.int pl)] = .ok (.str (Txt.slice z none (some pl))) := cutS_ok hz (by decide) rfl rfl rfl
    have b2 : eCutS (eVar 1) (oSo (eVar 5)) oNo [.sh (.lst nn), .sh (.str z), .sh (.int md), .sh (.int x3), .sh (.str sg), .sh (.int pl)] = .ok (.str (Txt.slice z (some pl) none)) := cutS_ok hz (by decide) rfl rfl rfl
    have b3 : eCutS (eVar 1) (oSo (e2 addD (eVar 5) (eC (.int 1)))) oNo [.sh (.lst nn), .sh (.str z), .sh (.int md), .sh (.int x3), .sh (.str sg), .sh (.int pl)] = .ok (.str (Txt.slice z (some (pl + 1)) none)) := cutS_ok hz (by decide) rfl rfl rfl
    have t1 := hz.slice none (some pl)
    have t2 := hz.slice (some pl) none
    have t3 := hz.slice (some (pl + 1)) none
    have k2 : g_7_2 [.sh (.lst nn), .sh (.str z), .sh (.int md), .sh (.int x3), .sh (.str sg), .sh (.int pl)] = .rt (.sh (.str (Txt.slice z none (some pl) ++ sg ++ Txt.slice z (some (pl + 1)) none))) := by
      rw [g_7_2, sRet, add_ok (t1.app hs) t3 (by decide) (add_ok t1 hs (by decide) b1 rfl) b3, Out.ok_fl]
    have k3 : g_7_3 [.sh (.lst nn), .sh (.str z), .sh (.int md), .sh (.int x3), .sh (.str sg), .sh (.int pl)] = .rt (.sh (.str (Txt.slice z none (some pl) ++ sg ++ Txt.slice z (some pl) none))) := by
      rw [g_7_3, sRet, add_ok (t1.app hs) t2 (by decide) (add_ok t1 hs (by decide) b1 rfl) b2, Out.ok_fl]
    have k4 : g_7_4 [.sh (.lst nn), .sh (.str z), .sh (.int md), .sh (.int x3), .sh (.str sg), .sh (.int pl)] = .rt (.sh (.str (Txt.slice z none (some pl) ++ Txt.slice z (some (pl + 1)) none))) := by
      rw [g_7_4, sRet, add_ok t1 t3 (by decide) b1 b3, Out.ok_fl]
    have zz : Tz 1 (Str.ofString "0") := ⟨by decide +kernel, by decide +kernel⟩
    have k5 : g_7_5 [.sh (.lst nn), .sh (.str z), .sh (.int md), .sh (.int x3), .sh (.str sg), .sh (.int pl)] = .rt (.sh (.str (Str.ofString "0" ++ z))) := by
      rw [g_7_5, sRet, add_ok zz hz (by decide) rfl rfl, Out.ok_fl]
    have k8 : g_7_8 [.sh (.lst nn), .sh (.str z), .sh (.int md), .sh (.int x3), .sh (.str sg), .sh (.int pl)] = .rt (.sh (.str (z ++ sg))) := by
      rw [g_7_8, sRet, add_ok hz hs (by decide) rfl rfl, Out.ok_fl]
    have k6 : g_7_6 [.sh (.lst nn), .sh (.str z), .sh (.int md), .sh (.int x3), .sh (.str sg), .sh (.int pl)] = .rt (.sh (.str (Str.ofString ""))) := rfl
    have k9 : g_7_9 [.sh (.lst nn), .sh (.str z), .sh (.int md), .sh (.int x3), .sh (.str sg), .sh (.int pl)] = .rt (.sh (.str z)) := by
      simp -implicitDefEqProofs [g_7_9]
    obtain ⟨z7, h7, k7⟩ := m7 (.sh (.str z)) (.sh (.int md)) (.sh (.int x3)) (.sh (.str sg)) (.sh (.int pl))
    by_cases c1 : md = 1
    · exact ⟨_, ((t1.app hs).app t3).mono (by decide), by rw [g_7_16]; generalize g_7_15 = G; generalize g_7_2 = G' at *; simp -implicitDefEqProofs [c1] at k2 ⊢; simp -implicitDefEqProofs [k2]⟩
    have s16 : g_7_16 [.sh (.lst nn), .sh (.str z), .sh (.int md), .sh (.int x3), .sh (.str sg), .sh (.int pl)] = g_7_15 [.sh (.lst nn), .sh (.str z), .sh (.int md), .sh (.int x3), .sh (.str sg), .sh (.int pl)] := by
      rw [g_7_16]; generalize g_7_15 = G; generalize g_7_2 = G'; simp -implicitDefEqProofs [c1]
    rw [s16]
    by_cases c2 : md = 2
    · exact ⟨_, ((t1.app hs).app t2).mono (by decide), by rw [g_7_15]; generalize g_7_14 = G; generalize g_7_3 = G' at *; simp -implicitDefEqProofs [c2] at k3 ⊢; simp -implicitDefEqProofs [k3]⟩
    have s15 : g_7_15 [.sh (.lst nn), .sh (.str z), .sh (.int md), .sh (.int x3), .sh (.str sg), .sh (.int pl)] = g_7_14 [.sh (.lst nn), .sh (.str z), .sh (.int md), .sh (.int x3), .sh (.str sg), .sh (.int pl)] := by
      rw [g_7_15]; generalize g_7_14 = G; generalize g_7_3 = G'; simp -implicitDefEqProofs [c2]
    rw [s15]
    by_cases c3 : md = 3
    · exact ⟨_, (t1.app t3).mono (by decide), by rw [g_7_14]; generalize g_7_13 = G; generalize g_7_4 = G' at *; simp -implicitDefEqProofs [c3] at k4 ⊢; simp -implicitDefEqProofs [k4]⟩
    have s14 : g_7_14 [.sh (.lst nn), .sh (.str z), .sh (.int md), .sh (.int x3), .sh (.str sg), .sh (.int pl)] = g_7_13 [.sh (.lst nn), .sh (.str z), .sh (.int md), .sh (.int x3), .sh (.str sg), .sh (.int pl)] := by
      rw [g_7_14]; generalize g_7_13 = G; generalize g_7_4 = G'; simp -implicitDefEqProofs [c3]
    rw [s14]
    by_cases c4 : md = 4
    · exact ⟨_, (zz.app hz).mono (by decide), by rw [g_7_13]; generalize g_7_12 = G; generalize g_7_5 = G' at *; simp -implicitDefEqProofs [c4] at k5 ⊢; simp -implicitDefEqProofs [k5]⟩
    have s13 : g_7_13 [.sh (.lst nn), .sh (.str z), .sh (.int md), .sh (.int x3), .sh (.str sg), .sh (.int pl)] = g_7_12 [.sh (.lst nn), .sh (.str z), .sh (.int md), .sh (.int x3), .sh (.str sg), .sh (.int pl)] := by
      rw [g_7_13]; generalize g_7_12 = G; generalize g_7_5 = G'; simp -implicitDefEqProofs [c4]
    rw [s13]
    by_cases c6 : md = 6
    · exact ⟨_, empty_tz.mono (by decide), by rw [g_7_12]; generalize g_7_11 = G; generalize g_7_6 = G' at *; simp -implicitDefEqProofs [c6] at k6 ⊢; simp -implicitDefEqProofs [k6]⟩
    have s12 : g_7_12 [.sh (.lst nn), .sh (.str z), .sh (.int md), .sh (.int x3), .sh (.str sg), .sh (.int pl)] = g_7_11 [.sh (.lst nn), .sh (.str z), .sh (.int md), .sh (.int x3), .sh (.str sg), .sh (.int pl)] := by
      rw [g_7_12]; generalize g_7_11 = G; generalize g_7_6 = G'; simp -implicitDefEqProofs [c6]
    rw [s12]
    by_cases c7 : md = 7
    · exact ⟨z7, h7, by rw [g_7_11]; generalize g_7_10 = G; generalize g_7_7 = G' at *; simp -implicitDefEqProofs [c7] at k7 ⊢; simp -implicitDefEqProofs [k7]⟩
    have s11 : g_7_11 [.sh (.lst nn), .sh (.str z), .sh (.int md), .sh (.int x3), .sh (.str sg), .sh (.int pl)] = g_7_10 [.sh (.lst nn), .sh (.str z), .sh (.int md), .sh (.int x3), .sh (.str sg), .sh (.int pl)] := by
      rw [g_7_11]; generalize g_7_10 = G; generalize g_7_7 = G'; simp -implicitDefEqProofs [c7]
    rw [s11]
    by_cases c8 : md = 8 ∧ x3 % 3 = 0
    · exact ⟨_, (hz.app hs).mono (by decide), by rw [g_7_10]; generalize g_7_9 = G; generalize g_7_8 = G' at *; simp -implicitDefEqProofs [c8.1, c8.2] at k8 ⊢; simp -implicitDefEqProofs [k8]⟩
    · have s10 : g_7_10 [.sh (.lst nn), .sh (.str z), .sh (.int md), .sh (.int x3), .sh (.str sg), .sh (.int pl)] = g_7_9 [.sh (.lst nn), .sh (.str z), .sh (.int md), .sh (.int x3), .sh (.str sg), .sh (.int pl)] := by
        rw [g_7_10]; generalize g_7_9 = G; generalize g_7_8 = G'
        by_cases c81 : md = 8
        · have c82 : ¬ x3 % 3 = 0 := fun q => c8 ⟨c81, q⟩
          simp -implicitDefEqProofs [c81, c82]
        · simp -implicitDefEqProofs [c81]
      exact ⟨z, hz.mono (by decide), by rw [s10, k9]⟩
  have fin : ∃ y, Tz 40 y ∧ g_7_18 [.sh (.lst nn), .sh (.str z), .sh (.int (x0 % 9)), .sh (.int x3), .sh (.str ⟨#[c]⟩), .no] = .rt (.sh (.str y)) := by
    by_cases h : x4 / 20 % 2 = 1
    · obtain ⟨y, hy, e⟩ := main s' hs'
      refine ⟨y, hy, ?_⟩
      have g1 : g_7_1 [.sh (.lst nn), .sh (.str z), .sh (.int (x0 % 9)), .sh (.int x3), .sh (.str ⟨#[c]⟩), .no] = .nx [.sh (.lst nn), .sh (.str z), .sh (.int (x0 % 9)), .sh (.int x3), .sh (.str s'), .no] := by
        simp -implicitDefEqProofs [g_7_1, a4, es]
      rw [← e, g_7_18]
      generalize g_7_17 = G
      generalize g_7_1 = G' at *
      simp -implicitDefEqProofs [a4, h, g1]
    · obtain ⟨y, hy, e⟩ := main ⟨#[c]⟩ (.sign hc)
      refine ⟨y, hy, ?_⟩
      rw [← e, g_7_18]
      generalize g_7_17 = G
      generalize g_7_1 = G'
      simp -implicitDefEqProofs [a4, h]
  obtain ⟨y, hy, fin⟩ := fin
  refine ⟨y, hy, fnF1 (ρ := [.sh (.lst nn), .sh (.str z), .no, .no, .no, .no]) rfl ?_⟩
  rw [g_7_21, set_ok2 f21]
  show g_7_20 [.sh (.lst nn), .sh (.str z), .sh (.int (x0 % 9)), .no, .no, .no] = _
  rw [g_7_20, set_ok2 f20]
  show g_7_19 [.sh (.lst nn), .sh (.str z), .sh (.int (x0 % 9)), .sh (.int x3), .no, .no] = _
  rw [g_7_19, set_ok2 f19]
  exact fin
/-! the law -/
theorem asked_ok (x : Str) (o : Out Rv) (h : F_2 [.sh (.str x)] = o) (ho : (∃ m : Int, o = .ok (.sh (.int m))) ∨ o = .exc 1) : F_9 [.sh (.str x)] = .ok (.sh (.tup (match o with | .ok r => [.str "told", r.d] | _ => [.str "refused", .bl true]))) := by
  rcases ho with ⟨m, rfl⟩ | rfl
  · simp -implicitDefEqProofs [F_9, g_9_4, g_9_1, h]
  · simp -implicitDefEqProofs [F_9, g_9_4, g_9_1, g_9_2, g_9_3, h, List.lookup]
theorem law_true (ns : List Int) (hn : ns.length ≤ 63) : F_10 [.sh (.lst (ns.map D.int))] = .ok (.sh (.bl true)) := by
  obtain ⟨z, hz, hl, e6⟩ := text_ok ns
  obtain ⟨x, hx, e7⟩ := spoil_ok ns hn z hz hl
  generalize ns.map D.int = nn at *
  have key : (∃ m : Nat, F_8 [.sh (.str x)] = .ok (.sh (.int m)) ∧ F_9 [.sh (.str x)] = .ok (.sh (.tup [.str "told", .int m]))) ∨ (F_8 [.sh (.str x)] = .ok (.sh (.int (-1))) ∧ F_9 [.sh (.str x)] = .ok (.sh (.tup [.str "refused", .bl true]))) := by
    rcases split_cases x with ⟨p, q, hs⟩ | hs
    · have m := mo_two x p q hx hs
      have d := due_two x p q hx hs
      have xe := two_parts hs
      by_cases hd : Due p.cps.toList q.cps.toList (numL p.cps.toList * 60 + numL q.cps.toList)
      · rw [if_pos hd] at d
        obtain ⟨fq, nq, _, tx⟩ := due_told hd
        rw [if_pos ⟨⟨hd.ne, hd.fp⟩, ⟨nq, fq⟩, str_ext (by rw [tx, xe])⟩] at m
        exact .inl ⟨_, d, asked_ok x _ m (.inl ⟨_, rfl⟩)⟩
      · rw [if_neg hd] at d
        rw [if_neg (fun h => hd (told_due h.1.2 h.2.1.2 (by rw [h.2.2, xe])))] at m
        exact .inr ⟨d, asked_ok x _ m (.inr rfl)⟩
    · exact .inr ⟨due_many x hx hs, asked_ok x _ (mo_many x hx hs) (.inr rfl)⟩
  have f6 : rD (rCall (n := 2) F_7 [] (gSh (eVar 0) (gSh (rD (rCall (n := 1) F_6 [] (gSh (eVar 0) gN0))) gN0))) [.sh (.lst nn), .no, .no, .no, .no] = .ok (.str x) := by
    simp -implicitDefEqProofs [e6, e7]
  refine fnF1 (ρ := [.sh (.lst nn), .no, .no, .no, .no]) rfl ?_
  rw [g_10_6, set_ok2 f6]
  show g_10_5 [.sh (.lst nn), .sh (.str x), .no, .no, .no] = _
  rcases key with ⟨m, d, a⟩ | ⟨d, a⟩
  · have i := is_4 (m : Int) (m : Int)
    have nm : ¬ (m : Int) < 0 := by omega
    generalize (m : Int) = mm at *
    simp -implicitDefEqProofs [g_10_5, g_10_4, g_10_3, g_10_2, d, a, i, nm]
  · simp -implicitDefEqProofs [g_10_5, g_10_4, g_10_3, g_10_1, d, a]
end Lw

open PySem PySem.W PyProof.Rows
set_option maxRecDepth 100000 in
set_option maxHeartbeats 0 in
theorem PySem.Challenge.cw_doughhours_k02_minute_of_holds : PySem.Challenge.rw_doughhours_k02_minute_of.Holds := by
  w_on; o_law; k_head; (case hw => w_witness2)
  k_fill
  refine L3.walk_D (l := PySem.Challenge.rw_doughhours_k02_minute_of) (k := 4) (x := "_law_script") (F := Lw.F_10) rfl rfl ⟨rfl, by decide, by decide⟩ (fun w h Y => PySem.W.kIn_of Y) ?F Lw.law_true
  case F =>
    intro w mg fa h KX G hmg
    refine' Lw.all_mk KX G hmg ?aC0 ?aC1 ?a0 ?l0 ?c0 ?k0 ?a1 ?l1 ?c1 ?k1 ?a2 ?l2 ?c2 ?k2 ?a3 ?l3 ?c3 ?k3 ?a4 ?l4 ?c4 ?k4 ?a5 ?l5 ?c5 ?k5 ?a6 ?l6 ?c6 ?k6 ?a7 ?l7 ?c7 ?k7 ?a8 ?l8 ?c8 ?k8 ?a9 ?l9 ?c9 ?k9 ?a10 ?l10 ?c10 ?k10 ?xc0 ?xc1 ?exm0_0 ?exm1_0 ?kit1_1 ?kitV0 ?kitV1 ?cc_FIGURES ?cc_HOUR ?z_ValueError ?z_all ?z_bool ?z_int ?z_isinstance ?z_len ?z_str
    (case aC0 => first | k_is | k_exc)
    (case aC1 => first | k_is | k_exc)
    (case a0 => first | k_is | k_exc)
    (case l0 => first | k_is | k_exc)
    (case c0 => first | k_is | k_exc)
    (case k0 => first | k_is | k_exc)
    (case a1 => first | k_is | k_exc)
    (case l1 => first | k_is | k_exc)
    (case c1 => first | k_is | k_exc)
    (case k1 => first | k_is | k_exc)
    (case a2 => first | k_is | k_exc)
    (case l2 => first | k_is | k_exc)
    (case c2 => first | k_is | k_exc)
    (case k2 => first | k_is | k_exc)
    (case a3 => first | k_is | k_exc)
    (case l3 => first | k_is | k_exc)
    (case c3 => first | k_is | k_exc)
    (case k3 => first | k_is | k_exc)
    (case a4 => first | k_is | k_exc)
    (case l4 => first | k_is | k_exc)
    (case c4 => first | k_is | k_exc)
    (case k4 => first | k_is | k_exc)
    (case a5 => first | k_is | k_exc)
    (case l5 => first | k_is | k_exc)
    (case c5 => first | k_is | k_exc)
    (case k5 => first | k_is | k_exc)
    (case a6 => first | k_is | k_exc)
    (case l6 => first | k_is | k_exc)
    (case c6 => first | k_is | k_exc)
    (case k6 => first | k_is | k_exc)
    (case a7 => first | k_is | k_exc)
    (case l7 => first | k_is | k_exc)
    (case c7 => first | k_is | k_exc)
    (case k7 => first | k_is | k_exc)
    (case a8 => first | k_is | k_exc)
    (case l8 => first | k_is | k_exc)
    (case c8 => first | k_is | k_exc)
    (case k8 => first | k_is | k_exc)
    (case a9 => first | k_is | k_exc)
    (case l9 => first | k_is | k_exc)
    (case c9 => first | k_is | k_exc)
    (case k9 => first | k_is | k_exc)
    (case a10 => first | k_is | k_exc)
    (case l10 => first | k_is | k_exc)
    (case c10 => first | k_is | k_exc)
    (case k10 => first | k_is | k_exc)
    (case xc0 => first | k_is | k_exc)
    (case xc1 => first | k_is | k_exc)
    (case exm0_0 => kts_exm)
    (case exm1_0 => kts_exm)
    (case kit1_1 => kit_is)
    (case kitV0 => kit_is)
    (case kitV1 => kit_is)
    (case cc_FIGURES => first | k_is | k_exc)
    (case cc_HOUR => first | k_is | k_exc)
    (case z_ValueError => first | k_is | k_exc)
    (case z_all => first | k_is | k_exc)
    (case z_bool => first | k_is | k_exc)
    (case z_int => first | k_is | k_exc)
    (case z_isinstance => first | k_is | k_exc)
    (case z_len => first | k_is | k_exc)
    (case z_str => first | k_is | k_exc)

