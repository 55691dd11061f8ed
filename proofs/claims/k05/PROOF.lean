import PyProof.Rows.All
import Wide.All
import OpenK.AllK
import Wide.FinOn
import Lean
import PyProof.EqAt
import PyProof.EqKinds
import PyProof.TupleCall
import KE.KTurns
import PySem.Challenge.RW_greenturns_k05_the_longest_wait
-- CHANGE: your row's module here, as the last of these rows
set_option Elab.async false
set_option linter.all false
set_option maxRecDepth 100000
/-! THE HAND LAYER, for ints, bools, texts, own classes, LISTS and tuples (index, slices, in, append, pop ..), calls, loops. Paste it whole ahead of your own text; what your proof does not reach may be deleted. -/
namespace L2
open PySem PySem.Spec PyProof.Rows

/-- a key: an int or a str -/
abbrev Key := Sum Int Str
def keyIs : Key → Value → Bool
  | .inl k, v => Value.isInt k v
  | .inr x, v => Value.isStrOf x v
def keyH (w : World) : Key → Int
  | .inl k => hashInt k
  | .inr x => hashStr w x
theorem keyIs_shape : ∀ {k : Key} {v : Value}, keyIs k v = true → (∃ i t, k = Sum.inl i ∧ v = Value.int i t) ∨ (∃ x t, k = Sum.inr x ∧ v = Value.str x t)
  | .inl i, v, h => by
    obtain ⟨t, e⟩ := Value.isInt_shape (k := i) (v := v) h
    exact .inl ⟨i, t, rfl, e⟩
  | .inr x, v, h => by
    obtain ⟨t, e⟩ := Value.isStrOf_shape (x := x) (v := v) h
    exact .inr ⟨x, t, rfl, e⟩
theorem keyIs_int (i : Int) (t : Tok) : keyIs (.inl i) (.int i t) = true := by simp [keyIs, Value.isInt]
theorem keyIs_str (x : Str) (t : Tok) : keyIs (.inr x) (.str x t) = true := by simp [keyIs, Value.isStrOf]
theorem key_ll (a b : Int) : decide ((Sum.inl a : Key) = Sum.inl b) = (a == b) := by
  by_cases e : a = b
  · subst e; simp
  · have h : ¬ (Sum.inl a : Key) = Sum.inl b := fun q => e (Sum.inl.inj q)
    rw [decide_eq_false h]
    exact (beq_eq_false_iff_ne.mpr e).symm
theorem key_rr (a b : Str) : decide ((Sum.inr a : Key) = Sum.inr b) = decide (a = b) := by
  by_cases e : a = b
  · subst e; simp
  · have h : ¬ (Sum.inr a : Key) = Sum.inr b := fun q => e (Sum.inr.inj q)
    rw [decide_eq_false h, decide_eq_false e]
theorem key_lr (a : Int) (b : Str) : decide ((Sum.inl a : Key) = Sum.inr b) = false := decide_eq_false (fun q => nomatch q)
theorem key_rl (a : Str) (b : Int) : decide ((Sum.inr a : Key) = Sum.inl b) = false := decide_eq_false (fun q => nomatch q)

def mixKind (prog : Program) (w : World) : PySem.KeyKind prog w Key where
  is := keyIs
  hash := keyH w
  inj := fun v a b ha hb => by
    rcases keyIs_shape ha with ⟨i, t, rfl, rfl⟩ | ⟨x, t, rfl, rfl⟩
    · rcases keyIs_shape hb with ⟨j, u, rfl, e⟩ | ⟨y, u, rfl, e⟩
      · injection e with e1 _; rw [e1]
      · exact nomatch e
    · rcases keyIs_shape hb with ⟨j, u, rfl, e⟩ | ⟨y, u, rfl, e⟩
      · exact nomatch e
      · injection e with e1 _; rw [e1]
  byValue := fun k v h => by
    rcases keyIs_shape h with ⟨i, t, rfl, rfl⟩ | ⟨x, t, rfl, rfl⟩ <;> rfl
  pyHash := fun hv h => by
    rcases keyIs_shape hv with ⟨i, t, rfl, rfl⟩ | ⟨x, t, rfl, rfl⟩
    · exact wpAny_pyHash_int h
    · exact wpAny_pyHash_str h
  eqBool := fun hu hv h => by
    rcases keyIs_shape hu with ⟨i, t, rfl, rfl⟩ | ⟨x, t, rfl, rfl⟩
    · rcases keyIs_shape hv with ⟨j, u, rfl, rfl⟩ | ⟨y, u, rfl, rfl⟩
      · rw [key_ll] at h; exact wpAny_eqBool_int h
      · rw [key_lr] at h; exact SeqAt.EqAt.int_str i t y u _ _ _ _ h
    · rcases keyIs_shape hv with ⟨j, u, rfl, rfl⟩ | ⟨y, u, rfl, rfl⟩
      · rw [key_rl] at h; exact SeqAt.EqAt.str_int x t j u _ _ _ _ h
      · rw [key_rr] at h; exact wpAny_eqBool_str h
  «strs» := fun k x t v h => by
    rcases keyIs_shape h with ⟨i, u, rfl, e⟩ | ⟨y, u, rfl, e⟩
    · exact nomatch e
    · injection e with e1 _
      subst e1
      cases v <;> rfl

theorem mixKind_is (prog : Program) (w : World) (k : Key) (v : Value) : (mixKind prog w).is k v = keyIs k v := rfl
theorem mixKind_int (prog : Program) (w : World) (i : Int) (t : Tok) : (mixKind prog w).is (.inl i) (.int i t) = true := keyIs_int i t
theorem mixKind_str (prog : Program) (w : World) (x : Str) (t : Tok) : (mixKind prog w).is (.inr x) (.str x t) = true := keyIs_str x t
end L2

namespace L2
open PySem PySem.Spec PyProof.Rows

/-- a value, without the heap -/
inductive V where
  | non | bl (b : Bool) | int (i : Int) | str (x : Str) | byt (b : Array UInt8) | flt (b : UInt64) | ref (a : Addr) | ty (n : String)
  deriving DecidableEq

def RelV : V → Value → Prop
  | .non, u => u = Value.none
  | .bl b, u => u = Value.bool b
  | .int i, u => ∃ t, u = Value.int i t
  | .str x, u => ∃ t, u = Value.str x t
  | .byt b, u => ∃ t, u = Value.bytes b t
  | .flt b, u => ∃ t, u = Value.float b t
  | .ref a, u => u = Value.ref a
  | .ty n, u => u = Value.type n

abbrev Vals : List V → List Value → Prop := Paired RelV
theorem Vals.length {xs : List V} {us : List Value} (r : Vals xs us) : xs.length = us.length := Paired.length r
theorem Vals.get : ∀ {xs : List V} {us : List Value} {i : Nat} {x : V}, Vals xs us → xs[i]? = some x → ∃ u, us[i]? = some u ∧ RelV x u
  | _, _, _, _, .nil, e => by simp at e
  | _, _, 0, _, .cons r _, e => by simp at e; subst e; exact ⟨_, rfl, r⟩
  | _, _, i + 1, x, .cons _ t, e => by
    obtain ⟨u, h1, h2⟩ := Vals.get (i := i) (x := x) t (by simpa using e)
    exact ⟨u, by simpa using h1, h2⟩
theorem Vals.set {x : V} {u : Value} (r : RelV x u) : ∀ {xs : List V} {us : List Value} (i : Nat), Vals xs us → Vals (xs.set i x) (us.set i u)
  | _, _, _, .nil => .nil
  | _, _, 0, .cons _ t => .cons r t
  | _, _, i + 1, .cons q t => .cons q (Vals.set r i t)
theorem Vals.append : ∀ {xs ys : List V} {us ws : List Value}, Vals xs us → Vals ys ws → Vals (xs ++ ys) (us ++ ws)
  | _, _, _, _, .nil, s => s
  | _, _, _, _, .cons r t, s => .cons r (Vals.append t s)
theorem Vals.take : ∀ {xs : List V} {us : List Value} (n : Nat), Vals xs us → Vals (xs.take n) (us.take n)
  | _, _, 0, _ => .nil
  | _, _, _ + 1, .nil => .nil
  | _, _, n + 1, .cons r t => .cons r (Vals.take n t)
theorem Vals.drop : ∀ {xs : List V} {us : List Value} (n : Nat), Vals xs us → Vals (xs.drop n) (us.drop n)
  | _, _, 0, r => r
  | _, _, _ + 1, .nil => .nil
  | _, _, n + 1, .cons _ t => Vals.drop n t
theorem Vals.none_of : ∀ {xs : List V} {us : List Value} {i : Nat}, Vals xs us → xs[i]? = none → us[i]? = none := fun {xs us i} r e => by
  have h1 := r.length
  have h2 : xs.length ≤ i := List.getElem?_eq_none_iff.mp e
  exact List.getElem?_eq_none_iff.mpr (by omega)

def RelO : Option V → Option Value → Prop
  | some v, some u => RelV v u
  | none, none => True
  | _, _ => False
def KV {κ : Type} : List (κ × V) → List (κ × Value) → Prop := Paired fun (p : κ × V) (q : κ × Value) => p.1 = q.1 ∧ RelV p.2 q.2

/-- a key of a dict (00_mix): an int or a text -/
def kV : Key → V
  | .inl i => .int i
  | .inr x => .str x

/-- what stands at a tracked address -/
inductive HO where
  /-- a list -/
  | lst (xs : List V)
  /-- a tuple (never changes) -/
  | tup (xs : List V)
  /-- a dict whose keys are ints and texts; one whose keys are tuples of ints and texts (the empty one is both) -/
  | dK (kvs : List (Key × V)) | dT (kvs : List (List Key × V))
  /-- a set of ints: its members, its size -/
  | set (S : Int → Bool) (n : Nat)
  /-- an instance of the class at C, its dict at dx, its attributes -/
  | ins (C dx : Addr) (fs : List (Str × V))
  /-- the dict of the instance at x -/
  | own (x : Addr)
  /-- the dict of an exception -/
  | xd (fs : List (Str × V))
  /-- a bound method, f of x -/
  | met (f x : Addr)
  /-- a range object lo, lo + 1, .. below hi -/
  | rng (lo hi : Int)
  /-- a thing that is known to the object (the script; a dict while a loop walks it): read, never written while it is so -/
  | frz (o : Obj) (u : HO)
  /-- a code object's table -/
  | tbl (ps : Array Value)
  /-- any other thing, by what is true of its one object (a def of one's own: SetO a S n := HO.ext fun h => ..) -/
  | ext (φ : Heap → Prop)

abbrev Hp := Addr → Option HO
def upd (H : Hp) (a : Addr) (o : HO) : Hp := fun b => if b = a then some o else H b
theorem upd_same {H : Hp} {a : Addr} {o : HO} : upd H a o a = some o := by unfold upd; rw [if_pos rfl]
theorem upd_ne {H : Hp} {a b : Addr} {o : HO} (h : b ≠ a) : upd H a o b = H b := by unfold upd; rw [if_neg h]
theorem upd_upd {H : Hp} {a : Addr} {o u : HO} : upd (upd H a o) a u = upd H a u := by
  funext b; unfold upd; split <;> rfl
/-- two objects of different content stand apart -/
theorem ne_of {H : Hp} {a b : Addr} {o u : HO} (h : H a = some o) (h' : H b = some u) (d : o ≠ u) : a ≠ b := by
  intro e; subst e; rw [h] at h'; exact d (Option.some.inj h')
theorem ne_of_none {H : Hp} {a b : Addr} {o : HO} (h : H a = some o) (h' : H b = none) : a ≠ b := by
  intro e; subst e; rw [h] at h'; cases h'

section
variable (P : Program) (w : World)
def ObjOk (H : Hp) (h : Heap) (a : Addr) : HO → Prop
  | .lst xs => xs.length ≤ sizeLine ∧ ∃ (its : List Value) (n : Nat), Vals xs its ∧ h.get? a = some { cls := .type "list", data := .seq its.toArray n }
  | .tup xs => xs.length ≤ sizeLine ∧ ∃ its : List Value, Vals xs its ∧ IsTup h a its.toArray
  | .dK kvs => kvs.length ≤ sizeLine ∧ (a == sysModules) = false ∧ ∃ vs, KV kvs vs ∧ h.DictOf (mixKind P w) a vs
  | .dT kvs => kvs.length ≤ sizeLine ∧ (a == sysModules) = false ∧ ∃ xs : List (List Key × Addr × Value),
      Paired (fun (p : List Key × V) (q : List Key × Addr × Value) => p.1 = q.1 ∧ H q.2.1 = some (.tup (p.1.map kV)) ∧ RelV p.2 q.2.2) kvs xs ∧
      ∃ o es ep, h.get? a = some o ∧ o.ExactDict ∧ o.data = .dict es ep ∧ es.toList = xs.map (entryOfKey (tupleKind (mixKind P w))) ∧ (xs.map (·.1)).Nodup
  | .set S n => h.SetOf (intKind P w) a S n
  | .ins C dx fs => H dx = some (.own a) ∧ fs.length ≤ 1000 ∧ dx ≠ a ∧ h.get? a = some (PySem.W.instObj C dx) ∧
      ∃ mA, h.Ns1 dx mA ∧ (∀ f, RelO (fs.lookup f) (mA f)) ∧ PySem.Within mA (fs.map (·.1))
  | .own _ => ∃ o, h.get? a = some o
  | .xd fs => ∃ mA, h.Ns1 a mA ∧ ∀ f, RelO (fs.lookup f) (mA f)
  | .rng lo hi => ∃ t u v, h.get? a = some { cls := .type "range", data := .fields #[.int lo t, .int hi u, .int 1 v] }
  | .frz o u => h.get? a = some o ∧ ObjOk H h a u
  | .tbl ps => h.get? a = some { cls := .none, data := .fields ps }
  | .met f x => h.get? a = some (PySem.W.methodObj (.ref f) (.ref x))
  | .ext φ => φ h ∧ (∃ o, h.get? a = some o) ∧ ∀ h1 h2 : Heap, φ h1 → (∀ o, h1.get? a = some o → h2.get? a = some o) → φ h2
/-- the abstract heap is held -/
def HOk (H : Hp) (h : Heap) : Prop := ∀ a o, H a = some o → ObjOk P w H h a o
end

section
variable {P : Program} {w : World} {H H' : Hp} {h h' : Heap} {a : Addr} {o : HO}
theorem ObjOk.lt (x : ObjOk P w H h a o) : a < h.objs.size := by
  cases o with
  | lst xs => obtain ⟨_, _, _, _, e⟩ := x; exact Heap.lt_size e
  | tup xs => obtain ⟨_, _, _, p⟩ := x; exact p.lt
  | dK kvs => obtain ⟨_, _, _, _, o, _, _, e, _⟩ := x; exact Heap.lt_size e
  | dT kvs => obtain ⟨_, _, _, _, o, _, _, e, _⟩ := x; exact Heap.lt_size e
  | set S n => obtain ⟨o, _, _, _, e, _⟩ := x; exact Heap.lt_size e
  | ins C dx fs => obtain ⟨_, _, _, e, _⟩ := x; exact Heap.lt_size e
  | own y => obtain ⟨_, e⟩ := x; exact Heap.lt_size e
  | xd fs => obtain ⟨_, ⟨_, _, _, e, _⟩, _⟩ := x; exact Heap.lt_size e
  | rng lo hi => obtain ⟨_, _, _, e⟩ := x; exact Heap.lt_size e
  | frz ob u => obtain ⟨e, _⟩ := x; exact Heap.lt_size e
  | tbl ps => exact Heap.lt_size (show h.get? a = some _ from x)
  | met f y => exact Heap.lt_size (show h.get? a = some _ from x)
  | ext φ => obtain ⟨_, ⟨_, e⟩, _⟩ := x; exact Heap.lt_size e
theorem Paired.mapP {α β : Type} {F G : α → β → Prop} : ∀ {l₁ : List α} {l₂ : List β}, Paired F l₁ l₂ → (∀ a b, F a b → G a b) → Paired G l₁ l₂
  | _, _, .nil, _ => .nil
  | _, _, .cons r t, f => .cons (f _ _ r) (Paired.mapP t f)
theorem Paired.imp' {α β : Type} {F G : α → β → Prop} (f : ∀ a b, F a b → G a b) {l₁ : List α} {l₂ : List β} (r : Paired F l₁ l₂) : Paired G l₁ l₂ := Paired.mapP r f
/-- what an object's description leans on: its own object, its own dict, the tuples -/
theorem ObjOk.stay (x : ObjOk P w H h a o) (k : ∀ b u, (b = a ∨ H b = some (.own a)) → h.get? b = some u → h'.get? b = some u)
    (ho : ∀ b, H b = some (.own a) → H' b = some (.own a)) (ht : ∀ b xs, H b = some (.tup xs) → H' b = some (.tup xs)) : ObjOk P w H' h' a o := by
  induction o with
  | lst xs => obtain ⟨z, its, n, r, e⟩ := x; exact ⟨z, its, n, r, k _ _ (.inl rfl) e⟩
  | tup xs => obtain ⟨z, its, r, ob, e, c⟩ := x; exact ⟨z, its, r, ob, k _ _ (.inl rfl) e, c⟩
  | dK kvs => obtain ⟨z, y, vs, r, ob, es, ep, e, c⟩ := x; exact ⟨z, y, vs, r, ob, es, ep, k _ _ (.inl rfl) e, c⟩
  | dT kvs =>
    obtain ⟨z, y, xs, r, ob, es, ep, e, c⟩ := x
    exact ⟨z, y, xs, Paired.mapP r fun p q z => ⟨z.1, ht _ _ z.2.1, z.2.2⟩, ob, es, ep, k _ _ (.inl rfl) e, c⟩
  | set S n => obtain ⟨ob, es, ep, t, e, c⟩ := x; exact ⟨ob, es, ep, t, k _ _ (.inl rfl) e, c⟩
  | ins C dx fs =>
    obtain ⟨d, z, ne, e, mA, ⟨od, es, ep, e2, c⟩, r⟩ := x
    exact ⟨ho _ d, z, ne, k _ _ (.inl rfl) e, mA, ⟨od, es, ep, k _ _ (.inr d) e2, c⟩, r⟩
  | own y => obtain ⟨ob, e⟩ := x; exact ⟨ob, k _ _ (.inl rfl) e⟩
  | xd fs => obtain ⟨mA, ⟨od, es, ep, e, c⟩, r⟩ := x; exact ⟨mA, ⟨od, es, ep, k _ _ (.inl rfl) e, c⟩, r⟩
  | rng lo hi => obtain ⟨t, u, v, e⟩ := x; exact ⟨t, u, v, k _ _ (.inl rfl) e⟩
  | frz ob u ih => obtain ⟨e, q⟩ := x; exact ⟨k _ _ (.inl rfl) e, ih q⟩
  | tbl ps =>
    have e : h.get? a = some { cls := .none, data := .fields ps } := x
    show h'.get? a = some { cls := .none, data := .fields ps }
    exact k a _ (.inl rfl) e
  | met f y =>
    have e : h.get? a = some (PySem.W.methodObj (.ref f) (.ref y)) := x
    show h'.get? a = some (PySem.W.methodObj (.ref f) (.ref y))
    exact k a _ (.inl rfl) e
  | ext φ => obtain ⟨p, ⟨o, e⟩, st⟩ := x; exact ⟨st _ _ p fun o q => k _ _ (.inl rfl) q, ⟨o, k _ _ (.inl rfl) e⟩, st⟩
theorem HOk.lt (x : HOk P w H h) (e : H a = some o) : a < h.objs.size := (x a o e).lt
theorem HOk.fresh (x : HOk P w H h) (e : h.objs.size ≤ a) : H a = none := by
  cases q : H a with
  | none => rfl
  | some u => exact absurd (Nat.lt_of_lt_of_le (x.lt q) e) (Nat.lt_irrefl _)
/-- every object of the heap is kept -/
theorem HOk.kept (x : HOk P w H h) (k : ∀ b u, h.get? b = some u → h'.get? b = some u) : HOk P w H h' := fun a o e =>
  (x a o e).stay (fun b u _ q => k b u q) (fun _ q => q) fun _ _ q => q
/-- a new object is laid and tracked -/
theorem HOk.laid (x : HOk P w H h) (k : ∀ b u, h.get? b = some u → h'.get? b = some u) (hp : h.objs.size ≤ a) (new : ObjOk P w (upd H a o) h' a o) : HOk P w (upd H a o) h' := fun b u e => by
  have hn := x.fresh hp
  by_cases hb : b = a
  · subst hb; rw [upd_same] at e; cases e; exact new
  · rw [upd_ne hb] at e
    exact (x b u e).stay (fun c v _ q => k c v q) (fun c q => by rw [upd_ne (ne_of_none q hn)]; exact q) fun c xs q => by rw [upd_ne (ne_of_none q hn)]; exact q
end

/-- what may be read as u: it is u, or a known u -/
def Rd (H : Hp) (a : Addr) (u : HO) : Prop := H a = some u ∨ ∃ o, H a = some (.frz o u)
theorem Rd.of {H : Hp} {a : Addr} {u : HO} (h : H a = some u) : Rd H a u := .inl h
theorem Rd.ok {P : Program} {w : World} {H : Hp} {h : Heap} {a : Addr} {u : HO} (r : Rd H a u) (x : HOk P w H h) : ObjOk P w H h a u := by
  rcases r with r | ⟨o, r⟩
  · exact x a u r
  · obtain ⟨_, q⟩ := x a _ r
    exact q
/-- what may be written -/
def Mut : Option HO → Prop
  | some (.lst _) => True
  | some (.dK _) => True
  | some (.dT _) => True
  | some (.set _ _) => True
  | some (.ins _ _ _) => True
  | some (.ext _) => True
  | _ => False
section
variable {P : Program} {w : World} {H : Hp} {h h' : Heap} {x e : Addr} {o' : HO}
/-- the object at e is changed: x itself, or the dict of the instance x -/
theorem HOk.write (ok : HOk P w H h) (mu : Mut (H x)) (he : e = x ∨ H e = some (.own x)) (k : ∀ b u, b ≠ e → h.get? b = some u → h'.get? b = some u) (heo : ∃ u, h'.get? e = some u)
    (new : ObjOk P w (upd H x o') h' x o') : HOk P w (upd H x o') h' := fun b u q => by
  have nown : ∀ c y, H c = some (.own y) → c ≠ x := fun c y r z => by subst z; rw [r] at mu; exact mu
  have ntup : ∀ c xs, H c = some (.tup xs) → c ≠ x := fun c xs r z => by subst z; rw [r] at mu; exact mu
  by_cases hb : b = x
  · subst hb; rw [upd_same] at q; cases q; exact new
  · rw [upd_ne hb] at q
    by_cases hbe : b = e
    · have q' : H b = some (.own x) := by
        rcases he with z | z
        · exact absurd (hbe.trans z) hb
        · rw [hbe]; exact z
      rw [q] at q'; cases q'
      obtain ⟨v, hv⟩ := heo
      exact ⟨v, by rw [hbe]; exact hv⟩
    · refine (ok b u q).stay (fun c v hc r => k c v ?_ r) (fun c r => by rw [upd_ne (nown c b r)]; exact r) fun c xs r => by rw [upd_ne (ntup c xs r)]; exact r
      rcases hc with rfl | hc
      · exact hbe
      · rintro rfl
        rcases he with z | z
        · exact nown c b hc z
        · rw [hc] at z; cases z; exact hb rfl
end

/-! ### kept unless tracked; of the frames at fs (the callers') the slots may change (an exception that passes writes there); of the records at ex (iterators) nothing is said -/
structure Un (fs ex : List Addr) (H H' : Hp) (h h' : Heap) : Prop where
  keep : ∀ b o, h.get? b = some o → H b = none → b ∉ fs → b ∉ ex → h'.get? b = some o
  slot : ∀ b o, h.get? b = some o → H b = none → b ∈ fs → b ∉ ex → ∃ sl, h'.get? b = some { o with slots := sl }
  free : ∀ b o, h.get? b = some o → H b = none → b ∉ ex → H' b = none
  there : ∀ b o, h.get? b = some o → b ∉ ex → ∃ o', h'.get? b = some o'
  tups : ∀ b xs, H b = some (.tup xs) → H' b = some (.tup xs)
  frzs : ∀ b o u, H b = some (.frz o u) → H' b = some (.frz o u)
  tbls : ∀ b ps, H b = some (.tbl ps) → ∃ more, H' b = some (.tbl (ps ++ more))
section
variable {fs fs' ex ex' : List Addr} {H H1 H2 : Hp} {h h1 h2 h' : Heap} {a x e : Addr} {o : HO}
theorem Un.any (u : Un fs ex H H1 h h1) {b : Addr} {ob : Obj} (q : h.get? b = some ob) (n : H b = none) (hx : b ∉ ex) : ∃ sl, h1.get? b = some { ob with slots := sl } := by
  by_cases hb : b ∈ fs
  · exact u.slot b ob q n hb hx
  · exact ⟨ob.slots, u.keep b ob q n hb hx⟩
theorem Un.trans (a : Un fs ex H H1 h h1) (b : Un fs ex H1 H2 h1 h2) : Un fs ex H H2 h h2 where
  keep := fun c ob q n hc hx => b.keep c ob (a.keep c ob q n hc hx) (a.free c ob q n hx) hc hx
  slot := fun c ob q n hc hx => by
    obtain ⟨sl, e1⟩ := a.slot c ob q n hc hx
    obtain ⟨sl', e2⟩ := b.slot c _ e1 (a.free c ob q n hx) hc hx
    exact ⟨sl', e2⟩
  free := fun c ob q n hx => by
    obtain ⟨o', e1⟩ := a.there c ob q hx
    exact b.free c o' e1 (a.free c ob q n hx) hx
  there := fun c ob q hx => by
    obtain ⟨o', e1⟩ := a.there c ob q hx
    exact b.there c o' e1 hx
  tups := fun c xs q => b.tups c xs (a.tups c xs q)
  frzs := fun c ob xs q => b.frzs c ob xs (a.frzs c ob xs q)
  tbls := fun c ps q => by
    obtain ⟨m1, e1⟩ := a.tbls c ps q
    obtain ⟨m2, e2⟩ := b.tbls c _ e1
    exact ⟨m1 ++ m2, by rw [e2, Array.append_assoc]⟩
theorem Un.kept (k : ∀ b u, h.get? b = some u → h'.get? b = some u) : Un fs ex H H h h' :=
  ⟨fun b ob q _ _ _ => k b ob q, fun b ob q _ _ _ => ⟨ob.slots, k b ob q⟩, fun _ _ _ n _ => n, fun b ob q _ => ⟨ob, k b ob q⟩, fun _ _ q => q, fun _ _ _ q => q, fun _ ps q => ⟨#[], by rw [q]; simp⟩⟩
theorem Un.refl : Un fs ex H H h h := Un.kept fun _ _ q => q
theorem Un.laid (k : ∀ b u, h.get? b = some u → h'.get? b = some u) (hp : h.objs.size ≤ a) (hn : H a = none) : Un fs ex H (upd H a o) h h' where
  keep := fun b u q _ _ _ => k b u q
  slot := fun b u q _ _ _ => ⟨u.slots, k b u q⟩
  free := fun b u q n _ => by rw [upd_ne (Nat.ne_of_lt (Nat.lt_of_lt_of_le (Heap.lt_size q) hp))]; exact n
  there := fun b u q _ => ⟨u, k b u q⟩
  tups := fun b xs q => by rw [upd_ne (ne_of_none q hn)]; exact q
  frzs := fun b u xs q => by rw [upd_ne (ne_of_none q hn)]; exact q
  tbls := fun b ps q => ⟨#[], by rw [upd_ne (ne_of_none q hn), q]; simp⟩
theorem Un.write (mu : Mut (H x)) (he : e = x ∨ H e = some (.own x)) (k : ∀ b u, b ≠ e → h.get? b = some u → h'.get? b = some u) (heo : ∃ u, h'.get? e = some u) : Un fs ex H (upd H x o) h h' := by
  have hx : ∀ b, H b = none → b ≠ x := fun b n z => by subst z; rw [n] at mu; exact mu
  have hb : ∀ b, H b = none → b ≠ e := fun b n z => by
    subst z
    rcases he with r | r
    · exact hx b n r
    · rw [n] at r; cases r
  have hm : ∀ b u, H b = some u → ¬ Mut (some u) → b ≠ x := fun b u q nm z => by subst z; rw [q] at mu; exact nm mu
  refine ⟨fun b u q n _ _ => k b u (hb b n) q, fun b u q n _ _ => ⟨u.slots, k b u (hb b n) q⟩, fun b u q n _ => by rw [upd_ne (hx b n)]; exact n, fun b u q _ => ?_,
    fun b xs q => by rw [upd_ne (hm b _ q fun z => z)]; exact q, fun b u xs q => by rw [upd_ne (hm b _ q fun z => z)]; exact q, fun b ps q => ⟨#[], by rw [upd_ne (hm b _ q fun z => z), q]; simp⟩⟩
  by_cases hbe : b = e
  · subst hbe; exact heo
  · exact ⟨u, k b u hbe q⟩
theorem Un.mono (u : Un fs ex H H1 h h1) (hs : ∀ b ∈ fs, b ∈ fs') (hx : ∀ b ∈ ex, b ∈ ex') : Un fs' ex' H H1 h h1 :=
  ⟨fun b ob q n hb he => u.keep b ob q n (fun z => hb (hs b z)) fun z => he (hx b z), fun _ _ q n _ he => u.any q n fun z => he (hx _ z), fun b ob q n he => u.free b ob q n fun z => he (hx b z), fun b ob q he => u.there b ob q fun z => he (hx b z), u.tups, u.frzs, u.tbls⟩
end

/-! ### the heap without what is tracked -/
def trk (h : Heap) (H : Hp) : List Addr := (List.range h.objs.size).filter fun a => (H a).isSome
def hidT (h : Heap) (H : Hp) : Heap := PySem.W.hideAll h (trk h H)
theorem hidT_size (h : Heap) (H : Hp) : (hidT h H).objs.size = h.objs.size := PySem.W.hideAll_size _ _
theorem hidT_get {h : Heap} {H : Hp} {b : Addr} {o : Obj} (e : h.get? b = some o) (n : H b = none) : (hidT h H).get? b = some o :=
  PySem.W.hideAll_get _ e fun hm => by
    have q : (H b).isSome = true := (List.mem_filter.mp hm).2
    rw [n] at q; simp at q
theorem of_hidT {h : Heap} {H : Hp} {b : Addr} {o : Obj} (e : (hidT h H).get? b = some o) : h.get? b = some o ∧ H b = none := by
  have e' : h.get? b = some o := PySem.W.of_hideAll (trk h H) e
  refine ⟨e', ?_⟩
  cases q : H b with
  | none => rfl
  | some x =>
    have hm : b ∈ trk h H := List.mem_filter.mpr ⟨List.mem_range.mpr (Heap.lt_size e'), by simp [q]⟩
    have z : (hidT h H).get? b = none := PySem.W.hideAll_none (trk h H) hm
    rw [z] at e; cases e

/-! ### OpenK's ledger, filled with every new object but one -/
def allNews (g h : Heap) (L : Addr) : List (Addr × Obj) := (List.range h.objs.size).filterMap fun a => if a = L ∨ (g.get? a).isSome = true then none else (h.get? a).map fun o => (a, o)
theorem mem_allNews {g h : Heap} {L a : Addr} {o : Obj} (h1 : a ≠ L) (h2 : g.get? a = none) (h3 : h.get? a = some o) : (a, o) ∈ allNews g h L :=
  List.mem_filterMap.mpr ⟨a, List.mem_range.mpr (Heap.lt_size h3), by simp [h1, h2, h3]⟩
theorem of_mem_allNews {g h : Heap} {L : Addr} {p : Addr × Obj} (hp : p ∈ allNews g h L) : p.1 ≠ L ∧ g.get? p.1 = none ∧ h.get? p.1 = some p.2 := by
  obtain ⟨b, _, e⟩ := List.mem_filterMap.mp hp
  split at e
  · cases e
  · rename_i hn
    cases q : h.get? b with
    | none => rw [q] at e; simp at e
    | some u =>
      rw [q] at e
      simp only [Option.map_some, Option.some.injEq] at e
      subst e
      refine ⟨fun z => hn (.inl z), ?_, q⟩
      show g.get? b = none
      cases r : g.get? b with
      | none => rfl
      | some v => exact (hn (.inr (by simp [r]))).elim
def rest (g h : Heap) (L d : Addr) : List (Addr × Obj) := (allNews g h L).filter fun p => decide (p.1 ≠ d)
theorem rest_ne {g h : Heap} {L d : Addr} : ∀ p ∈ rest g h L d, p.1 ≠ d := fun p hp => of_decide_eq_true (List.mem_filter.mp hp).2
theorem mem_rest {g h : Heap} {L d a : Addr} {o : Obj} (h1 : a ≠ L) (h2 : g.get? a = none) (h3 : h.get? a = some o) (h4 : a ≠ d) : (a, o) ∈ rest g h L d :=
  List.mem_filter.mpr ⟨mem_allNews h1 h2 h3, decide_eq_true h4⟩
theorem news_all {g h : Heap} {L : Addr} : News g L h (allNews g h L) := fun p hp => let ⟨a, b, c⟩ := of_mem_allNews hp; ⟨c, a, b⟩
theorem news_at {g h : Heap} {L d : Addr} {o : Obj} (h1 : d ≠ L) (h2 : g.get? d = none) (h3 : h.get? d = some o) : News g L h ((d, o) :: rest g h L d) := fun p hp => by
  rcases List.mem_cons.mp hp with rfl | hp
  · exact ⟨h3, h1, h2⟩
  · exact news_all p (List.mem_filter.mp hp).1
/-- behind a rule that changed d alone: all else but the frame is kept -/
theorem kept_of_news {g h h' : Heap} {L d : Addr} {m : Str → Option Value} (k : ∀ b o, g.get? b = some o → h.get? b = some o) (F : Fr g L h' m) (N : News g L h' (rest g h L d)) :
    ∀ b o, b ≠ L → b ≠ d → h.get? b = some o → h'.get? b = some o := fun b o h1 h2 e => by
  cases q : g.get? b with
  | some u =>
    have := k b u q
    rw [e] at this; cases this
    exact F.keep b _ q
  | none => exact (N (b, o) (mem_rest h1 q e h2)).1
end L2

namespace L2
open PySem PySem.Spec PyProof.Rows

/-- the module's facts, over the base: the heap at the law's entry without what is tracked there -/
structure Mod (K : PySem.W.Frag) (mg : Str → Option Value) (base : Heap) : Prop where
  kin : K.In base
  glob : base.Ns mainGlobals mg
  blt : ∃ mb, base.Ns builtinsNs mb ∧ ∀ x : Str, x ≠ "__name__" → mb x = bootBuiltins x
  nolimit : base.NoLimit

/-- the context: a def's body (or a comprehension's block) running. base: fixed through the whole law; s₀, H₀: the entry; outer: the frames whose slots others may change (a def's callers); stack: all frames that run;
   ex: iterators that were made ahead of the entry and are walked here (a comprehension's); fn: the names whose cells were made at the entry (a def: all; a comprehension's block: its own); calm: not within an except suite; pn: pins that every state bears; xe: what is wanted of an exception that leaves the code -/
structure Cx where
  prog : Program
  w : World
  K : PySem.W.Frag
  mg : Str → Option Value
  base : Heap
  A : Around
  N : List Str
  s₀ : Shared
  H₀ : Hp
  env : Env
  outer : List Env
  stack : List Env
  ex : List Addr
  fn : Str → Bool
  calm : Bool
  pn : List (Addr × Obj)
  xe : Value → Shared → Prop
/-- the callers' frames -/
def frs (l : List Env) : List Addr := l.filterMap (·.frame)
abbrev Cx.fs (X : Cx) : List Addr := frs X.outer

def Vis (sc : Scope) (x : Str) : Prop := sc.names.lookup x = some .local ∨ sc.names.lookup x = some .cell ∨ sc.names.lookup x = some .free
def Loc (sc : Scope) (x : Str) : Prop := sc.names.lookup x = some .local ∨ sc.names.lookup x = some .cell
def Look (env : Env) (h : Heap) (m : Str → Option Value) (x : Str) (u : Value) : Prop :=
  (env.kindOf x = some .local ∧ m x = some u) ∨ ((env.kindOf x = some .cell ∨ env.kindOf x = some .free) ∧ ∃ c, env.cells.lookup x = some c ∧ h.IsCell c (some u))

structure Cx.Ok (X : Cx) : Prop where
  mod : Mod X.K X.mg X.base
  kind : X.env.scope.kind = .function
  glob : X.env.globals = mainGlobals
  blt : X.env.builtins = builtinsNs
  above : X.s₀.heap.objs.size ≤ X.env.locals
  inj : ∀ x y c, X.env.cells.lookup x = some c → X.env.cells.lookup y = some c → x = y
  has : ∀ x, (X.env.kindOf x = some .cell ∨ X.env.kindOf x = some .free) → ∃ c, X.env.cells.lookup x = some c
  cab : ∀ x c, X.fn x = true → X.env.cells.lookup x = some c → X.s₀.heap.objs.size ≤ c
  hd : X.calm = true → X.A.handled = none
  frames : X.A.frames = some X.stack
  stk : X.stack = X.outer ∨ (X.stack = X.env :: X.outer ∧ X.env.frame = some X.env.locals)
  exf : ∀ b ∈ X.ex, b ≠ X.env.locals ∧ ∀ x c, X.env.cells.lookup x = some c → c ≠ b
  bs : ∀ b o, X.base.get? b = some o → X.s₀.heap.get? b = some o ∧ X.H₀ b = none
  bsz : X.base.objs.size ≤ X.s₀.heap.objs.size
  noex : ∀ b o, X.base.get? b = some o → b ∉ X.ex
  exfs : ∀ b ∈ X.ex, b ∉ X.fs
  funs : X.s₀.heap.FunFrames X.base X.outer
  frf : ∀ b ∈ X.fs, X.H₀ b = none

structure Inv (X : Cx) (pins : List (Addr × Obj)) (σ : List (Option V)) (H : Hp) (s : Shared) : Prop where
  ok : X.Ok
  os : s.os = X.s₀.os
  bare : AllBare s.gens
  base : Un X.fs X.ex X.H₀ H X.s₀.heap s.heap
  loc : ∃ m, s.heap.Ns X.env.locals m ∧ ∀ (i : Nat) (x : Str) (v : V), X.N[i]? = some x → σ[i]? = some (some v) → Vis X.env.scope x → ∃ u, RelV v u ∧ Look X.env s.heap m x u
  cell : ∀ x c, X.env.cells.lookup x = some c → ∃ v, s.heap.IsCell c v
  free : H X.env.locals = none
  freeC : ∀ x c, X.env.cells.lookup x = some c → H c = none
  pin : ∀ p ∈ X.pn ++ pins, s.heap.get? p.1 = some p.2 ∧ H p.1 = none ∧ p.1 ≠ X.env.locals ∧ p.1 ∉ X.fs ∧ ∀ v, p.2.data ≠ .cell v
  hok : HOk X.prog X.w H s.heap
  len : σ.length = X.N.length

section
variable {X : Cx} {pins : List (Addr × Obj)} {σ : List (Option V)} {H H' : Hp} {s : Shared} {h' : Heap}

theorem Cx.Ok.nofr (ok : X.Ok) {b : Addr} {o : Obj} (e : X.base.get? b = some o) : b ∉ X.fs := fun hb => by
  have := (ok.funs.mem hb).1
  rw [e] at this; cases this
theorem Inv.bs (I : Inv X pins σ H s) : ∀ b o, X.base.get? b = some o → s.heap.get? b = some o ∧ H b = none := fun b o e =>
  ⟨I.base.keep b o (I.ok.bs b o e).1 (I.ok.bs b o e).2 (I.ok.nofr e) (I.ok.noex b o e), I.base.free b o (I.ok.bs b o e).1 (I.ok.bs b o e).2 (I.ok.noex b o e)⟩
theorem Inv.bk (I : Inv X pins σ H s) : ∀ b o, X.base.get? b = some o → s.heap.get? b = some o := fun b o e => (I.bs b o e).1
theorem Inv.mod (I : Inv X pins σ H s) : Mod X.K X.mg X.base := I.ok.mod
theorem Inv.kIn (I : Inv X pins σ H s) : X.K.In s.heap := I.ok.mod.kin.keeps I.bk
theorem Inv.nolimit (I : Inv X pins σ H s) : s.heap.NoLimit := I.ok.mod.nolimit.keeps I.bk
/-- the frame over the base: for OpenK's rules (K.In X.base is I.mod.kin) -/
theorem Inv.fr (I : Inv X pins σ H s) : ∃ m, Fr X.base X.env.locals s.heap m :=
  let ⟨m, hn, _⟩ := I.loc
  ⟨m, hn, I.bk, Nat.le_trans I.ok.bsz I.ok.above⟩
theorem Inv.lt (I : Inv X pins σ H s) : X.env.locals < s.heap.objs.size := let ⟨_, hn, _⟩ := I.loc; hn.lt
theorem Inv.sz (I : Inv X pins σ H s) : X.s₀.heap.objs.size ≤ s.heap.objs.size := Nat.le_trans I.ok.above (Nat.le_of_lt I.lt)
theorem Inv.nofs (I : Inv X pins σ H s) {a : Addr} (h : s.heap.objs.size ≤ a) : a ∉ X.fs := fun hb => by
  obtain ⟨_, o, ho, _⟩ := I.ok.funs.mem hb
  exact absurd (Nat.lt_of_lt_of_le (Heap.lt_size ho) (Nat.le_trans I.sz h)) (Nat.lt_irrefl _)
theorem Inv.cne (I : Inv X pins σ H s) : ∀ x c, X.env.cells.lookup x = some c → c ≠ X.env.locals := fun x c e z => by
  obtain ⟨v, o, ho, hd⟩ := I.cell x c e
  obtain ⟨m, ⟨o', es, ep, ho', hd', _⟩, _⟩ := I.loc
  rw [z, ho'] at ho; cases ho; rw [hd'] at hd; cases hd
theorem Inv.funs (I : Inv X pins σ H s) : s.heap.FunFrames X.base X.outer := by
  have all : ∀ (l : List Env), (∀ b ∈ frs l, b ∈ X.fs) → X.s₀.heap.FunFrames X.base l → s.heap.FunFrames X.base l := by
    intro l
    induction l with
    | nil => intro _ _; trivial
    | cons env r ih =>
      intro hs hl
      obtain ⟨hk, ⟨L, o, hf, hn, ho, hd⟩, hr⟩ := hl
      have hL : L ∈ X.fs := hs L (by unfold frs; rw [List.filterMap_cons, hf]; exact List.mem_cons_self)
      obtain ⟨sl, e⟩ := I.base.slot L o ho (I.ok.frf L hL) hL fun z => I.ok.exfs L z hL
      exact ⟨hk, ⟨L, _, hf, hn, e, hd⟩, ih (fun b hb => hs b (by unfold frs; rw [List.filterMap_cons, hf]; exact List.mem_cons_of_mem _ hb)) hr⟩
  exact all X.outer (fun _ hb => hb) I.ok.funs

/-- the frames that run, for a call -/
theorem Inv.stack (I : Inv X pins σ H s) : s.heap.FunFrames X.base X.stack := by
  rcases I.ok.stk with e | ⟨e, hf⟩
  · rw [e]; exact I.funs
  · rw [e]
    obtain ⟨m, hn, _⟩ := I.loc
    refine .cons (by rw [I.ok.kind]; decide) hf hn ?_ I.funs
    exact Heap.get?_none_of_le (Nat.le_trans I.ok.bsz I.ok.above)
theorem Inv.stkSub (I : Inv X pins σ H s) : ∀ b ∈ frs X.stack, b ∈ X.env.locals :: X.fs := fun b hb => by
  rcases I.ok.stk with e | ⟨e, hf⟩
  · rw [e] at hb; exact List.mem_cons_of_mem _ hb
  · rw [e] at hb
    unfold frs at hb
    rw [List.filterMap_cons, hf] at hb
    exact hb
theorem Inv.stkFree (I : Inv X pins σ H s) : ∀ b ∈ frs X.stack, H b = none := fun b hb => by
  rcases List.mem_cons.mp (I.stkSub b hb) with e | hb
  · rw [e]; exact I.free
  · obtain ⟨_, o, ho, _⟩ := I.ok.funs.mem hb
    exact I.base.free b o ho (I.ok.frf b hb) fun z => I.ok.exfs b z hb

/-- THE STEP: the untracked objects but the frame and the records at ch are kept (the callers' frames up to slots), the frame's map is kept, the new abstract heap is held -/
theorem Inv.step {g' : Array GenState} {t' : Nat} {d' : Drawn} {ch : List Addr} (I : Inv X pins σ H s)
    (hch : ∀ b ∈ ch, (b ∈ X.ex ∨ X.s₀.heap.objs.size ≤ b) ∧ b ≠ X.env.locals ∧ (∀ x c, X.env.cells.lookup x = some c → c ≠ b) ∧ ∀ p ∈ X.pn ++ pins, p.1 ≠ b)
    (keep : ∀ b o, b ≠ X.env.locals → b ∉ X.fs → b ∉ ch → s.heap.get? b = some o → H b = none → h'.get? b = some o)
    (slot : ∀ b o, b ≠ X.env.locals → b ∈ X.fs → b ∉ ch → s.heap.get? b = some o → H b = none → ∃ sl, h'.get? b = some { o with slots := sl }) (free : ∀ b o, b ∉ ch → s.heap.get? b = some o → H b = none → H' b = none)
    (there : ∀ b o, b ∉ ch → s.heap.get? b = some o → ∃ o', h'.get? b = some o')
    (tups : ∀ b xs, H b = some (.tup xs) → H' b = some (.tup xs)) (frzs : ∀ b o u, H b = some (.frz o u) → H' b = some (.frz o u)) (tbls : ∀ b ps, H b = some (.tbl ps) → ∃ more, H' b = some (.tbl (ps ++ more)))
    (ns : ∀ m, s.heap.Ns X.env.locals m → h'.Ns X.env.locals m) (hok : HOk X.prog X.w H' h') (hg : AllBare g') :
    Inv X pins σ H' { s with heap := h', gens := g', drawn := d', toks := t' } := by
  have neL : ∀ b o, X.s₀.heap.get? b = some o → b ≠ X.env.locals := fun b o e => Nat.ne_of_lt (Nat.lt_of_lt_of_le (Heap.lt_size e) I.ok.above)
  have neC : ∀ b o, X.s₀.heap.get? b = some o → b ∉ X.ex → b ∉ ch := fun b o e hx hb => by
    rcases (hch b hb).1 with z | z
    · exact hx z
    · exact absurd (Nat.lt_of_lt_of_le (Heap.lt_size e) z) (Nat.lt_irrefl _)
  have cellK : ∀ x c, X.env.cells.lookup x = some c → ∀ v, s.heap.IsCell c v → h'.IsCell c v := fun x c e v ⟨o, ho, hd⟩ => by
    have nch : c ∉ ch := fun z => (hch c z).2.2.1 x c e rfl
    by_cases hc : c ∈ X.fs
    · obtain ⟨sl, q⟩ := slot c o (I.cne x c e) hc nch ho (I.freeC x c e)
      exact ⟨_, q, hd⟩
    · exact ⟨o, keep c o (I.cne x c e) hc nch ho (I.freeC x c e), hd⟩
  refine ⟨I.ok, I.os, hg, ⟨fun b o e n hb hx => ?_, fun b o e n hb hx => ?_, fun b o e n hx => ?_, fun b o e hx => ?_, fun b xs e => tups b xs (I.base.tups b xs e), fun b o xs e => frzs b o xs (I.base.frzs b o xs e), fun b ps e => ?_⟩, ?_, fun x c e => ?_, ?_, fun x c e => ?_, fun p hp => ?_, hok, I.len⟩
  · exact keep b o (neL b o e) hb (neC b o e hx) (I.base.keep b o e n hb hx) (I.base.free b o e n hx)
  · obtain ⟨sl, e1⟩ := I.base.slot b o e n hb hx
    obtain ⟨sl', e2⟩ := slot b _ (neL b o e) hb (neC b o e hx) e1 (I.base.free b o e n hx)
    exact ⟨sl', e2⟩
  · obtain ⟨o', e1⟩ := I.base.there b o e hx
    exact free b o' (neC b o e hx) e1 (I.base.free b o e n hx)
  · obtain ⟨o', e1⟩ := I.base.there b o e hx
    exact there b o' (neC b o e hx) e1
  · obtain ⟨m1, e1⟩ := I.base.tbls b ps e
    obtain ⟨m2, e2⟩ := tbls b _ e1
    exact ⟨m1 ++ m2, by rw [e2, Array.append_assoc]⟩
  · obtain ⟨m, hn, hl⟩ := I.loc
    refine ⟨m, ns m hn, fun i x v e1 e2 e3 => ?_⟩
    obtain ⟨u, r, l⟩ := hl i x v e1 e2 e3
    refine ⟨u, r, ?_⟩
    rcases l with l | ⟨k, c, e, z⟩
    · exact .inl l
    · exact .inr ⟨k, c, e, cellK x c e _ z⟩
  · obtain ⟨v, z⟩ := I.cell x c e
    exact ⟨v, cellK x c e v z⟩
  · obtain ⟨m, ⟨o, _, _, ho, _⟩, _⟩ := I.loc
    exact free _ o (fun z => (hch _ z).2.1 rfl) ho I.free
  · obtain ⟨v, o, ho, hd⟩ := I.cell x c e
    exact free c o (fun z => (hch c z).2.2.1 x c e rfl) ho (I.freeC x c e)
  · obtain ⟨e, n, ne, nf, d⟩ := I.pin p hp
    have nch : p.1 ∉ ch := fun z => (hch p.1 z).2.2.2 p hp rfl
    exact ⟨keep p.1 p.2 ne nf nch e n, free p.1 p.2 nch e n, ne, nf, d⟩
/-- .. where the frame's own object is kept too -/
theorem Inv.un {t' : Nat} (I : Inv X pins σ H s) (u : Un X.fs [] H H' s.heap h') (hok : HOk X.prog X.w H' h') : Inv X pins σ H' { s with heap := h', toks := t' } := by
  obtain ⟨m, ⟨o, es, ep, ho, r⟩, _⟩ := id I.loc
  obtain ⟨sl, hL⟩ := u.any ho I.free (by simp)
  exact I.step (g' := s.gens) (d' := s.drawn) (ch := []) (fun _ z => nomatch z) (fun b o _ hb _ e n => u.keep b o e n hb (by simp)) (fun b o _ hb _ e n => u.slot b o e n hb (by simp)) (fun b o _ e n => u.free b o e n (by simp)) (fun b o _ e => u.there b o e (by simp)) u.tups u.frzs u.tbls (fun m' hm => by
    obtain ⟨o', es', ep', ho', r'⟩ := hm
    rw [ho] at ho'; cases ho'
    exact ⟨_, es', ep', hL, r'⟩) hok I.bare
/-- behind a call (or a comprehension's block): the slots of this frame may have changed too, the records at ch may have turned -/
theorem Inv.call {g' : Array GenState} {t' : Nat} {d' : Drawn} {ch : List Addr} (I : Inv X pins σ H s) (u : Un (frs X.stack) ch H H' s.heap h') (hok : HOk X.prog X.w H' h') (hg : AllBare g')
    (hch : ∀ b ∈ ch, (b ∈ X.ex ∨ X.s₀.heap.objs.size ≤ b) ∧ b ≠ X.env.locals ∧ (∀ x c, X.env.cells.lookup x = some c → c ≠ b) ∧ ∀ p ∈ X.pn ++ pins, p.1 ≠ b) :
    Inv X pins σ H' { s with heap := h', gens := g', drawn := d', toks := t' } := by
  obtain ⟨m, ⟨o, es, ep, ho, r⟩, _⟩ := id I.loc
  obtain ⟨sl, hL⟩ := u.any ho I.free fun z => (hch _ z).2.1 rfl
  exact I.step (ch := ch) hch (fun b o hL hb hc e n => u.keep b o e n (fun z => (List.mem_cons.mp (I.stkSub b z)).elim hL hb) hc) (fun b o _ _ hc e n => u.any e n hc) (fun b o hc e n => u.free b o e n hc) (fun b o hc e => u.there b o e hc) u.tups u.frzs u.tbls (fun m' hm => by
    obtain ⟨o', es', ep', ho', r'⟩ := hm
    rw [ho] at ho'; cases ho'
    exact ⟨_, es', ep', hL, r'⟩) hok hg
/-- an untracked record of ours (an iterator) has turned -/
theorem Inv.turned {t' : Nat} {it : Addr} (I : Inv X pins σ H s) (k : ∀ b o, b ≠ it → s.heap.get? b = some o → h'.get? b = some o) (hn : H it = none) (hL : it ≠ X.env.locals)
    (h1 : it ∈ X.ex ∨ X.s₀.heap.objs.size ≤ it) (h2 : ∀ x c, X.env.cells.lookup x = some c → c ≠ it) (h3 : ∀ p ∈ X.pn ++ pins, p.1 ≠ it) : Inv X pins σ H { s with heap := h', toks := t' } := by
  have nit : ∀ b u, H b = some u → b ≠ it := fun b u e z => by rw [z, hn] at e; cases e
  refine I.step (g' := s.gens) (d' := s.drawn) (ch := [it]) (fun b hb => ?_) (fun b o _ _ hc e _ => k b o (fun z => hc (by simp [z])) e) (fun b o _ _ hc e _ => ⟨o.slots, k b o (fun z => hc (by simp [z])) e⟩) (fun _ _ _ _ n => n)
    (fun b o hc e => ⟨o, k b o (fun z => hc (by simp [z])) e⟩) (fun _ _ e => e) (fun _ _ _ e => e) (fun b ps e => ⟨#[], by rw [e]; simp⟩) (fun m hm => ?_) (fun b u e => ?_) I.bare
  · have e : b = it := by simpa using hb
    subst e
    exact ⟨h1, hL, h2, h3⟩
  · obtain ⟨o, es, ep, ho, r⟩ := hm
    exact ⟨o, es, ep, k _ o (Ne.symm hL) ho, r⟩
  · refine (I.hok b u e).stay (fun c v hc q => k c v ?_ q) (fun _ q => q) fun _ _ q => q
    rcases hc with z | z
    · rw [z]; exact nit b u e
    · exact nit c _ z
theorem Inv.tok (I : Inv X pins σ H s) (t : Nat) : Inv X pins σ H { s with toks := t } := I.un (h' := s.heap) (t' := t) Un.refl I.hok
/-- all objects kept -/
theorem Inv.kept {t' : Nat} (I : Inv X pins σ H s) (k : ∀ b u, s.heap.get? b = some u → h'.get? b = some u) : Inv X pins σ H { s with heap := h', toks := t' } := I.un (Un.kept k) (I.hok.kept k)
/-- a new object laid and tracked -/
theorem Inv.laid {a : Addr} {o : HO} {t' : Nat} (I : Inv X pins σ H s) (k : ∀ b u, s.heap.get? b = some u → h'.get? b = some u) (hp : s.heap.objs.size ≤ a) (new : ObjOk X.prog X.w (upd H a o) h' a o) :
    Inv X pins σ (upd H a o) { s with heap := h', toks := t' } := I.un (Un.laid k hp (I.hok.fresh hp)) (I.hok.laid k hp new)
/-- an object written -/
theorem Inv.write {x e : Addr} {o : HO} {t' : Nat} (I : Inv X pins σ H s) (mu : Mut (H x)) (he : e = x ∨ H e = some (.own x)) (k : ∀ b u, b ≠ e → s.heap.get? b = some u → h'.get? b = some u) (heo : ∃ u, h'.get? e = some u)
    (new : ObjOk X.prog X.w (upd H x o) h' x o) : Inv X pins σ (upd H x o) { s with heap := h', toks := t' } := I.un (Un.write mu he k heo) (I.hok.write mu he k heo new)
/-- forgetting slots, pins -/
theorem Inv.weak {σ' : List (Option V)} (I : Inv X pins σ H s) (hl : σ'.length = σ.length) (w : ∀ (i : Nat) v, σ'[i]? = some (some v) → σ[i]? = some (some v)) : Inv X pins σ' H s :=
  ⟨I.ok, I.os, I.bare, I.base, let ⟨m, hn, hl'⟩ := I.loc; ⟨m, hn, fun i x v e1 e2 e3 => hl' i x v e1 (w i v e2) e3⟩, I.cell, I.free, I.freeC, I.pin, I.hok, hl.trans I.len⟩
theorem Inv.pins_of {pins' : List (Addr × Obj)} (I : Inv X pins σ H s) (h : ∀ p ∈ pins', s.heap.get? p.1 = some p.2 ∧ H p.1 = none ∧ p.1 ≠ X.env.locals ∧ p.1 ∉ X.fs ∧ ∀ v, p.2.data ≠ .cell v) : Inv X pins' σ H s :=
  ⟨I.ok, I.os, I.bare, I.base, I.loc, I.cell, I.free, I.freeC, fun p hp => (List.mem_append.mp hp).elim (fun z => I.pin p (List.mem_append_left _ z)) (h p), I.hok, I.len⟩

theorem nodup_ix {N : List Str} (hN : N.Nodup) {i j : Nat} {x : Str} (a : N[i]? = some x) (b : N[j]? = some x) : i = j := by
  obtain ⟨h1, e1⟩ := List.getElem?_eq_some_iff.mp a
  obtain ⟨h2, e2⟩ := List.getElem?_eq_some_iff.mp b
  exact (List.getElem_inj hN).mp (e1.trans e2.symm)

/-- a name is stored; what changed -/
theorem store_ok2 {M : Model} {A : Around} {E : Value → Shared → Prop} {i : Nat} {x : Str} {v : V} {u : Value} {Q : Unit → Shared → Prop} (I : Inv X pins σ H s) (hN : X.N.Nodup) (hi : X.N[i]? = some x) (hx : Loc X.env.scope x) (r : RelV v u)
    (h : ∀ s', Inv X pins (σ.set i (some v)) H s' → (∃ a, Heap.SameBut a s.heap s'.heap ∧ (a = X.env.locals ∨ X.env.cells.lookup x = some a)) → Q () s') (hf : X.fn x = true ∨ X.env.scope.names.lookup x = some .local := by first | exact .inl rfl | exact .inr rfl | assumption) : wpAny M A (storeName X.env x u) Q E s := by
  obtain ⟨m, hn, hl⟩ := id I.loc
  have hcls : (X.env.scope.kind == .class || (X.env.scope.kind == .module && X.env.locals != X.env.globals)) = false := by rw [I.ok.kind]; rfl
  have hiσ : i < σ.length := by rw [I.len]; exact (List.getElem?_eq_some_iff.mp hi).1
  have cne := I.cne
  have tracked : ∀ {a : Addr} {h' : Heap}, (∃ o, s.heap.get? a = some o ∧ H a = none) → Heap.SameBut a s.heap h' → HOk X.prog X.w H h' := fun {a h'} ha hs b ob e => by
    obtain ⟨_, _, hfree⟩ := ha
    refine (I.hok b ob e).stay (fun c w' hc q => (hs.2 c ?_).trans q) (fun _ q => q) fun _ _ q => q
    rintro rfl
    rcases hc with rfl | hc
    · rw [hfree] at e; cases e
    · rw [hfree] at hc; cases hc
  rcases hx with hk | hk
  · refine wpAny_storeName_local hk hn (fun h' hn' hs => ?_) hcls
    obtain ⟨oL, _, _, hoL, _⟩ := id hn
    refine h _ ⟨I.ok, I.os, I.bare, ⟨fun b o e n hb hx => ?_, fun b o e n hb hx => ?_, I.base.free, fun b o e hx => ?_, I.base.tups, I.base.frzs, I.base.tbls⟩, ⟨_, hn', fun j y v' e1 e2 e3 => ?_⟩, fun y c e => ?_, I.free, I.freeC, fun p hp => ?_, tracked ⟨oL, hoL, I.free⟩ hs, by simpa using I.len⟩ ⟨_, hs, .inl rfl⟩
    · exact (hs.2 b (Nat.ne_of_lt (Nat.lt_of_lt_of_le (Heap.lt_size e) I.ok.above))).trans (I.base.keep b o e n hb hx)
    · obtain ⟨sl, e1⟩ := I.base.slot b o e n hb hx
      exact ⟨sl, (hs.2 b (Nat.ne_of_lt (Nat.lt_of_lt_of_le (Heap.lt_size e) I.ok.above))).trans e1⟩
    · obtain ⟨o', e1⟩ := I.base.there b o e hx
      exact ⟨o', (hs.2 b (Nat.ne_of_lt (Nat.lt_of_lt_of_le (Heap.lt_size e) I.ok.above))).trans e1⟩
    · by_cases hj : j = i
      · subst hj
        rw [hi] at e1; cases e1
        rw [List.getElem?_set_self hiσ] at e2
        cases e2
        exact ⟨u, r, .inl ⟨hk, by simp⟩⟩
      · rw [List.getElem?_set_ne (Ne.symm hj)] at e2
        obtain ⟨u', r', q⟩ := hl j y v' e1 e2 e3
        refine ⟨u', r', ?_⟩
        rcases q with ⟨k, e⟩ | ⟨k, c, e, z⟩
        · refine .inl ⟨k, ?_⟩
          have : y ≠ x := fun e => hj (nodup_ix hN e1 (e ▸ hi))
          simp [this, e]
        · exact .inr ⟨k, c, e, z.sameBut hs (cne y c e)⟩
    · obtain ⟨w', z⟩ := I.cell y c e
      exact ⟨w', z.sameBut hs (cne y c e)⟩
    · obtain ⟨e, n, ne, nf, d⟩ := I.pin p hp
      exact ⟨(hs.2 p.1 ne).trans e, n, ne, nf, d⟩
  · have hfn : X.fn x = true := by
      rcases hf with z | z
      · exact z
      · rw [z] at hk; cases hk
    obtain ⟨c, hc⟩ := I.ok.has x (.inl hk)
    obtain ⟨w', z⟩ := I.cell x c hc
    refine wpAny_storeName_cell I.ok.kind hk hc z (fun h' hc' hs => ?_)
    obtain ⟨oc, hoc, hocd⟩ := id z
    refine h { s with heap := h' } ⟨I.ok, I.os, I.bare, ⟨fun b o e n hb hx => ?_, fun b o e n hb hx => ?_, I.base.free, fun b o e hx => ?_, I.base.tups, I.base.frzs, I.base.tbls⟩, ⟨m, hn.sameBut hs (Ne.symm (cne x c hc)), fun j y v' e1 e2 e3 => ?_⟩, fun y c' e => ?_, I.free, I.freeC, fun p hp => ?_, tracked ⟨oc, hoc, I.freeC x c hc⟩ hs, by simpa using I.len⟩ ⟨c, hs, .inr hc⟩
    · exact (hs.2 b (Nat.ne_of_lt (Nat.lt_of_lt_of_le (Heap.lt_size e) (I.ok.cab x c hfn hc)))).trans (I.base.keep b o e n hb hx)
    · obtain ⟨sl, e1⟩ := I.base.slot b o e n hb hx
      exact ⟨sl, (hs.2 b (Nat.ne_of_lt (Nat.lt_of_lt_of_le (Heap.lt_size e) (I.ok.cab x c hfn hc)))).trans e1⟩
    · obtain ⟨o', e1⟩ := I.base.there b o e hx
      exact ⟨o', (hs.2 b (Nat.ne_of_lt (Nat.lt_of_lt_of_le (Heap.lt_size e) (I.ok.cab x c hfn hc)))).trans e1⟩
    · by_cases hj : j = i
      · subst hj
        rw [hi] at e1; cases e1
        rw [List.getElem?_set_self hiσ] at e2
        cases e2
        exact ⟨u, r, .inr ⟨.inl hk, c, hc, hc'⟩⟩
      · rw [List.getElem?_set_ne (Ne.symm hj)] at e2
        obtain ⟨u', r', q⟩ := hl j y v' e1 e2 e3
        refine ⟨u', r', ?_⟩
        rcases q with q | ⟨k, c', e, z'⟩
        · exact .inl q
        · refine .inr ⟨k, c', e, z'.sameBut hs ?_⟩
          rintro rfl
          exact hj (nodup_ix hN e1 (I.ok.inj _ _ _ e hc ▸ hi))
    · by_cases hcc : c' = c
      · subst hcc; exact ⟨_, hc'⟩
      · obtain ⟨w2, z2⟩ := I.cell y c' e
        exact ⟨w2, z2.sameBut hs hcc⟩
    · obtain ⟨e, n, ne, nf, d⟩ := I.pin p hp
      refine ⟨(hs.2 p.1 ?_).trans e, n, ne, nf, d⟩
      intro q
      rw [q, hoc] at e
      have q' : oc = p.2 := Option.some.inj e
      exact d w' (by rw [← q']; exact hocd)
theorem store_ok {M : Model} {A : Around} {E : Value → Shared → Prop} {i : Nat} {x : Str} {v : V} {u : Value} {Q : Unit → Shared → Prop} (I : Inv X pins σ H s) (hN : X.N.Nodup) (hi : X.N[i]? = some x) (hx : Loc X.env.scope x) (r : RelV v u)
    (h : ∀ s', Inv X pins (σ.set i (some v)) H s' → Q () s') (hf : X.fn x = true ∨ X.env.scope.names.lookup x = some .local := by first | exact .inl rfl | exact .inr rfl | assumption) : wpAny M A (storeName X.env x u) Q E s :=
  store_ok2 I hN hi hx r (fun s' I' _ => h s' I') hf
/-- behind a call or a block, the state as it is -/
theorem Inv.call' {s' : Shared} {ch : List Addr} (I : Inv X pins σ H s) (ho : s'.os = s.os) (u : Un (frs X.stack) ch H H' s.heap s'.heap) (hok : HOk X.prog X.w H' s'.heap) (hg : AllBare s'.gens)
    (hch : ∀ b ∈ ch, (b ∈ X.ex ∨ X.s₀.heap.objs.size ≤ b) ∧ b ≠ X.env.locals ∧ (∀ x c, X.env.cells.lookup x = some c → c ≠ b) ∧ ∀ p ∈ X.pn ++ pins, p.1 ≠ b) : Inv X pins σ H' s' := by
  obtain ⟨h', g', d', t', o'⟩ := s'
  have e : o' = s.os := ho
  subst e
  exact I.call (g' := g') (t' := t') (d' := d') u hok hg hch
end

/-! ### the judgements -/
/-- an exception: its class, its own dict's address (where it has one), the abstract heap behind it -/
abbrev XK := Value → Option Addr → Hp → Prop
abbrev St := List (Option V)
abbrev VK := V → Hp → Prop
/-- an expression's reading; a test's; an argument list's -/
abbrev TE := St → Hp → VK → Prop
abbrev TT := St → Hp → (Bool → Hp → Prop) → Prop
abbrev TA := St → Hp → (List V → Hp → Prop) → Prop
/-- what is wanted behind a statement -/
structure Ends where
  nx : St → Hp → Prop
  rt : VK
  bk : St → Hp → Prop := fun _ _ => False
  ct : St → Hp → Prop := fun _ _ => False
abbrev TS := Ends → St → Hp → Prop

def EP (X : Cx) (pins : List (Addr × Obj)) (σ : St) (Q : VK) (u : Value) (s' : Shared) : Prop := ∃ v H', Inv X pins σ H' s' ∧ RelV v u ∧ Q v H'
def TP (X : Cx) (pins : List (Addr × Obj)) (σ : St) (Q : Bool → Hp → Prop) (b : Bool) (s' : Shared) : Prop := ∃ H', Inv X pins σ H' s' ∧ Q b H'
def AP (X : Cx) (pins : List (Addr × Obj)) (σ : St) (Q : List V → Hp → Prop) (us : List Value) (s' : Shared) : Prop := ∃ vs H', Inv X pins σ H' s' ∧ Vals vs us ∧ Q vs H'
def SP (X : Cx) (pins : List (Addr × Obj)) (D : Ends) (f : Flow) (s' : Shared) : Prop :=
  match f with
  | .next => ∃ σ' H', Inv X pins σ' H' s' ∧ D.nx σ' H'
  | .brk => ∃ σ' H', Inv X pins σ' H' s' ∧ D.bk σ' H'
  | .cont => ∃ σ' H', Inv X pins σ' H' s' ∧ D.ct σ' H'
  | .ret u => ∃ v σ' H', Inv X pins σ' H' s' ∧ RelV v u ∧ D.rt v H'

def PE (X : Cx) (e : Expr) (t : TE) : Prop :=
  ∀ (pins : List (Addr × Obj)) (s : Shared) (σ : St) (H : Hp) (Q : VK), Inv X pins σ H s → t σ H Q → wpAny (model X.prog X.w) X.A (eval e X.env) (EP X pins σ Q) X.xe s
def PT (X : Cx) (e : Expr) (t : TT) : Prop :=
  ∀ (pins : List (Addr × Obj)) (s : Shared) (σ : St) (H : Hp) (Q : Bool → Hp → Prop), Inv X pins σ H s → t σ H Q → wpAny (model X.prog X.w) X.A (isTrue e X.env (eval e X.env)) (TP X pins σ Q) X.xe s
/-- a test whatever its 'whole' is (and, or) -/
def PW (X : Cx) (e : Expr) (t : TT) : Prop :=
  ∀ (whole : Sem Value) (pins : List (Addr × Obj)) (s : Shared) (σ : St) (H : Hp) (Q : Bool → Hp → Prop), Inv X pins σ H s → t σ H Q → wpAny (model X.prog X.w) X.A (isTrue e X.env whole) (TP X pins σ Q) X.xe s
theorem PW.pt {X : Cx} {e : Expr} {t : TT} (h : PW X e t) : PT X e t := h _
/-- an argument list (no star), from the left -/
def PA (X : Cx) (es : List Expr) (t : TA) : Prop :=
  ∀ (pos : Pos) (pins : List (Addr × Obj)) (s : Shared) (σ : St) (H : Hp) (Q : List V → Hp → Prop), Inv X pins σ H s → t σ H Q → wpAny (model X.prog X.w) X.A (spliced (backTo pos (starEach es X.env))) (AP X pins σ Q) X.xe s
def PS (X : Cx) (st : Stmt) (t : TS) : Prop :=
  ∀ (pins : List (Addr × Obj)) (s : Shared) (σ : St) (H : Hp) (D : Ends), Inv X pins σ H s → t D σ H → wpAny (model X.prog X.w) X.A (exec st X.env) (SP X pins D) X.xe s
def PSs (X : Cx) (st : List Stmt) (t : TS) : Prop :=
  ∀ (pins : List (Addr × Obj)) (s : Shared) (σ : St) (H : Hp) (D : Ends), Inv X pins σ H s → t D σ H → wpAny (model X.prog X.w) X.A (execs st X.env) (SP X pins D) X.xe s
/-- weaken the end -/
theorem thn {α : Type} {t : Sem α} {Q Q' : α → Shared → Prop} {M : Model} {A : Around} {E : Value → Shared → Prop} {s : Shared} (h : wpAny M A t Q E s) (hQ : ∀ a s, Q a s → Q' a s) : wpAny M A t Q' E s := wpAny_mono h hQ fun _ _ x => x
end L2

namespace L2
open PySem PySem.Spec PyProof.Rows
section
variable {X : Cx}

/-- two expressions in a row -/
theorem bin {a b : Expr} {ta tb : TE} (ha : PE X a ta) (hb : PE X b tb) {pins : List (Addr × Obj)} {s : Shared} {σ : St} {H : Hp} {R : V → V → Hp → Prop} (I : Inv X pins σ H s) (h : ta σ H fun x H1 => tb σ H1 fun y H2 => R x y H2)
    {α : Type} {Q : α → Shared → Prop} {f : Value → Value → Sem α}
    (hf : ∀ v u s2 x y H2, Inv X pins σ H2 s2 → RelV x v → RelV y u → R x y H2 → wpAny (model X.prog X.w) X.A (f v u) Q X.xe s2) :
    wpAny (model X.prog X.w) X.A (eval a X.env) (fun v s₁ => wpAny (model X.prog X.w) X.A (eval b X.env) (fun u s₂ => wpAny (model X.prog X.w) X.A (f v u) Q X.xe s₂) X.xe s₁) X.xe s := by
  refine thn (ha pins s σ H _ I h) fun v s1 ⟨x, H1, I1, r1, q1⟩ => ?_
  refine thn (hb pins s1 σ H1 _ I1 q1) fun u s2 ⟨y, H2, I2, r2, q2⟩ => ?_
  exact hf v u s2 x y H2 I2 r1 r2 q2

/-! ### names and constants -/
def tVar (i : Nat) : TE := fun σ H Q => ∃ v, σ[i]? = some (some v) ∧ Q v H
def tC (v : V) : TE := fun _ H Q => Q v H
theorem pe_var {i : Nat} {x : Str} {pos : Pos} (hN : X.N[i]? = some x) (hv : Vis X.env.scope x) (hd : (x == ("__debug__" : Str)) = false := by decide) (hcd : (x == ("__classdict__" : Str)) = false := by decide) : PE X (.Name x pos) (tVar i) := by
  intro pins s σ H Q I h
  obtain ⟨v, e, h⟩ := h
  obtain ⟨m, hn, hl⟩ := I.loc
  obtain ⟨u, r, l⟩ := hl i x v hN e hv
  have fin : EP X pins σ Q u s := ⟨v, H, I, r, h⟩
  rcases l with ⟨hk, hm⟩ | ⟨hk, c, hc, hcell⟩
  · exact wpAny_Name (wpAny_loadName_local I.ok.kind hk hn hm fin) hd
  · rcases hk with hk | hk
    · exact wpAny_Name (wpAny_loadName_cell I.ok.kind hk hc hcell fin) hd
    · exact wpAny_Name (wpAny_loadName_free I.ok.kind hk hc hcell fin hcd) hd
theorem pe_int {i j pos} : PE X (.Constant (.int i) j pos) (tC (.int i)) := fun _ _ _ H _ I h => wpAny_Constant_int ⟨.int i, H, I.tok _, ⟨_, rfl⟩, h⟩
theorem pe_bl {b j pos} : PE X (.Constant (.bool b) j pos) (tC (.bl b)) := fun _ _ _ H _ I h => Constant_bool ⟨.bl b, H, I, rfl, h⟩
theorem pe_non {j pos} : PE X (.Constant .none j pos) (tC .non) := fun _ _ _ H _ I h => Constant_none ⟨.non, H, I, rfl, h⟩
theorem pe_str {x j pos} : PE X (.Constant (.str x) j pos) (tC (.str x)) := fun _ _ _ H _ I h => Calls.Constant_str ⟨.str x, H, I.tok _, ⟨_, rfl⟩, h⟩

/-- a global name of the def -/
def Gl (X : Cx) (x : Str) : Prop := X.env.kindOf x = some .globalImplicit
theorem ld_glob {E : Value → Shared → Prop} {pins : List (Addr × Obj)} {s : Shared} {σ : St} {H : Hp} {x : Str} {u : Value} {pos : Pos} {Q : Value → Shared → Prop} (I : Inv X pins σ H s) (hg : Gl X x) (hm : X.mg x = some u) (h : Q u s)
    (hd : (x == ("__debug__" : Str)) = false := by decide) : wpAny (model X.prog X.w) X.A (eval (.Name x pos) X.env) Q E s :=
  Calls.Name_function_global I.ok.kind hg (Calls.loadGlobal_global (by rw [I.ok.glob]; exact I.mod.glob.keeps I.bk) hm h) hd
theorem ld_blt {E : Value → Shared → Prop} {pins : List (Addr × Obj)} {s : Shared} {σ : St} {H : Hp} {x : Str} {u : Value} {pos : Pos} {Q : Value → Shared → Prop} (I : Inv X pins σ H s) (hg : Gl X x) (hm : X.mg x = none) (hv : bootBuiltins x = some u) (h : Q u s)
    (hn : x ≠ "__name__" := by decide) (hd : (x == ("__debug__" : Str)) = false := by decide) : wpAny (model X.prog X.w) X.A (eval (.Name x pos) X.env) Q E s := by
  obtain ⟨mb, h1, h2⟩ := I.mod.blt
  exact Calls.Name_function_global I.ok.kind hg (Calls.loadGlobal_builtin (by rw [I.ok.glob]; exact I.mod.glob.keeps I.bk) hm (by rw [I.ok.blt]; exact h1.keeps I.bk) ((h2 x hn).trans hv) h) hd
/-- a module's constant, a class, a function, as a value -/
theorem pe_glob {x : Str} {v : V} {u : Value} {pos : Pos} (hg : Gl X x) (hm : X.mg x = some u) (r : RelV v u) (hd : (x == ("__debug__" : Str)) = false := by decide) : PE X (.Name x pos) (tC v) :=
  fun _ _ _ H _ I h => ld_glob I hg hm ⟨v, H, I, r, h⟩ hd
theorem pe_bltn {x : Str} {v : V} {u : Value} {pos : Pos} (hg : Gl X x) (hm : X.mg x = none) (hv : bootBuiltins x = some u) (r : RelV v u) (hn : x ≠ "__name__" := by decide) (hd : (x == ("__debug__" : Str)) = false := by decide) : PE X (.Name x pos) (tC v) :=
  fun _ _ _ H _ I h => ld_blt I hg hm hv ⟨v, H, I, r, h⟩ hn hd

/-! ### arithmetic -/
/-- two ints -/
def t2I (ta tb : TE) (k : Int → Int → Hp → Prop) : St → Hp → Prop := fun σ H => ta σ H fun x H1 => tb σ H1 fun y H2 => ∃ i j, x = .int i ∧ y = .int j ∧ k i j H2
def tAdd (ta tb : TE) : TE := fun σ H Q => t2I ta tb (fun i j H2 => Q (.int (i + j)) H2) σ H
def tSub (ta tb : TE) : TE := fun σ H Q => t2I ta tb (fun i j H2 => Q (.int (i - j)) H2) σ H
/-- the left factor below 2^64 -/
def tMul (ta tb : TE) : TE := fun σ H Q => t2I ta tb (fun i j H2 => (-(2 ^ 64) < i ∧ i < 2 ^ 64) ∧ Q (.int (i * j)) H2) σ H
variable {a b : Expr} {ta tb : TE} {pos : Pos}
theorem pe_add (ha : PE X a ta) (hb : PE X b tb) : PE X (.BinOp a .Add b pos) (tAdd ta tb) := by
  intro pins s σ H Q I h
  refine wpAny_BinOp (bin ha hb I h fun v u s2 x y H2 I2 rx ry q => ?_)
  obtain ⟨i, j, rfl, rfl, q⟩ := q
  obtain ⟨t, rfl⟩ := rx
  obtain ⟨t', rfl⟩ := ry
  exact add_int ⟨.int _, H2, I2.tok _, ⟨_, rfl⟩, q⟩
theorem pe_sub (ha : PE X a ta) (hb : PE X b tb) : PE X (.BinOp a .Sub b pos) (tSub ta tb) := by
  intro pins s σ H Q I h
  refine wpAny_BinOp (bin ha hb I h fun v u s2 x y H2 I2 rx ry q => ?_)
  obtain ⟨i, j, rfl, rfl, q⟩ := q
  obtain ⟨t, rfl⟩ := rx
  obtain ⟨t', rfl⟩ := ry
  exact sub_int ⟨.int _, H2, I2.tok _, ⟨_, rfl⟩, q⟩
theorem pe_mul (ha : PE X a ta) (hb : PE X b tb) : PE X (.BinOp a .Mult b pos) (tMul ta tb) := by
  intro pins s σ H Q I h
  refine wpAny_BinOp (bin ha hb I h fun v u s2 x y H2 I2 rx ry q => ?_)
  obtain ⟨i, j, rfl, rfl, ⟨q1, q2⟩, q⟩ := q
  obtain ⟨t, rfl⟩ := rx
  obtain ⟨t', rfl⟩ := ry
  exact mul_int ⟨.int _, H2, I2.tok _, ⟨_, rfl⟩, q⟩ (.of_left (intBits_le_64 q1 q2))

/-! ### comparisons -/
def PC (X : Cx) (op : CmpOp) (a b : Expr) (t : TE) : Prop :=
  ∀ (pins : List (Addr × Obj)) (s : Shared) (σ : St) (H : Hp) (Q : VK), Inv X pins σ H s → t σ H Q →
    wpAny (model X.prog X.w) X.A (eval a X.env) (fun v s₁ => wpAny (model X.prog X.w) X.A (eval b X.env) (fun u s₂ => wpAny (model X.prog X.w) X.A (compareOp op v u) (EP X pins σ Q) X.xe s₂) X.xe s₁) X.xe s
theorem nobehind (b : Expr) {op : CmpOp} (h : op ≠ .In) (h2 : op ≠ .NotIn) : behindInMarks op b = false := by
  have e1 : (op == CmpOp.In) = false := by cases op <;> first | rfl | exact absurd rfl h
  have e2 : (op == CmpOp.NotIn) = false := by cases op <;> first | rfl | exact absurd rfl h2
  cases b <;> simp [behindInMarks, e1, e2]
def tCmp (p : Int → Int → Bool) (ta tb : TE) : TE := fun σ H Q => t2I ta tb (fun i j H2 => Q (.bl (p i j)) H2) σ H
abbrev tLt : TE → TE → TE := tCmp fun i j => decide (i < j)
abbrev tLe : TE → TE → TE := tCmp fun i j => decide (i ≤ j)
abbrev tGt : TE → TE → TE := tCmp fun i j => decide (j < i)
abbrev tGe : TE → TE → TE := tCmp fun i j => decide (j ≤ i)
abbrev tEqI : TE → TE → TE := tCmp fun i j => decide (i = j)
abbrev tNeI : TE → TE → TE := tCmp fun i j => !decide (i = j)
/-- a comparison of two ints, by its rule -/
theorem pc_int {op : CmpOp} {p : Int → Int → Bool} (ha : PE X a ta) (hb : PE X b tb)
    (rule : ∀ (i j : Int) (t u : Tok) (Q : Value → Shared → Prop) (s : Shared), Q (.bool (p i j)) s → wpAny (model X.prog X.w) X.A (compareOp op (.int i t) (.int j u)) Q X.xe s) : PC X op a b (tCmp p ta tb) := by
  intro pins s σ H Q I h
  refine bin ha hb I h fun v u s2 x y H2 I2 rx ry q => ?_
  obtain ⟨i, j, rfl, rfl, q⟩ := q
  obtain ⟨t, rfl⟩ := rx
  obtain ⟨t', rfl⟩ := ry
  exact rule i j t t' _ s2 ⟨.bl _, H2, I2, rfl, q⟩
theorem pc_lt (ha : PE X a ta) (hb : PE X b tb) : PC X .Lt a b (tLt ta tb) := pc_int ha hb fun _ _ _ _ _ _ h => lt_int h
theorem pc_le (ha : PE X a ta) (hb : PE X b tb) : PC X .LtE a b (tLe ta tb) := pc_int ha hb fun _ _ _ _ _ _ h => le_int h
theorem pc_gt (ha : PE X a ta) (hb : PE X b tb) : PC X .Gt a b (tGt ta tb) := pc_int ha hb fun _ _ _ _ _ _ h => gt_int h
theorem pc_ge (ha : PE X a ta) (hb : PE X b tb) : PC X .GtE a b (tGe ta tb) := pc_int ha hb fun _ _ _ _ _ _ h => ge_int h
theorem pc_eqI (ha : PE X a ta) (hb : PE X b tb) : PC X .Eq a b (tEqI ta tb) := pc_int ha hb fun _ _ _ _ _ _ h => eq_int (by rw [Bool.beq_eq_decide_eq]; exact h)
theorem pc_neI (ha : PE X a ta) (hb : PE X b tb) : PC X .NotEq a b (tNeI ta tb) := pc_int ha hb fun _ _ _ _ _ _ h => ne_int (by rw [bne, Bool.beq_eq_decide_eq]; exact h)
/-- is None -/
def tIsN (ta : TE) : TE := fun σ H Q => ta σ H fun x H1 => Q (.bl (decide (x = .non))) H1
def tNotN (ta : TE) : TE := fun σ H Q => ta σ H fun x H1 => Q (.bl (!decide (x = .non))) H1
theorem RelV.none_iff {x : V} {v : Value} (r : RelV x v) : (v == Value.none) = decide (x = .non) := by
  cases x with
  | non => cases r; rfl
  | bl _ => cases r; rfl
  | int _ => obtain ⟨t, rfl⟩ := r; rfl
  | str _ => obtain ⟨t, rfl⟩ := r; rfl
  | byt _ => obtain ⟨t, rfl⟩ := r; rfl
  | flt _ => obtain ⟨t, rfl⟩ := r; rfl
  | ref _ => cases r; rfl
  | ty _ => cases r; rfl
theorem pc_isN {j pos'} (ha : PE X a ta) : PC X .Is a (.Constant .none j pos') (tIsN ta) := by
  intro pins s σ H Q I h
  refine thn (ha pins s σ H _ I h) fun v s1 ⟨x, H1, I1, r1, q1⟩ => ?_
  exact Constant_none (is_none_gen ⟨.bl _, H1, I1, by rw [r1.none_iff]; rfl, q1⟩)
theorem pc_notN {j pos'} (ha : PE X a ta) : PC X .IsNot a (.Constant .none j pos') (tNotN ta) := by
  intro pins s σ H Q I h
  refine thn (ha pins s σ H _ I h) fun v s1 ⟨x, H1, I1, r1, q1⟩ => ?_
  exact Constant_none (isnot_none_gen ⟨.bl _, H1, I1, by rw [r1.none_iff]; rfl, q1⟩)
/-- a comparison as a value, as a test -/
def tB (t : TE) : TT := fun σ H Q => t σ H fun x H1 => ∃ c, x = .bl c ∧ Q c H1
theorem pe_cmp {op : CmpOp} {t : TE} (h : PC X op a b t) (h1 : behindInMarks op b = false := by first | exact nobehind _ (by decide) (by decide) | rfl) : PE X (.Compare a [op] [b] pos) t := fun pins s σ H Q I hw => wpAny_Compare1 (h pins s σ H Q I hw) h1
theorem pt_cmp {op : CmpOp} {t : TE} (h : PC X op a b t) (h1 : behindInMarks op b = false := by first | exact nobehind _ (by decide) (by decide) | rfl) : PT X (.Compare a [op] [b] pos) (tB t) := by
  intro pins s σ H Q I hw
  refine wpAny_isTrue_Compare1 (thn (h pins s σ H _ I hw) fun v s1 h1 => thn h1 fun u s2 h2 => thn h2 fun c s3 ⟨x, H1, I1, r1, q1⟩ => ?_) h1
  obtain ⟨d, rfl, q⟩ := q1
  cases r1
  exact wpAny_truthy_bool ⟨H1, I1, q⟩
/-- an expression whose value is a bool, as a test -/
theorem pt_val {e : Expr} {t : TE} (h : PE X e t) (he : ∀ whole, isTrue e X.env whole = (do let v ← whole; standAt e.pos; holding [v] (truthy v)) := by intro _; rfl) : PT X e (tB t) := by
  intro pins s σ H Q I hw
  refine isTrue_plain (thn (h pins s σ H _ I hw) fun v s1 ⟨x, H1, I1, r1, q1⟩ => ?_) (he _)
  obtain ⟨d, rfl, q⟩ := q1
  cases r1
  exact wpAny_truthy_bool ⟨H1, I1, q⟩

/-! ### and, or, not -/
variable {tA tB' : TT} {rest : List Expr}
def tAnd (t u : TT) : TT := fun σ H Q => t σ H fun c H1 => if c = true then u σ H1 Q else Q false H1
def tOr (t u : TT) : TT := fun σ H Q => t σ H fun c H1 => if c = true then Q true H1 else u σ H1 Q
def tNot (t : TT) : TT := fun σ H Q => t σ H fun c H1 => Q (!c) H1
theorem pw_and1 (ha : PT X a tA) : PW X (.BoolOp .And [a] pos) tA := by
  intro wh pins s σ H Q I h
  refine isTrue_and (thn (ha pins s σ H Q I h) fun c s1 e => ?_)
  cases c with
  | true => exact isTrue_and_nil e
  | false => exact e
theorem pw_or1 (ha : PT X a tA) : PW X (.BoolOp .Or [a] pos) tA := by
  intro wh pins s σ H Q I h
  refine isTrue_or (thn (ha pins s σ H Q I h) fun c s1 e => ?_)
  cases c with
  | false => exact isTrue_or_nil e
  | true => exact e
theorem pw_and (ha : PT X a tA) (hb : PW X (.BoolOp .And (b :: rest) pos) tB') : PW X (.BoolOp .And (a :: b :: rest) pos) (tAnd tA tB') := by
  intro wh pins s σ H Q I h
  refine isTrue_and (thn (ha pins s σ H _ I h) fun c s1 ⟨H1, I1, q1⟩ => ?_)
  cases c with
  | true => exact hb wh pins s1 σ H1 Q I1 q1
  | false => exact ⟨H1, I1, q1⟩
theorem pw_or (ha : PT X a tA) (hb : PW X (.BoolOp .Or (b :: rest) pos) tB') : PW X (.BoolOp .Or (a :: b :: rest) pos) (tOr tA tB') := by
  intro wh pins s σ H Q I h
  refine isTrue_or (thn (ha pins s σ H _ I h) fun c s1 ⟨H1, I1, q1⟩ => ?_)
  cases c with
  | true => exact ⟨H1, I1, q1⟩
  | false => exact hb wh pins s1 σ H1 Q I1 q1
theorem pt_not (ha : PT X a tA) : PT X (.UnaryOp .Not a pos) (tNot tA) := by
  intro pins s σ H Q I h
  exact isTrue_not (ha pins s σ H (fun c H1 => Q (!c) H1) I h)
/-- .. as values (bools) -/
def tAndV (ta tb : TE) : TE := fun σ H Q => ta σ H fun x H1 => ∃ c, x = .bl c ∧ if c = true then tb σ H1 Q else Q (.bl false) H1
def tOrV (ta tb : TE) : TE := fun σ H Q => ta σ H fun x H1 => ∃ c, x = .bl c ∧ if c = true then Q (.bl true) H1 else tb σ H1 Q
def tNotV (ta : TE) : TE := fun σ H Q => ta σ H fun x H1 => ∃ c, x = .bl c ∧ Q (.bl (!c)) H1
theorem pe_one {op} {t : TE} (h : PE X a t) : PE X (.BoolOp op [a] pos) t := fun pins s σ H Q I hw => BoolOp_one (h pins s σ H Q I hw)
theorem pe_and (ha : PE X a ta) (hb : PE X (.BoolOp .And (b :: rest) pos) tb) : PE X (.BoolOp .And (a :: b :: rest) pos) (tAndV ta tb) := by
  intro pins s σ H Q I h
  refine BoolOp_and (thn (ha pins s σ H _ I h) fun v s1 ⟨x, H1, I1, r1, q1⟩ => ?_)
  obtain ⟨c, rfl, q1⟩ := q1
  cases r1
  refine wpAny_truthy_bool ?_
  cases c with
  | true => exact hb pins s1 σ H1 Q I1 q1
  | false => exact ⟨.bl false, H1, I1, rfl, q1⟩
theorem pe_or (ha : PE X a ta) (hb : PE X (.BoolOp .Or (b :: rest) pos) tb) : PE X (.BoolOp .Or (a :: b :: rest) pos) (tOrV ta tb) := by
  intro pins s σ H Q I h
  refine BoolOp_or (thn (ha pins s σ H _ I h) fun v s1 ⟨x, H1, I1, r1, q1⟩ => ?_)
  obtain ⟨c, rfl, q1⟩ := q1
  cases r1
  refine wpAny_truthy_bool ?_
  cases c with
  | false => exact hb pins s1 σ H1 Q I1 q1
  | true => exact ⟨.bl true, H1, I1, rfl, q1⟩
theorem pe_not (ha : PE X a ta) : PE X (.UnaryOp .Not a pos) (tNotV ta) := by
  intro pins s σ H Q I h
  refine UnaryOp_ (thn (ha pins s σ H _ I h) fun v s1 ⟨x, H1, I1, r1, q1⟩ => ?_)
  obtain ⟨c, rfl, q1⟩ := q1
  cases r1
  exact not_of (wpAny_truthy_bool ⟨.bl (!c), H1, I1, rfl, q1⟩)
/-- a if t else b -/
def tIf (t : TT) (ta tb : TE) : TE := fun σ H Q => t σ H fun c H1 => if c = true then ta σ H1 Q else tb σ H1 Q
theorem pe_ifExp {c : Expr} (hc : PT X c tA) (ha : PE X a ta) (hb : PE X b tb) : PE X (.IfExp c a b pos) (tIf tA ta tb) := by
  intro pins s σ H Q I h
  refine wpAny_IfExp (thn (hc pins s σ H _ I h) fun d s1 ⟨H1, I1, q1⟩ => ?_)
  cases d with
  | true => exact ha pins s1 σ H1 Q I1 q1
  | false => exact hb pins s1 σ H1 Q I1 q1
end
end L2

namespace L2
open PySem PySem.Spec PyProof.Rows

/-! ### a list, a tuple that is read: tracked, frozen, or an object of the module -/
def SqL (K : PySem.W.Frag) (H : Hp) (a : Addr) (xs : List V) : Prop :=
  Rd H a (.lst xs) ∨
    ∃ (o : Obj) (its : Array Value) (n : Nat), K.lookup a = some o ∧ o.cls = .type "list" ∧ o.dict = none ∧ o.data = .seq its n ∧ its.size ≤ sizeLine ∧ Vals xs its.toList
def SqT (K : PySem.W.Frag) (H : Hp) (a : Addr) (xs : List V) : Prop :=
  Rd H a (.tup xs) ∨
    ∃ (o : Obj) (its : Array Value) (n : Nat), K.lookup a = some o ∧ o.cls = .type "tuple" ∧ o.data = .seq its n ∧ its.size ≤ sizeLine ∧ Vals xs its.toList
def absV : Value → Option V
  | .none => some .non
  | .bool b => some (.bl b)
  | .int i _ => some (.int i)
  | .str x _ => some (.str x)
  | .bytes b _ => some (.byt b)
  | .float b _ => some (.flt b)
  | .ref a => some (.ref a)
  | .type n => some (.ty n)
  | _ => none
theorem RelV.abs {x : V} {u : Value} (r : RelV x u) : absV u = some x := by
  cases x with
  | non => cases r; rfl
  | bl _ => cases r; rfl
  | int _ => obtain ⟨t, rfl⟩ := r; rfl
  | str _ => obtain ⟨t, rfl⟩ := r; rfl
  | byt _ => obtain ⟨t, rfl⟩ := r; rfl
  | flt _ => obtain ⟨t, rfl⟩ := r; rfl
  | ref _ => cases r; rfl
  | ty _ => cases r; rfl
theorem RelV.inj {x y : V} {u : Value} (r : RelV x u) (q : RelV y u) : x = y := Option.some.inj (r.abs.symm.trans q.abs)
theorem Vals.inj : ∀ {xs ys : List V} {us : List Value}, Vals xs us → Vals ys us → xs = ys
  | _, _, _, .nil, .nil => rfl
  | _, _, _, .cons r t, .cons r' t' => by rw [r.inj r', Vals.inj t t']
section
variable {X : Cx} {pins : List (Addr × Obj)} {σ : St} {H : Hp} {s : Shared} {a : Addr} {xs ys : List V}
theorem SqL.of {K : PySem.W.Frag} (h : H a = some (.lst xs)) : SqL K H a xs := .inl (.inl h)
theorem SqT.of {K : PySem.W.Frag} (h : H a = some (.tup xs)) : SqT K H a xs := .inl (.inl h)
theorem Inv.list (I : Inv X pins σ H s) (h : SqL X.K H a xs) : ∃ its : List Value, Vals xs its ∧ PlainL s.heap a its.toArray ∧ xs.length ≤ sizeLine := by
  rcases h with h | ⟨o, its, n, hk, hc, hd, hs, hz, r⟩
  · obtain ⟨z, its, n, r, e⟩ := h.ok I.hok
    exact ⟨its, r, ⟨_, n, e, rfl, rfl, rfl⟩, z⟩
  · refine ⟨its.toList, r, ⟨o, n, I.kIn a o hk, hc, hd, by simpa using hs⟩, ?_⟩
    have e := r.length
    simp only [Array.length_toList] at e
    omega
theorem Inv.tuple (I : Inv X pins σ H s) (h : SqT X.K H a xs) : ∃ its : List Value, Vals xs its ∧ IsTup s.heap a its.toArray ∧ xs.length ≤ sizeLine := by
  rcases h with h | ⟨o, its, n, hk, hc, hs, hz, r⟩
  · obtain ⟨z, its, r, p⟩ := h.ok I.hok
    exact ⟨its, r, p, z⟩
  · refine ⟨its.toList, r, ⟨o, I.kIn a o hk, hc, n, by simpa using hs⟩, ?_⟩
    have e := r.length
    simp only [Array.length_toList] at e
    omega
theorem Inv.list_inj (I : Inv X pins σ H s) (h : SqL X.K H a xs) (h' : SqL X.K H a ys) : xs = ys := by
  obtain ⟨its, r, ⟨o, n, e, _, _, d⟩, _⟩ := I.list h
  obtain ⟨its', r', ⟨o', n', e', _, _, d'⟩, _⟩ := I.list h'
  rw [e] at e'; cases e'
  rw [d] at d'
  injection d' with d1 _
  have : its = its' := by simpa using congrArg Array.toList d1
  subst this
  exact r.inj r'
theorem Inv.tuple_inj (I : Inv X pins σ H s) (h : SqT X.K H a xs) (h' : SqT X.K H a ys) : xs = ys := by
  obtain ⟨its, r, ⟨o, e, _, n, d⟩, _⟩ := I.tuple h
  obtain ⟨its', r', ⟨o', e', _, n', d'⟩, _⟩ := I.tuple h'
  rw [e] at e'; cases e'
  rw [d] at d'
  injection d' with d1 _
  have : its = its' := by simpa using congrArg Array.toList d1
  subst this
  exact r.inj r'
end

/-! ### another wish about exceptions -/
abbrev Cx.wish (X : Cx) (E : Value → Shared → Prop) : Cx := { X with xe := E }
/-- no exception leaves -/
abbrev Cx.nox (X : Cx) : Cx := X.wish fun _ _ => False
theorem Cx.Ok.wish {X : Cx} (ok : X.Ok) (E : Value → Shared → Prop) : (X.wish E).Ok :=
  ⟨ok.mod, ok.kind, ok.glob, ok.blt, ok.above, ok.inj, ok.has, ok.cab, ok.hd, ok.frames, ok.stk, ok.exf, ok.bs, ok.bsz, ok.noex, ok.exfs, ok.funs, ok.frf⟩
theorem Cx.Ok.unwish {X : Cx} {E : Value → Shared → Prop} (ok : (X.wish E).Ok) : X.Ok :=
  ⟨ok.mod, ok.kind, ok.glob, ok.blt, ok.above, ok.inj, ok.has, ok.cab, ok.hd, ok.frames, ok.stk, ok.exf, ok.bs, ok.bsz, ok.noex, ok.exfs, ok.funs, ok.frf⟩
section
variable {X : Cx} {pins : List (Addr × Obj)} {σ : St} {H : Hp} {s : Shared} {E : Value → Shared → Prop}
theorem Inv.wish (I : Inv X pins σ H s) (E : Value → Shared → Prop) : Inv (X.wish E) pins σ H s := ⟨I.ok.wish E, I.os, I.bare, I.base, I.loc, I.cell, I.free, I.freeC, I.pin, I.hok, I.len⟩
theorem Inv.unwish (I : Inv (X.wish E) pins σ H s) : Inv X pins σ H s := ⟨I.ok.unwish, I.os, I.bare, I.base, I.loc, I.cell, I.free, I.freeC, I.pin, I.hok, I.len⟩
theorem SP.unwish {D : Ends} {f : Flow} {s' : Shared} (h : SP (X.wish E) pins D f s') : SP X pins D f s' := by
  cases f with
  | next => obtain ⟨σ', H', I, q⟩ := h; exact ⟨σ', H', I.unwish, q⟩
  | brk => obtain ⟨σ', H', I, q⟩ := h; exact ⟨σ', H', I.unwish, q⟩
  | cont => obtain ⟨σ', H', I, q⟩ := h; exact ⟨σ', H', I.unwish, q⟩
  | ret u => obtain ⟨v, σ', H', I, r, q⟩ := h; exact ⟨v, σ', H', I.unwish, r, q⟩
theorem PE.nox {e : Expr} {t : TE} (h : PE X.nox e t) : PE X e t := fun pins s σ H Q I hw =>
  wpAny_mono (h pins s σ H Q (I.wish _) hw) (fun _ _ ⟨v, H', I', r, q⟩ => ⟨v, H', I'.unwish, r, q⟩) fun _ _ z => False.elim z
theorem PT.nox {e : Expr} {t : TT} (h : PT X.nox e t) : PT X e t := fun pins s σ H Q I hw =>
  wpAny_mono (h pins s σ H Q (I.wish _) hw) (fun _ _ ⟨H', I', q⟩ => ⟨H', I'.unwish, q⟩) fun _ _ z => False.elim z
theorem PSs.nox {st : List Stmt} {t : TS} (h : PSs X.nox st t) : PSs X st t := fun pins s σ H D I hw =>
  wpAny_mono (h pins s σ H D (I.wish _) hw) (fun _ _ q => q.unwish) fun _ _ z => False.elim z
end

/-! ### blocks and small statements -/
section
variable {X : Cx} {st : Stmt} {rest : List Stmt} {t u : TS} {e : Expr} {te : TE} {pos : Pos}
def tNext : TS := fun D σ H => D.nx σ H
def tSeq (t u : TS) : TS := fun D σ H => t { D with nx := u D } σ H
theorem pss_nil : PSs X [] tNext := fun _ _ σ H _ I h => wpAny_execs_nil ⟨σ, H, I, h⟩
theorem pss_cons (h1 : PS X st t) (h2 : PSs X rest u) : PSs X (st :: rest) (tSeq t u) := by
  intro pins s σ H D I h
  refine wpAny_execs_cons (thn (h1 pins s σ H { D with nx := u D } I h) fun f s1 q => ?_)
  cases f with
  | next =>
    obtain ⟨σ', H', I', q⟩ := q
    exact h2 pins s1 σ' H' D I' q
  | ret v => exact q
  | brk => exact q
  | cont => exact q
theorem pss_one (h1 : PS X st t) : PSs X [st] t := by
  intro pins s σ H D I h
  refine wpAny_execs_cons (thn (h1 pins s σ H D I h) fun f s1 q => ?_)
  cases f with
  | next => exact wpAny_execs_nil q
  | ret v => exact q
  | brk => exact q
  | cont => exact q
def tBreak : TS := fun D σ H => D.bk σ H
def tCont : TS := fun D σ H => D.ct σ H
theorem ps_pass : PS X (.Pass pos) tNext := fun _ _ σ H _ I h => wpAny_Pass ⟨σ, H, I, h⟩
theorem ps_break : PS X (.Break pos) tBreak := fun _ _ σ H _ I h => wpAny_Break ⟨σ, H, I, h⟩
theorem ps_continue : PS X (.Continue pos) tCont := fun _ _ σ H _ I h => wpAny_Continue ⟨σ, H, I, h⟩
/-- in a def's body nothing is shown -/
theorem Inv.quiet {pins : List (Addr × Obj)} {σ : St} {H : Hp} {s : Shared} (I : Inv X pins σ H s) : interactive X.env = false := by simp [interactive, I.ok.kind]
/-- a docstring -/
theorem ps_doc {x j pos pos'} : PS X (.Expr (.Constant (.str x) j pos) pos') tNext := fun _ s σ H _ I h => wpAny_Expr (Calls.Constant_str (show SP X _ _ .next { s with toks := s.toks + 1 } from ⟨σ, H, I.tok _, h⟩)) I.quiet
/-- an expression whose value is dropped -/
def tDrop (te : TE) : TS := fun D σ H => te σ H fun _ H1 => D.nx σ H1
theorem ps_expr (he : PE X e te) (hs : swapsWith e none pos.line X.env = pure false := by rfl) : PS X (.Expr e pos) (tDrop te) := by
  intro pins s σ H D I h
  exact wpAny_Expr_any (thn (he pins s σ H _ I h) fun v s1 ⟨x, H1, I1, r1, q1⟩ => ⟨σ, H1, I1, q1⟩) I.quiet hs
def tRet (te : TE) : TS := fun D σ H => te σ H D.rt
theorem ps_ret (he : PE X e te) : PS X (.Return (some e) pos) (tRet te) := by
  intro pins s σ H D I h
  exact wpAny_Return_some (thn (he pins s σ H _ I h) fun v s1 ⟨x, H1, I1, r1, q1⟩ => ⟨x, σ, H1, I1, r1, q1⟩)
def tRetN : TS := fun D _ H => D.rt .non H
theorem ps_retN : PS X (.Return none pos) tRetN := fun _ _ σ H _ I h => wpAny_Return_none ⟨.non, σ, H, I, rfl, h⟩
def tIfS (c : TT) (t u : TS) : TS := fun D σ H => c σ H fun b H1 => if b = true then t D σ H1 else u D σ H1
theorem ps_if {c : Expr} {a b : List Stmt} {tc : TT} (hc : PT X c tc) (ha : PSs X a t) (hb : PSs X b u) : PS X (.If c a b pos) (tIfS tc t u) := by
  intro pins s σ H D I h
  refine wpAny_If (thn (hc pins s σ H _ I h) fun d s1 ⟨H1, I1, q1⟩ => ?_)
  cases d with
  | true => exact ha pins s1 σ H1 D I1 q1
  | false => exact hb pins s1 σ H1 D I1 q1
/-- code that the proof never comes to -/
def tNever : TS := fun _ _ _ => False
theorem ps_never : PS X st tNever := fun _ _ _ _ _ _ h => h.elim
theorem pss_never {sts : List Stmt} : PSs X sts tNever := fun _ _ _ _ _ _ h => h.elim
end

/-! ### targets -/
abbrev TG := V → St → Hp → (St → Hp → Prop) → Prop
abbrev TGs := List V → St → Hp → (St → Hp → Prop) → Prop
def PG (X : Cx) (target : Expr) (t : TG) : Prop :=
  ∀ (pins : List (Addr × Obj)) (s : Shared) (σ : St) (H : Hp) (v : V) (u : Value) (Q : St → Hp → Prop), Inv X pins σ H s → RelV v u → t v σ H Q →
    wpAny (model X.prog X.w) X.A (assign target X.env u) (fun _ s' => ∃ σ' H', Inv X pins σ' H' s' ∧ Q σ' H') X.xe s
/-- several targets, one after another -/
def PGs (X : Cx) (ts : List Expr) (t : TGs) : Prop :=
  ∀ (pins : List (Addr × Obj)) (s : Shared) (σ : St) (H : Hp) (vs : List V) (us : List Value) (Q : St → Hp → Prop), Inv X pins σ H s → Vals vs us → t vs σ H Q →
    wpAny (model X.prog X.w) X.A (assignInOrder ((assignEach ts X.env).map (·.2)) us) (fun _ s' => ∃ σ' H', Inv X pins σ' H' s' ∧ Q σ' H') X.xe s
/-- o[i] = v, by values -/
abbrev TSet := V → V → V → Hp → (Hp → Prop) → Prop
def PSet (X : Cx) (t : TSet) : Prop :=
  ∀ (pins : List (Addr × Obj)) (s : Shared) (σ : St) (H : Hp) (o i v : V) (ov iv u : Value) (Q : Hp → Prop), Inv X pins σ H s → RelV o ov → RelV i iv → RelV v u → t o i v H Q →
    wpAny (model X.prog X.w) X.A (setItem ov iv u) (fun _ s' => ∃ H', Inv X pins σ H' s' ∧ Q H') X.xe s
/-- a op= b, by values -/
abbrev TIp := V → V → Hp → VK → Prop
def PIp (X : Cx) (op : Operator) (t : TIp) : Prop :=
  ∀ (pins : List (Addr × Obj)) (s : Shared) (σ : St) (H : Hp) (x y : V) (v u : Value) (Q : VK), Inv X pins σ H s → RelV x v → RelV y u → t x y H Q →
    wpAny (model X.prog X.w) X.A (inplaceOp op v u) (EP X pins σ Q) X.xe s
section
variable {X : Cx} {pos : Pos}
def gName (i : Nat) : TG := fun v σ H Q => Q (σ.set i (some v)) H
theorem pg_name {i : Nat} {x : Str} (hN : X.N.Nodup) (hi : X.N[i]? = some x) (hx : Loc X.env.scope x) (hf : X.fn x = true ∨ X.env.scope.names.lookup x = some .local := by first | exact .inl rfl | exact .inr rfl | assumption) : PG X (.Name x pos) (gName i) := by
  intro pins s σ H v u Q I r h
  exact wpAny_assign_Name (store_ok I hN hi hx r (fun s' I' => ⟨_, H, I', h⟩) hf)
def gNil : TGs := fun vs σ H Q => vs = [] ∧ Q σ H
def gCons (t : TG) (u : TGs) : TGs := fun vs σ H Q => ∃ v r, vs = v :: r ∧ t v σ H fun σ' H' => u r σ' H' Q
theorem pgs_nil : PGs X [] gNil := by
  intro pins s σ H vs us Q I r h
  obtain ⟨e, h⟩ := h
  subst e
  cases r
  exact assignInOrder_nil ⟨σ, H, I, h⟩
theorem pgs_cons {e : Expr} {es : List Expr} {t : TG} {u : TGs} (h1 : PG X e t) (h2 : PGs X es u)
    (hs : (assignEach (e :: es) X.env).map (·.2) = assign e X.env :: (assignEach es X.env).map (·.2) := by rfl) : PGs X (e :: es) (gCons t u) := by
  intro pins s σ H vs us Q I r h
  obtain ⟨v, vr, e1, h⟩ := h
  subst e1
  cases r with
  | cons r rr =>
    rw [hs]
    refine assignInOrder_cons (thn (h1 pins s σ H _ _ _ I r h) fun _ s1 ⟨σ1, H1, I1, q1⟩ => ?_)
    exact h2 pins s1 σ1 H1 _ _ Q I1 rr q1
/-- (a, b, ..) = a tuple of that length -/
def gTup (K : PySem.W.Frag) (n : Nat) (t : TGs) : TG := fun v σ H Q => ∃ a xs, v = .ref a ∧ SqT K H a xs ∧ xs.length = n ∧ t xs σ H Q
theorem pg_tup {es : List Expr} {k : Nat} {t : TGs} {n : Nat} (hc : X.calm = true) (h : PGs X es t)
    (hn : (assignEach es X.env).length = n := by rfl) (hst : (assignEach es X.env).findIdx? (·.1) = none := by rfl) : PG X (.Tuple es k pos) (gTup X.K n t) := by
  intro pins s σ H v u Q I r hw
  obtain ⟨a, xs, e1, hq, hl, hw⟩ := hw
  subst e1
  cases r
  obtain ⟨its, rv, ht, hz⟩ := I.tuple hq
  refine assign_Tuple_tuple (I.ok.hd hc) ht (by simp [hn, ← hl, rv.length]) hst fun h' hx => ?_
  have I1 : Inv X pins σ H { s with heap := h' } := I.kept (t' := s.toks) fun b o e => hx b o (Nat.ne_of_lt (Heap.lt_size e)) e
  exact h pins _ σ H xs _ Q I1 (by simpa using rv) hw
/-- o[i] = .. -/
def gSub (to ti : TE) (t : TSet) : TG := fun v σ H Q => to σ H fun o H1 => ti σ H1 fun i H2 => t o i v H2 fun H3 => Q σ H3
theorem pg_sub {o i : Expr} {to ti : TE} {t : TSet} (ho : PE X o to) (hi : PE X i ti) (hs : PSet X t)
    (ha : ∀ v, assign (.Subscript o i pos) X.env v = (do
      let ov ← holding [v] (eval o X.env)
      let iv ← holding [v, ov] (eval i X.env)
      standAt pos
      holding [v, ov, iv] (setItem ov iv v)
      release [v, ov, iv] []) := by intro _; rfl) : PG X (.Subscript o i pos) (gSub to ti t) := by
  intro pins s σ H v u Q I r h
  rw [ha]
  refine wpAny_bind (wpAny_holding (thn (ho pins s σ H _ I h) fun ov s1 ⟨x, H1, I1, r1, q1⟩ => ?_))
  refine wpAny_bind (wpAny_holding (thn (hi pins s1 σ H1 _ I1 q1) fun iv s2 ⟨y, H2, I2, r2, q2⟩ => ?_))
  refine wpAny_bind (wpAny_standAt (wpAny_bind (wpAny_holding (thn (hs pins s2 σ H2 x y v ov iv u _ I2 r1 r2 r q2) fun _ s3 ⟨H3, I3, q3⟩ => ?_))))
  exact wpAny_release ⟨σ, H3, I3, q3⟩
/-- target = value -/
def tAsg (te : TE) (g : TG) : TS := fun D σ H => te σ H fun x H1 => g x σ H1 D.nx
theorem ps_asg {tg e : Expr} {te : TE} {g : TG} (he : PE X e te) (hg : PG X tg g) (hs : swapsWithSole [tg] e pos.line X.env = pure false := by rfl) (hw : swappedStores [tg] e X.env = pure none := by rfl)
    (h1 : (assignEach [tg] X.env).map (·.2) = [assign tg X.env] := by rfl) : PS X (.Assign [tg] e pos) (tAsg te g) := by
  intro pins s σ H D I h
  refine wpAny_Assign_stores (thn (he pins s σ H _ I h) fun v s1 ⟨x, H1, I1, r1, q1⟩ => ?_) hs hw
  rw [h1]
  exact thn (hg pins s1 σ H1 x v _ I1 r1 q1) fun _ s2 q => q
/-- name = value -/
theorem ps_set {i : Nat} {x : Str} {e : Expr} {te : TE} {pos' : Pos} (hN : X.N.Nodup) (hi : X.N[i]? = some x) (hx : Loc X.env.scope x) (he : PE X e te) (hs : swapsWith e (some (.Name x pos')) pos.line X.env = pure false := by rfl) (hf : X.fn x = true ∨ X.env.scope.names.lookup x = some .local := by first | exact .inl rfl | exact .inr rfl | assumption) :
    PS X (.Assign [.Name x pos'] e pos) (tAsg te (gName i)) := by
  intro pins s σ H D I h
  refine wpAny_Assign_Name (thn (he pins s σ H _ I h) fun v s1 ⟨y, H1, I1, r1, q1⟩ => ?_) hs
  exact store_ok I1 hN hi hx r1 (fun s2 I2 => ⟨_, H1, I2, q1⟩) hf
/-- a, b = x, y with plain local names: stored from the right; the pair itself is not tracked (the opening rows as in PyProof/Rows/TupAssign.lean:23) -/
def tPar (i j : Nat) (ta : TA) : TS := fun D σ H => ta σ H fun vs H1 => ∃ v w, vs = [v, w] ∧ D.nx ((σ.set i (some v)).set j (some w)) H1
theorem ps_par {i j : Nat} {x y : Str} {a b : Expr} {ta : TA} {px py pt : Pos} {kt k2 pt2} (hc : X.calm = true) (hN : X.N.Nodup) (hi : X.N[i]? = some x) (hj : X.N[j]? = some y) (hij : i ≠ j)
    (hx : X.env.scope.names.lookup x = some .local) (hy : X.env.scope.names.lookup y = some .local) (ha : PA X [a, b] ta)
    (hw : swappedStores [.Tuple [.Name x px, .Name y py] kt pt] (.Tuple [a, b] k2 pt2) X.env = pure (some [x, y]))
    (hs : swapsWithSole [.Tuple [.Name x px, .Name y py] kt pt] (.Tuple [a, b] k2 pt2) pos.line X.env = pure false := by rfl) :
    PS X (.Assign [.Tuple [.Name x px, .Name y py] kt pt] (.Tuple [a, b] k2 pt2) pos) (tPar i j ta) := by
  intro pins s σ H D I h
  rw [exec_Assign_arm]
  refine wpAny_bind (wpAny_standAt ?_)
  rw [hs]
  refine wpAny_bind (wpAny_pure ?_)
  rw [if_neg (by decide)]
  refine wpAny_bind (Tuple_ (thn (ha _ pins s σ H _ I h) fun us s1 ⟨vs, H1, I1, r1, q1⟩ => ?_))
  obtain ⟨v, w, e1, q1⟩ := q1
  subst e1
  obtain ⟨u1, u2, rfl, rv, rw'⟩ : ∃ u1 u2, us = [u1, u2] ∧ RelV v u1 ∧ RelV w u2 := by
    cases r1 with
    | cons p q =>
      cases q with
      | cons p' q' =>
        cases q'
        exact ⟨_, _, rfl, p, p'⟩
  refine wpAny_newObj_type ?_ (by show 2 ≤ sizeLine; decide)
  have I2 : Inv X pins σ H1 { s1 with heap := s1.heap.push { cls := .type "tuple", data := .seq [u1, u2].toArray } } := I1.kept (t' := s1.toks) fun b o e => Heap.get?_push_of_some _ e
  rw [hw]
  refine wpAny_bind (wpAny_pure ?_)
  show wpAny (model X.prog X.w) X.A (do rule "assign.swapped-stores"; let items ← unpackItems (.ref s1.heap.objs.size) 2 none; assignInOrder [fun v => bindName X.env y v, fun v => bindName X.env x v] items.reverse; pure Flow.next) _ _ _
  refine wpAny_bind (wpAny_rule (wpAny_bind (unpackItems_tuple (items := #[u1, u2]) (I.ok.hd hc) (IsTup.new s1.heap _) fun h' hx' => ?_)))
  have I3 := I2.kept (h' := h') (t' := s1.toks) fun b o e => hx' b o (Nat.ne_of_lt (Heap.lt_size e)) e
  show wpAny _ _ (assignInOrder [fun v => bindName X.env y v, fun v => bindName X.env x v] [u2, u1] >>= fun _ => pure Flow.next) _ _ _
  refine wpAny_bind (assignInOrder_cons (wpAny_bindName (store_ok I3 hN hj (.inl hy) rw' (fun s2 I4 => ?_) (.inr hy))))
  refine assignInOrder_cons (wpAny_bindName (store_ok I4 hN hi (.inl hx) rv (fun s3 I5 => assignInOrder_nil (wpAny_pure ?_)) (.inr hx)))
  rw [List.set_comm _ _ (Ne.symm hij)] at I5
  exact ⟨_, H1, I5, q1⟩
/-- name op= e -/
def tAug (i : Nat) (te : TE) (ti : TIp) : TS := fun D σ H => ∃ x, σ[i]? = some (some x) ∧ te σ H fun y H1 => ti x y H1 fun z H2 => D.nx (σ.set i (some z)) H2
theorem ps_aug {i : Nat} {x : Str} {e : Expr} {te : TE} {op : Operator} {ti : TIp} {pos' : Pos} (hN : X.N.Nodup) (hi : X.N[i]? = some x) (hx : Loc X.env.scope x) (he : PE X e te) (ho : PIp X op ti) (hf : X.fn x = true ∨ X.env.scope.names.lookup x = some .local := by first | exact .inl rfl | exact .inr rfl | assumption) :
    PS X (.AugAssign (.Name x pos') op e pos) (tAug i te ti) := by
  intro pins s σ H D I h
  obtain ⟨v, e1, h⟩ := h
  obtain ⟨m, hn, hl⟩ := I.loc
  have vis : Vis X.env.scope x := by rcases hx with k | k; exact .inl k; exact .inr (.inl k)
  obtain ⟨u, r, l⟩ := hl i x v hi e1 vis
  refine wpAny_AugAssign_Name ?_
  have go : wpAny (model X.prog X.w) X.A (eval e X.env) (fun w s₂ => wpAny (model X.prog X.w) X.A (inplaceOp op u w) (fun r s₃ => wpAny (model X.prog X.w) X.A (storeName X.env x r) (fun _ => SP X pins D .next) X.xe s₃) X.xe s₂) X.xe s := by
    refine thn (he pins s σ H _ I h) fun w s1 ⟨y, H1, I1, r1, q1⟩ => ?_
    refine thn (ho pins s1 σ H1 v y u w _ I1 r r1 q1) fun z s2 ⟨zv, H2, I2, r2, q2⟩ => ?_
    exact store_ok I2 hN hi hx r2 (fun s3 I3 => ⟨_, H2, I3, q2⟩) hf
  rcases l with ⟨hk, hm⟩ | ⟨hk, c, hc, hcell⟩
  · exact wpAny_loadName_local I.ok.kind hk hn hm go
  · rcases hk with hk | hk
    · exact wpAny_loadName_cell I.ok.kind hk hc hcell go
    · rcases hx with k | k
      · have : X.env.scope.names.lookup x = some .free := hk
        rw [k] at this; cases this
      · have : X.env.scope.names.lookup x = some .free := hk
        rw [k] at this; cases this
/-- o[i] op= e -/
def tAugS (to ti te : TE) (tget : V → V → Hp → VK → Prop) (tip : TIp) (tset : TSet) : TS := fun D σ H => to σ H fun o H1 => ti σ H1 fun i H2 => tget o i H2 fun x H3 => te σ H3 fun y H4 => tip x y H4 fun z H5 => tset o i z H5 fun H6 => D.nx σ H6
/-- o[i], by values -/
def PGet (X : Cx) (t : V → V → Hp → VK → Prop) : Prop :=
  ∀ (pins : List (Addr × Obj)) (s : Shared) (σ : St) (H : Hp) (o i : V) (ov iv : Value) (Q : VK), Inv X pins σ H s → RelV o ov → RelV i iv → t o i H Q →
    wpAny (model X.prog X.w) X.A (getItem ov iv) (EP X pins σ Q) X.xe s
theorem ps_augS {o i e : Expr} {to ti te : TE} {tget : V → V → Hp → VK → Prop} {tip : TIp} {tset : TSet} {op : Operator} {tpos : Pos} (ho : PE X o to) (hi : PE X i ti) (hg : PGet X tget) (he : PE X e te) (hp : PIp X op tip) (hs : PSet X tset)
    (ha : ∀ ov iv new, augStore i ov iv new = (do holding [new, ov, iv] (setItem ov iv new); release [new, ov, iv] []; pure .next) := by intros; rfl) : PS X (.AugAssign (.Subscript o i tpos) op e pos) (tAugS to ti te tget tip tset) := by
  intro pins s σ H D I h
  refine wpAny_AugAssign_SubscriptAny (thn (ho pins s σ H _ I h) fun ov s1 ⟨x1, H1, I1, r1, q1⟩ => ?_) ha
  refine thn (hi pins s1 σ H1 _ I1 q1) fun iv s2 ⟨x2, H2, I2, r2, q2⟩ => ?_
  refine thn (hg pins s2 σ H2 x1 x2 ov iv _ I2 r1 r2 q2) fun old s3 ⟨x3, H3, I3, r3, q3⟩ => ?_
  refine thn (he pins s3 σ H3 _ I3 q3) fun v s4 ⟨x4, H4, I4, r4, q4⟩ => ?_
  refine thn (hp pins s4 σ H4 x3 x4 old v _ I4 r3 r4 q4) fun new s5 ⟨x5, H5, I5, r5, q5⟩ => ?_
  exact thn (hs pins s5 σ H5 x1 x2 x5 ov iv new _ I5 r1 r2 r5 q5) fun _ s6 ⟨H6, I6, q6⟩ => ⟨σ, H6, I6, q6⟩
/-- ints -/
def ipI (f : Int → Int → Int) : TIp := fun x y H Q => ∃ i j, x = .int i ∧ y = .int j ∧ Q (.int (f i j)) H
theorem ip_add : PIp X .Add (ipI fun i j => i + j) := by
  intro pins s σ H x y v u Q I r1 r2 h
  obtain ⟨i, j, e1, e2, q⟩ := h
  subst e1; subst e2
  obtain ⟨t, rfl⟩ := r1
  obtain ⟨t', rfl⟩ := r2
  exact iadd_int ⟨.int _, H, I.tok _, ⟨_, rfl⟩, q⟩
theorem ip_sub : PIp X .Sub (ipI fun i j => i - j) := by
  intro pins s σ H x y v u Q I r1 r2 h
  obtain ⟨i, j, e1, e2, q⟩ := h
  subst e1; subst e2
  obtain ⟨t, rfl⟩ := r1
  obtain ⟨t', rfl⟩ := r2
  exact isub_int ⟨.int _, H, I.tok _, ⟨_, rfl⟩, q⟩
end

/-! ### while -/
section
variable {X : Cx} {pos : Pos}
/-- the invariant W with its measure -/
def tWhile (c : TT) (tb : TS) : TS := fun D σ H => ∃ W : Nat → St → Hp → Prop, (∃ m, W m σ H) ∧ ∀ m σ H, W m σ H →
  c σ H fun b H1 => if b = true then ∃ N : St → Hp → Prop, (∀ σ' H', N σ' H' → ∃ m', m' < m ∧ W m' σ' H') ∧ tb { D with nx := N, ct := N, bk := D.nx } σ H1 else D.nx σ H1
theorem ps_while {c : Expr} {body : List Stmt} {tc : TT} {tb : TS} (hp : PassesOwn (model X.prog X.w) X.A X.env X.xe) (hc : PT X c tc) (hb : PSs X body tb) : PS X (.While c body [] pos) (tWhile tc tb) := by
  intro pins s σ H D I h
  obtain ⟨W, ⟨m0, w0⟩, turn⟩ := h
  refine wpAny_While (codeAny_whileLoop (fun n s' => ∃ σ' H', Inv X pins σ' H' s' ∧ W n σ' H') ?_ m0 ⟨σ, H, I, w0⟩)
  rintro n s1 ⟨σ1, H1, I1, w1⟩
  refine wpAny_passesOwn hp (thn (hc pins s1 σ1 H1 _ I1 (turn n σ1 H1 w1)) fun b s2 ⟨H2, I2, q2⟩ => ?_)
  cases b with
  | true =>
    obtain ⟨N, hN, q2⟩ := q2
    rw [if_pos rfl]
    refine wpAny_passesOwn hp (thn (hb pins s2 σ1 H2 _ I2 q2) fun f s3 q3 => ?_)
    cases f with
    | next =>
      obtain ⟨σ3, H3, I3, n3⟩ := q3
      obtain ⟨m', hm, w3⟩ := hN σ3 H3 n3
      exact ⟨m', hm, σ3, H3, I3, w3⟩
    | cont =>
      obtain ⟨σ3, H3, I3, n3⟩ := q3
      obtain ⟨m', hm, w3⟩ := hN σ3 H3 n3
      exact ⟨m', hm, σ3, H3, I3, w3⟩
    | brk => exact q3
    | ret v => exact q3
  | false =>
    rw [if_neg Bool.false_ne_true]
    exact wpAny_execs_nil ⟨σ1, H2, I2, q2⟩
end

/-! ### what a loop or a comprehension walks -/
/-- at turn i: it yields x (the heap may grow), or it stops -/
structure It where
  go : Nat → Hp → Prop
  yld : Nat → Hp → V → Hp → Prop
  stop : Nat → Hp → Prop
/-- the iterator's own objects may turn: they are not the frame's, not pinned, younger than the entry (or a comprehension's own) -/
def FpOk (X : Cx) (pins : List (Addr × Obj)) (H : Hp) (b : Addr) : Prop :=
  H b = none ∧ b ≠ X.env.locals ∧ b ∉ X.fs ∧ (b ∈ X.ex ∨ X.s₀.heap.objs.size ≤ b) ∧ (∀ x c, X.env.cells.lookup x = some c → c ≠ b) ∧ ∀ p ∈ X.pn ++ pins, p.1 ≠ b
theorem Inv.fpOk {X : Cx} {pins : List (Addr × Obj)} {σ : St} {H H' : Hp} {s : Shared} {b : Addr} (I : Inv X pins σ H s) (hb : s.heap.objs.size ≤ b) (hn : H' b = none) : FpOk X pins H' b := by
  refine ⟨hn, Nat.ne_of_gt (Nat.lt_of_lt_of_le I.lt hb), I.nofs hb, .inr (Nat.le_trans I.sz hb), fun x c e z => ?_, fun p hp z => ?_⟩
  · obtain ⟨v, q⟩ := I.cell x c e
    exact absurd (Nat.lt_of_lt_of_le q.lt (by rw [z]; exact hb)) (Nat.lt_irrefl _)
  · exact absurd (Nat.lt_of_lt_of_le (Heap.lt_size (I.pin p hp).1) (by rw [z]; exact hb)) (Nat.lt_irrefl _)
structure Turn (P : Program) (w : World) (K : PySem.W.Frag) (tg : Expr) (J : It) (fp : List Addr) (it : Addr) (tn : Nat → Heap → Prop) : Prop where
  mem : it ∈ fp
  obj : ∀ i h, tn i h → ∀ b ∈ fp, ∃ o, h.get? b = some o ∧ ∀ v, o.data ≠ .cell v
  keep : ∀ i h h', tn i h → (∀ b ∈ fp, ∀ o, h.get? b = some o → h'.get? b = some o) → tn i h'
  item : ∀ (X : Cx), X.prog = P → X.w = w → X.K = K → X.calm = true → ∀ (i : Nat) (pins : List (Addr × Obj)) (s : Shared) (σ : St) (H : Hp) (E : Value → Shared → Prop), Inv X pins σ H s → (∀ b ∈ fp, FpOk X pins H b) → tn i s.heap → J.go i H →
    wpAny (model P w) X.A (pyNext (.ref it)) (fun r s1 => ∃ u, r = some u ∧
      wpAny (model P w) X.A (letOwnedTupleGo tg (.ref it) u) (fun _ s2 => ∃ x H', Inv X pins σ H' s2 ∧ RelV x u ∧ J.yld i H x H' ∧ tn (i + 1) s2.heap ∧ ∀ b ∈ fp, H' b = none) E s1) E s
  done : ∀ (X : Cx), X.prog = P → X.w = w → X.K = K → X.calm = true → ∀ (i : Nat) (pins : List (Addr × Obj)) (s : Shared) (σ : St) (H : Hp) (E : Value → Shared → Prop), Inv X pins σ H s → (∀ b ∈ fp, FpOk X pins H b) → tn i s.heap → J.stop i H →
    wpAny (model P w) X.A (pyNext (.ref it)) (fun r s1 => r = none ∧ Inv X pins σ H s1) E s
  self : ∀ (A : Around) (i : Nat) (s : Shared) (Q : Value → Shared → Prop) (E : Value → Shared → Prop), tn i s.heap → Q (.ref it) s → wpAny (model P w) A (pyIter (.ref it)) Q E s
abbrev TI := St → Hp → (It → Hp → Prop) → Prop
/-- an iterator has come -/
def PIE (X : Cx) (pins : List (Addr × Obj)) (σ : St) (tg : Expr) (R : It → Hp → Prop) (itv : Value) (s2 : Shared) : Prop :=
  ∃ (it : Addr) (fp : List Addr) (tn : Nat → Heap → Prop) (J : It) (H' : Hp), itv = .ref it ∧ Inv X pins σ H' s2 ∧ Turn X.prog X.w X.K tg J fp it tn ∧ tn 0 s2.heap ∧ (∀ b ∈ fp, FpOk X pins H' b) ∧ R J H'
def PI (X : Cx) (tg iter : Expr) (wi : TI) : Prop :=
  ∀ (pins : List (Addr × Obj)) (s : Shared) (σ : St) (H : Hp) (R : It → Hp → Prop), Inv X pins σ H s → wi σ H R →
    wpAny (model X.prog X.w) X.A (eval iter X.env) (fun v s1 => wpAny (model X.prog X.w) X.A (pyIter v) (PIE X pins σ tg R) X.xe s1) X.xe s

/-- the step ahead of the store is nothing for an iterator that keeps no tuple -/
theorem go_of {M : Model} {A : Around} {E : Value → Shared → Prop} {s : Shared} {tg : Expr} {it : Addr} {u : Value} {o : Obj} {n : String} {vs : Array Value} {Q : Unit → Shared → Prop} (ho : s.heap.get? it = some o) (hc : o.cls = .type n) (hd : o.data = .fields vs)
    (hn : ["enumerate", "zip", "dict_itemiterator", "dict_reverseitemiterator", "odict_iterator", "itertools.zip_longest", "itertools.pairwise"].contains n = false) (hQ : Q () s) : wpAny M A (letOwnedTupleGo tg (.ref it) u) Q E s := by
  unfold letOwnedTupleGo
  cases tg <;> first
    | exact wpAny_pure hQ
    | (cases u <;> first
        | exact wpAny_pure hQ
        | (refine wpAny_bind (wpAny_load ho ?_)
           rw [hc, hd]
           show wpAny M A (if (["enumerate", "zip", "dict_itemiterator", "dict_reverseitemiterator", "odict_iterator", "itertools.zip_longest", "itertools.pairwise"].contains n && vs[0]? == some (rawInt _)) = true then _ else _) Q E s
           rw [if_neg (by intro h; rw [hn, Bool.false_and] at h; cases h)]
           exact wpAny_pure hQ))

/-- the list at a, as it stands at each turn (a loop may append to it) -/
def Itl (K : PySem.W.Frag) (a : Addr) : It :=
  ⟨fun i H => ∃ xs x, SqL K H a xs ∧ xs[i]? = some x, fun i H x H' => H' = H ∧ ∀ xs, SqL K H a xs → xs[i]? = some x, fun i H => ∃ xs, SqL K H a xs ∧ xs.length ≤ i⟩
def Itt (K : PySem.W.Frag) (a : Addr) : It :=
  ⟨fun i H => ∃ xs x, SqT K H a xs ∧ xs[i]? = some x, fun i H x H' => H' = H ∧ ∀ xs, SqT K H a xs → xs[i]? = some x, fun i H => ∃ xs, SqT K H a xs ∧ xs.length ≤ i⟩
/-- lo, lo + 1, .. (n of them) -/
def Itr (lo : Int) (n : Nat) : It := ⟨fun i _ => i < n, fun i H x H' => H' = H ∧ x = .int (lo + i), fun i _ => n ≤ i⟩
theorem turn_list {P : Program} {w : World} {K : PySem.W.Frag} {tg : Expr} (a it : Addr) : Turn P w K tg (Itl K a) [it] it (fun i h => h.IsListIter it a i) where
  mem := by simp
  obj := fun i h st b hb => by
    have e : b = it := by simpa using hb
    subst e
    obtain ⟨o, e, c, d⟩ := st
    exact ⟨o, e, fun v z => by rw [d] at z; cases z⟩
  keep := fun i h h' st k => st.at fun o e => k it (by simp) o e
  item := by
    intro X hP hw hK hc i pins s σ H E I hf st hg
    subst hP hw hK
    obtain ⟨xs, x, hq, hx⟩ := hg
    obtain ⟨its, rv, p, hz⟩ := I.list hq
    obtain ⟨u, hu, ru⟩ := rv.get hx
    obtain ⟨f0, f1, f2, f3, f4, f5⟩ := hf it (by simp)
    refine wpAny_pyNext_list_item st p.isList (x := u) (by simpa using hu) fun h' st' sb => ?_
    have I1 : Inv X pins σ H { s with heap := h' } := I.turned (t' := s.toks) (fun b o hb e => (sb.2 b hb).trans e) f0 f1 f3 f4 f5
    obtain ⟨o, e, c, d⟩ := id st'
    exact ⟨u, rfl, go_of (s := { s with heap := h' }) e c d (by decide) ⟨x, H, I1, ru, ⟨rfl, fun ys hy => by rw [I.list_inj hy hq]; exact hx⟩, st', fun b hb => (hf b hb).1⟩⟩
  done := by
    intro X hP hw hK hc i pins s σ H E I hf st hg
    subst hP hw hK
    obtain ⟨xs, hq, hx⟩ := hg
    obtain ⟨its, rv, p, hz⟩ := I.list hq
    obtain ⟨f0, f1, f2, f3, f4, f5⟩ := hf it (by simp)
    have hl := rv.length
    exact wpAny_pyNext_list_end (I.ok.hd hc) st p.isList (by simp; omega) fun h' eb => ⟨rfl, I.turned (t' := s.toks) (fun b o hb e => eb b o hb e) f0 f1 f3 f4 f5⟩
  self := fun _ _ _ _ _ st h => wpAny_pyIter_listiter st h
theorem turn_tuple {P : Program} {w : World} {K : PySem.W.Frag} {tg : Expr} (a it : Addr) : Turn P w K tg (Itt K a) [it] it (fun i h => h.IsTupleIter it a i) where
  mem := by simp
  obj := fun i h st b hb => by
    have e : b = it := by simpa using hb
    subst e
    obtain ⟨o, e, c, d⟩ := st
    exact ⟨o, e, fun v z => by rw [d] at z; cases z⟩
  keep := fun i h h' st k => st.at fun o e => k it (by simp) o e
  item := by
    intro X hP hw hK hc i pins s σ H E I hf st hg
    subst hP hw hK
    obtain ⟨xs, x, hq, hx⟩ := hg
    obtain ⟨its, rv, p, hz⟩ := I.tuple hq
    obtain ⟨u, hu, ru⟩ := rv.get hx
    obtain ⟨f0, f1, f2, f3, f4, f5⟩ := hf it (by simp)
    refine wpAny_pyNext_tuple_item st (show s.heap.IsTuple a its.toArray from p) (x := u) (by simpa using hu) fun h' st' sb => ?_
    have I1 : Inv X pins σ H { s with heap := h' } := I.turned (t' := s.toks) (fun b o hb e => (sb.2 b hb).trans e) f0 f1 f3 f4 f5
    obtain ⟨o, e, c, d⟩ := id st'
    exact ⟨u, rfl, go_of (s := { s with heap := h' }) e c d (by decide) ⟨x, H, I1, ru, ⟨rfl, fun ys hy => by rw [I.tuple_inj hy hq]; exact hx⟩, st', fun b hb => (hf b hb).1⟩⟩
  done := by
    intro X hP hw hK hc i pins s σ H E I hf st hg
    subst hP hw hK
    obtain ⟨xs, hq, hx⟩ := hg
    obtain ⟨its, rv, p, hz⟩ := I.tuple hq
    obtain ⟨f0, f1, f2, f3, f4, f5⟩ := hf it (by simp)
    have hl := rv.length
    exact wpAny_pyNext_tuple_end (I.ok.hd hc) st (show s.heap.IsTuple a its.toArray from p) (by simp; omega) fun h' eb => ⟨rfl, I.turned (t' := s.toks) (fun b o hb e => eb b o hb e) f0 f1 f3 f4 f5⟩
  self := fun _ _ _ _ _ st h => wpAny_pyIter_tupleiter st h
theorem turn_range {P : Program} {w : World} {K : PySem.W.Frag} {tg : Expr} (it : Addr) (lo : Int) (n : Nat) : Turn P w K tg (Itr lo n) [it] it (fun i h => IsRangeIter h it (lo + (i : Nat) * 1) ((n : Int) - (i : Nat)) 1) where
  mem := by simp
  obj := fun i h st b hb => by
    have e : b = it := by simpa using hb
    subst e
    exact ⟨_, st, fun v z => by
      have z' : Data.fields _ = Data.cell v := z
      cases z'⟩
  keep := fun i h h' st k => k it (by simp) _ st
  item := by
    intro X hP hw hK hc i pins s σ H E I hf st hg
    subst hP hw hK
    obtain ⟨f0, f1, f2, f3, f4, f5⟩ := hf it (by simp)
    have W := Walks.range (prog := X.prog) (w := X.w) (I.ok.hd hc) it lo 1 n
    refine W.item i s _ _ hg st fun v h' tk hv st' kk => ?_
    obtain ⟨t, rfl⟩ := hv
    have I1 : Inv X pins σ H { s with heap := h', toks := tk } := I.turned (fun b o hb e => kk b o (by simpa using hb) e) f0 f1 f3 f4 f5
    refine ⟨_, rfl, go_of (s := { s with heap := h', toks := tk }) (n := "range_iterator") st' rfl rfl (by decide) ⟨.int (lo + i), H, I1, ⟨t, ?_⟩, ⟨rfl, rfl⟩, st', fun b hb => (hf b hb).1⟩⟩
    rw [Int.mul_one]
  done := by
    intro X hP hw hK hc i pins s σ H E I hf st hg
    subst hP hw hK
    obtain ⟨f0, f1, f2, f3, f4, f5⟩ := hf it (by simp)
    exact wpAny_pyNext_range_end (I.ok.hd hc) st (by have : n ≤ i := hg; omega) fun h' eb => ⟨rfl, I.turned (t' := s.toks) (fun b o hb e => eb b o hb e) f0 f1 f3 f4 f5⟩
  self := fun _ _ _ _ _ st h => wpAny_pyIter_rangeiter st h
end L2

namespace L2
open PySem PySem.Spec PyProof.Rows
section
variable {X : Cx} {tg : Expr}
def iList (K : PySem.W.Frag) (tl : TE) : TI := fun σ H R => tl σ H fun x H1 => ∃ a, x = .ref a ∧ (∃ xs, SqL K H1 a xs) ∧ R (Itl K a) H1
def iTup (K : PySem.W.Frag) (tl : TE) : TI := fun σ H R => tl σ H fun x H1 => ∃ a, x = .ref a ∧ (∃ xs, SqT K H1 a xs) ∧ R (Itt K a) H1
theorem pi_list {l : Expr} {tl : TE} (hl : PE X l tl) : PI X tg l (iList X.K tl) := by
  intro pins s σ H R I h
  refine thn (hl pins s σ H _ I h) fun v s1 ⟨x, H1, I1, r1, q1⟩ => ?_
  obtain ⟨a, e, ⟨xs, hq⟩, q⟩ := q1
  subst e
  cases r1
  obtain ⟨its, rv, p, hz⟩ := I1.list hq
  refine wpAny_pyIter_list p.isList ?_
  refine ⟨s1.heap.objs.size, [s1.heap.objs.size], _, _, H1, rfl, I1.kept (t' := s1.toks) fun b o e => Heap.get?_push_of_some _ e, turn_list a _, ⟨_, Heap.get?_push_size _ rfl, rfl, rfl⟩, fun b hb => ?_, q⟩
  have e : b = s1.heap.objs.size := by simpa using hb
  subst e
  exact I1.fpOk (Nat.le_refl _) (I1.hok.fresh (Nat.le_refl _))
theorem pi_tup {l : Expr} {tl : TE} (hl : PE X l tl) : PI X tg l (iTup X.K tl) := by
  intro pins s σ H R I h
  refine thn (hl pins s σ H _ I h) fun v s1 ⟨x, H1, I1, r1, q1⟩ => ?_
  obtain ⟨a, e, ⟨xs, hq⟩, q⟩ := q1
  subst e
  cases r1
  obtain ⟨its, rv, p, hz⟩ := I1.tuple hq
  refine wpAny_pyIter_tuple (show s1.heap.IsTuple a its.toArray from p) ?_
  refine ⟨s1.heap.objs.size, [s1.heap.objs.size], _, _, H1, rfl, I1.kept (t' := s1.toks) fun b o e => Heap.get?_push_of_some _ e, turn_tuple a _, ⟨_, Heap.get?_push_size _ rfl, rfl, rfl⟩, fun b hb => ?_, q⟩
  have e : b = s1.heap.objs.size := by simpa using hb
  subst e
  exact I1.fpOk (Nat.le_refl _) (I1.hok.fresh (Nat.le_refl _))
/-- a range object just made, walked -/
theorem range_it {pins : List (Addr × Obj)} {σ : St} {H : Hp} {s : Shared} {R : It → Hp → Prop} {E : Value → Shared → Prop} {lo hi : Int} {t u v : Tok} {tk : Nat} (I : Inv X pins σ H s) (h1 : -(2 ^ 62) ≤ lo) (h2 : lo < 2 ^ 62) (h3 : -(2 ^ 62) ≤ hi) (h4 : hi < 2 ^ 62)
    (q : R (Itr lo (hi - lo).toNat) H) : wpAny (model X.prog X.w) X.A (pyIter (.ref s.heap.objs.size)) (PIE X pins σ tg R) E { s with heap := s.heap.push { cls := .type "range", data := .fields #[.int lo t, .int hi u, .int 1 v] }, toks := tk } := by
  refine wpAny_pyIter_range (IsRange.new ..) (small_one h1 h2 h3 h4) ?_
  have I1 : Inv X pins σ H { s with heap := s.heap.push { cls := .type "range", data := .fields #[.int lo t, .int hi u, .int 1 v] }, toks := tk } := I.kept fun b o e => Heap.get?_push_of_some _ e
  refine ⟨(s.heap.push { cls := .type "range", data := .fields #[.int lo t, .int hi u, .int 1 v] }).objs.size, [(s.heap.push { cls := .type "range", data := .fields #[.int lo t, .int hi u, .int 1 v] }).objs.size], _, _, H, rfl,
    I1.kept (t' := tk) fun b o e => Heap.get?_push_of_some _ e, turn_range _ lo (hi - lo).toNat, ?_, fun b hb => ?_, q⟩
  · have e1 : lo + ((0 : Nat) : Int) * 1 = lo := by simp
    have e2 : (((hi - lo).toNat : Nat) : Int) - ((0 : Nat) : Int) = Builtin.Range.rangeSize lo hi 1 := by rw [rangeSize_one]; split <;> omega
    show IsRangeIter _ _ (lo + ((0 : Nat) : Int) * 1) ((((hi - lo).toNat : Nat) : Int) - ((0 : Nat) : Int)) 1
    rw [e1, e2]
    exact Heap.get?_push_size _ rfl
  · have e : b = (s.heap.push { cls := .type "range", data := .fields #[.int lo t, .int hi u, .int 1 v] }).objs.size := by simpa using hb
    subst e
    exact I1.fpOk (Nat.le_refl _) (I1.hok.fresh (Nat.le_refl _))
def iRng1 (ta : TA) : TI := fun σ H R => ta σ H fun vs H1 => ∃ j : Int, vs = [.int j] ∧ -(2 ^ 62) ≤ j ∧ j < 2 ^ 62 ∧ R (Itr 0 j.toNat) H1
def iRng2 (ta : TA) : TI := fun σ H R => ta σ H fun vs H1 => ∃ i j : Int, vs = [.int i, .int j] ∧ (-(2 ^ 62) ≤ i ∧ i < 2 ^ 62 ∧ -(2 ^ 62) ≤ j ∧ j < 2 ^ 62) ∧ R (Itr i (j - i).toNat) H1
theorem pi_range1 {a : Expr} {ta : TA} {p pos : Pos} (hg : Gl X "range") (hm : X.mg "range" = none) (ha : PA X [a] ta) (hs : starEach [a] X.env = [(false, eval a X.env)] := by rfl) : PI X tg (.Call (.Name "range" p) [a] [] pos) (iRng1 ta) := by
  intro pins s σ H R I h
  refine Call_ (ld_blt I hg hm boot_range (PyProof.Rows.callWith_type1 (thn (ha pos pins s σ H _ I h) fun us s1 ⟨vs, H1, I1, r1, q1⟩ => ?_) hs rfl))
  obtain ⟨j, e, q1, q2, q⟩ := q1
  subst e
  cases r1 with
  | cons r rr =>
    cases rr
    obtain ⟨t, rfl⟩ := r
    exact call_range_1 (range_it I1 (by omega) (by omega) q1 q2 (by simpa using q))
theorem pi_range2 {a b : Expr} {ta : TA} {p pos : Pos} (hg : Gl X "range") (hm : X.mg "range" = none) (ha : PA X [a, b] ta) (hs : starEach [a, b] X.env = [(false, eval a X.env), (false, eval b X.env)] := by rfl) (hs2 : starEach [b] X.env = [(false, eval b X.env)] := by rfl) :
    PI X tg (.Call (.Name "range" p) [a, b] [] pos) (iRng2 ta) := by
  intro pins s σ H R I h
  refine Call_ (ld_blt I hg hm boot_range (PyProof.Rows.callWith_type1 (thn (ha pos pins s σ H _ I h) fun us s1 ⟨vs, H1, I1, r1, q1⟩ => ?_) (by rw [hs, hs2]) (by rw [hs2]; rfl)))
  obtain ⟨i, j, e, ⟨q1, q2, q3, q4⟩, q⟩ := q1
  subst e
  cases r1 with
  | cons r rr =>
    cases rr with
    | cons r' rr =>
      cases rr
      obtain ⟨t, rfl⟩ := r
      obtain ⟨t', rfl⟩ := r'
      exact call_range_2 (range_it I1 q1 q2 q3 q4 q)

/-! ### for -/
/-- W: the invariant by the turn and a measure; N: what the body is to reach -/
def tFor (wi : TI) (g : TG) (tb : TS) : TS := fun D σ H => wi σ H fun J H1 => ∃ W : Nat → Nat → St → Hp → Prop, (∃ m, W 0 m σ H1) ∧ ∀ i m σ H, W i m σ H →
  (J.stop i H ∧ D.nx σ H) ∨ (J.go i H ∧ ∃ N : St → Hp → Prop, (∀ σ' H', N σ' H' → ∃ m', m' < m ∧ W (i + 1) m' σ' H') ∧ ∀ x H', J.yld i H x H' → g x σ H' fun σ2 H2 => tb { D with nx := N, ct := N, bk := D.nx } σ2 H2)
/-- the records at fp as they stand -/
def pinsAt (fp : List Addr) (h : Heap) : List (Addr × Obj) := fp.filterMap fun b => (h.get? b).map fun o => (b, o)
theorem mem_pinsAt {fp : List Addr} {h : Heap} {b : Addr} {o : Obj} (hb : b ∈ fp) (e : h.get? b = some o) : (b, o) ∈ pinsAt fp h := List.mem_filterMap.mpr ⟨b, hb, by rw [e]; rfl⟩
theorem of_pinsAt {fp : List Addr} {h : Heap} {p : Addr × Obj} (hp : p ∈ pinsAt fp h) : p.1 ∈ fp ∧ h.get? p.1 = some p.2 := by
  obtain ⟨b, hb, e⟩ := List.mem_filterMap.mp hp
  cases q : h.get? b with
  | none => rw [q] at e; cases e
  | some o =>
    rw [q] at e
    have e' : (b, o) = p := Option.some.inj e
    subst e'
    exact ⟨hb, q⟩
theorem Inv.pinned {pins : List (Addr × Obj)} {σ : St} {H : Hp} {s : Shared} {fp : List Addr} (I : Inv X pins σ H s) (hf : ∀ b ∈ fp, FpOk X pins H b) (ho : ∀ b ∈ fp, ∃ o, s.heap.get? b = some o ∧ ∀ v, o.data ≠ .cell v) : Inv X (pins ++ pinsAt fp s.heap) σ H s :=
  I.pins_of fun p hp => (List.mem_append.mp hp).elim (fun z => I.pin p (List.mem_append_right _ z)) fun z => by
    obtain ⟨hb, e⟩ := of_pinsAt z
    obtain ⟨f0, f1, f2, _⟩ := hf p.1 hb
    obtain ⟨o, e', d⟩ := ho p.1 hb
    rw [e] at e'; cases e'
    exact ⟨e, f0, f1, f2, d⟩
theorem Inv.unpinned {pins pl : List (Addr × Obj)} {σ : St} {H : Hp} {s : Shared} (I : Inv X (pins ++ pl) σ H s) : Inv X pins σ H s := I.pins_of fun p hp => I.pin p (List.mem_append_right _ (List.mem_append_left _ hp))
theorem ps_for {iter : Expr} {body : List Stmt} {wi : TI} {g : TG} {tb : TS} {pos : Pos} (hp : PassesOwn (model X.prog X.w) X.A X.env X.xe) (hc : X.calm = true) (hi : PI X tg iter wi) (hg : PG X tg g) (hb : PSs X body tb)
    (hs : ∀ x, foldedSetIterable iter X.env x = pure x := by intro _; rfl) : PS X (.For tg iter body [] pos) (tFor wi g tb) := by
  intro pins s σ H D I h
  refine wpAny_For (thn (hi pins s σ H _ I h) fun v s1 h1 => thn h1 fun itv s2 h2 => ?_) hs
  obtain ⟨it, fp, tn, J, H2, e, I2, T, st2, f2, W, ⟨m0, w0⟩, turn⟩ := h2
  subst e
  -- what stays true of the iterator's objects through the loop
  have stat : ∀ {H' : Hp}, (∀ b ∈ fp, H' b = none) → ∀ b ∈ fp, FpOk X pins H' b := fun hn b hb => ⟨hn b hb, (f2 b hb).2⟩
  refine codeAny_forLoop_any (fun n s' => ∃ i σ' H', Inv X pins σ' H' s' ∧ tn i s'.heap ∧ (∀ b ∈ fp, H' b = none) ∧ W i n σ' H') ?_ m0 ⟨0, σ, H2, I2, st2, fun b hb => (f2 b hb).1, w0⟩
  rintro n s3 ⟨i, σ3, H3, I3, st3, fr3, w3⟩
  rcases turn i n σ3 H3 w3 with ⟨stop, qn⟩ | ⟨go, N, hN, step⟩
  · refine wpAny_passesOwn hp (thn (T.done X rfl rfl rfl hc i pins s3 σ3 H3 X.xe I3 (stat fr3) st3 stop) fun r s4 ⟨hr, I4⟩ => ?_)
    subst hr
    exact wpAny_execs_nil ⟨σ3, H3, I4, qn⟩
  · refine wpAny_passesOwn hp (thn (T.item X rfl rfl rfl hc i pins s3 σ3 H3 X.xe I3 (stat fr3) st3 go) fun r s4 ⟨u, hr, h4⟩ => ?_)
    subst hr
    refine wpAny_passesOwn hp (thn h4 fun _ s5 ⟨x, H5, I5, r5, y5, st5, fr5⟩ => ?_)
    have I5' := I5.pinned (stat fr5) (T.obj _ _ st5)
    refine wpAny_passesOwn hp (thn (hg _ s5 σ3 H5 x u _ I5' r5 (step x H5 y5)) fun _ s6 ⟨σ6, H6, I6, q6⟩ => ?_)
    refine wpAny_passesOwn hp (thn (hb _ s6 σ6 H6 _ I6 q6) fun f s7 q7 => ?_)
    have again : ∀ {σ7 : St} {H7 : Hp}, Inv X (pins ++ pinsAt fp s5.heap) σ7 H7 s7 → N σ7 H7 → ∃ m, m < n ∧ ∃ i σ' H', Inv X pins σ' H' s7 ∧ tn i s7.heap ∧ (∀ b ∈ fp, H' b = none) ∧ W i m σ' H' := fun {σ7 H7} I7 n7 => by
      obtain ⟨m', hm, w7⟩ := hN σ7 H7 n7
      refine ⟨m', hm, i + 1, σ7, H7, I7.unpinned, T.keep _ _ _ st5 fun b hb o e => (I7.pin (b, o) (List.mem_append_right _ (List.mem_append_right _ (mem_pinsAt hb e)))).1, fun b hb => ?_, w7⟩
      obtain ⟨o, e, d⟩ := T.obj _ _ st5 b hb
      exact (I7.pin (b, o) (List.mem_append_right _ (List.mem_append_right _ (mem_pinsAt hb e)))).2.1
    cases f with
    | next => obtain ⟨σ7, H7, I7, n7⟩ := q7; exact again I7 n7
    | cont => obtain ⟨σ7, H7, I7, n7⟩ := q7; exact again I7 n7
    | brk => obtain ⟨σ7, H7, I7, q7⟩ := q7; exact ⟨σ7, H7, I7.unpinned, q7⟩
    | ret v => obtain ⟨x7, σ7, H7, I7, r7, q7⟩ := q7; exact ⟨x7, σ7, H7, I7.unpinned, r7, q7⟩
end

/-! ### the forms one uses -/
/-- over a list that the body leaves as it is -/
theorem for_list {K : PySem.W.Frag} {a : Addr} {xs : List V} {g : TG} {tb : TS} {D : Ends} {σ : St} {H : Hp} (Pv : Nat → St → Hp → Prop) (h0 : Pv 0 σ H) (hl : ∀ i σ H, i ≤ xs.length → Pv i σ H → SqL K H a xs)
    (hs : ∀ i x σ H, xs[i]? = some x → Pv i σ H → g x σ H fun σ2 H2 => tb { D with nx := Pv (i + 1), ct := Pv (i + 1), bk := D.nx } σ2 H2) (hd : ∀ σ H, Pv xs.length σ H → D.nx σ H) :
    ∃ W : Nat → Nat → St → Hp → Prop, (∃ m, W 0 m σ H) ∧ ∀ i m σ H, W i m σ H →
      ((Itl K a).stop i H ∧ D.nx σ H) ∨ ((Itl K a).go i H ∧ ∃ N : St → Hp → Prop, (∀ σ' H', N σ' H' → ∃ m', m' < m ∧ W (i + 1) m' σ' H') ∧ ∀ x H', (Itl K a).yld i H x H' → g x σ H' fun σ2 H2 => tb { D with nx := N, ct := N, bk := D.nx } σ2 H2) := by
  refine ⟨fun i m σ H => m = xs.length - i ∧ i ≤ xs.length ∧ Pv i σ H, ⟨xs.length, by simp, Nat.zero_le _, h0⟩, ?_⟩
  rintro i m σ H ⟨rfl, hi, p⟩
  have q := hl i σ H hi p
  by_cases hlt : i < xs.length
  · refine .inr ⟨⟨xs, xs[i], q, by simp [hlt]⟩, Pv (i + 1), fun σ' H' p' => ⟨xs.length - (i + 1), by omega, rfl, hlt, p'⟩, fun x H' y => ?_⟩
    obtain ⟨e, y⟩ := y
    subst e
    exact hs i x σ _ (y xs q) p
  · have e : i = xs.length := by omega
    subst e
    exact .inl ⟨⟨xs, q, Nat.le_refl _⟩, hd σ H p⟩
theorem for_tup {K : PySem.W.Frag} {a : Addr} {xs : List V} {g : TG} {tb : TS} {D : Ends} {σ : St} {H : Hp} (Pv : Nat → St → Hp → Prop) (h0 : Pv 0 σ H) (hl : ∀ i σ H, i ≤ xs.length → Pv i σ H → SqT K H a xs)
    (hs : ∀ i x σ H, xs[i]? = some x → Pv i σ H → g x σ H fun σ2 H2 => tb { D with nx := Pv (i + 1), ct := Pv (i + 1), bk := D.nx } σ2 H2) (hd : ∀ σ H, Pv xs.length σ H → D.nx σ H) :
    ∃ W : Nat → Nat → St → Hp → Prop, (∃ m, W 0 m σ H) ∧ ∀ i m σ H, W i m σ H →
      ((Itt K a).stop i H ∧ D.nx σ H) ∨ ((Itt K a).go i H ∧ ∃ N : St → Hp → Prop, (∀ σ' H', N σ' H' → ∃ m', m' < m ∧ W (i + 1) m' σ' H') ∧ ∀ x H', (Itt K a).yld i H x H' → g x σ H' fun σ2 H2 => tb { D with nx := N, ct := N, bk := D.nx } σ2 H2) := by
  refine ⟨fun i m σ H => m = xs.length - i ∧ i ≤ xs.length ∧ Pv i σ H, ⟨xs.length, by simp, Nat.zero_le _, h0⟩, ?_⟩
  rintro i m σ H ⟨rfl, hi, p⟩
  have q := hl i σ H hi p
  by_cases hlt : i < xs.length
  · refine .inr ⟨⟨xs, xs[i], q, by simp [hlt]⟩, Pv (i + 1), fun σ' H' p' => ⟨xs.length - (i + 1), by omega, rfl, hlt, p'⟩, fun x H' y => ?_⟩
    obtain ⟨e, y⟩ := y
    subst e
    exact hs i x σ _ (y xs q) p
  · have e : i = xs.length := by omega
    subst e
    exact .inl ⟨⟨xs, q, Nat.le_refl _⟩, hd σ H p⟩
theorem for_range {lo : Int} {n : Nat} {g : TG} {tb : TS} {D : Ends} {σ : St} {H : Hp} (Pv : Nat → St → Hp → Prop) (h0 : Pv 0 σ H)
    (hs : ∀ i σ H, i < n → Pv i σ H → g (.int (lo + i)) σ H fun σ2 H2 => tb { D with nx := Pv (i + 1), ct := Pv (i + 1), bk := D.nx } σ2 H2) (hd : ∀ σ H, Pv n σ H → D.nx σ H) :
    ∃ W : Nat → Nat → St → Hp → Prop, (∃ m, W 0 m σ H) ∧ ∀ i m σ H, W i m σ H →
      ((Itr lo n).stop i H ∧ D.nx σ H) ∨ ((Itr lo n).go i H ∧ ∃ N : St → Hp → Prop, (∀ σ' H', N σ' H' → ∃ m', m' < m ∧ W (i + 1) m' σ' H') ∧ ∀ x H', (Itr lo n).yld i H x H' → g x σ H' fun σ2 H2 => tb { D with nx := N, ct := N, bk := D.nx } σ2 H2) := by
  refine ⟨fun i m σ H => m = n - i ∧ i ≤ n ∧ Pv i σ H, ⟨n, by simp, Nat.zero_le _, h0⟩, ?_⟩
  rintro i m σ H ⟨rfl, hi, p⟩
  by_cases hlt : i < n
  · refine .inr ⟨hlt, Pv (i + 1), fun σ' H' p' => ⟨n - (i + 1), by omega, rfl, hlt, p'⟩, fun x H' y => ?_⟩
    obtain ⟨e, y⟩ := y
    subst e y
    exact hs i σ _ hlt p
  · have e : i = n := by omega
    subst e
    exact .inl ⟨Nat.le_refl _, hd σ H p⟩
/-- while, by a word and a measure of the state -/
theorem while_by {c : TT} {tb : TS} {D : Ends} {σ : St} {H : Hp} (Pv : St → Hp → Prop) (μ : St → Hp → Nat) (h0 : Pv σ H)
    (hs : ∀ σ H, Pv σ H → c σ H fun b H1 => if b = true then tb { D with nx := fun σ' H' => Pv σ' H' ∧ μ σ' H' < μ σ H, ct := fun σ' H' => Pv σ' H' ∧ μ σ' H' < μ σ H, bk := D.nx } σ H1 else D.nx σ H1)
    (mono : ∀ σ H Q Q', (∀ b H1, Q b H1 → Q' b H1) → c σ H Q → c σ H Q') : tWhile c tb D σ H := by
  refine ⟨fun m σ H => m = μ σ H ∧ Pv σ H, ⟨_, rfl, h0⟩, ?_⟩
  rintro m σ H ⟨rfl, p⟩
  refine mono σ H _ _ (fun b H1 q => ?_) (hs σ H p)
  cases b with
  | true => exact ⟨_, fun σ' H' ⟨p', l⟩ => ⟨_, l, rfl, p'⟩, q⟩
  | false => exact q
end L2

namespace L2
open PySem PySem.Spec PyProof.Rows

abbrev R2 := V → V → Hp → VK → Prop
/-- a two-place operation on values: f is binaryOp op, inplaceOp op or compareOp op -/
def OpR (X : Cx) (f : Value → Value → Sem Value) (r : R2) : Prop :=
  ∀ (pins : List (Addr × Obj)) (s : Shared) (σ : St) (H : Hp) (x y : V) (v u : Value) (Q : VK), Inv X pins σ H s → RelV x v → RelV y u → r x y H Q →
    wpAny (model X.prog X.w) X.A (f v u) (EP X pins σ Q) X.xe s
/-- a one-place operation -/
def UnR (X : Cx) (f : Value → Sem Value) (r : V → Hp → VK → Prop) : Prop :=
  ∀ (pins : List (Addr × Obj)) (s : Shared) (σ : St) (H : Hp) (x : V) (v : Value) (Q : VK), Inv X pins σ H s → RelV x v → r x H Q →
    wpAny (model X.prog X.w) X.A (f v) (EP X pins σ Q) X.xe s
/-- a call of a value that is known (a builtin, a type) with values -/
def CallR (X : Cx) (f : Value) (r : List V → Hp → VK → Prop) : Prop :=
  ∀ (pins : List (Addr × Obj)) (s : Shared) (σ : St) (H : Hp) (xs : List V) (us : List Value) (Q : VK), Inv X pins σ H s → Vals xs us → r xs H Q →
    wpAny (model X.prog X.w) X.A (call f us) (EP X pins σ Q) X.xe s
/-- a value's truth -/
def TruR (X : Cx) (r : V → Hp → (Bool → Hp → Prop) → Prop) : Prop :=
  ∀ (pins : List (Addr × Obj)) (s : Shared) (σ : St) (H : Hp) (x : V) (v : Value) (Q : Bool → Hp → Prop), Inv X pins σ H s → RelV x v → r x H Q →
    wpAny (model X.prog X.w) X.A (truthy v) (TP X pins σ Q) X.xe s

def tOp (r : R2) (ta tb : TE) : TE := fun σ H Q => ta σ H fun x H1 => tb σ H1 fun y H2 => r x y H2 Q
def tUn (r : V → Hp → VK → Prop) (ta : TE) : TE := fun σ H Q => ta σ H fun x H1 => r x H1 Q
/-- ints in, under C, and a value out -/
def rI (C : Int → Int → Prop) (g : Int → Int → V) : R2 := fun x y H Q => ∃ i j, x = .int i ∧ y = .int j ∧ C i j ∧ Q (g i j) H
def rI0 (g : Int → Int → V) : R2 := fun x y H Q => ∃ i j, x = .int i ∧ y = .int j ∧ Q (g i j) H
def rU (g : Int → V) : V → Hp → VK → Prop := fun x H Q => ∃ i, x = .int i ∧ Q (g i) H

section
variable {X : Cx} {a b c : Expr} {ta tb tc : TE} {pos : Pos}

theorem binT (ha : PE X a ta) (hb : PE X b tb) {pins : List (Addr × Obj)} {s : Shared} {σ : St} {H : Hp} {R : V → V → Hp → Prop} (I : Inv X pins σ H s)
    (h : ta σ H fun x H1 => tb σ H1 fun y H2 => R x y H2) {Q : Value → Shared → Prop} {f : Value → Value → Sem Value}
    (hf : ∀ v u s2 x y H2, Inv X pins σ H2 s2 → RelV x v → RelV y u → R x y H2 → wpAny (model X.prog X.w) X.A (f v u) Q X.xe s2) :
    wpAny (model X.prog X.w) X.A (eval a X.env) (fun v s₁ => wpAny (model X.prog X.w) X.A (eval b X.env) (fun u s₂ => wpAny (model X.prog X.w) X.A (f v u) Q X.xe s₂) X.xe s₁) X.xe s := by
  refine thn (ha pins s σ H _ I h) fun v s1 ⟨x, H1, I1, r1, q1⟩ => ?_
  refine thn (hb pins s1 σ H1 _ I1 q1) fun u s2 ⟨y, H2, I2, r2, q2⟩ => ?_
  exact hf v u s2 x y H2 I2 r1 r2 q2

theorem pe_op {op : Operator} {r : R2} (ho : OpR X (binaryOp op) r) (ha : PE X a ta) (hb : PE X b tb) : PE X (.BinOp a op b pos) (tOp r ta tb) := by
  intro pins s σ H Q I h
  exact wpAny_BinOp (binT ha hb I h fun v u s2 x y H2 I2 rx ry q => ho pins s2 σ H2 x y v u Q I2 rx ry q)
theorem pe_un {op : UnaryOp} {r : V → Hp → VK → Prop} (ho : UnR X (unaryOp op) r) (ha : PE X a ta) : PE X (.UnaryOp op a pos) (tUn r ta) := by
  intro pins s σ H Q I h
  exact UnaryOp_ (thn (ha pins s σ H _ I h) fun v s1 ⟨x, H1, I1, r1, q1⟩ => ho pins s1 σ H1 x v Q I1 r1 q1)
/-- a op= e at a name: the name's slot i -/
theorem augR {op : Operator} {r : R2} (ho : OpR X (inplaceOp op) r) {pins : List (Addr × Obj)} {s : Shared} {σ : St} {H : Hp} {x y : V} {v u : Value} {Q : VK} (I : Inv X pins σ H s)
    (rx : RelV x v) (ry : RelV y u) (q : r x y H Q) : wpAny (model X.prog X.w) X.A (inplaceOp op v u) (EP X pins σ Q) X.xe s := ho pins s σ H x y v u Q I rx ry q

/-! ### ints -/
theorem opI {f : Value → Value → Sem Value} {C : Int → Int → Prop} {g : Int → Int → Int}
    (rule : ∀ (i j : Int) (t u : Tok) (s : Shared) (Q : Value → Shared → Prop) (E : Value → Shared → Prop), C i j → Q (.int (g i j) s.toks) { s with toks := s.toks + 1 } → wpAny (model X.prog X.w) X.A (f (.int i t) (.int j u)) Q E s) :
    OpR X f (rI C fun i j => .int (g i j)) := by
  intro pins s σ H x y v u Q I rx ry h
  obtain ⟨i, j, rfl, rfl, hc, q⟩ := h
  obtain ⟨t, rfl⟩ := rx
  obtain ⟨t', rfl⟩ := ry
  exact rule i j t t' s _ _ hc ⟨.int (g i j), H, I.tok _, ⟨_, rfl⟩, q⟩
theorem opI0 {f : Value → Value → Sem Value} {g : Int → Int → Int}
    (rule : ∀ (i j : Int) (t u : Tok) (s : Shared) (Q : Value → Shared → Prop) (E : Value → Shared → Prop), Q (.int (g i j) s.toks) { s with toks := s.toks + 1 } → wpAny (model X.prog X.w) X.A (f (.int i t) (.int j u)) Q E s) :
    OpR X f (rI0 fun i j => .int (g i j)) := by
  intro pins s σ H x y v u Q I rx ry h
  obtain ⟨i, j, rfl, rfl, q⟩ := h
  obtain ⟨t, rfl⟩ := rx
  obtain ⟨t', rfl⟩ := ry
  exact rule i j t t' s _ _ ⟨.int (g i j), H, I.tok _, ⟨_, rfl⟩, q⟩
theorem opB0 {f : Value → Value → Sem Value} {g : Int → Int → Bool}
    (rule : ∀ (i j : Int) (t u : Tok) (s : Shared) (Q : Value → Shared → Prop) (E : Value → Shared → Prop), Q (.bool (g i j)) s → wpAny (model X.prog X.w) X.A (f (.int i t) (.int j u)) Q E s) :
    OpR X f (rI0 fun i j => .bl (g i j)) := by
  intro pins s σ H x y v u Q I rx ry h
  obtain ⟨i, j, rfl, rfl, q⟩ := h
  obtain ⟨t, rfl⟩ := rx
  obtain ⟨t', rfl⟩ := ry
  exact rule i j t t' s _ _ ⟨.bl (g i j), H, I, rfl, q⟩

def CDiv (i j : Int) : Prop := 0 < j ∧ j < 1073741824
def CDivN (i j : Int) : Prop := j ≠ 0 ∧ j.natAbs < 1073741824
def CPow (i j : Int) : Prop := 0 ≤ j ∧ j ≤ 1000000 ∧ i.natAbs < 2 ^ 64
def CMul (i j : Int) : Prop := (-(2 ^ 64) < i ∧ i < 2 ^ 64) ∨ (-(2 ^ 64) < j ∧ j < 2 ^ 64)
theorem CMul.ok {i j : Int} (h : CMul i j) : IntMulOk i j := by
  rcases h with ⟨h1, h2⟩ | ⟨h1, h2⟩
  · exact .of_left (intBits_le_64 h1 h2)
  · exact .of_right (intBits_le_64 h1 h2)
theorem two_pow_nn (k : Nat) : (0 : Int) ≤ 2 ^ k := by
  rw [two_pow_cast]
  exact Int.natCast_nonneg _

theorem op_add : OpR X (binaryOp .Add) (rI0 fun i j => .int (i + j)) := opI0 fun _ _ _ _ _ _ _ q => add_int q
theorem op_sub : OpR X (binaryOp .Sub) (rI0 fun i j => .int (i - j)) := opI0 fun _ _ _ _ _ _ _ q => sub_int q
theorem op_mul : OpR X (binaryOp .Mult) (rI CMul fun i j => .int (i * j)) := opI fun _ _ _ _ _ _ _ hc q => mul_int q hc.ok
/-- // by a positive divisor -/
theorem op_fdiv : OpR X (binaryOp .FloorDiv) (rI CDiv fun i j => .int (i / j)) := opI fun i j _ _ _ _ _ hc q => by
  have h1 : (0 : Int) < j := hc.1
  have h2 : j < 1073741824 := hc.2
  exact floordiv_int (by omega) (by rw [Int.fdiv_eq_ediv_of_nonneg i (by omega)]; exact q) (.inl (PyProof.noPylong_small (by omega)))
theorem op_fdivN : OpR X (binaryOp .FloorDiv) (rI CDivN fun i j => .int (i.fdiv j)) := opI fun _ _ _ _ _ _ _ hc q => floordiv_int hc.1 q (.inl (PyProof.noPylong_small hc.2))
/-- % by a positive divisor of any size -/
theorem op_mod : OpR X (binaryOp .Mod) (rI (fun _ j => 0 < j) fun i j => .int (i % j)) := opI fun i j _ _ _ _ _ hc q => by
  have h1 : (0 : Int) < j := hc
  exact mod_int' (by omega) (by rw [Int.fmod_eq_emod_of_nonneg i (by omega)]; exact q)
theorem op_modN : OpR X (binaryOp .Mod) (rI (fun _ j => j ≠ 0) fun i j => .int (i.fmod j)) := opI fun _ _ _ _ _ _ _ hc q => mod_int' hc q
theorem op_pow : OpR X (binaryOp .Pow) (rI CPow fun i j => .int (i ^ j.toNat)) := opI fun _ _ _ _ _ _ _ hc q => pow_int_small hc.1 hc.2.1 hc.2.2 q
theorem op_shl : OpR X (binaryOp .LShift) (rI CPow fun i j => .int (i * 2 ^ j.toNat)) := opI fun _ _ _ _ _ _ _ hc q => lshift_int_small hc.1 hc.2.1 hc.2.2 q
theorem op_shr : OpR X (binaryOp .RShift) (rI (fun _ j => 0 ≤ j) fun i j => .int (i / 2 ^ j.toNat)) := opI fun i j _ _ _ _ _ hc q =>
  rshift_int hc (by rw [Int.fdiv_eq_ediv_of_nonneg i (two_pow_nn _)]; exact q)
theorem op_and : OpR X (binaryOp .BitAnd) (rI0 fun i j => .int (Builtin.bitAnd i j)) := opI0 fun _ _ _ _ _ _ _ q => and_int q
theorem op_or : OpR X (binaryOp .BitOr) (rI0 fun i j => .int (Builtin.bitOr i j)) := opI0 fun _ _ _ _ _ _ _ q => or_int q
theorem op_xor : OpR X (binaryOp .BitXor) (rI0 fun i j => .int (Builtin.bitXor i j)) := opI0 fun _ _ _ _ _ _ _ q => xor_int q

theorem iop_add : OpR X (inplaceOp .Add) (rI0 fun i j => .int (i + j)) := opI0 fun _ _ _ _ _ _ _ q => iadd_int q
theorem iop_sub : OpR X (inplaceOp .Sub) (rI0 fun i j => .int (i - j)) := opI0 fun _ _ _ _ _ _ _ q => isub_int q
theorem iop_mul : OpR X (inplaceOp .Mult) (rI CMul fun i j => .int (i * j)) := opI fun _ _ _ _ _ _ _ hc q => imul_int q hc.ok
theorem iop_fdiv : OpR X (inplaceOp .FloorDiv) (rI CDiv fun i j => .int (i / j)) := opI fun i j _ _ _ _ _ hc q => by
  have h1 : (0 : Int) < j := hc.1
  have h2 : j < 1073741824 := hc.2
  exact ifloordiv_int (by omega) (by rw [Int.fdiv_eq_ediv_of_nonneg i (by omega)]; exact q) (.inl (PyProof.noPylong_small (by omega)))
theorem iop_mod : OpR X (inplaceOp .Mod) (rI (fun _ j => 0 < j) fun i j => .int (i % j)) := opI fun i j _ _ _ _ _ hc q => by
  have h1 : (0 : Int) < j := hc
  exact imod_int (by omega) (by rw [Int.fmod_eq_emod_of_nonneg i (by omega)]; exact q)
theorem iop_shl : OpR X (inplaceOp .LShift) (rI CPow fun i j => .int (i * 2 ^ j.toNat)) := opI fun _ _ _ _ _ _ _ hc q => ilshift_int_small hc.1 hc.2.1 hc.2.2 q
theorem iop_shr : OpR X (inplaceOp .RShift) (rI (fun _ j => 0 ≤ j) fun i j => .int (i / 2 ^ j.toNat)) := opI fun i j _ _ _ _ _ hc q =>
  irshift_int hc (by rw [Int.fdiv_eq_ediv_of_nonneg i (two_pow_nn _)]; exact q)
theorem iop_and : OpR X (inplaceOp .BitAnd) (rI0 fun i j => .int (Builtin.bitAnd i j)) := opI0 fun _ _ _ _ _ _ _ q => iand_int q
theorem iop_or : OpR X (inplaceOp .BitOr) (rI0 fun i j => .int (Builtin.bitOr i j)) := opI0 fun _ _ _ _ _ _ _ q => ior_int q
theorem iop_xor : OpR X (inplaceOp .BitXor) (rI0 fun i j => .int (Builtin.bitXor i j)) := opI0 fun _ _ _ _ _ _ _ q => ixor_int q

theorem unI {f : Value → Sem Value} {g : Int → Int}
    (rule : ∀ (i : Int) (t : Tok) (s : Shared) (Q : Value → Shared → Prop) (E : Value → Shared → Prop), Q (.int (g i) s.toks) { s with toks := s.toks + 1 } → wpAny (model X.prog X.w) X.A (f (.int i t)) Q E s) :
    UnR X f (rU fun i => .int (g i)) := by
  intro pins s σ H x v Q I rx h
  obtain ⟨i, rfl, q⟩ := h
  obtain ⟨t, rfl⟩ := rx
  exact rule i t s _ _ ⟨.int (g i), H, I.tok _, ⟨_, rfl⟩, q⟩
theorem un_neg : UnR X (unaryOp .USub) (rU fun i => .int (-i)) := unI fun _ _ _ _ _ q => neg_int q
theorem un_inv : UnR X (unaryOp .Invert) (rU fun i => .int (Builtin.bitNot i)) := unI fun _ _ _ _ _ q => invert_int q

/-! ### bools among ints: n += (a < b) -/
theorem op_add_ib : OpR X (binaryOp .Add) (fun x y H Q => ∃ i k, x = .int i ∧ y = .bl k ∧ Q (.int (i + b2i k)) H) := by
  intro pins s σ H x y v u Q I rx ry h
  obtain ⟨i, k, rfl, rfl, q⟩ := h
  obtain ⟨t, rfl⟩ := rx
  cases ry
  exact add_int_bool ⟨.int (i + b2i k), H, I.tok _, ⟨_, rfl⟩, q⟩
end

/-! ### comparisons -/
/-- the scalars that == tells apart as data does -/
def scal : V → V → Bool
  | .non, .non => true | .non, .int _ => true | .int _, .non => true | .non, .bl _ => true | .bl _, .non => true | .non, .str _ => true | .str _, .non => true
  | .int _, .int _ => true | .bl _, .bl _ => true | .str _, .str _ => true | .byt _, .byt _ => true
  | .int _, .str _ => true | .str _, .int _ => true | .bl _, .str _ => true | .str _, .bl _ => true
  | _, _ => false
def rEq : R2 := fun x y H Q => scal x y = true ∧ Q (.bl (decide (x = y))) H
def rNe : R2 := fun x y H Q => scal x y = true ∧ Q (.bl (!decide (x = y))) H

theorem dec_int {i j : Int} : decide (V.int i = V.int j) = (i == j) := by
  rw [Bool.eq_iff_iff]
  simp
theorem dec_bl {i j : Bool} : decide (V.bl i = V.bl j) = (i == j) := by
  rw [Bool.eq_iff_iff]
  simp
theorem dec_str {i j : Str} : decide (V.str i = V.str j) = (i == j) := by
  rw [Bool.eq_iff_iff]
  simp
theorem dec_byt {i j : Array UInt8} : decide (V.byt i = V.byt j) = (i.toList == j.toList) := by
  rw [Bool.eq_iff_iff]
  cases i
  cases j
  simp

section
variable {X : Cx} {a b c : Expr} {ta tb tc : TE} {pos : Pos}
theorem fin_bl {pins : List (Addr × Obj)} {σ : St} {H : Hp} {s : Shared} {Q : VK} {k k' : Bool} (I : Inv X pins σ H s) (q : Q (.bl k) H) (e : k = k') : EP X pins σ Q (.bool k') s := by
  subst e
  exact ⟨.bl k, H, I, rfl, q⟩
theorem op_eq : OpR X (compareOp .Eq) rEq := by
  intro pins s σ H x y v u Q I rx ry h
  obtain ⟨hs, q⟩ := h
  cases x with
  | non =>
    cases rx
    cases y with
    | non => cases ry; exact PySem.EqNone.eq_none_none (fin_bl I q (by simp))
    | bl j => cases ry; exact PySem.EqNone.eq_none_bool (fin_bl I q (by simp))
    | int j => obtain ⟨t', rfl⟩ := ry; exact PySem.EqNone.eq_none_int (fin_bl I q (by simp))
    | str j => obtain ⟨t', rfl⟩ := ry; exact PySem.EqNone.eq_none_str (fin_bl I q (by simp))
    | _ => exact absurd (show false = true from hs) Bool.false_ne_true
  | bl i =>
    cases rx
    cases y with
    | non => cases ry; exact PySem.EqNone.eq_bool_none (fin_bl I q (by simp))
    | bl j => cases ry; exact eq_bool (fin_bl I q dec_bl)
    | str j => obtain ⟨t', rfl⟩ := ry; exact PySem.EqMixed.eq_bool_str (fin_bl I q (by simp))
    | _ => exact absurd (show false = true from hs) Bool.false_ne_true
  | int i =>
    obtain ⟨t, rfl⟩ := rx
    cases y with
    | non => cases ry; exact PySem.EqNone.eq_int_none (fin_bl I q (by simp))
    | int j => obtain ⟨t', rfl⟩ := ry; exact eq_int (fin_bl I q dec_int)
    | str j => obtain ⟨t', rfl⟩ := ry; exact PySem.EqMixed.eq_int_str (fin_bl I q (by simp))
    | _ => exact absurd (show false = true from hs) Bool.false_ne_true
  | str i =>
    obtain ⟨t, rfl⟩ := rx
    cases y with
    | non => cases ry; exact PySem.EqNone.eq_str_none (fin_bl I q (by simp))
    | bl j => cases ry; exact PySem.EqMixed.eq_str_bool (fin_bl I q (by simp))
    | int j => obtain ⟨t', rfl⟩ := ry; exact PySem.EqMixed.eq_str_int (fin_bl I q (by simp))
    | str j => obtain ⟨t', rfl⟩ := ry; exact eq_str (fin_bl I q dec_str)
    | _ => exact absurd (show false = true from hs) Bool.false_ne_true
  | byt i =>
    obtain ⟨t, rfl⟩ := rx
    cases y with
    | byt j => obtain ⟨t', rfl⟩ := ry; exact PySem.W.eq_bytes (fin_bl I q dec_byt)
    | _ => exact absurd (show false = true from hs) Bool.false_ne_true
  | _ => cases y <;> exact absurd (show false = true from hs) Bool.false_ne_true
theorem op_ne : OpR X (compareOp .NotEq) rNe := by
  intro pins s σ H x y v u Q I rx ry h
  obtain ⟨hs, q⟩ := h
  cases x with
  | non =>
    cases rx
    cases y with
    | non => cases ry; exact PySem.EqNone.ne_none_none (fin_bl I q (by simp))
    | bl j => cases ry; exact PySem.EqNone.ne_none_bool (fin_bl I q (by simp))
    | int j => obtain ⟨t', rfl⟩ := ry; exact PySem.EqNone.ne_none_int (fin_bl I q (by simp))
    | str j => obtain ⟨t', rfl⟩ := ry; exact PySem.EqNone.ne_none_str (fin_bl I q (by simp))
    | _ => exact absurd (show false = true from hs) Bool.false_ne_true
  | bl i =>
    cases rx
    cases y with
    | non => cases ry; exact PySem.EqNone.ne_bool_none (fin_bl I q (by simp))
    | bl j => cases ry; exact ne_bool (fin_bl I q (congrArg not dec_bl))
    | str j => obtain ⟨t', rfl⟩ := ry; exact PySem.EqMixed.ne_bool_str (fin_bl I q (by simp))
    | _ => exact absurd (show false = true from hs) Bool.false_ne_true
  | int i =>
    obtain ⟨t, rfl⟩ := rx
    cases y with
    | non => cases ry; exact PySem.EqNone.ne_int_none (fin_bl I q (by simp))
    | int j => obtain ⟨t', rfl⟩ := ry; exact ne_int (fin_bl I q (congrArg not dec_int))
    | str j => obtain ⟨t', rfl⟩ := ry; exact PySem.EqMixed.ne_int_str (fin_bl I q (by simp))
    | _ => exact absurd (show false = true from hs) Bool.false_ne_true
  | str i =>
    obtain ⟨t, rfl⟩ := rx
    cases y with
    | non => cases ry; exact PySem.EqNone.ne_str_none (fin_bl I q (by simp))
    | bl j => cases ry; exact PySem.EqMixed.ne_str_bool (fin_bl I q (by simp))
    | int j => obtain ⟨t', rfl⟩ := ry; exact PySem.EqMixed.ne_str_int (fin_bl I q (by simp))
    | str j => obtain ⟨t', rfl⟩ := ry; exact ne_str (fin_bl I q (congrArg not dec_str))
    | _ => exact absurd (show false = true from hs) Bool.false_ne_true
  | byt i =>
    obtain ⟨t, rfl⟩ := rx
    cases y with
    | byt j => obtain ⟨t', rfl⟩ := ry; exact PySem.W.ne_bytes (fin_bl I q (congrArg not dec_byt))
    | _ => exact absurd (show false = true from hs) Bool.false_ne_true
  | _ => cases y <;> exact absurd (show false = true from hs) Bool.false_ne_true

theorem op_lt : OpR X (compareOp .Lt) (rI0 fun i j => .bl (decide (i < j))) := opB0 fun _ _ _ _ _ _ _ q => lt_int q
theorem op_le : OpR X (compareOp .LtE) (rI0 fun i j => .bl (decide (i ≤ j))) := opB0 fun _ _ _ _ _ _ _ q => le_int q
theorem op_gt : OpR X (compareOp .Gt) (rI0 fun i j => .bl (decide (j < i))) := opB0 fun _ _ _ _ _ _ _ q => gt_int q
theorem op_ge : OpR X (compareOp .GtE) (rI0 fun i j => .bl (decide (j ≤ i))) := opB0 fun _ _ _ _ _ _ _ q => ge_int q
theorem op_lt_str : OpR X (compareOp .Lt) (fun x y H Q => ∃ i j, x = .str i ∧ y = .str j ∧ Q (.bl (decide (i.cps.toList < j.cps.toList))) H) := by
  intro pins s σ H x y v u Q I rx ry h
  obtain ⟨i, j, rfl, rfl, q⟩ := h
  obtain ⟨t, rfl⟩ := rx
  obtain ⟨t', rfl⟩ := ry
  exact lt_str (fin_bl I q rfl)
/-- the one string within the other -/
theorem op_in_str : OpR X (compareOp .In) (fun x y H Q => ∃ i j, x = .str i ∧ y = .str j ∧ Q (.bl (!(Builtin.Str.occurrences j i 0 j.length 1).isEmpty)) H) := by
  intro pins s σ H x y v u Q I rx ry h
  obtain ⟨i, j, rfl, rfl, q⟩ := h
  obtain ⟨t, rfl⟩ := rx
  obtain ⟨t', rfl⟩ := ry
  exact in_str (fin_bl I q rfl)

/-- is None, is not None: the right side a value none -/
theorem op_isN : OpR X (compareOp .Is) (fun x y H Q => y = .non ∧ Q (.bl (decide (x = .non))) H) := by
  intro pins s σ H x y v u Q I rx ry h
  obtain ⟨rfl, q⟩ := h
  cases ry
  refine is_none_gen (fin_bl I q ?_)
  cases x <;> first
    | (cases rx; rfl)
    | (obtain ⟨t, rfl⟩ := rx; rfl)
theorem op_notN : OpR X (compareOp .IsNot) (fun x y H Q => y = .non ∧ Q (.bl (!decide (x = .non))) H) := by
  intro pins s σ H x y v u Q I rx ry h
  obtain ⟨rfl, q⟩ := h
  cases ry
  refine isnot_none_gen (fin_bl I q ?_)
  cases x <;> first
    | (cases rx; rfl)
    | (obtain ⟨t, rfl⟩ := rx; rfl)

theorem op_notin_str : OpR X (compareOp .NotIn) (fun x y H Q => ∃ i j, x = .str i ∧ y = .str j ∧ Q (.bl (!(!(Builtin.Str.occurrences j i 0 j.length 1).isEmpty))) H) := by
  intro pins s σ H x y v u Q I rx ry h
  obtain ⟨i, j, rfl, rfl, q⟩ := h
  obtain ⟨t, rfl⟩ := rx
  obtain ⟨t', rfl⟩ := ry
  exact notIn_str (fin_bl I q rfl)
/-- is, is not of two objects that are tracked lists or instances -/
def isObj : HO → Bool
  | .lst _ => true
  | .ins _ _ _ => true
  | _ => false
theorem obj_there {pins : List (Addr × Obj)} {s : Shared} {σ : St} {H : Hp} {a : Addr} {o : HO} (I : Inv X pins σ H s) (h : H a = some o) (p : isObj o = true) : ∃ ob, s.heap.get? a = some ob ∧ ob.cls ≠ .type "tuple" := by
  cases o with
  | lst xs =>
    obtain ⟨_, its, n, _, e⟩ : xs.length ≤ sizeLine ∧ ∃ (its : List Value) (n : Nat), Vals xs its ∧ s.heap.get? a = some { cls := .type "list", data := .seq its.toArray n } := I.hok a _ h
    exact ⟨_, e, (by show Value.type "list" ≠ .type "tuple"; decide +kernel)⟩
  | ins C dx fs =>
    have x := I.hok a _ h
    obtain ⟨_, _, _, e, _⟩ := x
    exact ⟨_, e, (by show Value.ref C ≠ .type "tuple"; exact fun z => by cases z)⟩
  | _ => exact absurd (show false = true from p) Bool.false_ne_true
theorem op_is_ref : OpR X (compareOp .Is) (fun x y H Q => ∃ a b oa ob, x = .ref a ∧ y = .ref b ∧ H a = some oa ∧ isObj oa = true ∧ H b = some ob ∧ isObj ob = true ∧ Q (.bl (decide (a = b))) H) := by
  intro pins s σ H x y v u Q I rx ry h
  obtain ⟨a, b, oa, ob, rfl, rfl, ha, pa, hb, pb, q⟩ := h
  cases rx
  cases ry
  obtain ⟨o1, e1, n1⟩ := obj_there I ha pa
  obtain ⟨o2, e2, _⟩ := obj_there I hb pb
  by_cases z : a = b
  · subst z
    exact wpAny_is_ref_self (fin_bl I q (by simp))
  · exact wpAny_is_ref_other z e1 e2 n1 (fin_bl I q (by simp [z]))
theorem op_isnot_ref : OpR X (compareOp .IsNot) (fun x y H Q => ∃ a b oa ob, x = .ref a ∧ y = .ref b ∧ H a = some oa ∧ isObj oa = true ∧ H b = some ob ∧ isObj ob = true ∧ Q (.bl (!decide (a = b))) H) := by
  intro pins s σ H x y v u Q I rx ry h
  obtain ⟨a, b, oa, ob, rfl, rfl, ha, pa, hb, pb, q⟩ := h
  cases rx
  cases ry
  obtain ⟨o1, e1, n1⟩ := obj_there I ha pa
  obtain ⟨o2, e2, _⟩ := obj_there I hb pb
  by_cases z : a = b
  · subst z
    exact wpAny_isNot_ref_self (fin_bl I q (by simp))
  · exact wpAny_isNot_ref_other z e1 e2 n1 (fin_bl I q (by simp [z]))

/-- two rules for one operation: by cases -/
theorem OpR.or {f : Value → Value → Sem Value} {r r' : R2} (h : OpR X f r) (h' : OpR X f r') : OpR X f (fun x y H Q => r x y H Q ∨ r' x y H Q) := by
  intro pins s σ H x y v u Q I rx ry q
  rcases q with q | q
  · exact h pins s σ H x y v u Q I rx ry q
  · exact h' pins s σ H x y v u Q I rx ry q

theorem nomark (b : Expr) {op : CmpOp} (h : op ≠ .In := by decide) (h2 : op ≠ .NotIn := by decide) : behindInMarks op b = false := by
  have e1 : (op == CmpOp.In) = false := by cases op <;> first | rfl | exact absurd rfl h
  have e2 : (op == CmpOp.NotIn) = false := by cases op <;> first | rfl | exact absurd rfl h2
  cases b <;> simp [behindInMarks, e1, e2]
/-- a comparison as a value; hm: nomark b, or (for in, not in) by with_unfolding_all rfl -/
theorem pe_cmpR {op : CmpOp} {r : R2} (ho : OpR X (compareOp op) r) (ha : PE X a ta) (hb : PE X b tb) (hm : behindInMarks op b = false) : PE X (.Compare a [op] [b] pos) (tOp r ta tb) := by
  intro pins s σ H Q I h
  exact wpAny_Compare1 (binT ha hb I h fun v u s2 x y H2 I2 rx ry q => ho pins s2 σ H2 x y v u Q I2 rx ry q) hm
/-- a reading of a value as a test -/
def tTest (t : TE) : TT := fun σ H Q => t σ H fun x H' => ∃ k, x = .bl k ∧ Q k H'
theorem pt_cmpR {op : CmpOp} {r : R2} (ho : OpR X (compareOp op) r) (ha : PE X a ta) (hb : PE X b tb) (hm : behindInMarks op b = false) : PT X (.Compare a [op] [b] pos) (tTest (tOp r ta tb)) := by
  intro pins s σ H Q I h
  refine wpAny_isTrue_Compare1 (thn (ha pins s σ H _ I h) fun v s1 ⟨x, H1, I1, r1, q1⟩ => thn (hb pins s1 σ H1 _ I1 q1) fun u s2 ⟨y, H2, I2, r2, q2⟩ =>
    thn (ho pins s2 σ H2 x y v u _ I2 r1 r2 q2) fun c s3 ⟨z, H3, I3, r3, k, e, q3⟩ => ?_) hm
  subst e
  cases r3
  exact wpAny_truthy_bool ⟨H3, I3, q3⟩
/-- a op1 b op2 c -/
def tChain (r r' : R2) (ta tb tc : TE) : TE := fun σ H Q => ta σ H fun x H1 => tb σ H1 fun y H2 => r x y H2 fun z H3 => ∃ k, z = .bl k ∧
  (if k = true then tc σ H3 fun w' H4 => r' y w' H4 Q else Q (.bl false) H3)
theorem pe_chain {op op' : CmpOp} {r r' : R2} (ho : OpR X (compareOp op) r) (ho' : OpR X (compareOp op') r') (ha : PE X a ta) (hb : PE X b tb) (hc : PE X c tc)
    (hm : lastMarks [op, op'] [b, c] = false := by with_unfolding_all rfl) : PE X (.Compare a [op, op'] [b, c] pos) (tChain r r' ta tb tc) := by
  intro pins s σ H Q I h
  refine Compare_chain (thn (ha pins s σ H _ I h) fun v s1 ⟨x, H1, I1, r1, q1⟩ => chain_link (thn (hb pins s1 σ H1 _ I1 q1) fun u s2 ⟨y, H2, I2, r2, q2⟩ =>
    thn (ho pins s2 σ H2 x y v u _ I2 r1 r2 q2) fun d s3 ⟨z, H3, I3, r3, k, e, q3⟩ => ?_)) hm
  subst e
  cases r3
  refine wpAny_truthy_bool ?_
  cases k with
  | false => exact ite_ff ⟨.bl false, H3, I3, rfl, q3⟩
  | true => exact ite_tt (chain_last (thn (hc pins s3 σ H3 _ I3 q3) fun w' s4 ⟨z', H4, I4, r4, q4⟩ => ho' pins s4 σ H4 y z' u w' Q I4 r2 r4 q4))
theorem pt_chain {op op' : CmpOp} {r r' : R2} (ho : OpR X (compareOp op) r) (ho' : OpR X (compareOp op') r') (ha : PE X a ta) (hb : PE X b tb) (hc : PE X c tc)
    (hm : lastMarks [op, op'] [b, c] = false := by with_unfolding_all rfl) : PT X (.Compare a [op, op'] [b, c] pos) (tTest (tChain r r' ta tb tc)) := by
  intro pins s σ H Q I h
  refine isTrue_chain (thn (ha pins s σ H _ I h) fun v s1 ⟨x, H1, I1, r1, q1⟩ => test_link (thn (hb pins s1 σ H1 _ I1 q1) fun u s2 ⟨y, H2, I2, r2, q2⟩ =>
    thn (ho pins s2 σ H2 x y v u _ I2 r1 r2 q2) fun d s3 ⟨z, H3, I3, r3, k, e, q3⟩ => ?_)) hm
  subst e
  cases r3
  refine wpAny_truthy_bool ?_
  cases k with
  | false =>
    obtain ⟨k', e', q'⟩ := q3
    cases e'
    exact ite_ff ⟨H3, I3, q'⟩
  | true =>
    refine ite_tt (test_last (thn (hc pins s3 σ H3 _ I3 q3) fun w' s4 ⟨z', H4, I4, r4, q4⟩ => thn (ho' pins s4 σ H4 y z' u w' _ I4 r2 r4 q4) fun d' s5 ⟨z2, H5, I5, r5, k2, e2, q5⟩ => ?_))
    subst e2
    cases r5
    exact wpAny_truthy_bool ⟨H5, I5, q5⟩

/-! ### truth -/
/-- a value's truth by the abstract heap -/
def TruV (K : PySem.W.Frag) (x : V) (H : Hp) (k : Bool) : Prop :=
  match x with
  | .non => k = false
  | .bl b => k = b
  | .int i => k = (i != 0)
  | .str y => y.length ≤ sizeLine ∧ k = ((y.length : Int) != 0)
  | .byt y => y.size ≤ sizeLine ∧ k = ((y.size : Int) != 0)
  | .ref p => (∃ xs, SqL K H p xs ∧ k = !xs.isEmpty) ∨ (∃ xs, SqT K H p xs ∧ k = !xs.isEmpty) ∨ ∃ kvs, H p = some (.dK kvs) ∧ k = !kvs.isEmpty
  | _ => False
theorem isEmpty_kv {κ : Type} {kvs : List (κ × V)} {vs : List (κ × Value)} (r : KV kvs vs) : (!vs.isEmpty) = !kvs.isEmpty := by
  cases r <;> rfl
theorem isEmpty_of {xs : List V} {its : List Value} (r : Vals xs its) : (!its.toArray.isEmpty) = !xs.isEmpty := by
  cases r <;> simp
theorem line63 : (sizeLine : Nat) < 2 ^ 63 := by rw [sizeLine_eq]; decide
theorem tru_ok : TruR X (fun x H Q => ∃ k, TruV X.K x H k ∧ Q k H) := by
  intro pins s σ H x v Q I rx h
  obtain ⟨k, e, q⟩ := h
  have hl := line63
  have hs : sizeLine = 16777216 := sizeLine_eq
  cases x with
  | non =>
    cases rx
    have e' : k = false := e
    subst e'
    exact truthy_none ⟨H, I, q⟩
  | bl b =>
    cases rx
    have e' : k = b := e
    subst e'
    exact wpAny_truthy_bool ⟨H, I, q⟩
  | int i =>
    obtain ⟨t, rfl⟩ := rx
    have e' : k = (i != 0) := e
    subst e'
    exact PySem.P.truthy_int ⟨H, I, q⟩
  | str y =>
    obtain ⟨t, rfl⟩ := rx
    obtain ⟨hy, e'⟩ : y.length ≤ sizeLine ∧ k = ((y.length : Int) != 0) := e
    subst e'
    exact PySem.P.truthy_str (by omega) ⟨H, I.tok _, q⟩
  | byt y =>
    obtain ⟨t, rfl⟩ := rx
    obtain ⟨hy, e'⟩ : y.size ≤ sizeLine ∧ k = ((y.size : Int) != 0) := e
    subst e'
    exact PySem.W.truthy_bytes (by omega) ⟨H, I.tok _, q⟩
  | ref p =>
    cases rx
    have e' : (∃ xs, SqL X.K H p xs ∧ k = !xs.isEmpty) ∨ (∃ xs, SqT X.K H p xs ∧ k = !xs.isEmpty) ∨ ∃ kvs, H p = some (.dK kvs) ∧ k = !kvs.isEmpty := e
    rcases e' with ⟨xs, hx, e'⟩ | ⟨xs, hx, e'⟩ | ⟨kvs, hx, e'⟩
    · subst e'
      obtain ⟨its, r, pl, hz⟩ := I.list hx
      have hlen := r.length
      exact wpAny_truthy_list pl.isList (by simp only [List.size_toArray]; omega) ⟨H, I.tok _, by rw [isEmpty_of r]; exact q⟩
    · subst e'
      obtain ⟨its, r, pl, hz⟩ := I.tuple hx
      have hlen := r.length
      exact truthy_tuple pl (by simp only [List.size_toArray]; omega) ⟨H, I.tok _, by rw [isEmpty_of r]; exact q⟩
    · subst e'
      obtain ⟨hz, hS, vs, r, m⟩ : kvs.length ≤ sizeLine ∧ (p == sysModules) = false ∧ ∃ vs, KV kvs vs ∧ s.heap.DictOf (mixKind X.prog X.w) p vs := I.hok p _ hx
      have hlen : kvs.length = vs.length := Paired.length r
      exact wpAny_truthy_dict hS m (by omega) ⟨H, I.tok _, by rw [isEmpty_kv r]; exact q⟩
  | _ => exact (show False from e).elim
/-- any expression whose test is its value's truth (a name, a call, a subscript, a field ..: he by fun _ => rfl) -/
theorem pt_truth (ha : PE X a ta) (he : ∀ whole, isTrue a X.env whole = (do let v ← whole; standAt a.pos; holding [v] (truthy v))) :
    PT X a (fun σ H Q => ta σ H fun x H' => ∃ k, TruV X.K x H' k ∧ Q k H') := by
  intro pins s σ H Q I h
  exact isTrue_plain (thn (ha pins s σ H _ I h) fun v s1 ⟨x, H1, I1, r1, q1⟩ => tru_ok pins s1 σ H1 x v Q I1 r1 q1) (he _)

/-! ### strs and bytes -/
theorem pe_byt {x : List UInt8} {k : Nat} : PE X (.Constant (.bytes x) k pos) (fun _ H Q => Q (.byt x.toArray) H) := fun _ _ _ H _ I h => PySem.W.Constant_bytes ⟨.byt x.toArray, H, I.tok _, ⟨_, rfl⟩, h⟩
theorem op_add_str : OpR X (binaryOp .Add) (fun x y H Q => ∃ i j, x = .str i ∧ y = .str j ∧ i.length + j.length ≤ sizeLine ∧ Q (.str (i ++ j)) H) := by
  intro pins s σ H x y v u Q I rx ry h
  obtain ⟨i, j, rfl, rfl, hz, q⟩ := h
  obtain ⟨t, rfl⟩ := rx
  obtain ⟨t', rfl⟩ := ry
  exact add_str (fun t' tk => ⟨.str (i ++ j), H, I.tok _, ⟨_, rfl⟩, q⟩) hz
theorem iop_add_str : OpR X (inplaceOp .Add) (fun x y H Q => ∃ i j, x = .str i ∧ y = .str j ∧ i.length + j.length ≤ sizeLine ∧ Q (.str (i ++ j)) H) := by
  intro pins s σ H x y v u Q I rx ry h
  obtain ⟨i, j, rfl, rfl, hz, q⟩ := h
  obtain ⟨t, rfl⟩ := rx
  obtain ⟨t', rfl⟩ := ry
  exact iadd_str (fun t' tk => ⟨.str (i ++ j), H, I.tok _, ⟨_, rfl⟩, q⟩) hz
theorem op_add_byt : OpR X (binaryOp .Add) (fun x y H Q => ∃ i j, x = .byt i ∧ y = .byt j ∧ i.size + j.size ≤ 16777216 ∧ Q (.byt (i ++ j)) H) := by
  intro pins s σ H x y v u Q I rx ry h
  obtain ⟨i, j, rfl, rfl, hz, q⟩ := h
  obtain ⟨t, rfl⟩ := rx
  obtain ⟨t', rfl⟩ := ry
  exact PySem.W.KBy.add_bytes hz (fun t' tk => ⟨.byt (i ++ j), H, I.tok _, ⟨_, rfl⟩, q⟩)

def PlainIxT (b : Expr) : Prop := ∀ o i, subscripted b false o i = operate [o, i] (getItem o i)
/-- s[i], 0 ≤ i < len -/
theorem pe_item_str (ha : PE X a ta) (hb : PE X b tb) (hs : PlainIxT b) :
    PE X (.Subscript a b pos) (tOp (fun x y H Q => ∃ z i c, x = .str z ∧ y = .int i ∧ 0 ≤ i ∧ i < 2 ^ 63 ∧ i < z.length ∧ z.cps[i.toNat]? = some c ∧ Q (.str ⟨#[c]⟩) H) ta tb) := by
  intro pins s σ H Q I h
  refine Subscript_ (binT ha hb I h fun v u s2 x y H2 I2 rx ry q => ?_)
  obtain ⟨z, i, c, rfl, rfl, h0, h63, h1, hc, q⟩ := q
  obtain ⟨t, rfl⟩ := rx
  obtain ⟨t', rfl⟩ := ry
  have e : seqIndex? i z.length = some i.toNat := PySem.StrLaws.seqIndex_nonneg h0 h1
  exact tail_any (typeIs_str s2 z t) slot_str_getitem.lookup (getItem_str (c := c) (by
    have e1 : decide (i < -(2 ^ 63 : Int)) = false := decide_eq_false (by omega)
    have e2 : decide (i ≥ 2 ^ 63) = false := decide_eq_false (by omega)
    rw [e1, e2] <;> rfl) (by rw [e]; exact hc) ⟨.str ⟨#[c]⟩, H2, I2.tok _, ⟨_, rfl⟩, q⟩) (hs _ _)
/-- b[i], 0 ≤ i < len -/
theorem pe_item_byt (ha : PE X a ta) (hb : PE X b tb) (hs : PlainIxT b) :
    PE X (.Subscript a b pos) (tOp (fun x y H Q => ∃ (z : List UInt8) (i : Int), x = .byt z.toArray ∧ y = .int i ∧ z.length ≤ sizeLine ∧ 0 ≤ i ∧ i < z.length ∧ Q (.int ((z.getD i.toNat 0).toNat : Nat)) H) ta tb) := by
  intro pins s σ H Q I h
  refine Subscript_ (binT ha hb I h fun v u s2 x y H2 I2 rx ry q => ?_)
  obtain ⟨z, i, rfl, rfl, hz, h0, h1, q⟩ := q
  obtain ⟨t, rfl⟩ := rx
  obtain ⟨t', rfl⟩ := ry
  have hl : sizeLine = 16777216 := sizeLine_eq
  exact tail_any (PySem.W.typeIs_bytes s2 z.toArray t) PySem.W.FB.slot_bytes_getitem.lookup (PySem.W.getItem_bytes (by omega) h0 h1 ⟨.int ((z.getD i.toNat 0).toNat : Nat), H2, I2.tok _, ⟨_, rfl⟩, q⟩) (hs _ _)

/-! ### scalar builtins, by CallR -/
theorem vals1 {x : V} {us : List Value} (r : Vals [x] us) : ∃ u, us = [u] ∧ RelV x u := by
  cases r with
  | cons r1 r2 => cases r2; exact ⟨_, rfl, r1⟩
theorem vals2 {x y : V} {us : List Value} (r : Vals [x, y] us) : ∃ u w', us = [u, w'] ∧ RelV x u ∧ RelV y w' := by
  cases r with
  | cons r1 r2 =>
    cases r2 with
    | cons r3 r4 => cases r4; exact ⟨_, _, rfl, r1, r3⟩
theorem call_abs : CallR X (.builtin "abs") (fun xs H Q => ∃ i, xs = [.int i] ∧ Q (.int (if i < 0 then -i else i)) H) := by
  intro pins s σ H xs us Q I r h
  obtain ⟨i, rfl, q⟩ := h
  obtain ⟨u, rfl, t, rfl⟩ := vals1 r
  exact call_abs_int fun u tk => ⟨.int (if i < 0 then -i else i), H, I.tok _, ⟨_, rfl⟩, q⟩
theorem call_max2 (hc : X.calm = true) : CallR X (.builtin "max") (fun xs H Q => ∃ i j, xs = [.int i, .int j] ∧ Q (.int (if j > i then j else i)) H) := by
  intro pins s σ H xs us Q I r h
  obtain ⟨i, j, rfl, q⟩ := h
  obtain ⟨u, w', rfl, ⟨t, rfl⟩, ⟨t', rfl⟩⟩ := vals2 r
  refine max_two_ints (I.ok.hd hc) fun h' tk k => ⟨_, H, I.kept k, ?_, q⟩
  by_cases hj : j > i
  · rw [if_pos hj, if_pos hj]; exact ⟨_, rfl⟩
  · rw [if_neg hj, if_neg hj]; exact ⟨_, rfl⟩
theorem call_min2 (hc : X.calm = true) : CallR X (.builtin "min") (fun xs H Q => ∃ i j, xs = [.int i, .int j] ∧ Q (.int (if j < i then j else i)) H) := by
  intro pins s σ H xs us Q I r h
  obtain ⟨i, j, rfl, q⟩ := h
  obtain ⟨u, w', rfl, ⟨t, rfl⟩, ⟨t', rfl⟩⟩ := vals2 r
  refine min_two_ints (I.ok.hd hc) fun h' tk k => ⟨_, H, I.kept k, ?_, q⟩
  by_cases hj : j < i
  · rw [if_pos hj, if_pos hj]; exact ⟨_, rfl⟩
  · rw [if_neg hj, if_neg hj]; exact ⟨_, rfl⟩
theorem call_int1 : CallR X (.type "int") (fun xs H Q => (∃ i, xs = [.int i] ∧ Q (.int i) H) ∨ ∃ k, xs = [.bl k] ∧ Q (.int (if k then 1 else 0)) H) := by
  intro pins s σ H xs us Q I r h
  rcases h with ⟨i, rfl, q⟩ | ⟨k, rfl, q⟩
  · obtain ⟨u, rfl, t, rfl⟩ := vals1 r
    exact call_int_int ⟨.int i, H, I, ⟨_, rfl⟩, q⟩
  · obtain ⟨u, rfl, r1⟩ := vals1 r
    cases r1
    exact call_int_bool ⟨.int (if k then 1 else 0), H, I.tok _, ⟨_, rfl⟩, q⟩
theorem call_bool1 : CallR X (.type "bool") (fun xs H Q => (∃ i, xs = [.int i] ∧ Q (.bl (i != 0)) H) ∨ ∃ k, xs = [.bl k] ∧ Q (.bl k) H) := by
  intro pins s σ H xs us Q I r h
  rcases h with ⟨i, rfl, q⟩ | ⟨k, rfl, q⟩
  · obtain ⟨u, rfl, t, rfl⟩ := vals1 r
    exact call_bool_int ⟨.bl (i != 0), H, I, rfl, q⟩
  · obtain ⟨u, rfl, r1⟩ := vals1 r
    cases r1
    exact call_bool_bool ⟨.bl k, H, I, rfl, q⟩
theorem call_str_int : CallR X (.type "str") (fun xs H Q => ∃ i, xs = [.int i] ∧ i.natAbs.log2 < 1920 ∧ Q (.str (toString i)) H) := by
  intro pins s σ H xs us Q I r h
  obtain ⟨i, rfl, hz, q⟩ := h
  obtain ⟨u, rfl, t, rfl⟩ := vals1 r
  exact PySem.P.str_of_int hz ⟨.str _, H, I.tok _, ⟨_, rfl⟩, q⟩
theorem call_ord : CallR X (.builtin "ord") (fun xs H Q => ∃ x, xs = [.str x] ∧ x.length = 1 ∧ Q (.int (x.cps.getD 0 0 : Nat)) H) := by
  intro pins s σ H xs us Q I r h
  obtain ⟨x, rfl, hz, q⟩ := h
  obtain ⟨u, rfl, t, rfl⟩ := vals1 r
  exact ord_of_one hz ⟨.int _, H, I.tok _, ⟨_, rfl⟩, q⟩
theorem call_chr : CallR X (.builtin "chr") (fun xs H Q => ∃ i, xs = [.int i] ∧ 0 ≤ i ∧ i ≤ 1114111 ∧ Q (.str ⟨#[i.toNat]⟩) H) := by
  intro pins s σ H xs us Q I r h
  obtain ⟨i, rfl, h0, h1, q⟩ := h
  obtain ⟨u, rfl, t, rfl⟩ := vals1 r
  exact chr_of_range h0 h1 ⟨.str _, H, I.tok _, ⟨_, rfl⟩, q⟩
/-- len of a str, a bytes, a list, a tuple -/
def LenV (K : PySem.W.Frag) (x : V) (H : Hp) (n : Nat) : Prop :=
  match x with
  | .str y => y.length ≤ sizeLine ∧ n = y.length
  | .byt y => y.size ≤ sizeLine ∧ n = y.size
  | .ref p => (∃ xs, SqL K H p xs ∧ n = xs.length) ∨ ∃ xs, SqT K H p xs ∧ n = xs.length
  | _ => False
theorem call_len : CallR X (.builtin "len") (fun xs H Q => ∃ x n, xs = [x] ∧ LenV X.K x H n ∧ Q (.int n) H) := by
  intro pins s σ H xs us Q I r h
  obtain ⟨x, n, rfl, e, q⟩ := h
  obtain ⟨u, rfl, rx⟩ := vals1 r
  have hl := line63
  have hs : sizeLine = 16777216 := sizeLine_eq
  cases x with
  | str y =>
    obtain ⟨t, rfl⟩ := rx
    obtain ⟨hy, e'⟩ : y.length ≤ sizeLine ∧ n = y.length := e
    subst e'
    exact len_str (by omega) ⟨.int _, H, I.tok _, ⟨_, rfl⟩, q⟩
  | byt y =>
    obtain ⟨t, rfl⟩ := rx
    obtain ⟨hy, e'⟩ : y.size ≤ sizeLine ∧ n = y.size := e
    subst e'
    exact PySem.W.len_bytes (by omega) ⟨.int _, H, I.tok _, ⟨_, rfl⟩, q⟩
  | ref p =>
    cases rx
    have e' : (∃ xs, SqL X.K H p xs ∧ n = xs.length) ∨ ∃ xs, SqT X.K H p xs ∧ n = xs.length := e
    rcases e' with ⟨xs, hx, e'⟩ | ⟨xs, hx, e'⟩
    · subst e'
      obtain ⟨its, r', pl, hz⟩ := I.list hx
      have hlen := r'.length
      exact Calls.call_len_list pl.isList (by simp only [List.size_toArray]; omega) ⟨.int xs.length, H, I.tok _, ⟨_, by simp only [List.size_toArray]; rw [hlen]⟩, q⟩
    · subst e'
      obtain ⟨its, r', pl, hz⟩ := I.tuple hx
      have hlen := r'.length
      exact len_tuple pl (by simp only [List.size_toArray]; omega) ⟨.int xs.length, H, I.tok _, ⟨_, by simp only [List.size_toArray]; rw [hlen]⟩, q⟩
  | _ => exact (show False from e).elim
/-- divmod: a new tuple -/
theorem call_divmod : CallR X (.builtin "divmod") (fun xs H Q => ∃ i j, xs = [.int i, .int j] ∧ CDiv i j ∧ ∀ p, H p = none → Q (.ref p) (upd H p (.tup [.int (i / j), .int (i % j)]))) := by
  intro pins s σ H xs us Q I r h
  obtain ⟨i, j, rfl, ⟨h1, h2⟩, q⟩ := h
  obtain ⟨u, w', rfl, ⟨t, rfl⟩, ⟨t', rfl⟩⟩ := vals2 r
  refine divmod_int (by omega) ?_ (.inl (PyProof.noPylong_small (by omega)))
  rw [Int.fdiv_eq_ediv_of_nonneg i (by omega), Int.fmod_eq_emod_of_nonneg i (by omega)]
  have hn : H s.heap.objs.size = none := I.hok.fresh (Nat.le_refl _)
  refine ⟨.ref s.heap.objs.size, _, ?_, rfl, q _ hn⟩
  refine I.laid (fun b o e => Heap.get?_push_of_some _ e) (Nat.le_refl _) ⟨by simp only [List.length_cons, List.length_nil]; rw [sizeLine_eq]; decide, [.int (i / j) s.toks, .int (i % j) (s.toks + 1)], .cons ⟨_, rfl⟩ (.cons ⟨_, rfl⟩ .nil), ?_⟩
  exact ⟨_, Heap.get?_push_size s.heap rfl, rfl, 0, rfl⟩
end
end L2

namespace L2
open PySem PySem.Spec PyProof.Rows

/-! ### an instance, its attributes a map -/
structure ObjM (h : Heap) (x dx C : Addr) (mA : Str → Option Value) : Prop where
  obj : h.get? x = some (PySem.W.instObj C dx)
  ns : h.Ns1 dx mA
  ne : dx ≠ x

theorem lookIn_ns {h : Heap} {dx : Addr} {mA : Str → Option Value} (n : h.Ns1 dx mA) : ∃ od, h.get? dx = some od ∧ ∀ name, PySem.W.lookIn name od = some (mA name) := by
  obtain ⟨o, es, ep, ho, hd, hk, _, hm⟩ := n
  refine ⟨o, ho, fun name => ?_⟩
  have e := hm name
  unfold nsFind findBy at e
  rw [← Array.find?_toList] at e
  unfold PySem.W.lookIn
  rw [hd]
  dsimp only
  split
  · rename_i y q
    rw [q] at e
    exact congrArg some e
  · rename_i q
    rw [q] at e
    have a : es.toList.any (·.refKey) = false := by
      rw [List.any_eq_false]
      intro y hy
      obtain ⟨z, t, hkey⟩ := hk y (Array.mem_toList_iff.mp hy)
      simp [DictEntry.refKey, hkey]
    have a' : ¬ es.toList.any (·.refKey) = true := by rw [a]; exact Bool.false_ne_true
    rw [if_neg a']
    exact congrArg some e

theorem ObjM.look {h : Heap} {x dx C : Addr} {mA : Str → Option Value} (I : ObjM h x dx C mA) : ∃ od, PySem.W.InstAt h x (PySem.W.instObj C dx) C (some od) ∧ ∀ name, PySem.W.lookIn name od = some (mA name) :=
  let ⟨od, ho, hl⟩ := lookIn_ns I.ns
  ⟨od, ⟨I.obj, rfl, rfl, ho⟩, hl⟩

section
variable {prog : Program} {w : World} {A : Around} {E : Value → Shared → Prop} {s : Shared} {K : PySem.W.Frag} {x dx C f : Addr} {mA : Str → Option Value} {name : Str} {v : Value}

theorem get_map {expr : Bool} {Q : Value → Shared → Prop} (X : K.In s.heap) (I : ObjM s.heap x dx C mA) (hg : PySem.W.plainGet K C name = true) (hh : PySem.W.hasDictIn K C = true)
    (ha : PySem.W.findIn K (.ref C) name = some none) (hv : mA name = some v) (hv' : PySem.W.handedIn v = true) (h : Q v { s with toks := s.toks + 1 }) :
    wpAny (model prog w) A (getAttr (.ref x) name expr) Q E s := by
  obtain ⟨od, J, hl⟩ := I.look
  exact PySem.W.get_value X J (PySem.W.plainGet_of hg).1 (PySem.W.findObj_own hh ha rfl (by rw [hl, hv])) hv' h

theorem get_const {expr : Bool} {a : Value} {Q : Value → Shared → Prop} (X : K.In s.heap) (I : ObjM s.heap x dx C mA) (hg : PySem.W.plainGet K C name = true) (hh : PySem.W.hasDictIn K C = true)
    (ha : PySem.W.findIn K (.ref C) name = some (some a)) (hn : PySem.W.specialIn K a "__get__" = some none) (hc : PySem.W.copiedNames.contains name = false) (hv : mA name = none) (hv' : PySem.W.handedIn a = true)
    (h : Q a { s with toks := s.toks + 1 }) : wpAny (model prog w) A (getAttr (.ref x) name expr) Q E s := by
  obtain ⟨od, J, hl⟩ := I.look
  exact PySem.W.get_value X J (PySem.W.plainGet_of hg).1 (PySem.W.findObj_cls hh ha hn hv' hc (by rw [hl, hv])) hv' h

theorem get_meth {pl : Sem Bool} {Q : Value × List Value → Shared → Prop} (X : K.In s.heap) (I : ObjM s.heap x dx C mA) (hg : PySem.W.plainGet K C name = true)
    (hf : PySem.W.findIn K (.ref C) name = some (some (.ref f))) (ht : PySem.W.isFn K (.ref f) = true) (hv : mA name = none) (h : Q (.ref f, [.ref x]) s) :
    wpAny (model prog w) A (getMethod (.ref x) name pl) Q E s := by
  obtain ⟨od, J, hl⟩ := I.look
  exact PySem.W.method_fn X J (PySem.W.plainGet_of hg).1 (PySem.W.plainGet_of hg).2 hf (beq_iff_eq.mp ht) (by show (PySem.W.lookIn name od).map (·.isSome) = some false; rw [hl, hv]; rfl) h

theorem set_map {ns : List Str} {Q : Unit → Shared → Prop} (X : K.In s.heap) (I : ObjM s.heap x dx C mA)
    (hs : PySem.W.findIn K (.ref C) "__setattr__" = some (some (.builtin "object.__setattr__"))) (hp : PySem.W.plainOver K C = true) (ht : PySem.W.takerIn K C name = some none) (hh : PySem.W.hasDictIn K C = true)
    (hw : PySem.Within mA ns) (hsz : ns.length ≤ sizeLine)
    (h : ∀ h', ObjM h' x dx C (fun y => if y = name then some v else mA y) → Heap.SameBut dx s.heap h' → Q () { s with heap := h', toks := s.toks + 2 }) :
    wpAny (model prog w) A (setAttr (.ref x) name v) Q E s := by
  obtain ⟨od, J, hl⟩ := I.look
  refine PySem.W.set_plain X J hs (PySem.W.osa_open (s := { s with toks := s.toks + 1 }) (r := none) X J hp ht fun b => ?_)
  obtain ⟨cd, hc, hd'⟩ := PySem.W.any_some hh
  have hx : s.heap.get? x = some ⟨.ref C, some dx, .plain, #[]⟩ := I.obj
  refine wpAny_bind (wpAny_pure (wpAny_bind (wpAny_bind (wpAny_loadPart hx (wpAny_bind (PySem.W.Looks.here (s := { s with toks := s.toks + 1 }) (PySem.W.looks_clsIn X hc) ?_))))))
  rw [hd']
  refine wpAny_pure (a := some dx) (wpAny_bind (wpAny_pure (wpAny_bind ?_)))
  refine wpAny_nsSet1 (s := { s with toks := s.toks + 1 }) I.ns fun h' hn2 hs2 => ?_
  obtain ⟨oD, esD, epD, hoD, hdD, hcD⟩ := hn2.count (PySem.Within.cons name v hw)
  refine wpAny_bind (wpAny_lookBehind hoD (by rw [hdD]; exact pastItsLine_dict (Nat.le_trans hcD (by rw [List.length_cons]; omega))) ?_)
  exact wpAny_pure (h _ ⟨(hs2.2 _ (Ne.symm I.ne)).trans I.obj, hn2, I.ne⟩ hs2)

/-- C(..): the dict at the heap's end, the instance behind it; then its __init__ -/
theorem make_map {R : Result → Shared → Prop} {vs : List Value} {kw : List (Str × Value)} (X : K.In s.heap) (hm : PySem.W.makesIn K C = true)
    (hi : PySem.W.findIn K (.ref C) "__init__" = some (some (.ref f))) (hf : PySem.W.typeIn K (.ref f) = some (.type "function"))
    (h : codeAny (model prog w) (A.under (.builtin "type.__call__" ⟨.ref C :: vs, kw⟩)) (.call (.ref f) ⟨.ref (s.heap.objs.size + 1) :: vs, kw⟩) (PySem.W.InitBack (s.heap.objs.size + 1) R)
      { s with heap := (s.heap.push PySem.W.emptyDict).push (PySem.W.instObj C s.heap.objs.size) }) :
    codeAny (model prog w) A (.call (.ref C) ⟨vs, kw⟩) R s := by
  obtain ⟨hh, g, d, t, os⟩ := s
  exact PySem.W.make_core (PySem.W.makes_of X hm) (PySem.W.looks_findIn X hi) (fun self => PySem.W.bind_fn X self hf) (.inl rfl) h
/-- C() where there is no __init__ but object's -/
theorem make_map0 {R : Result → Shared → Prop} (X : K.In s.heap) (hm : PySem.W.makesIn K C = true)
    (hi : PySem.W.findIn K (.ref C) "__init__" = some (some (.builtin "object.__init__")))
    (hb : ∀ self, PySem.W.Looks (model prog w) s.heap (bindSpecial (.builtin "object.__init__") self) (.builtin "object.__init__", [self]))
    (h : codeAny (model prog w) (A.under (.builtin "type.__call__" ⟨[.ref C], []⟩)) (.call (.builtin "object.__init__") ⟨[.ref (s.heap.objs.size + 1)], []⟩) (PySem.W.InitBack (s.heap.objs.size + 1) R)
      { s with heap := (s.heap.push PySem.W.emptyDict).push (PySem.W.instObj C s.heap.objs.size) }) :
    codeAny (model prog w) A (.call (.ref C) ⟨[], []⟩) R s := by
  obtain ⟨hh, g, d, t, os⟩ := s
  exact PySem.W.make_core (PySem.W.makes_of X hm) (PySem.W.looks_findIn X hi) hb (.inr ⟨rfl, rfl⟩) h
end

/-! ### the attributes as a list of pairs -/
def putF (f : Str) (v : V) : List (Str × V) → List (Str × V)
  | [] => [(f, v)]
  | (g, x) :: r => if g = f then (g, v) :: r else (g, x) :: putF f v r
theorem lookup_putF (f g : Str) (v : V) : ∀ fs : List (Str × V), (putF f v fs).lookup g = if g = f then some v else fs.lookup g
  | [] => by
    show List.lookup g [(f, v)] = _
    by_cases h : g = f
    · have hb : (g == f) = true := beq_iff_eq.mpr h
      simp only [List.lookup, hb, if_pos h]
    · have hb : (g == f) = false := beq_eq_false_iff_ne.mpr h
      simp only [List.lookup, hb, if_neg h]
  | (k, x) :: r => by
    have ih := lookup_putF f g v r
    rw [show putF f v ((k, x) :: r) = (if k = f then (k, v) :: r else (k, x) :: putF f v r) from rfl]
    by_cases hk : k = f
    · rw [if_pos hk]
      by_cases h : g = k
      · have hb : (g == k) = true := beq_iff_eq.mpr h
        simp only [List.lookup, hb, if_pos (h.trans hk)]
      · have hb : (g == k) = false := beq_eq_false_iff_ne.mpr h
        simp only [List.lookup, hb, if_neg (fun e : g = f => h (e.trans hk.symm))]
    · rw [if_neg hk]
      by_cases h : g = k
      · have hb : (g == k) = true := beq_iff_eq.mpr h
        simp only [List.lookup, hb, if_neg (fun e : g = f => hk (h.symm.trans e))]
      · have hb : (g == k) = false := beq_eq_false_iff_ne.mpr h
        simp only [List.lookup, hb]
        exact ih
theorem keys_putF (f : Str) (v : V) : ∀ fs : List (Str × V), f ∈ (putF f v fs).map (·.1) ∧ ∀ g, g ∈ fs.map (·.1) → g ∈ (putF f v fs).map (·.1)
  | [] => ⟨by simp [putF], fun g h => by simp at h⟩
  | (k, x) :: r => by
    obtain ⟨i1, i2⟩ := keys_putF f v r
    rw [show putF f v ((k, x) :: r) = (if k = f then (k, v) :: r else (k, x) :: putF f v r) from rfl]
    by_cases hk : k = f
    · rw [if_pos hk]
      subst hk
      exact ⟨by simp, fun g h => by simpa using h⟩
    · rw [if_neg hk]
      refine ⟨?_, fun g h => ?_⟩
      · rw [List.map_cons]
        exact List.mem_cons_of_mem _ i1
      · rw [List.map_cons] at h ⊢
        rcases List.mem_cons.mp h with e | e
        · exact List.mem_cons.mpr (.inl e)
        · exact List.mem_cons_of_mem _ (i2 g e)
theorem length_putF (f : Str) (v : V) : ∀ fs : List (Str × V), (putF f v fs).length ≤ fs.length + 1
  | [] => by simp [putF]
  | (k, x) :: r => by
    have ih := length_putF f v r
    rw [show putF f v ((k, x) :: r) = (if k = f then (k, v) :: r else (k, x) :: putF f v r) from rfl]
    by_cases hk : k = f
    · rw [if_pos hk, List.length_cons, List.length_cons]; omega
    · rw [if_neg hk, List.length_cons, List.length_cons]; omega

theorem RelO.some_of {v : V} {o : Option Value} (r : RelO (some v) o) : ∃ u, o = some u ∧ RelV v u := by
  cases o with
  | none => exact (show False from r).elim
  | some u => exact ⟨u, rfl, r⟩
theorem RelO.none_of {o : Option Value} (r : RelO none o) : o = none := by
  cases o with
  | none => rfl
  | some u => exact (show False from r).elim
theorem handed_of {v : V} {u : Value} (r : RelV v u) : PySem.W.handedIn u = true := by
  cases v with
  | non => cases (show u = Value.none from r); rfl
  | bl b => cases (show u = Value.bool b from r); rfl
  | int i => obtain ⟨t, e⟩ := (show ∃ t, u = Value.int i t from r); cases e; rfl
  | str x => obtain ⟨t, e⟩ := (show ∃ t, u = Value.str x t from r); cases e; rfl
  | byt b => obtain ⟨t, e⟩ := (show ∃ t, u = Value.bytes b t from r); cases e; rfl
  | flt b => obtain ⟨t, e⟩ := (show ∃ t, u = Value.float b t from r); cases e; rfl
  | ref a => cases (show u = Value.ref a from r); rfl
  | ty n => cases (show u = Value.type n from r); rfl

section
variable {P : Program} {w : World} {H H' : Hp} {h h' : Heap} {a C dx : Addr} {fs fs' : List (Str × V)}
theorem ins_get (hok : HOk P w H h) (e : H a = some (.ins C dx fs)) : ∃ mA, ObjM h a dx C mA ∧ (∀ f, RelO (fs.lookup f) (mA f)) ∧ PySem.Within mA (fs.map (·.1)) ∧ fs.length ≤ 1000 ∧ H dx = some (.own a) := by
  obtain ⟨d, z, ne, ob, mA, n, r, q⟩ := (show ObjOk P w H h a (.ins C dx fs) from hok a _ e)
  exact ⟨mA, ⟨ob, n, ne⟩, r, q, z, d⟩
end

/-! ### what of the text a class must have -/
structure Cls (K : PySem.W.Frag) (C : Addr) : Prop where
  pg : PySem.W.plainGet K C Str.empty = true
  hd : PySem.W.hasDictIn K C = true
  po : PySem.W.plainOver K C = true
  sa : PySem.W.findIn K (.ref C) "__setattr__" = some (some (.builtin "object.__setattr__"))
theorem Cls.get {K : PySem.W.Frag} {C : Addr} (c : Cls K C) (f : Str) : PySem.W.plainGet K C f = true := c.pg
/-- no class of it has the name -/
def NoAttr (K : PySem.W.Frag) (C : Addr) (f : Str) : Prop := PySem.W.findIn K (.ref C) f = some none
theorem NoAttr.taker {K : PySem.W.Frag} {C : Addr} {f : Str} (n : NoAttr K C f) : PySem.W.takerIn K C f = some none := by
  unfold PySem.W.takerIn
  rw [show PySem.W.findIn K (.ref C) f = some none from n]
  rfl
/-- a constant of the class -/
structure Con (K : PySem.W.Frag) (C : Addr) (f : Str) (v : V) (u : Value) : Prop where
  at_ : PySem.W.findIn K (.ref C) f = some (some u)
  rel : RelV v u
  get : PySem.W.specialIn K u "__get__" = some none
  cp : PySem.W.copiedNames.contains f = false
/-- a method: a plain def of the class or of one above it -/
structure Meth (K : PySem.W.Frag) (C : Addr) (m : Str) (f : Addr) : Prop where
  at_ : PySem.W.findIn K (.ref C) m = some (some (.ref f))
  fn : PySem.W.isFn K (.ref f) = true
  kp : PySem.W.keepIn K (.ref f) = true

section
variable {X : Cx} {pins : List (Addr × Obj)} {σ : St} {H : Hp} {s : Shared} {a C dx : Addr} {fs : List (Str × V)} {f : Str} {v : V} {A : Around} {E : Value → Shared → Prop}

theorem getattr_ok {b : Bool} {Q : Value → Shared → Prop} (I : Inv X pins σ H s) (e : H a = some (.ins C dx fs)) (c : Cls X.K C) (n : NoAttr X.K C f) (l : fs.lookup f = some v)
    (h : ∀ u s', Inv X pins σ H s' → RelV v u → Q u s') : wpAny (model X.prog X.w) A (getAttr (.ref a) f b) Q E s := by
  obtain ⟨mA, O, r, _, _, _⟩ := ins_get I.hok e
  obtain ⟨u, hu, ru⟩ := RelO.some_of (v := v) (o := mA f) (by rw [← l]; exact r f)
  exact get_map I.kIn O (c.get f) c.hd n hu (handed_of ru) (h u _ (I.tok _) ru)

theorem getcon_ok {b : Bool} {u : Value} {Q : Value → Shared → Prop} (I : Inv X pins σ H s) (e : H a = some (.ins C dx fs)) (c : Cls X.K C) (k : Con X.K C f v u) (l : fs.lookup f = none)
    (h : ∀ s', Inv X pins σ H s' → Q u s') : wpAny (model X.prog X.w) A (getAttr (.ref a) f b) Q E s := by
  obtain ⟨mA, O, r, _, _, _⟩ := ins_get I.hok e
  have hn : mA f = none := RelO.none_of (by rw [← l]; exact r f)
  exact get_const I.kIn O (c.get f) c.hd k.at_ k.get k.cp hn (handed_of k.rel) (h _ (I.tok _))

theorem getmeth_ok {m : Str} {g : Addr} {pl : Sem Bool} {Q : Value × List Value → Shared → Prop} (I : Inv X pins σ H s) (e : H a = some (.ins C dx fs)) (c : Cls X.K C) (k : Meth X.K C m g) (l : fs.lookup m = none)
    (h : Q (.ref g, [.ref a]) s) : wpAny (model X.prog X.w) A (getMethod (.ref a) m pl) Q E s := by
  obtain ⟨mA, O, r, _, _, _⟩ := ins_get I.hok e
  have hn : mA m = none := RelO.none_of (by rw [← l]; exact r m)
  exact get_meth I.kIn O (c.get m) k.at_ k.fn hn h

theorem setattr_ok {y : V} {u : Value} {Q : Unit → Shared → Prop} (I : Inv X pins σ H s) (e : H a = some (.ins C dx fs)) (c : Cls X.K C) (n : NoAttr X.K C f) (hl : fs.length < 1000) (ry : RelV y u)
    (h : ∀ s', Inv X pins σ (upd H a (.ins C dx (putF f y fs))) s' → Q () s') : wpAny (model X.prog X.w) A (setAttr (.ref a) f u) Q E s := by
  obtain ⟨mA, O, r, wi, _, ho⟩ := ins_get I.hok e
  have hz : (fs.map (·.1)).length ≤ sizeLine := by rw [List.length_map, sizeLine_eq]; omega
  refine set_map I.kIn O c.sa c.po n.taker c.hd wi hz fun h' O' sb => h _ ?_
  have hd : ∃ o, h'.get? dx = some o := let ⟨o, _, _, e', _⟩ := O'.ns; ⟨o, e'⟩
  refine I.write (x := a) (e := dx) (by rw [e]; exact True.intro) (.inr ho) (fun b q hb z => (sb.2 b hb).trans z) hd ?_
  refine ⟨by rw [upd_ne O.ne]; exact ho, ?_, O.ne, O'.obj, _, O'.ns, fun g => ?_, fun g hg => ?_⟩
  · have := length_putF f y fs; omega
  · show RelO ((putF f y fs).lookup g) (if g = f then some u else mA g)
    rw [lookup_putF]
    by_cases q : g = f
    · rw [if_pos q, if_pos q]; exact ry
    · rw [if_neg q, if_neg q]; exact r g
  · by_cases q : g = f
    · rw [q]; exact (keys_putF f y fs).1
    · refine (keys_putF f y fs).2 g (wi g fun z => hg ?_)
      show (if g = f then some u else mA g) = none
      rw [if_neg q]; exact z

/-- a new instance, tracked, without attributes -/
theorem Inv.made (I : Inv X pins σ H s) : Inv X pins σ (upd (upd H s.heap.objs.size (.own (s.heap.objs.size + 1))) (s.heap.objs.size + 1) (.ins C s.heap.objs.size []))
    { s with heap := (s.heap.push PySem.W.emptyDict).push (PySem.W.instObj C s.heap.objs.size) } := by
  have e1 : (s.heap.push PySem.W.emptyDict).get? s.heap.objs.size = some PySem.W.emptyDict := Heap.get?_push_size s.heap rfl
  have e2 : ((s.heap.push PySem.W.emptyDict).push (PySem.W.instObj C s.heap.objs.size)).get? (s.heap.objs.size + 1) = some (PySem.W.instObj C s.heap.objs.size) := by
    have := Heap.get?_push_size (s.heap.push PySem.W.emptyDict) (o := PySem.W.instObj C s.heap.objs.size) rfl
    rwa [Heap.size_push] at this
  have e3 : (s.heap.push PySem.W.emptyDict).Ns s.heap.objs.size (fun _ => none) := ⟨PySem.W.emptyDict, #[], _, e1, rfl, (fun e he => absurd he (by simp)), fun _ => rfl⟩
  have I1 := I.laid (a := s.heap.objs.size) (o := .own (s.heap.objs.size + 1)) (h' := s.heap.push PySem.W.emptyDict) (t' := s.toks) (fun b u q => Heap.get?_push_of_some _ q) (Nat.le_refl _) ⟨_, e1⟩
  refine I1.laid (a := s.heap.objs.size + 1) (o := .ins C s.heap.objs.size []) (t' := s.toks) (fun b u q => Heap.get?_push_of_some _ q) (Nat.le_of_eq (Heap.size_push _ _)) ?_
  have ne : s.heap.objs.size ≠ s.heap.objs.size + 1 := Nat.ne_of_lt (Nat.lt_succ_self _)
  refine ⟨by rw [upd_ne ne, upd_same], Nat.zero_le _, ne, e2, fun _ => none, (Heap.Ns1.of_empty e3).at fun o q => Heap.get?_push_of_some _ q, fun _ => True.intro, fun y hy => absurd rfl hy⟩

/-- e.f where nothing but the object is asked: through attributeBase (super) and the last hold -/
theorem attr_of {prog : Program} {w : World} {env : Env} {e : Expr} {f : Str} {pos : Pos} {s : Shared} {Q : Value → Shared → Prop} (hb : attributeBase e f env (eval e env) = eval e env)
    (h : wpAny (model prog w) A (eval e env) (fun o s₁ => wpAny (model prog w) A (getAttr o f true) Q E s₁) E s) : wpAny (model prog w) A (eval (.Attribute e f pos) env) Q E s :=
  Attribute_any_ h (by rw [arm_eval_Attribute, hb])
end

/-! ### readings and rules -/
/-- e.f, an attribute of the instance -/
def tFld (K : PySem.W.Frag) (ta : TE) (f : Str) : TE := fun σ H Q => ta σ H fun x H1 => ∃ a C dx fs v, x = .ref a ∧ H1 a = some (.ins C dx fs) ∧ Cls K C ∧ NoAttr K C f ∧ fs.lookup f = some v ∧ Q v H1
/-- e.f, a constant of the class -/
def tCon (K : PySem.W.Frag) (ta : TE) (f : Str) : TE := fun σ H Q => ta σ H fun x H1 => ∃ a C dx fs v u, x = .ref a ∧ H1 a = some (.ins C dx fs) ∧ Cls K C ∧ Con K C f v u ∧ fs.lookup f = none ∧ Q v H1
/-- e.f = value -/
def sFld (K : PySem.W.Frag) (ta tv : TE) (f : Str) : TS := fun D σ H => tv σ H fun y H1 => ta σ H1 fun x H2 => ∃ a C dx fs, x = .ref a ∧ H2 a = some (.ins C dx fs) ∧ Cls K C ∧ NoAttr K C f ∧ fs.length < 1000 ∧
  D.nx σ (upd H2 a (.ins C dx (putF f y fs)))
/-- an augmented operator on two values -/
def InOp (X : Cx) (op : Operator) (rd : V → V → Hp → VK → Prop) : Prop :=
  ∀ (pins : List (Addr × Obj)) (s : Shared) (σ : St) (H : Hp) (x y : V) (u v : Value) (Q : VK), Inv X pins σ H s → RelV x u → RelV y v → rd x y H Q → wpAny (model X.prog X.w) X.A (inplaceOp op u v) (EP X pins σ Q) X.xe s
/-- e.f op= value -/
def sFldAug (K : PySem.W.Frag) (ta tv : TE) (rd : V → V → Hp → VK → Prop) (f : Str) : TS := fun D σ H => ta σ H fun x H1 => ∃ a C dx fs v, x = .ref a ∧ H1 a = some (.ins C dx fs) ∧ Cls K C ∧ NoAttr K C f ∧ fs.lookup f = some v ∧
  tv σ H1 fun y H2 => rd v y H2 fun z H3 => ∃ dx' fs', H3 a = some (.ins C dx' fs') ∧ fs'.length < 1000 ∧ D.nx σ (upd H3 a (.ins C dx' (putF f z fs')))

section
variable {X : Cx} {o e value : Expr} {f : Str} {pos pos' tpos : Pos} {ta tv : TE}
theorem pe_fld (he : PE X e ta) (hb : attributeBase e f X.env (eval e X.env) = eval e X.env) : PE X (.Attribute e f pos) (tFld X.K ta f) := by
  intro pins s σ H Q I h
  refine attr_of hb (thn (he pins s σ H _ I h) fun u s1 ⟨x, H1, I1, rx, a, C, dx, fs, v, ex, ea, c, n, l, q⟩ => ?_)
  subst ex
  obtain rfl : u = Value.ref a := rx
  exact getattr_ok I1 ea c n l fun u' s2 I2 ru => ⟨v, H1, I2, ru, q⟩
theorem pe_con (he : PE X e ta) (hb : attributeBase e f X.env (eval e X.env) = eval e X.env) : PE X (.Attribute e f pos) (tCon X.K ta f) := by
  intro pins s σ H Q I h
  refine attr_of hb (thn (he pins s σ H _ I h) fun u s1 ⟨x, H1, I1, rx, a, C, dx, fs, v, u0, ex, ea, c, k, l, q⟩ => ?_)
  subst ex
  obtain rfl : u = Value.ref a := rx
  exact getcon_ok I1 ea c k l fun s2 I2 => ⟨v, H1, I2, k.rel, q⟩
theorem ps_fld (ha : PE X o ta) (hv : PE X value tv) (hs : swapsWith value (some (.Attribute o f pos')) pos.line X.env = pure false) : PS X (.Assign [.Attribute o f pos'] value pos) (sFld X.K ta tv f) := by
  intro pins s σ H D I h
  refine plainObj_wpAny_Assign_Attribute (thn (hv pins s σ H _ I h) fun u s1 ⟨y, H1, I1, ry, q⟩ => thn (ha pins s1 σ H1 _ I1 q) fun ov s2 ⟨x, H2, I2, rx, a, C, dx, fs, ex, ea, c, n, l, q2⟩ => ?_) hs
  subst ex
  obtain rfl : ov = Value.ref a := rx
  exact setattr_ok I2 ea c n l ry fun s3 I3 => ⟨σ, _, I3, q2⟩
theorem ps_fldaug {op : Operator} {rd : V → V → Hp → VK → Prop} (ha : PE X o ta) (hv : PE X value tv) (hop : InOp X op rd) : PS X (.AugAssign (.Attribute o f tpos) op value pos) (sFldAug X.K ta tv rd f) := by
  intro pins s σ H D I h
  refine wpAny_AugAssign_AttributeAny (thn (ha pins s σ H _ I h) fun ov s1 ⟨x, H1, I1, rx, a, C, dx, fs, v, ex, ea, c, n, l, q⟩ => ?_)
  subst ex
  obtain rfl : ov = Value.ref a := rx
  refine getattr_ok I1 ea c n l fun u s2 I2 ru => thn (hv pins s2 σ H1 _ I2 q) fun w3 s3 ⟨y, H2, I3, ry, q3⟩ => thn (hop pins s3 σ H2 v y u w3 _ I3 ru ry q3) fun w4 s4 ⟨z, H3, I4, rz, dx', fs', ea', l', q4⟩ => ?_
  exact setattr_ok I4 ea' c n l' rz fun s5 I5 => ⟨σ, _, I5, q4⟩
def rAdd : V → V → Hp → VK → Prop := fun x y H Q => ∃ i j, x = .int i ∧ y = .int j ∧ Q (.int (i + j)) H
def rSub : V → V → Hp → VK → Prop := fun x y H Q => ∃ i j, x = .int i ∧ y = .int j ∧ Q (.int (i - j)) H
theorem in_add : InOp X .Add rAdd := by
  rintro pins s σ H x y u v Q I rx ry ⟨i, j, rfl, rfl, q⟩
  obtain ⟨t, rfl⟩ := (show ∃ t, u = Value.int i t from rx)
  obtain ⟨t', rfl⟩ := (show ∃ t', v = Value.int j t' from ry)
  exact PyProof.Rows.iadd_int ⟨.int (i + j), H, I.tok _, ⟨_, rfl⟩, q⟩
theorem in_sub : InOp X .Sub rSub := by
  rintro pins s σ H x y u v Q I rx ry ⟨i, j, rfl, rfl, q⟩
  obtain ⟨t, rfl⟩ := (show ∃ t, u = Value.int i t from rx)
  obtain ⟨t', rfl⟩ := (show ∃ t', v = Value.int j t' from ry)
  exact PyProof.Rows.isub_int ⟨.int (i - j), H, I.tok _, ⟨_, rfl⟩, q⟩

/-- what is between an instance and its method: the tree of a method call -/
theorem methcall_of {pl : Sem Bool} {m : Str} {apos : Pos} {args : List Expr} {pins : List (Addr × Obj)} {s : Shared} {σ : St} {H : Hp} {Q : Value → Shared → Prop} {te : TE} (he : PE X e te) (I : Inv X pins σ H s)
    (h : te σ H fun x H1 => ∃ a C dx fs g, x = .ref a ∧ H1 a = some (.ins C dx fs) ∧ Cls X.K C ∧ Meth X.K C m g ∧ fs.lookup m = none ∧
      ∀ s1, Inv X pins σ H1 s1 → wpAny (model X.prog X.w) X.A (callWith pos (.ref g) [.ref a] (backTo pos (starEach args X.env)) (backToKw pos (keywordEach [] X.env))) Q X.xe s1)
    (ht : eval (.Call (.Attribute e m apos) args [] pos) X.env = (do
      let ov ← eval e X.env
      standAt apos.atName
      let (f, first) ← holding [ov] (getMethod ov m pl)
      callWith pos f first (backTo pos (starEach args X.env)) (backToKw pos (keywordEach [] X.env)))) :
    wpAny (model X.prog X.w) X.A (eval (.Call (.Attribute e m apos) args [] pos) X.env) Q X.xe s := by
  refine PySem.W.methodCall_KW (pl := pl) (thn (he pins s σ H _ I h) fun u s1 ⟨x, H1, I1, rx, a, C, dx, fs, g, ex, ea, c, k, l, q⟩ => ?_) ht
  subst ex
  obtain rfl : u = Value.ref a := rx
  exact getmeth_ok I1 ea c k l (q s1 I1)
end

/-! ### isinstance -/
section
variable {X : Cx} {pins : List (Addr × Obj)} {σ : St} {H : Hp} {s : Shared} {A : Around} {E : Value → Shared → Prop} {Q : Value → Shared → Prop} {c : Value} {b : Bool}
/-- the type of a value, as the fragment's deciders take it; for an instance its class -/
inductive TyOf (K : PySem.W.Frag) (H : Hp) : V → Value → Prop where
  | non : TyOf K H .non (.type "NoneType")
  | bl (x : Bool) : TyOf K H (.bl x) (.type "bool")
  | int (i : Int) : TyOf K H (.int i) (.type "int")
  | str (x : Str) : TyOf K H (.str x) (.type "str")
  | flt (x : UInt64) : TyOf K H (.flt x) (.type "float")
  | lst {a : Addr} {xs : List V} (e : H a = some (.lst xs)) : TyOf K H (.ref a) (.type "list")
  | frz {a : Addr} {o : Obj} {xs : List V} (e : H a = some (.frz o (.lst xs))) : TyOf K H (.ref a) (.type "list")
  | tup {a : Addr} {xs : List V} (e : H a = some (.tup xs)) : TyOf K H (.ref a) (.type "tuple")
  | dK {a : Addr} {kvs : List (Key × V)} (e : H a = some (.dK kvs)) : TyOf K H (.ref a) (.type "dict")
  | dT {a : Addr} {kvs : List (List Key × V)} (e : H a = some (.dT kvs)) : TyOf K H (.ref a) (.type "dict")
  | ins {a C dx : Addr} {fs : List (Str × V)} (e : H a = some (.ins C dx fs)) (cl : Cls K C) (ha : PySem.W.findIn K (.ref C) "__class__" = some (some (.builtin "object.__class__")))
      (hn : PySem.W.specialIn K (.builtin "object.__class__") "__get__" = some (some (.builtin "getset_descriptor.__get__"))) (htk : PySem.W.takesIn K (.builtin "object.__class__") = some true)
      (hm : PySem.W.mroIn K C (.type "object") = some true) : TyOf K H (.ref a) (.ref C)
/-- isinstance(x, c) for one class c, a built-in or an own one: kitOne's answer -/
theorem isinst_ok {x : V} {u t : Value} (I : Inv X pins σ H s) (rx : RelV x u) (ty : TyOf X.K H x t) (e : PySem.W.kitOne X.K t c = some b) (h : ∀ tk, Q (.bool b) { s with toks := tk }) :
    wpAny (model X.prog X.w) A (call (.builtin "isinstance") [u, c]) Q E s := by
  cases ty with
  | non => cases (show u = Value.none from rx); exact PySem.W.kia_one PySem.W.kitx_none I.kIn True.intro e (fun z => nomatch z) h
  | bl y => cases (show u = Value.bool y from rx); exact PySem.W.kia_one PySem.W.kitx_bool I.kIn True.intro e (fun z => nomatch z) h
  | int i => obtain ⟨t, q⟩ := (show ∃ t, u = Value.int i t from rx); cases q; exact PySem.W.kia_one PySem.W.kitx_int I.kIn True.intro e (fun z => nomatch z) h
  | str y => obtain ⟨t, q⟩ := (show ∃ t, u = Value.str y t from rx); cases q; exact PySem.W.kia_one PySem.W.kitx_str I.kIn True.intro e (fun z => nomatch z) h
  | flt y => obtain ⟨t, q⟩ := (show ∃ t, u = Value.float y t from rx); cases q; exact PySem.W.kia_one PySem.W.kitx_float I.kIn True.intro e (fun z => nomatch z) h
  | @lst a xs ea =>
    cases (show u = Value.ref a from rx)
    obtain ⟨_, _, n, _, h1⟩ := (show ObjOk X.prog X.w H s.heap a (.lst xs) from I.hok a _ ea)
    exact PySem.W.kia_one PySem.W.kitx_list I.kIn ⟨_, h1, rfl⟩ e (fun z => nomatch z) h
  | @frz a ob xs ea =>
    cases (show u = Value.ref a from rx)
    obtain ⟨_, _, _, n, _, h1⟩ := (show ObjOk X.prog X.w H s.heap a (.frz ob (.lst xs)) from I.hok a _ ea)
    exact PySem.W.kia_one PySem.W.kitx_list I.kIn ⟨_, h1, rfl⟩ e (fun z => nomatch z) h
  | @tup a xs ea =>
    cases (show u = Value.ref a from rx)
    obtain ⟨_, _, _, p⟩ := (show ObjOk X.prog X.w H s.heap a (.tup xs) from I.hok a _ ea)
    obtain ⟨o, h1, h2, _⟩ := p
    exact PySem.W.kia_one PySem.W.kitx_tuple I.kIn ⟨o, h1, h2⟩ e (fun z => nomatch z) h
  | @dK a kvs ea =>
    cases (show u = Value.ref a from rx)
    obtain ⟨_, _, vs, _, p⟩ := (show ObjOk X.prog X.w H s.heap a (.dK kvs) from I.hok a _ ea)
    obtain ⟨o, es, ep, h1, h2, _⟩ := p
    exact PySem.W.kia_one PySem.W.kitx_dict I.kIn ⟨o, h1, h2.1⟩ e (fun z => nomatch z) h
  | @dT a kvs ea =>
    cases (show u = Value.ref a from rx)
    obtain ⟨_, _, xs, _, o, es, ep, h1, h2, _⟩ := (show ObjOk X.prog X.w H s.heap a (.dT kvs) from I.hok a _ ea)
    exact PySem.W.kia_one PySem.W.kitx_dict I.kIn ⟨o, h1, h2.1⟩ e (fun z => nomatch z) h
  | @ins a C dx fs ea cl ha hn htk hm =>
    cases (show u = Value.ref a from rx)
    obtain ⟨mA, O, _⟩ := ins_get I.hok ea
    obtain ⟨od, J, _⟩ := O.look
    exact PySem.W.kia_one (PySem.W.kitx_own (cl.get _) cl.hd ha hn htk hm) I.kIn J e (fun z => nomatch z) h
end
end L2

namespace L2
open PySem PySem.Spec PyProof.Rows

/-! ### room -/
structure Room (k : Nat) (A : Around) : Prop where
  hd : A.handled = none
  dp : A.depth + 3 * k + 5 < recursionLimit
  un : A.units + 16 * k + 200 < cLine
theorem Room.mono {j k : Nat} {A : Around} (r : Room k A) (h : j ≤ k) : Room j A := ⟨r.hd, by have := r.dp; omega, by have := r.un; omega⟩
theorem Room.deeper {k : Nat} {A : Around} (r : Room (k + 1) A) (env : Env) : Room k (A.deeper env) :=
  ⟨r.hd, by have := r.dp; show A.depth + 1 + 3 * k + 5 < _; omega, by have := r.un; show A.units + 3 + 16 * k + 200 < _; omega⟩
theorem Room.in1 {k : Nat} {A : Around} (r : Room (k + 1) A) : Room k A.in1 :=
  ⟨r.hd, by have := r.dp; show A.depth + 3 * k + 5 < _; omega, by have := r.un; show A.units + 1 + 16 * k + 200 < _; omega⟩
theorem make_depth {A : Around} {C : Addr} {us : List Value} {kw : List (Str × Value)} : (A.under (.builtin "type.__call__" ⟨.ref C :: us, kw⟩)).depth = A.depth + 1 := by
  first | rfl | simp [Around.under, Code.weight, Code.isCreation, Code.isGuard, Code.isCaller, Code.frames, Code.isFrame, guardIds]
theorem make_units {A : Around} {C : Addr} {us : List Value} {kw : List (Str × Value)} : (A.under (.builtin "type.__call__" ⟨.ref C :: us, kw⟩)).units = A.units + 1 := by
  first | rfl | simp [Around.under, Code.cUnits, Code.frames, Code.isFrame]
theorem Room.make {k : Nat} {A : Around} (r : Room (k + 1) A) (C : Addr) (us : List Value) (kw : List (Str × Value)) : Room k (A.under (.builtin "type.__call__" ⟨.ref C :: us, kw⟩)) :=
  ⟨r.hd, by have := r.dp; rw [make_depth]; omega, by have := r.un; rw [make_units]; omega⟩
theorem Room.depth {k : Nat} {A : Around} (r : Room k A) : A.depth < recursionLimit := by have := r.dp; omega
theorem Room.units {k : Nat} {A : Around} (r : Room k A) : A.units + 64 < cLine := by have := r.un; omega
theorem Room.units0 {k : Nat} {A : Around} (r : Room k A) : A.units < cLine := by have := r.un; omega

/-! ### argument lists and displays -/
def tNil : TA := fun _ H Q => Q [] H
def tCons (ta : TE) (tr : TA) : TA := fun σ H Q => ta σ H fun x H1 => tr σ H1 fun xs H2 => Q (x :: xs) H2
section
variable {X : Cx} {e : Expr} {es : List Expr} {te : TE} {t : TA} {pos : Pos}
theorem pa_nil : PA X [] tNil := fun _ _ _ _ H Q I h => Calls.spliced_nil ⟨[], H, I, .nil, h⟩
theorem pa_cons (ha : PE X e te) (hr : PA X es t) (hs : starEach (e :: es) X.env = (false, eval e X.env) :: starEach es X.env := by rfl) : PA X (e :: es) (tCons te t) := by
  intro pos pins s σ H Q I h
  rw [hs]
  show wpAny _ _ (spliced ((false, eval e X.env) :: backTo pos (starEach es X.env))) _ _ s
  refine Calls.spliced_cons (thn (ha pins s σ H _ I h) fun u s1 ⟨x, H1, I1, r1, q1⟩ => ?_)
  exact thn (hr pos pins s1 σ H1 _ I1 q1) fun us s2 ⟨xs, H2, I2, r2, q2⟩ => ⟨x :: xs, H2, I2, .cons r1 r2, q2⟩

/-- a tuple, a list of written items -/
def tTup (t : TA) : TE := fun σ H Q => t σ H fun xs H1 => xs.length ≤ sizeLine ∧ ∀ p, H1 p = none → Q (.ref p) (upd H1 p (.tup xs))
def tLst (t : TA) : TE := fun σ H Q => t σ H fun xs H1 => xs.length ≤ sizeLine ∧ ∀ p, H1 p = none → Q (.ref p) (upd H1 p (.lst xs))
theorem pe_tup {x1} (h : PA X es t) : PE X (.Tuple es x1 pos) (tTup t) := by
  intro pins s σ H Q I hq
  refine wpAny_Tuple_spliced (thn (h pos pins s σ H _ I hq) fun us s1 ⟨xs, H1, I1, r, z, q⟩ => ⟨by rw [← r.length]; exact z, ?_⟩)
  have hf : H1 s1.heap.objs.size = none := I1.hok.fresh (Nat.le_refl _)
  refine ⟨.ref s1.heap.objs.size, upd H1 s1.heap.objs.size (.tup xs), I1.laid (t' := s1.toks) (fun b u e => Heap.get?_push_of_some _ e) (Nat.le_refl _) ?_, rfl, q _ hf⟩
  exact ⟨z, us, r, ⟨_, Heap.get?_push_size _ rfl, rfl, _, rfl⟩⟩
theorem pe_lst (h : PA X es t) : PE X (.List es pos) (tLst t) := by
  intro pins s σ H Q I hq
  refine wpAny_List_spliced (thn (h pos pins s σ H _ I hq) fun us s1 ⟨xs, H1, I1, r, z, q⟩ => ⟨by rw [← r.length]; exact z, ?_⟩)
  have hf : H1 s1.heap.objs.size = none := I1.hok.fresh (Nat.le_refl _)
  refine ⟨.ref s1.heap.objs.size, upd H1 s1.heap.objs.size (.lst xs), I1.laid (t' := s1.toks) (fun b u e => Heap.get?_push_of_some _ e) (Nat.le_refl _) ?_, rfl, q _ hf⟩
  exact ⟨z, us, 0, r, Heap.get?_push_size _ rfl⟩
end

/-! ### what a def promises -/
/-- a def's promise: the bound arguments in the parameters' order, the heap, the wanted end, the wanted exception -/
abbrev Sp := List V → Hp → VK → XK → Prop
/-- how an exception lies behind a call (file 08 gives it): the callers' frames, abstract heap and state ahead of the call, the wish, the exception, the state -/
abbrev CXT := List Env → Hp → Shared → XK → Value → Shared → Prop

/-- the state at a call -/
structure Env0 (P : Program) (w : World) (K : PySem.W.Frag) (mg : Str → Option Value) (base : Heap) (A : Around) (outer : List Env) (s : Shared) (H : Hp) : Prop where
  frames : A.frames = some outer
  mod : Mod K mg base
  bs : ∀ b o, base.get? b = some o → s.heap.get? b = some o ∧ H b = none
  bsz : base.objs.size ≤ s.heap.objs.size
  funs : s.heap.FunFrames base outer
  frf : ∀ b ∈ frs outer, H b = none
  hok : HOk P w H s.heap
  bare : AllBare s.gens
/-- a call's end -/
def CE (outer : List Env) (P : Program) (w : World) (H : Hp) (s : Shared) (Q : VK) (u : Value) (s' : Shared) : Prop :=
  ∃ v H', s'.os = s.os ∧ AllBare s'.gens ∧ Un (frs outer) [] H H' s.heap s'.heap ∧ HOk P w H' s'.heap ∧ RelV v u ∧ Q v H'
def CR (CX : CXT) (outer : List Env) (P : Program) (w : World) (H : Hp) (s : Shared) (Q : VK) (E : XK) (r : Result) (s' : Shared) : Prop :=
  match r with
  | .ok (.ret u) => CE outer P w H s Q u s'
  | .ok _ => False
  | .error e => CX outer H s E e s'
structure FnOk (P : Program) (w : World) (K : PySem.W.Frag) (mg : Str → Option Value) (base : Heap) (CX : CXT) (k : Nat) (f : Addr) (fd : FuncData) (ps : List Str) (sp : Sp) : Prop where
  len : ∀ vs H Q E, sp vs H Q E → vs.length = ps.length
  run : ∀ (A : Around) (outer : List Env) (s : Shared) (H : Hp) (args : Args) (us : List Value) (vs : List V) (Q : VK) (E : XK), Room k A → Env0 P w K mg base A outer s H → BindsTo s fd args (ps.zip us) → Vals vs us → sp vs H Q E →
    codeAny (model P w) A (.call (.ref f) args) (CR CX outer P w H s Q E) s
theorem FnOk.mono {P : Program} {w : World} {K : PySem.W.Frag} {mg : Str → Option Value} {base : Heap} {CX : CXT} {j k : Nat} {f : Addr} {fd : FuncData} {ps : List Str} {sp : Sp} (F : FnOk P w K mg base CX j f fd ps sp) (h : j ≤ k) :
    FnOk P w K mg base CX k f fd ps sp := ⟨F.len, fun A outer s H args us vs Q E hr => F.run A outer s H args us vs Q E (hr.mono h)⟩
/-- a weaker promise -/
theorem FnOk.imp {P : Program} {w : World} {K : PySem.W.Frag} {mg : Str → Option Value} {base : Heap} {CX : CXT} {k : Nat} {f : Addr} {fd : FuncData} {ps : List Str} {sp sp' : Sp} (F : FnOk P w K mg base CX k f fd ps sp)
    (h : ∀ vs H Q E, sp' vs H Q E → sp vs H Q E) : FnOk P w K mg base CX k f fd ps sp' :=
  ⟨fun vs H Q E q => F.len vs H Q E (h _ _ _ _ q), fun A outer s H args us vs Q E hr he hb hv hs => F.run A outer s H args us vs Q E hr he hb hv (h _ _ _ _ hs)⟩

theorem Env0.make {P : Program} {w : World} {K : PySem.W.Frag} {mg : Str → Option Value} {base : Heap} {A : Around} {outer : List Env} {s : Shared} {H : Hp} (e : Env0 P w K mg base A outer s H) (C : Addr) (us : List Value) (kw : List (Str × Value)) :
    Env0 P w K mg base (A.under (.builtin "type.__call__" ⟨.ref C :: us, kw⟩)) outer s H := ⟨by first | exact e.frames | (simpa [Around.under, Code.envs, Code.isFrame, pushEnvs] using e.frames), e.mod, e.bs, e.bsz, e.funs, e.frf, e.hok, e.bare⟩
theorem Env0.in1 {P : Program} {w : World} {K : PySem.W.Frag} {mg : Str → Option Value} {base : Heap} {A : Around} {outer : List Env} {s : Shared} {H : Hp} (e : Env0 P w K mg base A outer s H) :
    Env0 P w K mg base A.in1 outer s H := ⟨e.frames, e.mod, e.bs, e.bsz, e.funs, e.frf, e.hok, e.bare⟩

section
variable {X : Cx} {pins : List (Addr × Obj)} {σ : St} {H : Hp} {s s' : Shared}
/-- from a body: what a callee wants -/
theorem Inv.env0 (I : Inv X pins σ H s) : Env0 X.prog X.w X.K X.mg X.base X.A X.stack s H :=
  ⟨I.ok.frames, I.ok.mod, I.bs, Nat.le_trans I.ok.bsz I.sz, I.stack, I.stkFree, I.hok, I.bare⟩
/-- behind a call -/
theorem Inv.after {Q : VK} {u : Value} (I : Inv X pins σ H s) (h : CE X.stack X.prog X.w H s Q u s') : EP X pins σ Q u s' := by
  obtain ⟨v, H', os, bare, un, hok, r, q⟩ := h
  obtain ⟨hh, g, d, t, os'⟩ := s'
  obtain rfl : os' = s.os := os
  exact ⟨v, H', I.call (h' := hh) (g' := g) (d' := d) (t' := t) (ch := []) un hok bare (fun b z => absurd z (by simp)), r, q⟩
end

/-! ### calls -/
/-- f(..): the written arguments, then the defaults dvs; E: what is wanted of an exception -/
def tCall (sp : Sp) (dvs : List V) (E : XK) (t : TA) : TE := fun σ H Q => t σ H fun vs H1 => sp (vs ++ dvs) H1 Q E
/-- o.m(..) of an instance of the class at C -/
def tMeth (C : Addr) (m : Str) (sp : Sp) (dvs : List V) (E : XK) (ta : TE) (t : TA) : TE := fun σ H Q => ta σ H fun x H1 => ∃ a dx fs, x = .ref a ∧ H1 a = some (.ins C dx fs) ∧ fs.lookup m = none ∧
  t σ H1 fun vs H2 => sp (x :: (vs ++ dvs)) H2 Q E
/-- C(..): a new instance and its dict, then __init__ -/
def tMake (C : Addr) (sp : Sp) (dvs : List V) (E : XK) (t : TA) : TE := fun σ H Q => t σ H fun vs H1 => ∀ x dx, H1 x = none → H1 dx = none → dx ≠ x →
  sp (.ref x :: (vs ++ dvs)) (upd (upd H1 dx (.own x)) x (.ins C dx [])) (fun v H2 => v = .non ∧ Q (.ref x) H2) E

/-- how the parameters are bound: us the positional arguments, kw the keywords' values by name, ds the defaults that fill up -/
def Binds (K : PySem.W.Frag) (fd : FuncData) (ps : List Str) (ds : List Value) : Prop :=
  ∀ (s : Shared) (us : List Value), K.In s.heap → (us ++ ds).length = ps.length → BindsTo s fd ⟨us, []⟩ (ps.zip (us ++ ds))
/-- every parameter is given -/
theorem Binds.all {K : PySem.W.Frag} {fd : FuncData} {ps : List Str} (h : ∀ us : List Value, us.length = ps.length → bindArgs fd ⟨us, []⟩ = pure (ps.zip us)) : Binds K fd ps [] := fun s us _ hl => by
  rw [List.append_nil] at hl ⊢
  exact .of_eq (h us hl)

/-- an exception of a callee reaches what this body wants of exceptions -/
def Passes (CX : CXT) (X : Cx) (E : XK) : Prop := ∀ (pins : List (Addr × Obj)) (σ : St) (H : Hp) (s : Shared) (e : Value) (s' : Shared), Inv X pins σ H s → CX X.stack H s E e s' → X.xe e s'

section
variable {X : Cx} {CX : CXT} {k : Nat} {f C : Addr} {fd : FuncData} {ps : List Str} {sp : Sp} {dvs : List V} {ds : List Value} {E : XK} {x m : Str} {p pos apos : Pos} {e o : Expr} {es : List Expr} {ta : TE} {t : TA}

/-- the callee runs -/
theorem run_fn {pins : List (Addr × Obj)} {σ : St} {H : Hp} {s : Shared} {Q : VK} {us : List Value} {vs : List V} (F : FnOk X.prog X.w X.K X.mg X.base CX k f fd ps sp) (hr : Room k X.A) (hb : Binds X.K fd ps ds) (hd : Vals dvs ds) (hx : Passes CX X E)
    (I : Inv X pins σ H s) (r : Vals vs us) (h : sp (vs ++ dvs) H Q E) : wpAny (model X.prog X.w) X.A (call (.ref f) us) (EP X pins σ Q) X.xe s := by
  have r2 : Vals (vs ++ dvs) (us ++ ds) := r.append hd
  have hl : (us ++ ds).length = ps.length := by rw [← r2.length]; exact F.len _ _ _ _ h
  refine wpAny_call (codeAny_mono (F.run X.A X.stack s H ⟨us, []⟩ (us ++ ds) (vs ++ dvs) Q E hr I.env0 (hb s us I.kIn hl) r2 h) fun r s' hq => ?_)
  cases r with
  | error e => exact hx pins σ H s e s' I hq
  | ok fl =>
    cases fl with
    | ret u => exact I.after hq
    | next => exact False.elim hq
    | brk => exact False.elim hq
    | cont => exact False.elim hq

theorem pe_call (F : FnOk X.prog X.w X.K X.mg X.base CX k f fd ps sp) (hr : Room k X.A) (hg : Gl X x) (hm : X.mg x = some (.ref f)) (hk : PySem.W.keepIn X.K (.ref f) = true) (hb : Binds X.K fd ps ds) (hd : Vals dvs ds) (hx : Passes CX X E)
    (ha : PA X (e :: es) t) (hdb : (x == ("__debug__" : Str)) = false := by decide) (he : starEach (e :: es) X.env = (false, eval e X.env) :: starEach es X.env := by rfl) (hpl : (backTo pos (starEach es X.env)).any (·.1) = false := by rfl) :
    PE X (.Call (.Name x p) (e :: es) [] pos) (tCall sp dvs E t) := by
  intro pins s σ H Q I h
  refine wpAny_Call_Name_kw (ld_glob I hg hm ?_ hdb)
  refine PySem.W.callWith_K (h₀ := X.base) I.ok.mod.kin hk (thn (ha pos pins s σ H _ I h) fun us s1 ⟨vs, H1, I1, r, q⟩ => ⟨I1.kIn, ?_⟩) he hpl
  exact run_fn F hr hb hd hx I1 r q
theorem pe_call0 (F : FnOk X.prog X.w X.K X.mg X.base CX k f fd ps sp) (hr : Room k X.A) (hg : Gl X x) (hm : X.mg x = some (.ref f)) (hk : PySem.W.keepIn X.K (.ref f) = true) (hb : Binds X.K fd ps ds) (hd : Vals dvs ds) (hx : Passes CX X E)
    (hdb : (x == ("__debug__" : Str)) = false := by decide) : PE X (.Call (.Name x p) [] [] pos) (tCall sp dvs E tNil) := by
  intro pins s σ H Q I h
  refine wpAny_Call_Name_kw (ld_glob I hg hm ?_ hdb)
  exact PySem.W.callWith_K0 I.kIn hk (run_fn (us := []) F hr hb hd hx I .nil h)

/-- o.m(e, ..) -/
theorem pe_meth {pl : Sem Bool} (he : PE X o ta) (c : Cls X.K C) (hm : Meth X.K C m f) (F : FnOk X.prog X.w X.K X.mg X.base CX k f fd ps sp) (hr : Room k X.A) (hb : Binds X.K fd ps ds) (hd : Vals dvs ds) (hx : Passes CX X E) (ha : PA X (e :: es) t)
    (hst : starEach (e :: es) X.env = (false, eval e X.env) :: starEach es X.env := by rfl) (hpl : (backTo pos (starEach es X.env)).any (·.1) = false := by rfl)
    (ht : eval (.Call (.Attribute o m apos) (e :: es) [] pos) X.env = (do
      let ov ← eval o X.env
      standAt apos.atName
      let (f, first) ← holding [ov] (getMethod ov m pl)
      callWith pos f first (backTo pos (starEach (e :: es) X.env)) (backToKw pos (keywordEach [] X.env))) := by rfl) :
    PE X (.Call (.Attribute o m apos) (e :: es) [] pos) (tMeth C m sp dvs E ta t) := by
  intro pins s σ H Q I h
  refine PySem.W.methodCall_KW (pl := pl) (thn (he pins s σ H _ I h) fun u s1 ⟨x, H1, I1, rx, a, dx, fs, ex, ea, l, q⟩ => ?_) ht
  subst ex
  obtain rfl : u = Value.ref a := rx
  refine getmeth_ok I1 ea c hm l ?_
  refine PySem.W.callWith_K (first := [.ref a]) (h₀ := X.base) I.ok.mod.kin hm.kp (thn (ha pos pins s1 σ H1 _ I1 q) fun us s2 ⟨vs, H2, I2, r, q2⟩ => ⟨I2.kIn, ?_⟩) hst hpl
  exact run_fn (us := .ref a :: us) (vs := .ref a :: vs) F hr hb hd hx I2 (.cons rfl r) q2
/-- o.m() -/
theorem pe_meth0 {pl : Sem Bool} (he : PE X o ta) (c : Cls X.K C) (hm : Meth X.K C m f) (F : FnOk X.prog X.w X.K X.mg X.base CX k f fd ps sp) (hr : Room k X.A) (hb : Binds X.K fd ps ds) (hd : Vals dvs ds) (hx : Passes CX X E)
    (ht : eval (.Call (.Attribute o m apos) [] [] pos) X.env = (do
      let ov ← eval o X.env
      standAt apos.atName
      let (f, first) ← holding [ov] (getMethod ov m pl)
      callWith pos f first (backTo pos (starEach [] X.env)) (backToKw pos (keywordEach [] X.env))) := by rfl) :
    PE X (.Call (.Attribute o m apos) [] [] pos) (tMeth C m sp dvs E ta tNil) := by
  intro pins s σ H Q I h
  refine PySem.W.methodCall_KW (pl := pl) (thn (he pins s σ H _ I h) fun u s1 ⟨x, H1, I1, rx, a, dx, fs, ex, ea, l, q⟩ => ?_) ht
  subst ex
  obtain rfl : u = Value.ref a := rx
  refine getmeth_ok I1 ea c hm l ?_
  exact PySem.W.callWith_K0 (first := [.ref a]) I1.kIn hm.kp (run_fn (us := [.ref a]) (vs := [.ref a]) F hr hb hd hx I1 (.cons rfl .nil) q)

/-- what a class must have to be made -/
structure Mk (K : PySem.W.Frag) (C f : Addr) : Prop where
  makes : PySem.W.makesIn K C = true
  init : PySem.W.findIn K (.ref C) "__init__" = some (some (.ref f))
  fn : PySem.W.isFn K (.ref f) = true
  kp : PySem.W.keepIn K (.ref C) = true

theorem run_make {pins : List (Addr × Obj)} {σ : St} {H : Hp} {s : Shared} {Q : VK} {us : List Value} {vs : List V} (M : Mk X.K C f) (F : FnOk X.prog X.w X.K X.mg X.base CX k f fd ps sp) (hr : Room (k + 1) X.A) (hb : Binds X.K fd ps ds) (hd : Vals dvs ds)
    (hx : Passes CX X E) (I : Inv X pins σ H s) (r : Vals vs us)
    (h : ∀ x dx, H x = none → H dx = none → dx ≠ x → sp (.ref x :: (vs ++ dvs)) (upd (upd H dx (.own x)) x (.ins C dx [])) (fun v H2 => v = .non ∧ Q (.ref x) H2) E) :
    wpAny (model X.prog X.w) X.A (call (.ref C) us) (EP X pins σ Q) X.xe s := by
  have hq := h (s.heap.objs.size + 1) s.heap.objs.size (I.hok.fresh (Nat.le_succ _)) (I.hok.fresh (Nat.le_refl _)) (Nat.ne_of_lt (Nat.lt_succ_self _))
  have I2 := Inv.made (C := C) I
  have r2 : Vals (V.ref (s.heap.objs.size + 1) :: (vs ++ dvs)) (Value.ref (s.heap.objs.size + 1) :: (us ++ ds)) := .cons rfl (r.append hd)
  have hl : (Value.ref (s.heap.objs.size + 1) :: us ++ ds).length = ps.length := by
    have e := r2.length
    rw [F.len _ _ _ _ hq] at e
    exact e.symm
  refine wpAny_call (make_map (f := f) I.kIn M.makes M.init (beq_iff_eq.mp M.fn) (codeAny_mono (F.run _ X.stack _ _ ⟨Value.ref (s.heap.objs.size + 1) :: us, []⟩ (Value.ref (s.heap.objs.size + 1) :: (us ++ ds)) _ _ E (hr.make C us [])
    (I2.env0.make C us []) (hb _ (Value.ref (s.heap.objs.size + 1) :: us) I2.kIn hl) r2 hq) fun r s' hq' => ?_))
  cases r with
  | error e => exact hx pins σ _ _ e s' I2 hq'
  | ok fl =>
    cases fl with
    | ret u =>
      obtain ⟨v, H', I3, rv, ev, q3⟩ := I2.after hq'
      subst ev
      exact ⟨rv, ⟨V.ref (s.heap.objs.size + 1), H', I3, rfl, q3⟩⟩
    | next => exact False.elim hq'
    | brk => exact False.elim hq'
    | cont => exact False.elim hq'
theorem pe_make (M : Mk X.K C f) (F : FnOk X.prog X.w X.K X.mg X.base CX k f fd ps sp) (hr : Room (k + 1) X.A) (hg : Gl X x) (hm : X.mg x = some (.ref C)) (hb : Binds X.K fd ps ds) (hd : Vals dvs ds) (hx : Passes CX X E)
    (ha : PA X (e :: es) t) (hdb : (x == ("__debug__" : Str)) = false := by decide) (he : starEach (e :: es) X.env = (false, eval e X.env) :: starEach es X.env := by rfl) (hpl : (backTo pos (starEach es X.env)).any (·.1) = false := by rfl) :
    PE X (.Call (.Name x p) (e :: es) [] pos) (tMake C sp dvs E t) := by
  intro pins s σ H Q I h
  refine wpAny_Call_Name_kw (ld_glob I hg hm ?_ hdb)
  refine PySem.W.callWith_K (h₀ := X.base) I.ok.mod.kin M.kp (thn (ha pos pins s σ H _ I h) fun us s1 ⟨vs, H1, I1, r, q⟩ => ⟨I1.kIn, ?_⟩) he hpl
  exact run_make M F hr hb hd hx I1 r q
theorem pe_make0 (M : Mk X.K C f) (F : FnOk X.prog X.w X.K X.mg X.base CX k f fd ps sp) (hr : Room (k + 1) X.A) (hg : Gl X x) (hm : X.mg x = some (.ref C)) (hb : Binds X.K fd ps ds) (hd : Vals dvs ds) (hx : Passes CX X E)
    (hdb : (x == ("__debug__" : Str)) = false := by decide) : PE X (.Call (.Name x p) [] [] pos) (tMake C sp dvs E tNil) := by
  intro pins s σ H Q I h
  refine wpAny_Call_Name_kw (ld_glob I hg hm ?_ hdb)
  exact PySem.W.callWith_K0 I.kIn M.kp (run_make (us := []) M F hr hb hd hx I .nil h)
end

/-! ### keywords -/
/-- the values of the keywords, from the left -/
def PK (X : Cx) (kws : List Keyword) (t : TA) : Prop :=
  ∀ (pos : Pos) (pins : List (Addr × Obj)) (s : Shared) (σ : St) (H : Hp) (Q : List V → Hp → Prop), Inv X pins σ H s → t σ H Q → wpAny (model X.prog X.w) X.A (evalAll ((backToKw pos (keywordEach kws X.env)).map (·.2))) (AP X pins σ Q) X.xe s
section
variable {X : Cx} {CX : CXT} {k : Nat} {f C : Addr} {fd : FuncData} {ps ks : List Str} {sp : Sp} {E : XK} {x m : Str} {p pos apos kpos : Pos} {e o : Expr} {es : List Expr} {kws : List Keyword} {te ta : TE} {t tk : TA} {nm : Option Str}
theorem pk_nil : PK X [] tNil := fun _ _ _ _ H Q I h => wpAny_evalAll_nil ⟨[], H, I, .nil, h⟩
theorem pk_cons (ha : PE X e te) (hr : PK X kws t) : PK X (⟨nm, e, kpos⟩ :: kws) (tCons te t) := by
  intro pos pins s σ H Q I h
  show wpAny _ _ (evalAll ((do let v ← eval e X.env; standAt pos; pure v) :: (backToKw pos (keywordEach kws X.env)).map (·.2))) _ _ s
  refine wpAny_evalAll_cons (wpAny_bind (thn (ha pins s σ H _ I h) fun u s1 ⟨x, H1, I1, r1, q1⟩ => wpAny_bind (wpAny_standAt (wpAny_pure ?_))))
  exact thn (hr pos pins s1 σ H1 _ I1 q1) fun us s2 ⟨xs, H2, I2, r2, q2⟩ => ⟨x :: xs, H2, I2, .cons r1 r2, q2⟩

/-- how a call with keywords binds: g puts the positional values us and the keywords' values ws (names ks) in the parameters' order, defaults among them -/
structure KBinds (K : PySem.W.Frag) (fd : FuncData) (ps ks : List Str) (g : List Value → List Value → List Value) (gV : List V → List V → List V) : Prop where
  to : ∀ (s : Shared) (us ws : List Value), K.In s.heap → (g us ws).length = ps.length → BindsTo s fd ⟨us, ks.zip ws⟩ (ps.zip (g us ws))
  rel : ∀ {vs : List V} {us : List Value} {zs : List V} {ws : List Value}, Vals vs us → Vals zs ws → Vals (gV vs zs) (g us ws)
def tCallK (sp : Sp) (gV : List V → List V → List V) (E : XK) (t tk : TA) : TE := fun σ H Q => t σ H fun vs H1 => tk σ H1 fun zs H2 => sp (gV vs zs) H2 Q E
variable {g : List Value → List Value → List Value} {gV : List V → List V → List V}
theorem run_fnk {pins : List (Addr × Obj)} {σ : St} {H : Hp} {s : Shared} {Q : VK} {us ws : List Value} {vs zs : List V} (F : FnOk X.prog X.w X.K X.mg X.base CX k f fd ps sp) (hr : Room k X.A) (hb : KBinds X.K fd ps ks g gV) (hx : Passes CX X E)
    (I : Inv X pins σ H s) (r : Vals vs us) (rz : Vals zs ws) (h : sp (gV vs zs) H Q E) : wpAny (model X.prog X.w) X.A (call (.ref f) us (ks.zip ws)) (EP X pins σ Q) X.xe s := by
  have r2 := hb.rel r rz
  have hl : (g us ws).length = ps.length := by rw [← r2.length]; exact F.len _ _ _ _ h
  refine wpAny_call (codeAny_mono (F.run X.A X.stack s H ⟨us, ks.zip ws⟩ (g us ws) (gV vs zs) Q E hr I.env0 (hb.to s us ws I.kIn hl) r2 h) fun r s' hq => ?_)
  cases r with
  | error e => exact hx pins σ H s e s' I hq
  | ok fl =>
    cases fl with
    | ret u => exact I.after hq
    | next => exact False.elim hq
    | brk => exact False.elim hq
    | cont => exact False.elim hq
/-- f(e, .., k = v, ..) -/
theorem pe_callK (F : FnOk X.prog X.w X.K X.mg X.base CX k f fd ps sp) (hr : Room k X.A) (hg : Gl X x) (hm : X.mg x = some (.ref f)) (hk : PySem.W.keepIn X.K (.ref f) = true) (hb : KBinds X.K fd ps ks g gV) (hx : Passes CX X E)
    (ha : PA X (e :: es) t) (hkw : PK X kws tk) (hall : (backToKw pos (keywordEach kws X.env)).all (·.1.isSome) = true := by rfl) (hks : (backToKw pos (keywordEach kws X.env)).filterMap (·.1) = ks := by rfl)
    (hdb : (x == ("__debug__" : Str)) = false := by decide) (he : starEach (e :: es) X.env = (false, eval e X.env) :: starEach es X.env := by rfl)
    (hpl : ((backTo pos (starEach (e :: es) X.env)).any (·.1) || (backToKw pos (keywordEach kws X.env)).any (·.1.isNone)) = false := by rfl) :
    PE X (.Call (.Name x p) (e :: es) kws pos) (tCallK sp gV E t tk) := by
  intro pins s σ H Q I h
  refine wpAny_Call_Name_kw (ld_glob I hg hm ?_ hdb)
  refine PySem.W.callWith_KW (h₀ := X.base) I.ok.mod.kin hk hall (thn (ha pos pins s σ H _ I h) fun us s1 ⟨vs, H1, I1, r, q⟩ => ?_) hpl he
  refine thn (hkw pos pins s1 σ H1 _ I1 q) fun ws s2 ⟨zs, H2, I2, rz, q2⟩ => ⟨I2.kIn, ?_⟩
  rw [hks]
  exact run_fnk F hr hb hx I2 r rz q2
end

/-! ### a def's body keeps its promise -/
/-- names: the parameters first -/
structure FnScope (N P : List Str) (sc : Scope) : Prop where
  kind : sc.kind = .function
  co : sc.isCoroutine = false
  gen : sc.isGenerator = false
  nd : N.Nodup
  pre : N.take P.length = P
  par : ∀ x ∈ P, sc.names.lookup x = some .local ∨ sc.names.lookup x = some .cell
  nofree : ∀ y ∈ sc.names, y.2 ≠ .free

theorem bindL_out {kindOf : Str → Option NameKind} {x : Str} : ∀ {binds : List (Str × Value)} {m : Str → Option Value}, (∀ v, (x, v) ∉ binds) → bindL kindOf binds m x = m x
  | [], _, _ => rfl
  | (n, v) :: r, m, h => by
    unfold bindL
    rw [bindL_out fun w hw => h w (List.mem_cons_of_mem _ hw)]
    split
    · have : x ≠ n := by rintro rfl; exact h v List.mem_cons_self
      simp [this]
    · rfl
theorem bindC_out {kindOf : Str → Option NameKind} {x : Str} : ∀ {binds : List (Str × Value)} {m : Str → Option Value}, (∀ v, (x, v) ∉ binds) → bindC kindOf binds m x = m x
  | [], _, _ => rfl
  | (n, v) :: r, m, h => by
    unfold bindC
    rw [bindC_out fun w hw => h w (List.mem_cons_of_mem _ hw)]
    split
    · rfl
    · have : x ≠ n := by rintro rfl; exact h v List.mem_cons_self
      simp [this]
theorem bindL_get {kindOf : Str → Option NameKind} {x : Str} {v : Value} : ∀ {P : List Str} {vs : List Value} {i : Nat} {m : Str → Option Value}, P.Nodup → P[i]? = some x → vs[i]? = some v → kindOf x = some .local →
    bindL kindOf (P.zip vs) m x = some v
  | [], _, _, _, _, h, _, _ => by simp at h
  | _ :: _, [], _, _, _, _, h, _ => by simp at h
  | p :: P, w :: vs, 0, m, nd, h1, h2, hk => by
    simp at h1 h2; subst h1; subst h2
    show bindL kindOf ((p, w) :: P.zip vs) m p = _
    unfold bindL
    rw [bindL_out fun v hv => (List.nodup_cons.mp nd).1 (List.of_mem_zip hv).1, if_pos hk]
    simp
  | p :: P, w :: vs, i + 1, m, nd, h1, h2, hk => by
    show bindL kindOf ((p, w) :: P.zip vs) m x = _
    unfold bindL
    exact bindL_get (i := i) (List.nodup_cons.mp nd).2 (by simpa using h1) (by simpa using h2) hk
theorem bindC_get {kindOf : Str → Option NameKind} {x : Str} {v : Value} : ∀ {P : List Str} {vs : List Value} {i : Nat} {m : Str → Option Value}, P.Nodup → P[i]? = some x → vs[i]? = some v → kindOf x ≠ some .local →
    bindC kindOf (P.zip vs) m x = some v
  | [], _, _, _, _, h, _, _ => by simp at h
  | _ :: _, [], _, _, _, _, h, _ => by simp at h
  | p :: P, w :: vs, 0, m, nd, h1, h2, hk => by
    simp at h1 h2; subst h1; subst h2
    show bindC kindOf ((p, w) :: P.zip vs) m p = _
    unfold bindC
    rw [bindC_out fun v hv => (List.nodup_cons.mp nd).1 (List.of_mem_zip hv).1, if_neg hk]
    simp
  | p :: P, w :: vs, i + 1, m, nd, h1, h2, hk => by
    show bindC kindOf ((p, w) :: P.zip vs) m x = _
    unfold bindC
    exact bindC_get (i := i) (List.nodup_cons.mp nd).2 (by simpa using h1) (by simpa using h2) hk

/-- the names' values at the entry -/
def start (N : List Str) (vs : List V) : St := vs.map some ++ List.replicate (N.length - vs.length) none

/-- the context of a def's body, at its entry; an exception leaves the frame, then lies as CX says -/
def cxOf (CX : CXT) (P : Program) (w : World) (K : PySem.W.Frag) (mg : Str → Option Value) (base : Heap) (N : List Str) (qual : Str) (scope : Scope) (f : Addr) (cd : Value) (A : Around) (outer : List Env) (s : Shared) (H : Hp) (E : XK) : Cx where
  prog := P
  w := w
  K := K
  mg := mg
  base := base
  A := A.deeper (envOfC qual scope s.heap.objs.size f cd)
  N := N
  s₀ := s
  H₀ := H
  env := envOfC qual scope s.heap.objs.size f cd
  outer := outer
  stack := envOfC qual scope s.heap.objs.size f cd :: outer
  ex := []
  calm := true
  fn := fun _ => true
  pn := []
  xe := fun e s' => wpAny (model P w) (A.deeper (envOfC qual scope s.heap.objs.size f cd)) (leaving (envOfC qual scope s.heap.objs.size f cd) e) (fun _ s'' => CX outer H s E e s'') (fun e' s'' => CX outer H s E e' s'') s'

theorem cell_has {sc : Scope} {n : Nat} {x : Str} (h : sc.names.lookup x = some .cell) : ∃ c, (cellsFrom n sc.names []).lookup x = some c := by
  have q := PySem.W.cellsFrom_some sc.names n [] (.inl h)
  exact Option.isSome_iff_exists.mp q

theorem inv_start {CX : CXT} {P : Program} {w : World} {K : PySem.W.Frag} {mg : Str → Option Value} {base : Heap} {N ps : List Str} {qual : Str} {scope : Scope} {f : Addr} {cd : Value} {A : Around} {outer : List Env} {s s1 : Shared} {H : Hp} {E : XK} {us : List Value} {vs : List V}
    (S : FnScope N ps scope) (hd : A.handled = none) (e0 : Env0 P w K mg base A outer s H) (hl : vs.length = ps.length) (r : Vals vs us)
    (x : InCallC s s.heap.objs.size (bindL (envOfC qual scope s.heap.objs.size f cd).kindOf (ps.zip us) fun _ => none) (cellsFrom (s.heap.objs.size + 1) scope.names []) (bindC (envOfC qual scope s.heap.objs.size f cd).kindOf (ps.zip us) fun _ => none) s1) :
    Inv (cxOf CX P w K mg base N qual scope f cd A outer s H E) [] (start N vs) H s1 := by
  have hpl : ps.length ≤ N.length := by have := congrArg List.length S.pre; rw [List.length_take] at this; omega
  obtain ⟨h1, tk, rfl, hk⟩ := x.done
  have noA : ∀ b : Addr, b ∉ (cxOf CX P w K mg base N qual scope f cd A outer s H E).ex := fun b z => absurd (show b ∈ ([] : List Addr) from z) (by simp)
  refine ⟨⟨e0.mod, S.kind, rfl, rfl, Nat.le_refl _, fun y z c h1 h2 => ?_, fun y hy => ?_, fun y c _ h => ?_, fun _ => hd, Around.frames_deeper e0.frames, .inr ⟨rfl, rfl⟩, fun b z => absurd z (noA b), e0.bs, e0.bsz, fun b _ _ => noA b, fun b z => absurd z (noA b), e0.funs, e0.frf⟩,
    rfl, e0.bare, Un.kept hk, ⟨_, x.toInCall.ns, fun i y v h1 h2 h3 => ?_⟩, fun y c h => ⟨_, x.cell y c h⟩, e0.hok.fresh (Nat.le_refl _), fun y c h => ?_, fun p hp => absurd (show p ∈ ([] : List (Addr × Obj)) from hp) (by simp), e0.hok.kept hk, ?_⟩
  · exact name_of_addr x.apart (PySem.mem_of_lookup h1) (PySem.mem_of_lookup h2)
  · have hy : scope.names.lookup y = some .cell ∨ scope.names.lookup y = some .free := hy
    rcases hy with hy | hy
    · exact cell_has hy
    · exact absurd rfl (S.nofree _ (PySem.mem_of_lookup hy))
  · exact Nat.le_of_lt (x.above y c (PySem.mem_of_lookup h))
  · have hi : i < vs.length := by
      unfold start at h2
      by_cases hi : i < vs.length
      · exact hi
      · rw [List.getElem?_append_right (by simpa using hi)] at h2
        rw [List.getElem?_replicate] at h2
        split at h2 <;> cases h2
    have ha : vs[i]? = some v := by
      unfold start at h2
      rw [List.getElem?_append_left (by simpa using hi), List.getElem?_map] at h2
      cases e : vs[i]? with
      | none => rw [e] at h2; cases h2
      | some a => rw [e] at h2; cases h2; rfl
    obtain ⟨u, hu, rv⟩ := r.get ha
    have hp : ps[i]? = some y := by
      rw [← S.pre, List.getElem?_take_of_lt (by omega)]; exact h1
    have ndP : ps.Nodup := by rw [← S.pre]; exact S.nd.sublist (List.take_sublist _ _)
    refine ⟨u, rv, ?_⟩
    rcases S.par y (List.mem_of_getElem? hp) with k | k
    · exact .inl ⟨k, bindL_get ndP hp hu k⟩
    · obtain ⟨c, e⟩ := cell_has (n := s.heap.objs.size + 1) k
      refine .inr ⟨.inl k, c, e, ?_⟩
      have q := x.cell y c e
      rw [bindC_get ndP hp hu (by show scope.names.lookup y ≠ _; rw [k]; decide)] at q
      exact q
  · exact e0.hok.fresh (Nat.le_of_lt (x.above y c (PySem.mem_of_lookup h)))
  · unfold start
    show _ = N.length
    rw [List.length_append, List.length_map, List.length_replicate]
    omega

/-- THE RULE: a def (or a method) of the text, by its body. The body's reading t is chosen for each entry; it is run at the parameters' values -/
theorem fn_of {CX : CXT} {P : Program} {w : World} {K : PySem.W.Frag} {mg : Str → Option Value} {base : Heap} {k : Nat} {f : Addr} {name qual : Str} {params : Arguments} {body : List Stmt} {scope : Scope} {dV kV doc pm cdv ct oc : Value} {an od : Option Addr}
    {osl : Array (Option Value)} {N ps : List Str} {sp : Sp} (lk : K.lookup f = some ⟨oc, od, .func (PySem.W.fnOf name qual params body scope dV kV doc pm an cdv ct), osl⟩) (hcd : PySem.W.codeIn K cdv qual = true) (S : FnScope N ps scope)
    (len : ∀ vs H Q E, sp vs H Q E → vs.length = ps.length)
    (hbody : ∀ (A : Around) (outer : List Env) (s : Shared) (H : Hp) (vs : List V) (Q : VK) (E : XK), Room k (A.deeper (envOfC qual scope s.heap.objs.size f cdv)) → sp vs H Q E →
      ∃ t, PSs (cxOf CX P w K mg base N qual scope f cdv A outer s H E) body t ∧ t { nx := fun _ H' => Q .non H', rt := Q } (start N vs) H) :
    FnOk P w K mg base CX (k + 1) f (PySem.W.fnOf name qual params body scope dV kV doc pm an cdv ct) ps sp := by
  refine ⟨len, fun A outer s H args us vs Q E hr e0 hb r hsp => ?_⟩
  have hl := len _ _ _ _ hsp
  have KX : K.In s.heap := e0.mod.kin.keeps fun b o e => (e0.bs b o e).1
  have lim : s.heap.NoLimit := e0.mod.nolimit.keeps fun b o e => (e0.bs b o e).1
  have hkind : ∀ y ∈ ps.zip us, scope.names.lookup y.1 = some .local ∨ (scope.names.lookup y.1 = some .cell ∧ ((cellsFrom (s.heap.objs.size + 1) scope.names []).lookup y.1).isSome = true) := fun ⟨n, v⟩ hy => by
    rcases S.par n (List.of_mem_zip hy).1 with q | q
    · exact .inl q
    · exact .inr ⟨q, PySem.W.cellsFrom_some _ _ _ (.inl q)⟩
  refine codeAny_call_function hr.depth (KX _ _ lk) rfl S.co S.gen rfl (PySem.W.codeRec_of KX hcd) (hb _ _ _ _ ?_)
  refine wpAny_newFunctionEnv_cells S.kind hkind fun env he s1 x => ?_
  subst he
  refine ⟨lim.keeps x.toInCall.keep, codeAny_func ?_⟩
  obtain ⟨t, ht, hq⟩ := hbody A outer s H vs Q E (hr.deeper _) hsp
  have I : Inv (cxOf CX P w K mg base N qual scope f cdv A outer s H E) [] (start N vs) H s1 := inv_start S hr.hd e0 hl r x
  refine wpAny_mono (ht [] s1 (start N vs) H _ I hq) (fun fl s' hs => ?_) fun e s' hs => hs
  have fin : ∀ {σ' : St} {H' : Hp} {v : V} {u : Value}, Inv (cxOf CX P w K mg base N qual scope f cdv A outer s H E) [] σ' H' s' → RelV v u → Q v H' → CE outer P w H s Q u s' :=
    fun {σ' H' v u} J rv q => ⟨v, H', J.os, J.bare, J.base, J.hok, rv, q⟩
  cases fl with
  | ret u =>
    obtain ⟨v, σ', H', J, rv, q⟩ := hs
    exact fin J rv q
  | next =>
    obtain ⟨σ', H', J, q⟩ := hs
    exact fin (v := V.non) (u := Value.none) J rfl q
  | brk =>
    obtain ⟨_, _, _, q⟩ := hs
    exact False.elim q
  | cont =>
    obtain ⟨_, _, _, q⟩ := hs
    exact False.elim q
end L2

namespace L2
open PySem PySem.Spec PyProof.Rows
section
variable {X : Cx} {x : Str} {p pos : Pos} {e : Expr} {es : List Expr} {t : TA} {id T : String} {r : List V → Hp → VK → Prop}

def tCB (r : List V → Hp → VK → Prop) (t : TA) : TE := fun σ H Q => t σ H fun vs H1 => r vs H1 Q
/-- f(e, ..), f a built-in function -/
theorem pe_callB (hc : CallR X (.builtin id) r) (hg : Gl X x) (hm : X.mg x = none) (hv : bootBuiltins x = some (.builtin id)) (ha : PA X (e :: es) t) (hn : x ≠ "__name__" := by decide) (hdb : (x == ("__debug__" : Str)) = false := by decide)
    (he : starEach (e :: es) X.env = (false, eval e X.env) :: starEach es X.env := by rfl) (hpl : (backTo pos (starEach es X.env)).any (·.1) = false := by rfl) : PE X (.Call (.Name x p) (e :: es) [] pos) (tCB r t) := by
  intro pins s σ H Q I h
  refine wpAny_Call_Name_kw (ld_blt I hg hm hv ?_ hn hdb)
  exact PyProof.Rows.callWith_builtin1 (thn (ha pos pins s σ H _ I h) fun us s1 ⟨vs, H1, I1, r1, q1⟩ => hc pins s1 σ H1 vs us Q I1 r1 q1) he hpl
/-- T(e, ..), T a built-in type -/
theorem pe_callTy (hc : CallR X (.type T) r) (hg : Gl X x) (hm : X.mg x = none) (hv : bootBuiltins x = some (.type T)) (ha : PA X (e :: es) t) (hn : x ≠ "__name__" := by decide) (hdb : (x == ("__debug__" : Str)) = false := by decide)
    (he : starEach (e :: es) X.env = (false, eval e X.env) :: starEach es X.env := by rfl) (hpl : (backTo pos (starEach es X.env)).any (·.1) = false := by rfl) : PE X (.Call (.Name x p) (e :: es) [] pos) (tCB r t) := by
  intro pins s σ H Q I h
  refine wpAny_Call_Name_kw (ld_blt I hg hm hv ?_ hn hdb)
  exact PyProof.Rows.callWith_type1 (thn (ha pos pins s σ H _ I h) fun us s1 ⟨vs, H1, I1, r1, q1⟩ => hc pins s1 σ H1 vs us Q I1 r1 q1) he hpl
/-- T() -/
theorem pe_callTy0 (hc : CallR X (.type T) r) (hg : Gl X x) (hm : X.mg x = none) (hv : bootBuiltins x = some (.type T)) (hn : x ≠ "__name__" := by decide) (hdb : (x == ("__debug__" : Str)) = false := by decide) :
    PE X (.Call (.Name x p) [] [] pos) (tCB r tNil) := by
  intro pins s σ H Q I h
  refine wpAny_Call_Name_kw (ld_blt I hg hm hv ?_ hn hdb)
  exact PyProof.Rows.callWith_type0 (hc pins s σ H [] [] Q I .nil h)
end
end L2

namespace HT
open PySem PyProof.Rows

/-- t < u of tuples of ints -/
def lexLt : List Int → List Int → Bool
  | [], [] => false
  | [], _ :: _ => true
  | _ :: _, [] => false
  | x :: xs, y :: ys => if x = y then lexLt xs ys else decide (x < y)
theorem lexLt_cons (x y : Int) (xs ys : List Int) : lexLt (x :: xs) (y :: ys) = if x = y then lexLt xs ys else decide (x < y) := rfl
theorem lexLt_nil_nil : lexLt [] [] = false := rfl
theorem lexLt_nil_cons (y : Int) (ys : List Int) : lexLt [] (y :: ys) = true := rfl
theorem lexLt_cons_nil (x : Int) (xs : List Int) : lexLt (x :: xs) [] = false := rfl

theorem eqAt_int (A : Around) (s : Shared) (a : Int) (t : Tok) (c : Int) (u : Tok) : ∃ e, SeqAt.EqAt A s (.int a t) (.int c u) e ∧ (e = true ↔ a = c) :=
  ⟨(a == c), SeqAt.EqAt.int_int a t c u, by simp⟩
theorem rcLt_int (A : Around) (s : Shared) (a : Int) (t : Tok) (c : Int) (u : Tok) (prog : Program) (w : World) (E : Value → Shared → Prop) (Q : Value → Shared → Prop) (h : Q (.bool (decide (a < c))) s) :
    wpAny (model prog w) A (richCompare .Lt (.int a t) (.int c u)) Q E s :=
  (PyProof.Rows.lt_int h : wpAny (model prog w) A (compareOp .Lt (.int a t) (.int c u)) Q E s)

section
open PySem.SeqAt
open PySem.AutoSeq1 (wpAny_loadPart')
open PySem.MeetsSeq PySem.MeetsSeq2 PySem.MeetsSeq3

theorem tuple_lt_ints (l b : Addr) (items items2 : Array Value) (n n2 : Nat) (dd dd2 : Option Addr) (sl sl2 : Array (Option Value)) (ns ms : List Int) (hi : IntsAre items.toList ns) (hj : IntsAre items2.toList ms) :
    Meets (Builtin.«tuple.__lt__» ⟨[.ref l, .ref b], []⟩)
      (fun _ R s => s.heap.get? l = some { cls := .type "tuple", dict := dd, data := .seq items n, slots := sl } ∧ s.heap.get? b = some { cls := .type "tuple", dict := dd2, data := .seq items2 n2, slots := sl2 } ∧
        R (.ok (.ret (.bool (lexLt ns ms)))) s) :=
  .of_wp fun prog w A R s h => by
    obtain ⟨hp, g, d, tk, os⟩ := s; obtain ⟨hl, hb, h⟩ := h
    have f2 := AutoSeq1.sub_tuple_tuple
    have z1 : items.size = ns.length := by rw [← hi.length]; simp
    have z2 : items2.size = ms.length := by rw [← hj.length]; simp
    wp_walk using wpAny_loadPart' hl, wpAny_loadPart' hb, wpAny_forIn_list _ (fun rest b s' => b.1 = none ∧ s' = ⟨hp, g, d, tk, os⟩ ∧ ∃ (vs ws : List Value) (ns' ms' : List Int), rest = vs.zip ws ∧
      IntsAre vs ns' ∧ IntsAre ws ms' ∧ ns'.length + items2.size = ms'.length + items.size ∧ R (.ok (.ret (.bool (lexLt ns' ms')))) ⟨hp, g, d, tk, os⟩) _
    case turn =>
      rintro ⟨y, x⟩ rest b s' ⟨hb', rfl, vs, ws, ns', ms', hz, hvi, hwi, hlen, hR⟩
      cases hvi with
      | nil => rw [List.zip_nil_left] at hz; cases hz
      | cons a t hvi' =>
        cases hwi with
        | nil => rw [List.zip_nil_right] at hz; cases hz
        | cons c u hwi' =>
          rw [List.zip_cons_cons] at hz
          injection hz with hyx hrest
          injection hyx with hy hx
          subst hy hx
          rw [lexLt_cons] at hR
          simp only [List.length_cons] at hlen
          obtain ⟨e, he, hiff⟩ := eqAt_int A.in1 ⟨hp, g, d, tk, os⟩ a t c u
          refine wpAny_bind (he prog w _ _ ?_)
          cases e with
          | true =>
            rw [if_pos (hiff.mp rfl)] at hR
            wp_walk
            exact ⟨rfl, rfl, _, _, _, _, hrest, hvi', hwi', by omega, hR⟩
          | false =>
            rw [if_neg (fun q => absurd (hiff.mpr q) Bool.false_ne_true)] at hR
            have hri := rcLt_int A.in1 ⟨hp, g, d, tk, os⟩ a t c u prog w
            wp_walk using hri
            exact ⟨_, rfl, by simpa using hR⟩
    case fin =>
      rintro ⟨b1, b2⟩ s' ⟨hb', rfl, vs, ws, ns', ms', hz, hvi, hwi, hlen, hR⟩
      simp only at hb'
      subst hb'
      have hv : lexLt ns' ms' = decide (items.size < items2.size) := by
        cases hvi with
        | nil =>
          cases hwi with
          | nil =>
            simp only [List.length_nil] at hlen
            rw [lexLt_nil_nil]
            exact (decide_eq_false (by omega)).symm
          | cons c u hw =>
            simp only [List.length_nil, List.length_cons] at hlen
            rw [lexLt_nil_cons]
            exact (decide_eq_true (by omega)).symm
        | cons a t hv =>
          cases hwi with
          | nil =>
            simp only [List.length_nil, List.length_cons] at hlen
            rw [lexLt_cons_nil]
            exact (decide_eq_false (by omega)).symm
          | cons c u hw =>
            rw [List.zip_cons_cons] at hz
            cases hz
      rw [hv] at hR
      wp_walk
      exact ⟨_, rfl, by simpa [Builtin.Tuple.tupleCompareSizes] using hR⟩
    case h =>
      exact ⟨rfl, rfl, items.toList, items2.toList, ns, ms, rfl, hi, hj, by omega, h⟩
end

section
variable {prog : Program} {w : World} {A : Around} {E : Value → Shared → Prop} {s : Shared}

theorem lt_tupInts {l b : Addr} {items items2 : Array Value} {ns ms : List Int} {Q : Value → Shared → Prop} (hl : IsTup s.heap l items) (hb : IsTup s.heap b items2) (hi : IntsAre items.toList ns) (hj : IntsAre items2.toList ms)
    (hu : A.units < cLine) (h : Q (.bool (lexLt ns ms)) s) : wpAny (model prog w) A (compareOp .Lt (.ref l) (.ref b)) Q E s := by
  obtain ⟨⟨cls, dd, data, sl⟩, ho, hc, n, hd⟩ := id hl
  obtain ⟨⟨cls2, dd2, data2, sl2⟩, ho2, hc2, n2, hd2⟩ := id hb
  simp only at hc hd hc2 hd2
  subst hc hd hc2 hd2
  exact richCompare_meets_room (op := .Lt) ⟨_, ho, rfl⟩ ⟨_, ho2, rfl⟩ PySem.F.slot_tuple_lt PySem.F.entry_tuple_lt (PySem.F.args_tuple_lt_2 _ _) (tuple_lt_ints l b items items2 n n2 dd dd2 sl sl2 ns ms hi hj)
    ⟨ho, ho2, show Value.bool (lexLt ns ms) ≠ Value.notImplemented ∧ Q (.bool (lexLt ns ms)) s from ⟨(fun x => nomatch x), h⟩⟩ hu

/-- t + u, t not empty -/
theorem cat_tup {t b : Addr} {vs ws : List Value} {Q : Value → Shared → Prop} (ht : IsTup s.heap t vs.toArray) (hb : IsTup s.heap b ws.toArray) (hv : vs ≠ [])
    (h1 : ws = [] → Q (.ref t) s) (h2 : ws ≠ [] → Q (.ref s.heap.objs.size) { s with heap := s.heap.push { cls := .type "tuple", data := .seq (vs ++ ws).toArray } })
    (hsz : vs.length + ws.length ≤ sizeLine) : wpAny (model prog w) A (binaryOp .Add (.ref t) (.ref b)) Q E s := by
  obtain ⟨⟨cls, dd, data, sl⟩, ho, hc, n, hd⟩ := id ht
  obtain ⟨⟨cls2, dd2, data2, sl2⟩, ho2, hc2, n2, hd2⟩ := id hb
  simp only at hc hd hc2 hd2
  subst hc hd hc2 hd2
  have e : vs.toArray ++ ws.toArray = (vs ++ ws).toArray := by simp
  by_cases hw : ws = []
  · exact concat_meets ⟨_, ho, rfl⟩ ⟨_, ho2, rfl⟩ noFill_tuple_add seq_tuple_add PySem.F.slot_tuple_add PySem.F.entry_tuple_add (PySem.F.args_tuple_add_2 _ _)
      (tuple_addW1 t b vs.toArray ws.toArray n n2 dd dd2 sl sl2 (by simpa using hv) (by simp [hw])) ⟨ho, ho2, h1 hw⟩
  · refine concat_meets ⟨_, ho, rfl⟩ ⟨_, ho2, rfl⟩ noFill_tuple_add seq_tuple_add PySem.F.slot_tuple_add PySem.F.entry_tuple_add (PySem.F.args_tuple_add_2 _ _)
      (tuple_addW2 t b vs.toArray ws.toArray n n2 dd dd2 sl sl2 (by simpa using hv) (by simpa using hw) (by rw [List.size_toArray, List.size_toArray]; exact hsz)) ⟨ho, ho2, ?_⟩
    rw [e]
    exact h2 hw

/-! ### t[a:b], not the whole -/
/-- a slice's bound as a place among n (d where it is left out) -/
def sIx (n d : Nat) : Option Int → Nat
  | none => d
  | some v => if v < 0 then (v + (n : Int)).toNat else min v.toNat n
theorem sIx_none (n d : Nat) : sIx n d none = d := rfl
theorem sIx_nat (n d k : Nat) : sIx n d (some (k : Int)) = min k n := by
  show (if (k : Int) < 0 then ((k : Int) + (n : Int)).toNat else min (k : Int).toNat n) = min k n
  rw [if_neg (by omega), Int.toNat_natCast]
theorem sIx_le (n d : Nat) (hd : d ≤ n) (o : Option Int) : sIx n d o ≤ n := by
  cases o with
  | none => exact hd
  | some v =>
    show (if v < 0 then (v + (n : Int)).toNat else min v.toNat n) ≤ n
    by_cases hv : v < 0
    · rw [if_pos hv]; omega
    · rw [if_neg hv]; exact Nat.min_le_right _ _
theorem clip_eq (v : Int) (n d : Nat) : (if v < 0 then max (v + (n : Int)) 0 else min v (n : Int)) = ((sIx n d (some v) : Nat) : Int) := by
  show (if v < 0 then max (v + (n : Int)) 0 else min v (n : Int)) = (((if v < 0 then (v + (n : Int)).toNat else min v.toNat n) : Nat) : Int)
  by_cases hv : v < 0
  · simp only [if_pos hv]; omega
  · simp only [if_neg hv]; omega
theorem adjust_gen (lo hi : Option Int) (n : Nat) : Builtin.Slice.sliceAdjust lo hi 1 (n : Int) = (((sIx n 0 lo : Nat) : Int), ((sIx n n hi : Nat) : Int)) := by
  have h1 : ¬ ((1 : Int) < 0) := by omega
  unfold Builtin.Slice.sliceAdjust
  simp only [h1, if_false]
  refine Prod.ext ?_ ?_
  · cases lo with
    | none => rfl
    | some v => exact clip_eq v n 0
  · cases hi with
    | none => rfl
    | some v => exact clip_eq v n n
theorem places_gen (i j : Nat) : Builtin.Slice.slicePlaces (i : Int) (j : Int) 1 = j - i := by
  unfold Builtin.Slice.slicePlaces
  have h1 : (1 : Int) > 0 := by omega
  simp only [h1, if_true, Int.ediv_one]
  split <;> omega
theorem slicePart_ {v : Value} {o : Option Int} {Q : Option Int → Shared → Prop} (p : IsPart v o) (h : Q o s) : wpAny (model prog w) A (Builtin.Slice.slicePartIndex v) Q E s := by
  cases p with
  | none => exact slicePart_none h
  | int i t => exact slicePart_int h
theorem sliceApplied_gen {sl : Addr} {vl vu : Value} {lo hi : Option Int} {n : Nat} {Q : Int × Int × Nat → Shared → Prop} (hs : s.heap.IsSliceOf sl vl vu .none) (pl : IsPart vl lo) (pu : IsPart vu hi)
    (h : Q (((sIx n 0 lo : Nat) : Int), 1, sIx n n hi - sIx n 0 lo) s) : wpAny (model prog w) A (Builtin.Slice.sliceApplied (.ref sl) (pure (n : Int))) Q E s := by
  obtain ⟨os, hos, hcs, hds⟩ := id hs
  unfold Builtin.Slice.sliceApplied Builtin.Slice.sliceFields
  refine wpAny_bind (wpAny_bind (wpAny_field hos hds (x := vl) rfl (wpAny_bind (wpAny_field hos hds (x := vu) rfl (wpAny_bind (wpAny_field hos hds (x := .none) rfl (wpAny_pure ?_)))))))
  refine wpAny_bind (slicePart_none ?_)
  show wpAny _ _ (if ((1 : Int) == 0) = true then _ else _) _ _ s
  rw [if_neg (by decide)]
  refine wpAny_bind (slicePart_ pl (wpAny_bind (slicePart_ pu (wpAny_bind (wpAny_pure ?_)))))
  show wpAny _ _ (match Builtin.Slice.sliceAdjust lo hi 1 (n : Int) with | (lo, hi) => pure (lo, (1 : Int), Builtin.Slice.slicePlaces lo hi 1)) _ _ s
  rw [adjust_gen lo hi n]
  show wpAny _ _ (pure (((sIx n 0 lo : Nat) : Int), (1 : Int), Builtin.Slice.slicePlaces ((sIx n 0 lo : Nat) : Int) ((sIx n n hi : Nat) : Int) 1)) _ _ s
  rw [places_gen]
  exact wpAny_pure h
theorem pick_gen (xs : Array Value) (i k : Nat) : ((List.range k).filterMap fun (m : Nat) => xs[((i : Int) + (m : Int) * 1).toNat]?).toArray = ((xs.toList.drop i).take k).toArray := by
  have e : (fun (m : Nat) => xs[((i : Int) + (m : Int) * 1).toNat]?) = fun m => xs[i + m]? := by
    funext m
    have : ((i : Int) + (m : Int) * 1).toNat = i + m := by omega
    rw [this]
  rw [e]
  have := pick_run xs i k
  rw [List.filterMap_map] at this
  have e2 : ((fun x => xs[x]?) ∘ fun x => i + x) = fun m => xs[i + m]? := rfl
  rw [e2] at this
  rw [this]

theorem getItem_tuple_cut {t sl : Addr} {items : Array Value} {vl vu : Value} {lo hi : Option Int} {Q : Value → Shared → Prop} (ht : IsTup s.heap t items) (hs : s.heap.IsSliceOf sl vl vu .none) (pl : IsPart vl lo) (pu : IsPart vu hi)
    (hw : ¬ (sIx items.size 0 lo = 0 ∧ sIx items.size items.size hi = items.size))
    (h : Q (.ref s.heap.objs.size) { s with heap := s.heap.push { cls := .type "tuple", data := .seq ((items.toList.drop (sIx items.size 0 lo)).take (sIx items.size items.size hi - sIx items.size 0 lo)).toArray } })
    (hsz : items.size ≤ sizeLine) : wpAny (model prog w) A (getItem (.ref t) (.ref sl)) Q E s := by
  have htake : sizeOk (.seq ((items.toList.drop (sIx items.size 0 lo)).take (sIx items.size items.size hi - sIx items.size 0 lo)).toArray) := by
    show ((items.toList.drop (sIx items.size 0 lo)).take (sIx items.size items.size hi - sIx items.size 0 lo)).toArray.size ≤ sizeLine
    rw [List.size_toArray, List.length_take, List.length_drop, Array.length_toList]
    omega
  have hj : sIx items.size items.size hi ≤ items.size := sIx_le _ _ (Nat.le_refl _) hi
  obtain ⟨os, hos, hcs, hds⟩ := id hs
  have hTs : s.TypeIs (.ref sl) "slice" := ⟨os, hos, hcs⟩
  unfold getItem
  try with_reducible refine wpAny_holding ?_
  first | refine wpAny_bind (wpAny_pure ?_) | skip
  refine wpAny_bind (wpAny_sequenceKey ht.typeIs (by decide) ?_)
  refine wpAny_bind (wpAny_callSpecial?_slot (name := Str.ofString "__getitem__") ht.typeIs PyProof.Rows.slot_tuple_getitem
    (wpAny_call_entry PyProof.Rows.slot_tuple_getitem ht.typeIs entry_tuple_getitem ?_ (args_tuple_getitem _ _)))
  show wpAny _ _ (Builtin.Tuple.tupleItemsOf (.ref t) >>= _) _ _ s
  refine wpAny_bind (tupleItemsOf_ ht ?_)
  refine wpAny_bind (wpAny_typeOf hTs ?_)
  rw [if_pos (by decide)]
  refine wpAny_bind (sliceApplied_gen hs pl pu ?_)
  have hno : ¬ ((((sIx items.size 0 lo : Nat) : Int) == 0 && (1 : Int) == 1 && (sIx items.size items.size hi - sIx items.size 0 lo) == items.size) = true) := by
    intro q
    rw [Bool.and_eq_true, Bool.and_eq_true] at q
    have q1 : ((sIx items.size 0 lo : Nat) : Int) = 0 := eq_of_beq q.1.1
    have q2 : sIx items.size items.size hi - sIx items.size 0 lo = items.size := eq_of_beq q.2
    exact hw ⟨by omega, by omega⟩
  show wpAny _ _ (if (((sIx items.size 0 lo : Nat) : Int) == 0 && (1 : Int) == 1 && (sIx items.size items.size hi - sIx items.size 0 lo) == items.size) = true then _ else _) _ _ s
  rw [if_neg hno, pick_gen]
  first
    | exact wpAny_bind (m := Builtin.Tuple.tupleExact _) (wpAny_newObj_type (wpAny_pure ⟨_, rfl, wpAny_pure h⟩) htake)
    | exact wpAny_bind (m := Builtin.Tuple.tupleExact _) (wpAny_newObj_type (wpAny_bind (wpAny_pure (wpAny_pure ⟨_, rfl, wpAny_pure h⟩))) htake)
    | exact wpAny_bind (wpAny_bind (m := Builtin.Tuple.tupleExact _) (wpAny_newObj_type (wpAny_pure (wpAny_pure ⟨_, rfl, wpAny_pure h⟩)) htake))
    | exact wpAny_bind (wpAny_bind (m := Builtin.Tuple.tupleExact _) (wpAny_newObj_type (wpAny_pure ⟨_, rfl, wpAny_pure h⟩) htake))
end
end HT

namespace L2
open PySem PySem.Spec PyProof.Rows

/-! ### the parts of a slice -/
abbrev TO := St → Hp → (Option Int → Hp → Prop) → Prop
/-- a slice's part (left out, or an int) -/
def PO (X : Cx) (e : Option Expr) (t : TO) : Prop :=
  ∀ (pins : List (Addr × Obj)) (s : Shared) (σ : St) (H : Hp) (Q : Option Int → Hp → Prop), Inv X pins σ H s → t σ H Q →
    wpAny (model X.prog X.w) X.A (evalPart e X.env) (fun u s' => ∃ o H', Inv X pins σ H' s' ∧ IsPart u o ∧ Q o H') X.xe s
def tNoPart : TO := fun _ H Q => Q none H
def tPart (t : TE) : TO := fun σ H Q => t σ H fun x H1 => ∃ i, x = .int i ∧ Q (some i) H1

theorem intsAre_of {ns : List Int} : ∀ {us : List Value}, Vals (ns.map V.int) us → IntsAre us ns := by
  induction ns with
  | nil => intro us r; rw [List.map_nil] at r; cases r; exact .nil
  | cons n ns ih =>
    intro us r
    rw [List.map_cons] at r
    cases r with
    | cons r1 r2 =>
      obtain ⟨t, e⟩ := r1
      subst e
      exact .cons n t (ih r2)

section
variable {X : Cx} {e : Expr} {te : TE} {lo hi : Option Expr} {tl th : TO} {pos p2 : Pos}

theorem po_none : PO X none tNoPart := by
  intro pins s σ H Q I h
  rw [evalPart_none]
  exact wpAny_pure ⟨none, H, I, .none, h⟩
theorem po_some (h : PE X e te) : PO X (some e) (tPart te) := by
  intro pins s σ H Q I hw
  rw [evalPart_some]
  refine thn (h pins s σ H _ I hw) fun u s1 ⟨x, H1, I1, r1, q1⟩ => ?_
  obtain ⟨i, rfl, q⟩ := q1
  obtain ⟨t, rfl⟩ := r1
  exact ⟨some i, H1, I1, .int i t, q⟩

/-- what a slice of a value is, by values: the slice object stands at sl -/
def SlR (X : Cx) (r : V → Option Int → Option Int → Hp → VK → Prop) : Prop :=
  ∀ (pins : List (Addr × Obj)) (s : Shared) (σ : St) (H : Hp) (x : V) (v vl vu : Value) (lo hi : Option Int) (sl : Addr) (Q : VK), Inv X pins σ H s → RelV x v → s.heap.IsSliceOf sl vl vu .none → IsPart vl lo → IsPart vu hi → r x lo hi H Q →
    ∃ T id, typeLookup (.type T) "__getitem__" = pure (some (.builtin id)) ∧ s.TypeIs v T ∧ wpAny (model X.prog X.w) X.A (getItem v (.ref sl)) (EP X pins σ Q) X.xe s
theorem SlR.or {r r' : V → Option Int → Option Int → Hp → VK → Prop} (h : SlR X r) (h' : SlR X r') : SlR X (fun x lo hi H Q => r x lo hi H Q ∨ r' x lo hi H Q) := by
  intro pins s σ H x v vl vu lo hi sl Q I rx hs pl pu q
  rcases q with q | q
  · exact h pins s σ H x v vl vu lo hi sl Q I rx hs pl pu q
  · exact h' pins s σ H x v vl vu lo hi sl Q I rx hs pl pu q
def tSl (r : V → Option Int → Option Int → Hp → VK → Prop) (te : TE) (tl th : TO) : TE := fun σ H Q => te σ H fun x H1 => tl σ H1 fun l H2 => th σ H2 fun u H3 => r x l u H3 Q
/-- a[lo:hi], any a -/
theorem pe_slice {r : V → Option Int → Option Int → Hp → VK → Prop} (hr : SlR X r) (he : PE X e te) (hl : PO X lo tl) (hu : PO X hi th) : PE X (.Subscript e (.Slice lo hi none p2) pos) (tSl r te tl th) := by
  intro pins s σ H Q I h
  refine Subscript_ (thn (he pins s σ H _ I h) fun v s1 ⟨x, H1, I1, r1, q1⟩ => ?_)
  refine wpAny_Slice (thn (hl pins s1 σ H1 _ I1 q1) fun vl s2 ⟨l, H2, I2, pl, q2⟩ => thn (hu pins s2 σ H2 _ I2 q2) fun vu s3 ⟨u, H3, I3, pu, q3⟩ => ?_)
  rw [evalPart_none]
  refine wpAny_pure ?_
  have I4 : Inv X pins σ H3 { s3 with heap := s3.heap.push { cls := .type "slice", data := .fields #[vl, vu, .none] } } := I3.kept (t' := s3.toks) fun b ob q => Heap.get?_push_of_some _ q
  obtain ⟨T, id, hT, ht, hg⟩ := hr pins { s3 with heap := s3.heap.push { cls := .type "slice", data := .fields #[vl, vu, .none] } } σ H3 x v vl vu l u s3.heap.objs.size Q I4 r1 (Heap.IsSliceOf.new ..) pl pu q3
  show wpAny (model X.prog X.w) X.A (subscriptTail e (.Slice lo hi none p2) v (.ref s3.heap.objs.size)) (EP X pins σ Q) X.xe { s3 with heap := s3.heap.push { cls := .type "slice", data := .fields #[vl, vu, .none] } }
  exact tail_any (ops := [.ref s3.heap.objs.size, v]) ht hT hg (by with_unfolding_all rfl)

/-- the items of xs[lo:hi] -/
def cutV (xs : List V) (lo hi : Option Int) : List V := (xs.drop (HT.sIx xs.length 0 lo)).take (HT.sIx xs.length xs.length hi - HT.sIx xs.length 0 lo)
theorem cutV_length (xs : List V) (lo hi : Option Int) : (cutV xs lo hi).length ≤ xs.length := by
  unfold cutV
  rw [List.length_take, List.length_drop]
  omega
/-- t[lo:hi], not the whole of it (the whole would be t itself) -/
def rSlT (K : PySem.W.Frag) : V → Option Int → Option Int → Hp → VK → Prop := fun x lo hi H Q => ∃ a xs, x = .ref a ∧ SqT K H a xs ∧
  ¬ (HT.sIx xs.length 0 lo = 0 ∧ HT.sIx xs.length xs.length hi = xs.length) ∧ ∀ p, H p = none → Q (.ref p) (upd H p (.tup (cutV xs lo hi)))
theorem sl_tup : SlR X (rSlT X.K) := by
  intro pins s σ H x v vl vu lo hi sl Q I rx hs pl pu h
  obtain ⟨a, xs, rfl, hx, hw, q⟩ := h
  cases rx
  obtain ⟨its, r, ht, hz⟩ := I.tuple hx
  have hlen : its.toArray.size = xs.length := by rw [List.size_toArray]; exact r.length.symm
  refine ⟨"tuple", _, PyProof.Rows.slot_tuple_getitem.lookup, ht.typeIs, ?_⟩
  refine HT.getItem_tuple_cut ht hs pl pu (by rw [hlen]; exact hw) ?_ (by rw [hlen]; exact hz)
  rw [hlen]
  refine ⟨.ref s.heap.objs.size, _, I.laid (t' := s.toks) (o := .tup (cutV xs lo hi)) (fun b ob q => Heap.get?_push_of_some _ q) (Nat.le_refl _) ?_, rfl, q _ (I.hok.fresh (Nat.le_refl _))⟩
  exact ⟨Nat.le_trans (cutV_length xs lo hi) hz, _, (r.drop (HT.sIx xs.length 0 lo)).take (HT.sIx xs.length xs.length hi - HT.sIx xs.length 0 lo), IsTup.new _ _⟩

/-! ### t < u, t + u -/
def rLtT (K : PySem.W.Frag) : R2 := fun x y H Q => ∃ a b ns ms, x = .ref a ∧ y = .ref b ∧ SqT K H a (ns.map V.int) ∧ SqT K H b (ms.map V.int) ∧ Q (.bl (HT.lexLt ns ms)) H
theorem op_ltT (hu : X.A.units < cLine) : OpR X (compareOp .Lt) (rLtT X.K) := by
  intro pins s σ H x y v u Q I rx ry h
  obtain ⟨a, b, ns, ms, rfl, rfl, ha, hb, q⟩ := h
  cases rx
  cases ry
  obtain ⟨its, r1, p1, _⟩ := I.tuple ha
  obtain ⟨its2, r2, p2, _⟩ := I.tuple hb
  have i1 : IntsAre its.toArray.toList ns := intsAre_of r1
  have i2 : IntsAre its2.toArray.toList ms := intsAre_of r2
  exact HT.lt_tupInts p1 p2 i1 i2 hu ⟨.bl (HT.lexLt ns ms), H, I, rfl, q⟩
/-- t + u, t not empty: u empty gives t itself -/
def rCatT (K : PySem.W.Frag) : R2 := fun x y H Q => ∃ a b xs ys, x = .ref a ∧ y = .ref b ∧ SqT K H a xs ∧ SqT K H b ys ∧ xs ≠ [] ∧ xs.length + ys.length ≤ sizeLine ∧
  (ys = [] → Q (.ref a) H) ∧ (ys ≠ [] → ∀ p, H p = none → Q (.ref p) (upd H p (.tup (xs ++ ys))))
theorem Vals.nil_iff {xs : List V} {us : List Value} (r : Vals xs us) : us = [] ↔ xs = [] := by
  cases r with
  | nil => simp
  | cons _ _ => simp
theorem op_catT : OpR X (binaryOp .Add) (rCatT X.K) := by
  intro pins s σ H x y v u Q I rx ry h
  obtain ⟨a, b, xs, ys, rfl, rfl, ha, hb, hx, hz, q1, q2⟩ := h
  cases rx
  cases ry
  obtain ⟨its, r1, p1, _⟩ := I.tuple ha
  obtain ⟨its2, r2, p2, _⟩ := I.tuple hb
  refine HT.cat_tup p1 p2 (fun z => hx (r1.nil_iff.mp z)) (fun z => ⟨.ref a, H, I, rfl, q1 (r2.nil_iff.mp z)⟩) (fun z => ?_) (by rw [← r1.length, ← r2.length]; exact hz)
  refine ⟨.ref s.heap.objs.size, _, I.laid (t' := s.toks) (o := .tup (xs ++ ys)) (fun b ob q => Heap.get?_push_of_some _ q) (Nat.le_refl _) ?_, rfl, q2 (fun w => z (r2.nil_iff.mpr w)) _ (I.hok.fresh (Nat.le_refl _))⟩
  exact ⟨by rw [List.length_append]; exact hz, _, r1.append r2, IsTup.new _ _⟩
/-- tuple(t) -/
theorem call_tupleT : CallR X (.type "tuple") (fun xs H Q => ∃ a ys, xs = [.ref a] ∧ SqT X.K H a ys ∧ Q (.ref a) H) := by
  intro pins s σ H xs us Q I r h
  obtain ⟨a, ys, rfl, ha, q⟩ := h
  obtain ⟨u, rfl, ru⟩ := vals1 r
  cases ru
  obtain ⟨its, _, p1, _⟩ := I.tuple ha
  exact call_tuple_same (items := its.toArray) p1 ⟨.ref a, H, I, rfl, q⟩
end
end L2

namespace L2
open PySem PySem.Spec PyProof.Rows

/-! ### places -/
/-- the place that an index of any sign means -/
def ixN (n : Nat) (i : Int) : Option Nat := if 0 ≤ i then (if i < n then some i.toNat else none) else if -(n : Int) ≤ i then some (i + n).toNat else none
def atI {α : Type} (xs : List α) (i : Int) : Option α := (ixN xs.length i).bind fun j => xs[j]?
theorem ixN_seq {n : Nat} {i : Int} {j : Nat} (h : ixN n i = some j) : seqIndex? i n = some j ∧ j < n ∧ -(n : Int) ≤ i ∧ i < n := by
  unfold ixN at h
  by_cases h0 : 0 ≤ i
  · rw [if_pos h0] at h
    by_cases h1 : i < n
    · rw [if_pos h1] at h
      have e : i.toNat = j := Option.some.inj h
      exact ⟨by rw [seqIndex_of h0 h1, e], by omega, by omega, h1⟩
    · rw [if_neg h1] at h; cases h
  · rw [if_neg h0] at h
    by_cases h1 : -(n : Int) ≤ i
    · rw [if_pos h1] at h
      have e : (i + n).toNat = j := Option.some.inj h
      exact ⟨by rw [seqIndex_neg (by omega) h1, e], by omega, h1, by omega⟩
    · rw [if_neg h1] at h; cases h
theorem atI_get {α : Type} {xs : List α} {i : Int} {v : α} (h : atI xs i = some v) : ∃ j, seqIndex? i xs.length = some j ∧ xs[j]? = some v ∧ j < xs.length ∧ -(xs.length : Int) ≤ i ∧ i < xs.length := by
  unfold atI at h
  cases e : ixN xs.length i with
  | none => rw [e] at h; cases h
  | some j =>
    rw [e] at h
    obtain ⟨h1, h2, h3, h4⟩ := ixN_seq e
    exact ⟨j, h1, h, h2, h3, h4⟩
theorem atI_nat {α : Type} {xs : List α} {j : Nat} {v : α} (h : xs[j]? = some v) : atI xs (j : Int) = some v := by
  have hj : j < xs.length := (List.getElem?_eq_some_iff.mp h).1
  have e : ixN xs.length (j : Int) = some j := by
    unfold ixN
    rw [if_pos (by omega), if_pos (by omega)]; simp
  unfold atI; rw [e]; exact h
theorem atI_last {α : Type} (xs : List α) (v : α) : atI (xs ++ [v]) (-1) = some v := by
  have hl : (xs ++ [v]).length = xs.length + 1 := by simp
  have e : ixN (xs ++ [v]).length (-1) = some xs.length := by
    unfold ixN
    rw [hl, if_neg (by decide), if_pos (by omega)]
    congr 1
    omega
  unfold atI
  rw [e]
  show (xs ++ [v])[xs.length]? = some v
  simp

/-! ### what may be subscripted -/
/-- what stands as an index of a plain subscript -/
def PlainIx (b : Expr) : Prop := ∀ o i, subscripted b false o i = operate [o, i] (getItem o i)
/-- a subscript by values -/
def IxR (X : Cx) (r : R2) : Prop :=
  ∀ (value slice : Expr) (pins : List (Addr × Obj)) (s : Shared) (σ : St) (H : Hp) (x y : V) (v u : Value) (Q : VK), Inv X pins σ H s → RelV x v → RelV y u → r x y H Q →
    subscripted slice false v u = operate [v, u] (getItem v u) → wpAny (model X.prog X.w) X.A (subscriptTail value slice v u) (EP X pins σ Q) X.xe s
/-- a call of a builtin's method by values: the receiver, the arguments -/
def MtR (X : Cx) (id : String) (r : V → List V → Hp → VK → Prop) : Prop :=
  ∀ (pins : List (Addr × Obj)) (s : Shared) (σ : St) (H : Hp) (x : V) (xs : List V) (v : Value) (us : List Value) (Q : VK), Inv X pins σ H s → RelV x v → Vals xs us → r x xs H Q →
    wpAny (model X.prog X.w) X.A (call (.builtin id) (v :: us)) (EP X pins σ Q) X.xe s
section
variable {X : Cx} {a b : Expr} {ta tb : TE} {pos : Pos}
theorem IxR.or {r r' : R2} (h : IxR X r) (h' : IxR X r') : IxR X (fun x y H Q => r x y H Q ∨ r' x y H Q) := by
  intro value slice pins s σ H x y v u Q I rx ry q hs
  rcases q with q | q
  · exact h value slice pins s σ H x y v u Q I rx ry q hs
  · exact h' value slice pins s σ H x y v u Q I rx ry q hs
theorem MtR.or {id : String} {r r' : V → List V → Hp → VK → Prop} (h : MtR X id r) (h' : MtR X id r') : MtR X id (fun x xs H Q => r x xs H Q ∨ r' x xs H Q) := by
  intro pins s σ H x xs v us Q I rx rs q
  rcases q with q | q
  · exact h pins s σ H x xs v us Q I rx rs q
  · exact h' pins s σ H x xs v us Q I rx rs q
/-- a[b] -/
theorem pe_ix {r : R2} (hr : IxR X r) (ha : PE X a ta) (hb : PE X b tb) (hs : PlainIx b) : PE X (.Subscript a b pos) (tOp r ta tb) := by
  intro pins s σ H Q I h
  exact Subscript_ (binT ha hb I h fun v u s2 x y H2 I2 rx ry q => hr a b pins s2 σ H2 x y v u Q I2 rx ry q (hs _ _))

def rIxL (K : PySem.W.Frag) : R2 := fun x y H Q => ∃ p xs i v, x = .ref p ∧ y = .int i ∧ SqL K H p xs ∧ atI xs i = some v ∧ Q v H
def rIxT (K : PySem.W.Frag) : R2 := fun x y H Q => ∃ p xs i v, x = .ref p ∧ y = .int i ∧ SqT K H p xs ∧ atI xs i = some v ∧ Q v H
def rIxS : R2 := fun x y H Q => ∃ z i c, x = .str z ∧ y = .int i ∧ z.length ≤ sizeLine ∧ atI z.cps.toList i = some c ∧ Q (.str ⟨#[c]⟩) H
theorem ix_list : IxR X (rIxL X.K) := by
  intro value slice pins s σ H x y v u Q I rx ry h hs
  obtain ⟨p, xs, i, z, rfl, rfl, hq, he, q⟩ := h
  cases rx
  obtain ⟨t, rfl⟩ := ry
  obtain ⟨its, r, pl, hz⟩ := I.list hq
  obtain ⟨j, h1, h2, h3, h4, h5⟩ := atI_get he
  obtain ⟨w, ew, rw'⟩ := r.get h2
  have hl := r.length
  have hn := line63
  have fin : EP X pins σ Q w s := ⟨z, H, I, rw', q⟩
  by_cases h0 : 0 ≤ i
  · have hj : i.toNat = j := by
      rw [seqIndex_of h0 h5] at h1
      exact Option.some.inj h1
    exact item_listR pl.isList h0 (by omega) (by rw [hj]; simpa using ew) fin hs
  · have hj : (i + (its.toArray.size : Int)).toNat = j := by
      rw [seqIndex_neg (by omega) h4] at h1
      rw [List.size_toArray, ← hl]
      exact Option.some.inj h1
    exact subscriptTail_builtinR (x := w) pl.isList.typeIs slot_list_getitem.lookup
      (wpAny_getItem_list_neg (Q := fun r s' => r = w ∧ EP X pins σ Q r s') pl.isList (by omega) (by rw [List.size_toArray] <;> omega) (by omega) (by rw [hj]; simpa using ew) ⟨rfl, fin⟩) hs
theorem ix_tup : IxR X (rIxT X.K) := by
  intro value slice pins s σ H x y v u Q I rx ry h hs
  obtain ⟨p, xs, i, z, rfl, rfl, hq, he, q⟩ := h
  cases rx
  obtain ⟨t, rfl⟩ := ry
  obtain ⟨its, r, pl, hz⟩ := I.tuple hq
  obtain ⟨j, h1, h2, h3, h4, h5⟩ := atI_get he
  obtain ⟨w, ew, rw'⟩ := r.get h2
  have hl := r.length
  have hn := line63
  have fin : EP X pins σ Q w s := ⟨z, H, I, rw', q⟩
  exact subscriptTail_builtinR (x := w) pl.typeIs slot_tuple_getitem.lookup
    (getItem_tuple (j := j) (Q := fun r s' => r = w ∧ EP X pins σ Q r s') pl (by omega) (by omega) (by rw [List.size_toArray, ← hl]; exact h1) (by simpa using ew) ⟨rfl, fin⟩) hs
theorem ix_str : IxR X rIxS := by
  intro value slice pins s σ H x y v u Q I rx ry h hs
  obtain ⟨z, i, c, rfl, rfl, hz, he, q⟩ := h
  obtain ⟨t, rfl⟩ := rx
  obtain ⟨t', rfl⟩ := ry
  obtain ⟨j, h1, h2, h3, h4, h5⟩ := atI_get he
  have hl : z.cps.toList.length = z.length := by simp [Str.length]
  rw [hl] at h1 h4 h5
  have hn := line63
  exact tail_any (typeIs_str s z t) slot_str_getitem.lookup (getItem_str (c := c) (by
    have e1 : decide (i < -(2 ^ 63 : Int)) = false := decide_eq_false (by omega)
    have e2 : decide (i ≥ 2 ^ 63) = false := decide_eq_false (by omega)
    rw [e1, e2, Bool.or_false]) (by rw [h1]; simpa using h2) ⟨.str ⟨#[c]⟩, H, I.tok _, ⟨_, rfl⟩, q⟩) hs
/-- list, tuple or str -/
def rIx (K : PySem.W.Frag) : R2 := fun x y H Q => rIxL K x y H Q ∨ rIxT K x y H Q ∨ rIxS x y H Q
theorem ix_seq : IxR X (rIx X.K) := ix_list.or (ix_tup.or ix_str)

/-! ### xs[i] = v, any sign -/
/-- the list's object behind a store -/
theorem mapSeq_set (its : List Value) (n j : Nat) (u : Value) : Obj.mapSeq (·.setIfInBounds j u) { cls := .type "list", data := .seq its.toArray n } = { cls := .type "list", data := .seq (its.set j u).toArray n } := by
  simp [Obj.mapSeq]
theorem Inv.lst {pins : List (Addr × Obj)} {σ : St} {H : Hp} {s : Shared} {p : Addr} {xs : List V} (I : Inv X pins σ H s) (h : H p = some (.lst xs)) :
    ∃ (its : List Value) (n : Nat), Vals xs its ∧ s.heap.get? p = some { cls := .type "list", data := .seq its.toArray n } ∧ xs.length ≤ sizeLine := by
  obtain ⟨z, its, n, r, e⟩ := I.hok p _ h
  exact ⟨its, n, r, e, z⟩
/-- the list at p is written by an update of its object -/
theorem Inv.lstUpd {pins : List (Addr × Obj)} {σ : St} {H : Hp} {s : Shared} {p : Addr} {xs ys : List V} {its its' : List Value} {n n' : Nat} {f : Obj → Obj} (I : Inv X pins σ H s) (h : H p = some (.lst xs))
    (ho : s.heap.get? p = some { cls := .type "list", data := .seq its.toArray n }) (hf : f { cls := .type "list", data := .seq its.toArray n } = { cls := .type "list", data := .seq its'.toArray n' }) (r : Vals ys its') (hz : ys.length ≤ sizeLine) (t : Nat) :
    Inv X pins σ (upd H p (.lst ys)) { s with heap := s.heap.update p f, toks := t } := by
  have e : (s.heap.update p f).get? p = some { cls := .type "list", data := .seq its'.toArray n' } := by
    rw [Heap.get?_update_self f ho (by rw [hf] <;> rfl), hf]
  refine I.write (x := p) (e := p) (by rw [h]; trivial) (.inl rfl) (fun b u hb q => (Heap.get?_update_other _ _ (Ne.symm hb)).trans q) ⟨_, e⟩ ?_
  exact ⟨hz, its', n', r, e⟩
def rSetL : V → V → V → Hp → (Hp → Prop) → Prop := fun o i v H Q => ∃ p xs k j, o = .ref p ∧ i = .int k ∧ H p = some (.lst xs) ∧ ixN xs.length k = some j ∧ Q (upd H p (.lst (xs.set j v)))
theorem set_list : PSet X rSetL := by
  intro pins s σ H o i v ov iv u Q I ro ri rv h
  obtain ⟨p, xs, k, j, rfl, rfl, hp, hj, q⟩ := h
  cases ro
  obtain ⟨t, rfl⟩ := ri
  obtain ⟨its, n, r, ho, hz⟩ := I.lst hp
  obtain ⟨h1, h2, h3, h4⟩ := ixN_seq hj
  have hl := r.length
  have hn := line63
  have I' : Inv X pins σ (upd H p (.lst (xs.set j v))) { s with heap := s.heap.update p (Obj.mapSeq (·.setIfInBounds j u)) } :=
    I.lstUpd hp ho (mapSeq_set its n j u) (r.set rv j) (by rw [List.length_set]; exact hz) s.toks
  by_cases h0 : 0 ≤ k
  · have hk : k.toNat = j := by
      rw [seqIndex_of h0 h4] at h1
      exact Option.some.inj h1
    exact PySem.W.ki_setAt ho h0 (by omega) (by rw [List.size_toArray, ← hl]; exact h4) (by rw [hk]; exact ⟨_, I', q⟩)
  · have hk : (k + (its.toArray.size : Int)).toNat = j := by
      rw [seqIndex_neg (by omega) h3] at h1
      rw [List.size_toArray, ← hl]
      exact Option.some.inj h1
    exact PySem.W.ki_setBack ho (by omega) (by rw [List.size_toArray, ← hl]; exact h3) (by omega) (by rw [hk]; exact ⟨_, I', q⟩)

/-! ### slices -/
theorem slice_bounds (lo hi : Option Int) (n : Nat) : (sliceBounds lo hi none n).1 = ((HT.sIx n 0 lo : Nat) : Int) ∧ (sliceBounds lo hi none n).2.1 = ((HT.sIx n n hi : Nat) : Int) ∧ (sliceBounds lo hi none n).2.2 = 1 := by
  refine ⟨?_, ?_, rfl⟩
  · cases lo with
    | none => simp [sliceBounds, HT.sIx]
    | some i =>
      simp only [sliceBounds, HT.sIx, Option.getD_none, show (1 : Int) > 0 by decide, if_true]
      by_cases h : i < 0
      · simp only [h, if_true] <;> omega
      · simp only [h, if_false] <;> omega
  · cases hi with
    | none => simp [sliceBounds, HT.sIx]
    | some i =>
      simp only [sliceBounds, HT.sIx, Option.getD_none, show (1 : Int) > 0 by decide, if_true]
      by_cases h : i < 0
      · simp only [h, if_true] <;> omega
      · simp only [h, if_false] <;> omega
theorem slicePick_cut (its : List Value) (lo hi : Option Int) : slicePick its.toArray lo hi none = ((its.drop (HT.sIx its.length 0 lo)).take (HT.sIx its.length its.length hi - HT.sIx its.length 0 lo)).toArray := by
  obtain ⟨h1, h2, h3⟩ := slice_bounds lo hi its.toArray.size
  unfold slicePick
  rw [h1, h2, h3]
  simp only [sliceRange_one, pick_run, List.size_toArray] <;> rfl
/-- xs[lo:hi] of a list: a new list -/
def rSlL (K : PySem.W.Frag) : V → Option Int → Option Int → Hp → VK → Prop := fun x lo hi H Q => ∃ a xs, x = .ref a ∧ SqL K H a xs ∧ ∀ p, H p = none → Q (.ref p) (upd H p (.lst (cutV xs lo hi)))
theorem sl_list : SlR X (rSlL X.K) := by
  intro pins s σ H x v vl vu lo hi sl Q I rx hs pl pu h
  obtain ⟨a, xs, rfl, hx, q⟩ := h
  cases rx
  obtain ⟨its, r, ht, hz⟩ := I.list hx
  have hlen := r.length
  refine ⟨"list", _, slot_list_getitem.lookup, ht.isList.typeIs, ?_⟩
  refine wpAny_getItem_list_slice ht.isList hs pl pu .none (by simp) ?_ (by rw [List.size_toArray] <;> omega)
  rw [slicePick_cut, ← hlen]
  refine ⟨.ref s.heap.objs.size, _, I.laid (t' := s.toks) (o := .lst (cutV xs lo hi)) (fun b ob q => Heap.get?_push_of_some _ q) (Nat.le_refl _) ?_, rfl, q _ (I.hok.fresh (Nat.le_refl _))⟩
  exact ⟨Nat.le_trans (cutV_length xs lo hi) hz, _, 0, (r.drop (HT.sIx xs.length 0 lo)).take (HT.sIx xs.length xs.length hi - HT.sIx xs.length 0 lo), Heap.get?_push_size _ rfl⟩

/-! ### in, not in: flat items -/
def flatV : V → Bool
  | .non => true
  | .bl _ => true
  | .int _ => true
  | .str _ => true
  | _ => false
/-- == of flat values -/
def eqV : V → V → Bool
  | .non, .non => true
  | .bl a, .bl b => a == b
  | .bl a, .int b => (if a then 1 else 0) == b
  | .int a, .bl b => a == (if b then 1 else 0)
  | .int a, .int b => a == b
  | .str a, .str b => a == b
  | _, _ => false
theorem eqAt_V {A : Around} {s : Shared} {y x : V} {u v : Value} (ry : RelV y u) (rx : RelV x v) (fy : flatV y = true) (fx : flatV x = true) : SeqAt.EqAt A s u v (eqV y x) := by
  cases y with
  | non =>
    cases ry
    cases x with
    | non => cases rx; exact SeqAt.EqAt.same _
    | bl b => cases rx; exact SeqAt.EqAt.none_bool b
    | int b => obtain ⟨t, rfl⟩ := rx; exact SeqAt.EqAt.none_int b t
    | str b => obtain ⟨t, rfl⟩ := rx; exact SeqAt.EqAt.none_str b t
    | _ => exact absurd (show false = true from fx) Bool.false_ne_true
  | bl a =>
    cases ry
    cases x with
    | non => cases rx; exact SeqAt.EqAt.bool_none a
    | bl b => cases rx; exact SeqAt.EqAt.bool_bool a b
    | int b => obtain ⟨t, rfl⟩ := rx; exact SeqAt.EqAt.bool_int a b t
    | str b => obtain ⟨t, rfl⟩ := rx; exact SeqAt.EqAt.bool_str a b t
    | _ => exact absurd (show false = true from fx) Bool.false_ne_true
  | int a =>
    obtain ⟨t', rfl⟩ := ry
    cases x with
    | non => cases rx; exact SeqAt.EqAt.int_none a t'
    | bl b => cases rx; exact SeqAt.EqAt.int_bool a t' b
    | int b => obtain ⟨t, rfl⟩ := rx; exact SeqAt.EqAt.int_int a t' b t
    | str b => obtain ⟨t, rfl⟩ := rx; exact SeqAt.EqAt.int_str a t' b t
    | _ => exact absurd (show false = true from fx) Bool.false_ne_true
  | str a =>
    obtain ⟨t', rfl⟩ := ry
    cases x with
    | non => cases rx; exact SeqAt.EqAt.str_none a t'
    | bl b => cases rx; exact SeqAt.EqAt.str_bool a t' b
    | int b => obtain ⟨t, rfl⟩ := rx; exact SeqAt.EqAt.str_int a t' b t
    | str b => obtain ⟨t, rfl⟩ := rx; exact SeqAt.EqAt.str_str a t' b t
    | _ => exact absurd (show false = true from fx) Bool.false_ne_true
  | _ => exact absurd (show false = true from fy) Bool.false_ne_true
/-- the items' answers, read off the values (a value's own answer does not lean on its token) -/
def eqU (x : V) (u : Value) : Bool := match u with
  | .none => eqV .non x
  | .bool b => eqV (.bl b) x
  | .int i _ => eqV (.int i) x
  | .str z _ => eqV (.str z) x
  | _ => false
theorem eqU_of {x y : V} {u : Value} (r : RelV y u) (f : flatV y = true) : eqU x u = eqV y x := by
  cases y with
  | non => cases r; rfl
  | bl b => cases r; rfl
  | int i => obtain ⟨t, rfl⟩ := r; rfl
  | str z => obtain ⟨t, rfl⟩ := r; rfl
  | _ => exact absurd (show false = true from f) Bool.false_ne_true
theorem any_eqU {x : V} : ∀ {xs : List V} {us : List Value}, Vals xs us → xs.all flatV = true → us.any (eqU x) = xs.any fun y => eqV y x
  | _, _, .nil, _ => rfl
  | y :: xs, u :: us, .cons r t, f => by
    rw [List.all_cons, Bool.and_eq_true] at f
    rw [List.any_cons, List.any_cons, eqU_of r f.1, any_eqU t f.2]
theorem mem_eqAt {A : Around} {s : Shared} {x : V} {v : Value} (rx : RelV x v) (fx : flatV x = true) : ∀ {xs : List V} {us : List Value}, Vals xs us → xs.all flatV = true → ∀ u ∈ us, SeqAt.EqAt A s u v (eqU x u)
  | _, _, .nil, _ => fun u hu => by cases hu
  | y :: xs, u :: us, .cons r t, f => fun u' hu => by
    rw [List.all_cons, Bool.and_eq_true] at f
    rcases List.mem_cons.mp hu with rfl | hu
    · rw [eqU_of r f.1]; exact eqAt_V r rx f.1 fx
    · exact mem_eqAt rx fx t f.2 u' hu
def inV (x : V) (xs : List V) : Bool := xs.any fun y => eqV y x
/-- x in a list or tuple of flat items -/
def rIn (K : PySem.W.Frag) (neg : Bool) : R2 := fun x y H Q => ∃ p xs, y = .ref p ∧ (SqL K H p xs ∨ SqT K H p xs) ∧ flatV x = true ∧ xs.all flatV = true ∧ Q (.bl (if neg then !inV x xs else inV x xs)) H
theorem op_in_seq : OpR X (compareOp .In) (rIn X.K false) := by
  intro pins s σ H x y v u Q I rx ry h
  obtain ⟨p, xs, rfl, hq, fx, fs, q⟩ := h
  cases ry
  rcases hq with hq | hq
  · obtain ⟨its, r, pl, hz⟩ := I.list hq
    refine SeqAt.in_listAt (eqU x) pl.isList (fun w hw => mem_eqAt rx fx r fs w (by simpa using hw)) ⟨.bl _, H, I, rfl, ?_⟩
    rw [show its.toArray.any (eqU x) = its.any (eqU x) by simp, any_eqU r fs]
    exact q
  · obtain ⟨its, r, pl, hz⟩ := I.tuple hq
    refine SeqAt.in_tupleAt (eqU x) pl (fun w hw => mem_eqAt rx fx r fs w (by simpa using hw)) ⟨.bl _, H, I, rfl, ?_⟩
    rw [show its.toArray.any (eqU x) = its.any (eqU x) by simp, any_eqU r fs]
    exact q
theorem op_notIn_seq : OpR X (compareOp .NotIn) (rIn X.K true) := by
  intro pins s σ H x y v u Q I rx ry h
  obtain ⟨p, xs, rfl, hq, fx, fs, q⟩ := h
  cases ry
  rcases hq with hq | hq
  · obtain ⟨its, r, pl, hz⟩ := I.list hq
    refine SeqAt.notIn_listAt (eqU x) pl.isList (fun w hw => mem_eqAt rx fx r fs w (by simpa using hw)) ⟨.bl _, H, I, rfl, ?_⟩
    rw [show its.toArray.any (eqU x) = its.any (eqU x) by simp, any_eqU r fs]
    exact q
  · obtain ⟨its, r, pl, hz⟩ := I.tuple hq
    refine SeqAt.notIn_tupleAt (eqU x) pl (fun w hw => mem_eqAt rx fx r fs w (by simpa using hw)) ⟨.bl _, H, I, rfl, ?_⟩
    rw [show its.toArray.any (eqU x) = its.any (eqU x) by simp, any_eqU r fs]
    exact q
theorem op_notIn_str : OpR X (compareOp .NotIn) (fun x y H Q => ∃ i j, x = .str i ∧ y = .str j ∧ Q (.bl (!(!(Builtin.Str.occurrences j i 0 j.length 1).isEmpty))) H) := by
  intro pins s σ H x y v u Q I rx ry h
  obtain ⟨i, j, rfl, rfl, q⟩ := h
  obtain ⟨t, rfl⟩ := rx
  obtain ⟨t', rfl⟩ := ry
  exact notIn_str ⟨.bl _, H, I, rfl, q⟩

/-! ### len, list(x), tuple(x) of any list or tuple that is read -/
theorem call_len_seq : CallR X (.builtin "len") (fun xs H Q => ∃ p ys, xs = [.ref p] ∧ (SqL X.K H p ys ∨ SqT X.K H p ys) ∧ Q (.int ys.length) H) := by
  intro pins s σ H xs us Q I r h
  obtain ⟨p, ys, rfl, hq, q⟩ := h
  obtain ⟨u, rfl, rx⟩ := vals1 r
  cases rx
  have hn := line63
  rcases hq with hq | hq
  · obtain ⟨its, r', pl, hz⟩ := I.list hq
    have hlen := r'.length
    exact Calls.call_len_list pl.isList (by simp only [List.size_toArray] <;> omega) ⟨.int ys.length, H, I.tok _, ⟨s.toks + 1, by rw [List.size_toArray, hlen]⟩, q⟩
  · obtain ⟨its, r', pl, hz⟩ := I.tuple hq
    have hlen := r'.length
    exact len_tuple pl (by simp only [List.size_toArray] <;> omega) ⟨.int ys.length, H, I.tok _, ⟨s.toks + 1, by rw [List.size_toArray, hlen]⟩, q⟩
theorem call_len_str : CallR X (.builtin "len") (fun xs H Q => ∃ z, xs = [.str z] ∧ z.length ≤ sizeLine ∧ Q (.int z.length) H) := by
  intro pins s σ H xs us Q I r h
  obtain ⟨z, rfl, hz, q⟩ := h
  obtain ⟨u, rfl, t, rfl⟩ := vals1 r
  have hn := line63
  exact len_str (by omega) ⟨.int z.length, H, I.tok _, ⟨_, rfl⟩, q⟩
theorem CallR.or {f : Value} {r r' : List V → Hp → VK → Prop} (h : CallR X f r) (h' : CallR X f r') : CallR X f (fun xs H Q => r xs H Q ∨ r' xs H Q) := by
  intro pins s σ H xs us Q I rs q
  rcases q with q | q
  · exact h pins s σ H xs us Q I rs q
  · exact h' pins s σ H xs us Q I rs q
theorem call_list_of : CallR X (.type "list") (fun xs H Q => ∃ p ys, xs = [.ref p] ∧ (SqL X.K H p ys ∨ SqT X.K H p ys) ∧ ∀ l, H l = none → Q (.ref l) (upd H l (.lst ys))) := by
  intro pins s σ H xs us Q I r h
  obtain ⟨p, ys, rfl, hq, q⟩ := h
  obtain ⟨u, rfl, rx⟩ := vals1 r
  cases rx
  have fin : ∀ (its : List Value), Vals ys its → ys.length ≤ sizeLine → ∀ (h' : Heap) (c' : Nat), (∀ b o', s.heap.get? b = some o' → h'.get? b = some o') →
      h'.get? s.heap.objs.size = some { cls := .type "list", dict := none, data := .seq its.toArray c', slots := #[] } → EP X pins σ Q (.ref s.heap.objs.size) { s with heap := h' } := fun its r' hz h' c' kp e =>
    ⟨.ref s.heap.objs.size, _, I.laid (t' := s.toks) kp (Nat.le_refl _) (show ObjOk X.prog X.w _ h' _ (.lst ys) from ⟨hz, its, c', r', e⟩), rfl, q _ (I.hok.fresh (Nat.le_refl _))⟩
  rcases hq with hq | hq
  · obtain ⟨its, r', pl, hz⟩ := I.list hq
    have hlen := r'.length
    obtain ⟨o, ho, hc, n, hd⟩ := pl.isList
    exact call_list_seq p (.inl rfl) ho hc hd (fun h' c' kp e => fin its r' hz h' c' kp e) (by simp only [List.size_toArray] <;> omega)
  · obtain ⟨its, r', pl, hz⟩ := I.tuple hq
    have hlen := r'.length
    obtain ⟨o, ho, hc, n, hd⟩ := pl
    exact call_list_seq p (.inr rfl) ho hc hd (fun h' c' kp e => fin its r' hz h' c' kp e) (by simp only [List.size_toArray] <;> omega)
theorem call_tuple_of : CallR X (.type "tuple") (fun xs H Q => ∃ p ys, xs = [.ref p] ∧ ((SqL X.K H p ys ∧ ∀ l, H l = none → Q (.ref l) (upd H l (.tup ys))) ∨ (SqT X.K H p ys ∧ Q (.ref p) H))) := by
  intro pins s σ H xs us Q I r h
  obtain ⟨p, ys, rfl, h⟩ := h
  obtain ⟨u, rfl, rx⟩ := vals1 r
  cases rx
  rcases h with ⟨hq, q⟩ | ⟨hq, q⟩
  · obtain ⟨its, r', pl, hz⟩ := I.list hq
    have hlen := r'.length
    refine call_tuple_list pl.isList (fun h' kp => ?_) (by simp only [List.size_toArray] <;> omega)
    have I1 : Inv X pins σ H { s with heap := h' } := I.kept (t' := s.toks) kp
    have I2 : Inv X pins σ (upd H h'.objs.size (.tup ys)) { s with heap := h'.push { cls := .type "tuple", data := .seq its.toArray } } :=
      I1.laid (t' := s.toks) (fun b o e => Heap.get?_push_of_some _ e) (Nat.le_refl _) (show ObjOk X.prog X.w _ _ _ (.tup ys) from ⟨hz, its, r', IsTup.new _ _⟩)
    exact ⟨.ref h'.objs.size, _, I2, rfl, q _ (I1.hok.fresh (Nat.le_refl _))⟩
  · obtain ⟨its, r', pl, hz⟩ := I.tuple hq
    exact call_tuple_same pl ⟨.ref p, H, I, rfl, q⟩

/-! ### the call of a builtin's method: o.m(..) -/
/-- the value is of that builtin type -/
def tyV (K : PySem.W.Frag) (T : String) (x : V) (H : Hp) : Prop := match x with
  | .str _ => T = "str"
  | .int _ => T = "int"
  | .ref p => (T = "list" ∧ ∃ xs, SqL K H p xs) ∨ (T = "tuple" ∧ ∃ o, K.lookup p = some o ∧ o.cls = .type "tuple" ∧ o.dict = none) ∨
      (T = "dict" ∧ ((∃ kvs, H p = some (.dK kvs)) ∨ ∃ kvs, H p = some (.dT kvs))) ∨ (T = "set" ∧ ∃ S n, H p = some (.set S n))
  | _ => False
theorem tyV_is {pins : List (Addr × Obj)} {σ : St} {H : Hp} {s : Shared} {T : String} {x : V} {v : Value} (I : Inv X pins σ H s) (r : RelV x v) (ty : tyV X.K T x H) :
    s.TypeIs v T ∧ ∀ a, v = .ref a → ∃ ob, s.heap.get? a = some ob ∧ ob.dict = none := by
  cases x with
  | str z =>
    obtain ⟨t, rfl⟩ := r
    cases (show T = "str" from ty)
    exact ⟨typeIs_str s z t, fun _ e => nomatch e⟩
  | int i =>
    obtain ⟨t, rfl⟩ := r
    cases (show T = "int" from ty)
    exact ⟨typeIs_int s i t, fun _ e => nomatch e⟩
  | ref p =>
    cases r
    rcases ty with ⟨rfl, xs, hq⟩ | ⟨rfl, o, hk, hc, hd⟩ | ⟨rfl, hk⟩ | ⟨rfl, S, n, hk⟩
    · obtain ⟨its, _, pl, _⟩ := I.list hq
      refine ⟨pl.isList.typeIs, fun a e => ?_⟩
      cases e
      obtain ⟨o, n, e, c, hd, _⟩ := pl
      exact ⟨o, e, hd⟩
    · refine ⟨⟨o, I.kIn p o hk, hc⟩, fun a e => ?_⟩
      cases e
      exact ⟨o, I.kIn _ o hk, hd⟩
    · have z : ∃ o, s.heap.get? p = some o ∧ o.ExactDict := by
        rcases hk with ⟨kvs, hk⟩ | ⟨kvs, hk⟩
        · obtain ⟨_, _, _, _, o, _, _, e, ex, _⟩ := I.hok p _ hk
          exact ⟨o, e, ex⟩
        · obtain ⟨_, _, _, _, o, _, _, e, ex, _⟩ := I.hok p _ hk
          exact ⟨o, e, ex⟩
      obtain ⟨o, e, ex⟩ := z
      refine ⟨⟨o, e, ex.1⟩, fun a e2 => ?_⟩
      cases e2
      exact ⟨o, e, ex.2.1⟩
    · obtain ⟨o, _, _, _, e, ex, _⟩ := I.hok p _ hk
      refine ⟨⟨o, e, ex.1⟩, fun a e2 => ?_⟩
      cases e2
      exact ⟨o, e, ex.2.1⟩
  | _ => exact False.elim ty
def tBM0 (K : PySem.W.Frag) (T : String) (r : V → List V → Hp → VK → Prop) (to : TE) : TE := fun σ H Q => to σ H fun x H1 => tyV K T x H1 ∧ r x [] H1 Q
def tBM (K : PySem.W.Frag) (T : String) (r : V → List V → Hp → VK → Prop) (to : TE) (t : TA) : TE := fun σ H Q => to σ H fun x H1 => tyV K T x H1 ∧ t σ H1 fun xs H2 => r x xs H2 Q
variable {o e : Expr} {es : List Expr} {to : TE} {t : TA} {name : Str} {apos cpos : Pos} {T id : String} {r : V → List V → Hp → VK → Prop}
theorem pe_bm0 (pa : PlainAttrs T) (slot : Slot T name id) (hty : typeOf (.builtin id) = pure (.type "method_descriptor")) (hm : MtR X id r) (ho : PE X o to)
    (hbase : attributeBase o name X.env (eval o X.env) = eval o X.env := by rfl) (hline : (apos.endLine == cpos.line) = true := by rfl) : PE X (.Call (.Attribute o name apos) [] [] cpos) (tBM0 X.K T r to) := by
  intro pins s σ H Q I h
  refine wpAny_Call_method0_late hbase hline (thn (ho pins s σ H _ I h) fun v s1 ⟨x, H1, I1, r1, ty, q1⟩ => ?_)
  obtain ⟨h1, h2⟩ := tyV_is I1 r1 ty
  exact ⟨T, id, pa, slot, hty, h1, h2, Calls.callWith_builtin rfl (PySem.evalArgs_none (hm pins s1 σ H1 x [] v [] Q I1 r1 .nil q1))⟩
theorem pe_bm (pa : PlainAttrs T) (slot : Slot T name id) (hty : typeOf (.builtin id) = pure (.type "method_descriptor")) (hm : MtR X id r) (ho : PE X o to) (ha : PA X (e :: es) t)
    (hbase : attributeBase o name X.env (eval o X.env) = eval o X.env := by rfl)
    (hfew : ((backTo cpos (starEach (e :: es) X.env)).all (fun x => !x.1) && (backToKw cpos (keywordEach [] X.env)).all (fun x => x.1.isSome)
      && decide ((e :: es).length + ([] : List Keyword).length + (if ([] : List Keyword).isEmpty then 0 else 1) < 30)) = true := by rfl)
    (hline : (apos.endLine == cpos.line) = true := by rfl) (hs : starEach (e :: es) X.env = (false, eval e X.env) :: starEach es X.env := by rfl) (hplain : (backTo cpos (starEach es X.env)).any (·.1) = false := by rfl) :
    PE X (.Call (.Attribute o name apos) (e :: es) [] cpos) (tBM X.K T r to t) := by
  intro pins s σ H Q I h
  refine wpAny_Call_method_late hbase hfew hline rfl (thn (ho pins s σ H _ I h) fun v s1 ⟨x, H1, I1, r1, ty, q1⟩ => ?_)
  obtain ⟨h1, h2⟩ := tyV_is I1 r1 ty
  refine ⟨T, id, pa, slot, hty, h1, h2, ?_⟩
  have hA := ha cpos pins s1 σ H1 _ I1 q1
  rw [hs] at hA ⊢
  refine Calls.callWith_builtin (by show (false || (backTo cpos (starEach es X.env)).any (·.1)) = false; rw [hplain] <;> rfl) (Calls.evalArgs_plain ?_)
  exact thn hA fun us s2 ⟨vs, H2, I2, r2, q2⟩ => hm pins s2 σ H2 x vs v us Q I2 r1 r2 q2
/- xs.append(e), list.index on a module's tuple .. are MtR facts of 06m -/
end
end L2

namespace L2
open PySem PySem.Spec PyProof.Rows

def MtM (X : Cx) (id : String) (r : V → List V → Hp → VK → Prop) : Prop :=
  ∀ (pins : List (Addr × Obj)) (s : Shared) (σ : St) (H : Hp) (x : V) (xs : List V) (v : Value) (us : List Value) (Q : VK), Inv X pins σ H s → RelV x v → Vals xs us → r x xs H Q →
    wpAny (model X.prog X.w) X.A (call (.builtin id) (v :: us)) (EP X pins σ Q) X.xe s

/-! ### lists of values -/
theorem Vals.one : ∀ {x : V} {us : List Value}, Vals [x] us → ∃ u, us = [u] ∧ RelV x u
  | _, _, .cons r .nil => ⟨_, rfl, r⟩
theorem Vals.two : ∀ {x y : V} {us : List Value}, Vals [x, y] us → ∃ u v, us = [u, v] ∧ RelV x u ∧ RelV y v
  | _, _, _, .cons r (.cons q .nil) => ⟨_, _, rfl, r, q⟩
theorem Vals.zero : ∀ {us : List Value}, Vals [] us → us = []
  | _, .nil => rfl
theorem Vals.dropLast {xs : List V} {us : List Value} (h : Vals xs us) : Vals xs.dropLast us.dropLast := by
  induction h with
  | nil => exact .nil
  | cons r t ih =>
    cases t with
    | nil => exact .nil
    | cons q t' => exact .cons r ih
theorem Vals.eraseIdx : ∀ {xs : List V} {us : List Value} (i : Nat), Vals xs us → Vals (xs.eraseIdx i) (us.eraseIdx i)
  | _, _, _, .nil => .nil
  | _, _, 0, .cons _ t => t
  | _, _, i + 1, .cons r t => .cons r (Vals.eraseIdx i t)
theorem Vals.reverse {xs : List V} {us : List Value} (h : Vals xs us) : Vals xs.reverse us.reverse := by
  induction h with
  | nil => exact .nil
  | cons r t ih => rw [List.reverse_cons, List.reverse_cons]; exact Vals.append ih (.cons r .nil)
theorem Vals.rep {xs : List V} {us : List Value} (h : Vals xs us) : ∀ k : Nat, Vals (List.replicate k xs).flatten (List.replicate k us).flatten
  | 0 => .nil
  | k + 1 => by
    rw [List.replicate_succ, List.replicate_succ, List.flatten_cons, List.flatten_cons]
    exact Vals.append h (Vals.rep h k)
theorem erase_last {α : Type} (l : List α) : l.eraseIdx (l.length - 1) = l.dropLast := by
  induction l with
  | nil => rfl
  | cons a r ih =>
    cases r with
    | nil => rfl
    | cons b r =>
      have e : (a :: b :: r).length - 1 = ((b :: r).length - 1) + 1 := by
        have h1 : (a :: b :: r).length = r.length + 2 := rfl
        have h2 : (b :: r).length = r.length + 1 := rfl
        omega
      rw [e, List.eraseIdx_cons_succ, ih]
      all_goals rfl
theorem len_erase {α : Type} : ∀ (l : List α) (i : Nat), (l.eraseIdx i).length ≤ l.length
  | [], _ => Nat.le_refl _
  | _ :: _, 0 => Nat.le_succ _
  | _ :: r, i + 1 => Nat.succ_le_succ (len_erase r i)
theorem foldl_rep (its : List Value) : ∀ (k : Nat) (acc : List Value),
    List.foldl (fun x1 x2 => x1 ++ x2) acc.toArray (List.replicate k its.toArray) = (acc ++ (List.replicate k its).flatten).toArray
  | 0, acc => by simp
  | k + 1, acc => by
    have e : acc.toArray ++ its.toArray = (acc ++ its).toArray := by simp
    have e2 : (acc ++ its) ++ (List.replicate k its).flatten = acc ++ (List.replicate (k + 1) its).flatten := by
      rw [List.replicate_succ, List.flatten_cons, List.append_assoc]
    rw [← e2, ← foldl_rep its k (acc ++ its), ← e, List.replicate_succ, List.foldl_cons]

section
variable {X : Cx} {pins : List (Addr × Obj)} {σ : St} {H : Hp} {s : Shared} {l b : Addr} {xs ys zs : List V}

/-! ### the two steps: a tracked list is rewritten, a new list is laid -/
theorem Inv.lset {its its' : List Value} {n : Nat} {f : Array Value → Array Value} {t' : Nat} (I : Inv X pins σ H s) (hH : H l = some (.lst xs))
    (e : s.heap.get? l = some { cls := .type "list", data := .seq its.toArray n }) (hf : f its.toArray = its'.toArray) (hv : Vals ys its') (hz : ys.length ≤ sizeLine) :
    Inv X pins σ (upd H l (.lst ys)) { s with heap := s.heap.update l (Obj.mapSeq f), toks := t' } := by
  have q := PySem.IsL.update e f
  rw [hf] at q
  refine I.write (x := l) (e := l) (by rw [hH]; exact trivial) (.inl rfl) (fun b' u hb hu => (Heap.get?_update_other s.heap (Obj.mapSeq f) (Ne.symm hb)).trans hu) ⟨_, q⟩ ?_
  exact ⟨hz, its', _, hv, q⟩
theorem Inv.lnew {its : List Value} {t' : Nat} (I : Inv X pins σ H s) (hv : Vals ys its) (hz : ys.length ≤ sizeLine) :
    Inv X pins σ (upd H s.heap.objs.size (.lst ys)) { s with heap := s.heap.push { cls := .type "list", data := .seq its.toArray }, toks := t' } :=
  I.laid (fun _ _ q => Heap.get?_push_of_some _ q) (Nat.le_refl _) ⟨hz, its, 0, hv, Heap.get?_push_size _ rfl⟩
theorem Inv.fresh (I : Inv X pins σ H s) : H s.heap.objs.size = none := I.hok.fresh (Nat.le_refl _)
theorem Inv.lstM (I : Inv X pins σ H s) (hH : H l = some (.lst xs)) : xs.length ≤ sizeLine ∧ ∃ (its : List Value) (n : Nat), Vals xs its ∧ xs.length = its.length ∧ s.heap.get? l = some { cls := .type "list", data := .seq its.toArray n } := by
  obtain ⟨z, its, n, r, e⟩ := I.hok l _ hH
  exact ⟨z, its, n, r, r.length, e⟩

theorem notLongL {n : Nat} (h : n ≤ sizeLine) : Builtin.List.listTooLong n = false := by
  unfold Builtin.List.listTooLong
  exact decide_eq_false (by omega)
end

section
variable {X : Cx}

/-! ### methods -/
def rAppend : V → List V → Hp → VK → Prop := fun x vs H Q => ∃ l xs y, x = .ref l ∧ vs = [y] ∧ H l = some (.lst xs) ∧ xs.length < sizeLine ∧ Q .non (upd H l (.lst (xs ++ [y])))
theorem mt_append : MtM X "list.append" rAppend := by
  intro pins s σ H x vs v us Q I rx rv h
  obtain ⟨l, xs, y, rfl, rfl, hH, hz, q⟩ := h
  cases rx
  obtain ⟨u, rfl, ru⟩ := rv.one
  obtain ⟨z, its, n, r, hl, e⟩ := I.lstM hH
  refine call_meets F.slot_list_append ⟨_, e, rfl⟩ F.entry_list_append (F.args_list_append_2 _ _) (PySem.list_append l its.toArray n u (by rw [List.size_toArray]; omega)) ⟨e, ?_⟩
  refine ⟨.non, _, I.lset (its' := its ++ [u]) hH e (by simp) (r.append (.cons ru .nil)) ?_, rfl, q⟩
  rw [List.length_append, List.length_singleton]
  omega

def rExtend : V → List V → Hp → VK → Prop := fun x vs H Q => ∃ l b xs zs, x = .ref l ∧ vs = [.ref b] ∧ H l = some (.lst xs) ∧ H b = some (.lst zs) ∧ xs.length + zs.length ≤ sizeLine ∧ Q .non (upd H l (.lst (xs ++ zs)))
theorem mt_extend : MtM X "list.extend" rExtend := by
  intro pins s σ H x vs v us Q I rx rv h
  obtain ⟨l, b, xs, zs, rfl, rfl, hH, hB, hz, q⟩ := h
  cases rx
  obtain ⟨u, rfl, ru⟩ := rv.one
  cases ru
  obtain ⟨z, its, n, r, hl, e⟩ := I.lstM hH
  obtain ⟨z2, its2, n2, r2, hl2, e2⟩ := I.lstM hB
  have hsz : its.toArray.size + its2.toArray.size ≤ sizeLine := by rw [List.size_toArray, List.size_toArray]; omega
  have hlong : ¬ (!its.toArray.isEmpty && Builtin.List.listTooLong (its.toArray.size + its2.toArray.size)) = true := by
    rw [notLongL hsz, Bool.and_false]
    exact Bool.false_ne_true
  refine call_meets F.slot_list_extend ⟨_, e, rfl⟩ F.entry_list_extend (F.args_list_extend_2 _ _)
    (AutoSeq1.list_extend_list_list_0 l its.toArray n b its2.toArray n2 hlong (by rw [List.size_toArray]; omega) (by omega)) ⟨e, e2, ?_⟩
  refine ⟨.non, _, I.lset (its' := its ++ its2) hH e (by simp) (r.append r2) ?_, rfl, q⟩
  rw [List.length_append]
  omega

def rPop : V → List V → Hp → VK → Prop := fun x vs H Q => ∃ l xs y, x = .ref l ∧ vs = [] ∧ H l = some (.lst xs) ∧ xs[xs.length - 1]? = some y ∧ Q y (upd H l (.lst xs.dropLast))
theorem mt_pop : MtM X "list.pop" rPop := by
  intro pins s σ H x vs v us Q I rx rv h
  obtain ⟨l, xs, y, rfl, rfl, hH, hy, q⟩ := h
  cases rx
  have hus := rv.zero
  subst hus
  obtain ⟨z, its, n, r, hl, e⟩ := I.lstM hH
  obtain ⟨u, hu, ru⟩ := r.get hy
  have hy' : its.toArray[its.toArray.size - 1]? = some u := by
    show its.toArray[its.length - 1]? = some u
    rw [← Array.getElem?_toList, ← hl]
    exact hu
  refine call_meets F.slot_list_pop ⟨_, e, rfl⟩ F.entry_list_pop (F.args_list_pop_1 _) (MeetsSeq.list_pop_last l its.toArray n u hy' (by rw [List.size_toArray]; omega)) ⟨e, ?_⟩
  refine ⟨y, _, I.lset (its' := its.dropLast) hH e ?_ r.dropLast ?_, ru, q⟩
  · show its.toArray.eraseIdxIfInBounds (its.toArray.size - 1) = its.dropLast.toArray
    rw [List.size_toArray, List.eraseIdxIfInBounds_toArray, erase_last]
  · rw [List.length_dropLast]
    omega

def rPopAt : V → List V → Hp → VK → Prop := fun x vs H Q => ∃ l xs i k y, x = .ref l ∧ vs = [.int i] ∧ H l = some (.lst xs) ∧ -(2 ^ 63) ≤ i ∧ i < 2 ^ 63 ∧ seqIndex? i xs.length = some k ∧ xs[k]? = some y ∧ Q y (upd H l (.lst (xs.eraseIdx k)))
theorem mt_popAt : MtM X "list.pop" rPopAt := by
  intro pins s σ H x vs v us Q I rx rv h
  obtain ⟨l, xs, i, k, y, rfl, rfl, hH, h1, h2, hk, hy, q⟩ := h
  cases rx
  obtain ⟨u, rfl, ru⟩ := rv.one
  obtain ⟨t, rfl⟩ := ru
  obtain ⟨z, its, n, r, hl, e⟩ := I.lstM hH
  obtain ⟨w, hw, rw'⟩ := r.get hy
  refine call_meets F.slot_list_pop ⟨_, e, rfl⟩ F.entry_list_pop (F.args_list_pop_2 _ _)
    (MeetsSeq.list_pop_at l its.toArray n i t k w (fitsIndex_both h1 h2) (by rw [List.size_toArray, ← hl]; exact hk) (by rw [← Array.getElem?_toList]; exact hw) (by rw [List.size_toArray]; omega)) ⟨e, ?_⟩
  refine ⟨y, _, I.lset (its' := its.eraseIdx k) hH e ?_ (r.eraseIdx k) ?_, rw', q⟩
  · show its.toArray.eraseIdxIfInBounds k = (its.eraseIdx k).toArray
    rw [List.eraseIdxIfInBounds_toArray]
  · have := len_erase xs k
    omega

def rReverse : V → List V → Hp → VK → Prop := fun x vs H Q => ∃ l xs, x = .ref l ∧ vs = [] ∧ H l = some (.lst xs) ∧ Q .non (upd H l (.lst xs.reverse))
theorem mt_reverse : MtM X "list.reverse" rReverse := by
  intro pins s σ H x vs v us Q I rx rv h
  obtain ⟨l, xs, rfl, rfl, hH, q⟩ := h
  cases rx
  have hus := rv.zero
  subst hus
  obtain ⟨z, its, n, r, hl, e⟩ := I.lstM hH
  refine call_meets F.slot_list_reverse ⟨_, e, rfl⟩ F.entry_list_reverse (F.args_list_reverse_1 _) (AutoSeq1.list_reverse_list_0 l its.toArray n (by rw [List.size_toArray]; omega)) ⟨e, ?_⟩
  refine ⟨.non, _, I.lset (its' := its.reverse) hH e (by simp) r.reverse ?_, rfl, q⟩
  rw [List.length_reverse]
  omega

def rClear : V → List V → Hp → VK → Prop := fun x vs H Q => ∃ l xs, x = .ref l ∧ vs = [] ∧ H l = some (.lst xs) ∧ Q .non (upd H l (.lst []))
theorem mt_clear : MtM X "list.clear" rClear := by
  intro pins s σ H x vs v us Q I rx rv h
  obtain ⟨l, xs, rfl, rfl, hH, q⟩ := h
  cases rx
  have hus := rv.zero
  subst hus
  obtain ⟨z, its, n, r, hl, e⟩ := I.lstM hH
  refine call_meets F.slot_list_clear ⟨_, e, rfl⟩ F.entry_list_clear (F.args_list_clear_1 _) (AutoSeq1.list_clear_list_0 l its.toArray n (by rw [List.size_toArray]; omega)) ⟨e, ?_⟩
  exact ⟨.non, _, I.lset (its' := []) (ys := []) hH e rfl .nil (Nat.zero_le _), rfl, q⟩

/-! ### list + list, list += list, list * int -/
def rCat : R2 := fun x y H Q => ∃ l b xs zs, x = .ref l ∧ y = .ref b ∧ H l = some (.lst xs) ∧ H b = some (.lst zs) ∧ xs.length + zs.length ≤ sizeLine ∧ ∀ p, H p = none → Q (.ref p) (upd H p (.lst (xs ++ zs)))
theorem op_cat : OpR X (binaryOp .Add) rCat := by
  intro pins s σ H x y v u Q I rx ry h
  obtain ⟨l, b, xs, zs, rfl, rfl, hH, hB, hz, q⟩ := h
  cases rx
  cases ry
  obtain ⟨z, its, n, r, hl, e⟩ := I.lstM hH
  obtain ⟨z2, its2, n2, r2, hl2, e2⟩ := I.lstM hB
  refine PySem.P.add_list e e2 ?_ (by rw [List.size_toArray, List.size_toArray]; omega)
  have ea : its.toArray ++ its2.toArray = (its ++ its2).toArray := by simp
  rw [ea]
  exact ⟨.ref _, _, I.lnew (t' := s.toks) (r.append r2) (by rw [List.length_append]; omega), rfl, q _ I.fresh⟩
/-- a list times an int (a negative one is nothing) -/
def rRep : R2 := fun x y H Q => ∃ l k xs, x = .ref l ∧ y = .int k ∧ H l = some (.lst xs) ∧ -(2 ^ 63) ≤ k ∧ k < 2 ^ 63 ∧ xs.length * k.toNat ≤ sizeLine ∧
  ∀ p, H p = none → Q (.ref p) (upd H p (.lst (List.replicate k.toNat xs).flatten))
theorem len_rep {α : Type} (xs : List α) (k : Nat) : (List.replicate k xs).flatten.length = k * xs.length := by
  induction k with
  | zero => simp
  | succ k ih => rw [List.replicate_succ, List.flatten_cons, List.length_append, ih, Nat.succ_mul, Nat.add_comm]
theorem op_rep : OpR X (binaryOp .Mult) rRep := by
  intro pins s σ H x y v u Q I rx ry h
  obtain ⟨l, k, xs, rfl, rfl, hH, h1, h2, hz, q⟩ := h
  cases rx
  obtain ⟨t, rfl⟩ := ry
  obtain ⟨z, its, n, r, hl, e⟩ := I.lstM hH
  have hlen : its.toArray.size * k.toNat ≤ sizeLine := by rw [List.size_toArray, ← hl]; exact hz
  have hcap : ¬ its.toArray.size * k.toNat > (2 ^ 63 - 1) / 8 := by
    have : (sizeLine : Nat) ≤ (2 ^ 63 - 1) / 8 := by decide
    omega
  have hfit : ¬ (!Builtin.List.listFitsIndex k) = true := by
    rw [fitsIndex_both h1 h2]
    exact Bool.false_ne_true
  have hlong : ¬ Builtin.List.listTooLong (its.toArray.size * k.toNat) = true := by
    rw [notLongL hlen]
    exact Bool.false_ne_true
  have hnew : List.foldl (fun x1 x2 => x1 ++ x2) #[] (List.replicate (if its.toArray.isEmpty = true then 0 else k.toNat) its.toArray) = (List.replicate k.toNat its).flatten.toArray := by
    have f0 : ∀ m : Nat, List.foldl (fun x1 x2 => x1 ++ x2) #[] (List.replicate m its.toArray) = (List.replicate m its).flatten.toArray := fun m => by
      have := foldl_rep its m []
      rw [List.nil_append] at this
      exact this
    rw [f0]
    cases its with
    | nil => simp
    | cons a r' => rw [if_neg (by simp)]
  refine wpAny_binaryOp_repeat_ref (T := "list") (U := "int") (by decide) ⟨_, e, rfl⟩ (fun s' => typeIs_int s' k t) noFill_list_mul F.fills_int_mul F.slot_int_rmul repeat_list F.slot_int_index.lookup
    (call_meets F.slot_int_rmul (typeIs_int s k t) F.entry_int_rmul (F.args_int_rmul_2 _ _) (int___rmul___int_list k t l its.toArray n)
      ⟨e, rfl, ⟨_, e, rfl⟩, call_meets F.slot_list_mul ⟨_, e, rfl⟩ F.entry_list_mul (F.args_list_mul_2 _ _) (AutoListH.list___mul___list_int_3 l its.toArray n k t hfit hcap hlong) ⟨e, ?_⟩⟩)
  rw [hnew]
  exact ⟨.ref _, _, I.lnew (t' := s.toks) (r.rep k.toNat) (by rw [len_rep, Nat.mul_comm]; exact hz), rfl, q _ I.fresh⟩

/-! ### del xs[i] -/
theorem del_list {pins : List (Addr × Obj)} {s : Shared} {σ : St} {H : Hp} {l : Addr} {xs : List V} {i : Int} {t : Tok} {k : Nat} {Q : Unit → Shared → Prop} (I : Inv X pins σ H s) (hH : H l = some (.lst xs))
    (h1 : -(2 ^ 63) ≤ i) (h2 : i < 2 ^ 63) (hk : seqIndex? i xs.length = some k) (h : ∀ s', Inv X pins σ (upd H l (.lst (xs.eraseIdx k))) s' → Q () s') :
    wpAny (model X.prog X.w) X.A (delItem (.ref l) (.int i t)) Q X.xe s := by
  obtain ⟨z, its, n, r, hl, e⟩ := I.lstM hH
  refine PySem.P.delItem_list (k := k) e (fitsIndex_both h1 h2) (by rw [List.size_toArray, ← hl]; exact hk) (h _ ?_) (by rw [List.size_toArray]; omega)
  refine I.lset (its' := its.eraseIdx k) (t' := s.toks) hH e ?_ (r.eraseIdx k) ?_
  · show its.toArray.eraseIdxIfInBounds k = (its.eraseIdx k).toArray
    rw [List.eraseIdxIfInBounds_toArray]
  · have := len_erase xs k
    omega
end

/-! ### xs[a:b] = ys -/
section
variable {prog : Program} {w : World} {A : Around} {E : Value → Shared → Prop} {s : Shared}
theorem splice_eq (its its2 : List Value) (a c : Nat) : its.toArray.extract 0 a ++ its2.toArray ++ its.toArray.extract c its.toArray.size = (its.take a ++ its2 ++ its.drop c).toArray := by
  apply Array.toList_inj.mp
  first
    | (simp
       exact List.take_of_length_le (by simp))
    | simp [List.take_of_length_le]
    | simp
theorem bounds_run {a c n : Nat} (hac : a ≤ c) (hc : c ≤ n) : sliceBounds (some (a : Int)) (some (c : Int)) none n = ((a : Int), (c : Int), 1) := by
  simp only [sliceBounds, Option.getD_none]
  have h1 : ¬ ((a : Int) < 0) := by omega
  have h2 : ¬ ((c : Int) < 0) := by omega
  simp only [h1, h2, if_false, show (1 : Int) > 0 by decide, if_true]
  congr 1
  · omega
  · congr 1; omega
set_option maxRecDepth 100000 in
/-- list.__setitem__ with a slice of step one and another list -/
theorem setItem_slice {l b sl : Addr} {items new : Array Value} {n n2 : Nat} {vl vu : Value} {a c : Nat} {Q : Unit → Shared → Prop}
    (e : s.heap.get? l = some { cls := .type "list", data := .seq items n }) (e2 : s.heap.get? b = some { cls := .type "list", data := .seq new n2 }) (hne : l ≠ b)
    (hs : s.heap.IsSliceOf sl vl vu .none) (pl : IsPart vl (some (a : Int))) (pu : IsPart vu (some (c : Int))) (hac : a ≤ c) (hc : c ≤ items.size)
    (hsz : items.size + new.size ≤ sizeLine) (h : Q () { s with heap := s.heap.update l (Obj.mapSeq fun xs => xs.extract 0 a ++ new ++ xs.extract c xs.size) }) :
    wpAny (model prog w) A (setItem (.ref l) (.ref sl) (.ref b)) Q E s := by
  have hl : s.heap.IsList l items := PySem.IsL.isList e
  have hb : s.heap.IsList b new := PySem.IsL.isList e2
  obtain ⟨os, hos, hcs, hds⟩ := id hs
  have hTs : s.TypeIs (.ref sl) "slice" := ⟨os, hos, hcs⟩
  have hstep : ¬ ((rawPart none == rawInt 0) = true) := Bool.false_ne_true
  have hsame : Builtin.List.listSameRef (.ref l) (.ref b) = false := by
    unfold Builtin.List.listSameRef
    exact beq_eq_false_iff_ne.mpr hne
  have hmax : (max (a : Int) (c : Int)).toNat = c := by omega
  have hz' : ((fun xs : Array Value => xs.extract 0 a ++ new ++ xs.extract c xs.size) items).size ≤ sizeLine + 1 := by
    simp only [Array.size_append, Array.size_extract]
    omega
  unfold setItem
  try with_reducible refine wpAny_holding ?_
  first | refine wpAny_bind (wpAny_pure ?_) | skip
  refine wpAny_bind (wpAny_sequenceKey hl.typeIs (by decide) ?_)
  refine wpAny_bind (wpAny_callSpecial?_slot (name := Str.ofString "__setitem__") hl.typeIs slot_list_setitem
    (wpAny_call_entry slot_list_setitem hl.typeIs entry_list_setitem ?_ (args_list_setitem _ _ _)))
  show wpAny _ _ (Builtin.List.listSubscript? (.ref sl) >>= _) _ _ s
  refine wpAny_bind ?_
  unfold Builtin.List.listSubscript?
  refine wpAny_bind (wpAny_specialOf hTs slice_no_index ?_)
  simp only [Option.isNone_none, if_true]
  refine wpAny_pure ?_
  show wpAny _ _ (typeOf (.ref sl) >>= _) _ _ s
  refine wpAny_bind (wpAny_typeOf hTs ?_)
  first
    | rw [if_neg (by decide)]
    | refine PySem.W.KFB.if_not (by decide) ?_
  rw [listSliceParts_eq]
  refine wpAny_bind (wpAny_bind (wpAny_field hos hds (x := .none) rfl (wpAny_bind (wpAny_listPart .none ?_))))
  rw [if_neg hstep]
  refine wpAny_bind (wpAny_field hos hds (x := vl) rfl (wpAny_bind (wpAny_listPart pl ?_)))
  refine wpAny_bind (wpAny_field hos hds (x := vu) rfl (wpAny_bind (wpAny_listPart pu (wpAny_pure ?_))))
  first
    | simp only [hsame, Bool.false_eq_true, if_false]
    | refine PySem.W.KFB.if_not hsame ?_
    | (dsimp only
       rw [if_neg (by rw [hsame]; exact Bool.false_ne_true)])
  refine wpAny_bind (m := Builtin.List.listAllItems (.ref b) "must assign iterable to extended slice") ?_
  unfold Builtin.List.listAllItems
  refine wpAny_bind (wpAny_typeOf hb.typeIs ?_)
  first
    | refine PySem.W.KFB.if_so (by decide) ?_
    | rw [if_pos (by decide)]
    | simp only [beq_self_eq_true, Bool.true_or, if_true]
  unfold Builtin.List.listItems
  refine wpAny_bind (wpAny_seqItems e2 rfl (wpAny_pure ?_))
  refine wpAny_bind (wpAny_bind (wpAny_seqItems e rfl (wpAny_pure ?_)))
  refine wpAny_bind (wpAny_of_eq ((sliceIndices_raw (some (a : Int)) (some (c : Int)) none items.size (by simp)).trans (congrArg (pure : Int × Int × Int → Sem (Int × Int × Int)) (bounds_run hac hc))) ?_)
  show wpAny _ _ (if ((1 : Int) == 1) = true then _ else _) _ _ s
  rw [if_pos (by decide)]
  refine wpAny_bind (wpAny_rule ?_)
  first
    | simp only [notLongL hsz, Bool.false_eq_true, if_false]
    | refine PySem.W.KFB.if_not (notLongL hsz) ?_
  first | refine wpAny_bind (wpAny_pure ?_) | skip
  show wpAny _ _ (updateSeq l (fun xs => xs.extract 0 ((a : Int)).toNat ++ new ++ xs.extract (max (a : Int) (c : Int)).toNat xs.size) >>= _) _ _ s
  rw [hmax, Int.toNat_natCast]
  refine wpAny_bind (wpAny_updateSeq (hz := Nat.le_trans (Nat.le_add_right _ _) hsz) (_hz' := hz') e rfl ?_)
  refine wpAny_bind (wpAny_letGo ?_)
  first
    | exact wpAny_bind (wpAny_pure (wpAny_pure ⟨.none, rfl, wpAny_pure h⟩))
    | exact wpAny_pure ⟨.none, rfl, wpAny_pure h⟩
end

section
variable {X : Cx}
/-- xs[a:c] = ys of another list, at the value level: sl is the slice object that was just made -/
theorem set_slice {pins : List (Addr × Obj)} {s : Shared} {σ : St} {H : Hp} {l b sl : Addr} {xs ys : List V} {a c : Int} {vl vu : Value} {Q : Unit → Shared → Prop} (I : Inv X pins σ H s)
    (hH : H l = some (.lst xs)) (hB : H b = some (.lst ys)) (hne : l ≠ b) (hs : s.heap.IsSliceOf sl vl vu .none) (ra : RelV (.int a) vl) (rc : RelV (.int c) vu) (h0 : 0 ≤ a) (hac : a ≤ c) (hc : c ≤ xs.length)
    (hz : xs.length + ys.length ≤ sizeLine) (h : ∀ s', Inv X pins σ (upd H l (.lst (xs.take a.toNat ++ ys ++ xs.drop c.toNat))) s' → Q () s') :
    wpAny (model X.prog X.w) X.A (setItem (.ref l) (.ref sl) (.ref b)) Q X.xe s := by
  obtain ⟨ta, rfl⟩ := ra
  obtain ⟨tc, rfl⟩ := rc
  obtain ⟨z, its, n, r, hl, e⟩ := I.lstM hH
  obtain ⟨z2, its2, n2, r2, hl2, e2⟩ := I.lstM hB
  obtain ⟨a', rfl⟩ := Int.eq_ofNat_of_zero_le h0
  obtain ⟨c', rfl⟩ := Int.eq_ofNat_of_zero_le (Int.le_trans h0 hac)
  simp only [Int.toNat_natCast] at h
  refine setItem_slice (a := a') (c := c') e e2 hne hs (.int _ _) (.int _ _) (by omega) (by rw [List.size_toArray]; omega) (by rw [List.size_toArray, List.size_toArray]; omega) (h _ ?_)
  refine I.lset (its' := its.take a' ++ its2 ++ its.drop c') (t' := s.toks) hH e ?_ (Vals.append (Vals.append (r.take _) r2) (r.drop _)) ?_
  · exact splice_eq its its2 a' c'
  · rw [List.length_append, List.length_append, List.length_take, List.length_drop]
    omega
end
end L2

namespace Att
open PySem PySem.W PySem.Calls PyProof.Rows

/-! ### the script -/
theorem ints_of_wellAll {P : Params} {h : Heap} : ∀ (ns : List Int) (vs : List Value), WellAll P h vs (ns.map WData.int) → IntsAre vs ns := by
  intro ns
  induction ns with
  | nil =>
    intro vs w
    rw [List.map_nil] at w
    cases w
    exact .nil
  | cons n ns ih =>
    intro vs w
    rw [List.map_cons] at w
    cases w with
    | cons a b =>
      cases a
      exact .cons _ _ (ih _ b)

theorem script_of {l : OpenLaw} {n : Nat} (hn : l.most = some n) {P : Params} {h : Heap} {args : List WData} {vals : List Value}
    (hpre : l.row.toRowW.claim.pre args = true) (hwl : WellAll P h vals args) :
    ∃ a vs ns, vals = [Value.ref a] ∧ args = [WData.list (ns.map WData.int)] ∧ h.get? a = some { cls := .type "list", data := .seq vs.toArray } ∧ IntsAre vs ns ∧ ns.length ≤ n := by
  have hsh : WShape.hasAll [] args [.list .int] = true := (pre_splitW hpre).1
  have hc : l.pre.holds [] { args := args } = true := (pre_splitW hpre).2
  obtain ⟨d, r, rfl, h1, h2⟩ := hasAllW_cons hsh
  obtain rfl := hasAllW_nil h2
  obtain ⟨xs, rfl, h3⟩ := hasW_list h1
  obtain ⟨ns, rfl⟩ := items_int h3
  have hlen : ns.length ≤ n := by
    unfold OpenLaw.pre at hc
    have h4 : (WTm.not (.lt (.lit (.int (n : Int))) (.len (.arg 0)))).holds [] { args := [.list (ns.map .int)] } = true := by
      have h4 := (holds_andW hc).1
      rw [hn] at h4
      exact h4
    have h5 := condW_of h4 (w_not (w_lt w_lit (w_len_list (w_arg rfl))))
    rw [List.length_map] at h5
    refine Nat.le_of_not_lt fun q => ?_
    have q' : (n : Int) < ((ns.length : Nat) : Int) := by omega
    first
      | (rw [decide_eq_true q'] at h5; exact absurd h5 (by decide))
      | (simp at h5; omega)
  cases hwl with
  | cons w1 w2 =>
    cases w2
    cases w1 with
    | list ho hall => exact ⟨_, _, ns, rfl, rfl, ho, ints_of_wellAll ns _ hall, hlen⟩

theorem post_true (l : OpenLaw) (args : List WData) : l.row.toRowW.claim.post args (.bool true) args = true :=
  postW_of (r := l.row.toRowW) (X := (true == true))
    (show WShape.has [] (.bool true) .bool = true by first | rfl | decide | simp [WShape.has, WShape.arms, WShape.armsAll])
    (show (WTm.eq .res (.lit (.bool true))).value [] { args := args, res := some (.bool true), after := args } = some (.bool (true == true)) from w_eq_bool (w_res rfl) w_lit) rfl

/-! ### the attachment: holds_open's last premise (the goal 'hc' behind k_head) from a wpAny of the law's body -/
theorem attach {l : OpenLaw} {n : Nat} {q : Program} {loose : List Str} {XP : (Str → Option Value) → Heap → Prop} {YP : World → Heap → Prop} {d : DefRec} {x : Str}
    (hn : l.most = some n) (hdf : d.params.defaults = [])
    (hbind : ∀ pm cd doc v : Value, bindArgs (docDef d.name d.params d.body d.scope pm cd doc) ⟨[v], []⟩ = pure [(x, v)])
    (hx : d.scope.names.lookup x = some .local ∨ d.scope.names.lookup x = some .cell)
    (hk : d.scope.kind = .function) (hco : d.scope.isCoroutine = false) (hgen : d.scope.isGenerator = false)
    (body : ∀ (w : World) (s₀ s₁ s : Shared) (mg mb : Str → Option Value) (fa : Addr) (o : Obj) (pm cd doc : Value) (a : Addr) (vs : List Value) (ns : List Int),
      Ground q loose [] XP w s₀ mg mb s₁.heap → YP w s₁.heap →
      s₁.heap.get? fa = some o → o.data = .func (docDef d.name d.params d.body d.scope pm cd doc) → s₁.heap.CodeRec cd d.name → mg d.name = some (.ref fa) →
      s₁.heap.get? a = some { cls := .type "list", data := .seq vs.toArray } → IntsAre vs ns → ns.length ≤ n →
      s.gens = #[] → s.os = s₁.os →
      Fr s₁.heap s₁.heap.objs.size s.heap (bindL (envOfC d.name d.scope s₁.heap.objs.size fa cd).kindOf [(x, .ref a)] fun _ => none) →
      Cl s₁.heap.objs.size (cellsFrom (s₁.heap.objs.size + 1) d.scope.names []) s.heap (bindC (envOfC d.name d.scope s₁.heap.objs.size fa cd).kindOf [(x, .ref a)] fun _ => none) →
      wpAny (model l.prog w) (callerA.deeper (envOfC d.name d.scope s₁.heap.objs.size fa cd)) (execs d.body (envOfC d.name d.scope s₁.heap.objs.size fa cd))
        (fun f s' => f = .ret (.bool true) ∧ OldK s₁.heap s'.heap ∧ s'.os = s₁.os ∧ AllBare s'.gens) (fun _ _ => False) s) :
    WalkO q loose XP YP l.row.toRowW d [] (fun f vs => PySem.call f vs) := by
  intro w s₀ s₁ mg mb G Y fa o pm cd doc dV kV ho hd hcd hD hmg hg args vals as hpre hlay hrd hwl hlo
  obtain rfl : dV = .none := Dflts.none hD hdf
  obtain rfl : kV = .none := Dflts.noKw hD
  obtain ⟨a, vs, ns, rfl, rfl, hobj, hints, hlen⟩ := script_of hn hpre hwl
  refine enter_call ?_
  refine call_cells_ret (o := o) (by rw [depth_caller]; decide) ho (fd_plain hd) G.T.nolimit hcd (hbind pm cd doc (.ref a)) (fun y hy => ?_) (fun h₁ tk F X => ?_) hco hgen hk
  · obtain rfl : y = (x, Value.ref a) := List.mem_singleton.mp hy
    rcases hx with e | e
    · exact .inl e
    · exact .inr ⟨e, cellsFrom_some _ _ _ (.inl e)⟩
  · refine wpAny_mono (body w s₀ s₁ { s₁ with heap := h₁, toks := tk } mg mb fa o pm cd doc a vs ns G Y ho (fd_plain hd) hcd hmg hobj hints hlen hg rfl F X) (fun f s' hq => ?_) (fun _ _ hq => hq)
    obtain ⟨rfl, h2, h3, h4⟩ := hq
    exact ⟨.inl ⟨.bool true, .bool true, [], rfl, fun _ => rfl, .bool true, post_true l _, fun _ => ⟨List.Pairwise.nil, fun _ hm => (nomatch hm)⟩⟩, h2, h3, h4⟩

/-- the same from a codeAny of the CALL (for a layer whose function contracts speak of calls) -/
theorem attach_call {l : OpenLaw} {n : Nat} {q : Program} {loose : List Str} {XP : (Str → Option Value) → Heap → Prop} {YP : World → Heap → Prop} {d : DefRec}
    (hn : l.most = some n) (hdf : d.params.defaults = [])
    (call : ∀ (w : World) (s₀ s₁ : Shared) (mg mb : Str → Option Value) (fa : Addr) (o : Obj) (pm cd doc : Value) (a : Addr) (vs : List Value) (ns : List Int),
      Ground q loose [] XP w s₀ mg mb s₁.heap → YP w s₁.heap →
      s₁.heap.get? fa = some o → o.data = .func (docDef d.name d.params d.body d.scope pm cd doc) → s₁.heap.CodeRec cd d.name → mg d.name = some (.ref fa) →
      s₁.heap.get? a = some { cls := .type "list", data := .seq vs.toArray } → IntsAre vs ns → ns.length ≤ n → s₁.gens = #[] →
      codeAny (model l.prog w) callerA (.call (.ref fa) ⟨[.ref a], []⟩) (fun r s' => r = .ok (.ret (.bool true)) ∧ OldK s₁.heap s'.heap ∧ s'.os = s₁.os ∧ AllBare s'.gens) s₁) :
    WalkO q loose XP YP l.row.toRowW d [] (fun f vs => PySem.call f vs) := by
  intro w s₀ s₁ mg mb G Y fa o pm cd doc dV kV ho hd hcd hD hmg hg args vals as hpre hlay hrd hwl hlo
  obtain rfl : dV = .none := Dflts.none hD hdf
  obtain rfl : kV = .none := Dflts.noKw hD
  obtain ⟨a, vs, ns, rfl, rfl, hobj, hints, hlen⟩ := script_of hn hpre hwl
  refine enter_call (codeAny_mono (call w s₀ s₁ mg mb fa o pm cd doc a vs ns G Y ho (fd_plain hd) hcd hmg hobj hints hlen hg) fun r s' hq => ?_)
  obtain ⟨rfl, h2, h3, h4⟩ := hq
  exact ⟨.inl ⟨.bool true, .bool true, [], rfl, fun _ => rfl, .bool true, post_true l _, fun _ => ⟨List.Pairwise.nil, fun _ hm => (nomatch hm)⟩⟩, h2, h3, h4⟩

/-- the same where the top left finished generators (o_head chose holds_openN): nothing may have changed at all and no generator may be left -/
theorem attachN {l : OpenLaw} {n : Nat} {q : Program} {loose : List Str} {XP : (Str → Option Value) → Heap → Prop} {YP : World → Heap → Prop} {d : DefRec} {x : Str}
    (hn : l.most = some n) (hdf : d.params.defaults = [])
    (hbind : ∀ pm cd doc v : Value, bindArgs (docDef d.name d.params d.body d.scope pm cd doc) ⟨[v], []⟩ = pure [(x, v)])
    (hx : d.scope.names.lookup x = some .local ∨ d.scope.names.lookup x = some .cell)
    (hk : d.scope.kind = .function) (hco : d.scope.isCoroutine = false) (hgen : d.scope.isGenerator = false)
    (body : ∀ (w : World) (s₀ s₁ s : Shared) (mg mb : Str → Option Value) (fa : Addr) (o : Obj) (pm cd doc : Value) (a : Addr) (vs : List Value) (ns : List Int),
      Ground q loose [] XP w s₀ mg mb s₁.heap → YP w s₁.heap →
      s₁.heap.get? fa = some o → o.data = .func (docDef d.name d.params d.body d.scope pm cd doc) → s₁.heap.CodeRec cd d.name → mg d.name = some (.ref fa) →
      s₁.heap.get? a = some { cls := .type "list", data := .seq vs.toArray } → IntsAre vs ns → ns.length ≤ n →
      s.gens = #[] → s.os = s₁.os →
      Fr s₁.heap s₁.heap.objs.size s.heap (bindL (envOfC d.name d.scope s₁.heap.objs.size fa cd).kindOf [(x, .ref a)] fun _ => none) →
      Cl s₁.heap.objs.size (cellsFrom (s₁.heap.objs.size + 1) d.scope.names []) s.heap (bindC (envOfC d.name d.scope s₁.heap.objs.size fa cd).kindOf [(x, .ref a)] fun _ => none) →
      wpAny (model l.prog w) (callerA.deeper (envOfC d.name d.scope s₁.heap.objs.size fa cd)) (execs d.body (envOfC d.name d.scope s₁.heap.objs.size fa cd))
        (fun f s' => f = .ret (.bool true) ∧ (∀ b o, s₁.heap.get? b = some o → s'.heap.get? b = some o) ∧ s'.os = s₁.os ∧ s'.gens = #[]) (fun _ _ => False) s) :
    WalkN q loose XP YP l.row.toRowW d [] (fun f vs => PySem.call f vs) := by
  intro w s₀ s₁ mg mb G Y fa o pm cd doc dV kV ho hd hcd hD hmg hg args vals as hpre hlay hrd hwl hlo
  obtain rfl : dV = .none := Dflts.none hD hdf
  obtain rfl : kV = .none := Dflts.noKw hD
  obtain ⟨a, vs, ns, rfl, rfl, hobj, hints, hlen⟩ := script_of hn hpre hwl
  refine enter_callW ?_
  refine call_cells_ret (o := o) (by rw [depth_caller]; decide) ho (fd_plain hd) G.T.nolimit hcd (hbind pm cd doc (.ref a)) (fun y hy => ?_) (fun h₁ tk F X => ?_) hco hgen hk
  · obtain rfl : y = (x, Value.ref a) := List.mem_singleton.mp hy
    rcases hx with e | e
    · exact .inl e
    · exact .inr ⟨e, cellsFrom_some _ _ _ (.inl e)⟩
  · refine wpAny_mono (body w s₀ s₁ { s₁ with heap := h₁, toks := tk } mg mb fa o pm cd doc a vs ns G Y ho (fd_plain hd) hcd hmg hobj hints hlen hg rfl F X) (fun f s' hq => ?_) (fun _ _ hq => hq)
    obtain ⟨rfl, h2, h3, h4⟩ := hq
    exact ⟨.inl ⟨.bool true, .bool true, [], rfl, fun _ => rfl, .bool true, post_true l _, fun _ => ⟨List.Pairwise.nil, fun _ hm => (nomatch hm)⟩⟩, h2, h3, h4⟩

/-! ### rules over ANY heap (no ledger) from facts about the written part K: the library's own take a ledger (News) for what they write -/
section
variable {prog : Program} {w : World} {A : Around} {E : Value → Shared → Prop} {s : Shared} {K : Frag}

/-- a def of the module, or a method (qual 'C.m'), entered: the frame is the next address; cells behind it -/
theorem call_fn {R : Result → Shared → Prop} {name qual : Str} {params : Arguments} {body : List Stmt} {scope : Scope} {dV kV doc pm cdv ct oc : Value} {an od : Option Addr} {osl : Array (Option Value)} {f : Addr} {args : Args} {binds : List (Str × Value)}
    (X : K.In s.heap) (hlim : s.heap.NoLimit) (ho : K.lookup f = some ⟨oc, od, .func (fnOf name qual params body scope dV kV doc pm an cdv ct), osl⟩) (hcd : codeIn K cdv qual = true) (hroom : A.depth < recursionLimit)
    (hbind : BindsTo s (fnOf name qual params body scope dV kV doc pm an cdv ct) args binds)
    (hkind : (binds.all fun y => scope.names.lookup y.1 == some .local || scope.names.lookup y.1 == some .cell) = true)
    (h : ∀ s₁, InCallC s s.heap.objs.size (bindL (envOfC qual scope s.heap.objs.size f cdv).kindOf binds fun _ => none) (cellsFrom (s.heap.objs.size + 1) scope.names [])
        (bindC (envOfC qual scope s.heap.objs.size f cdv).kindOf binds fun _ => none) s₁ →
      wpAny (model prog w) (A.deeper (envOfC qual scope s.heap.objs.size f cdv)) (execs body (envOfC qual scope s.heap.objs.size f cdv))
        (fun fl s' => R (.ok (.ret (match fl with | .ret v => v | _ => .none))) s')
        (fun e s' => wpAny (model prog w) (A.deeper (envOfC qual scope s.heap.objs.size f cdv)) (leaving (envOfC qual scope s.heap.objs.size f cdv) e) (fun _ s'' => R (.error e) s'') (fun e' s'' => R (.error e') s'') s') s₁)
    (hco : scope.isCoroutine = false) (hgen : scope.isGenerator = false) (hk : scope.kind = .function) : codeAny (model prog w) A (.call (.ref f) args) R s := by
  refine codeAny_call_function hroom (X _ _ ho) rfl hco hgen rfl (codeRec_of X hcd) (hbind _ _ _ _ ?_)
  refine wpAny_newFunctionEnv_cells hk (kindsX hkind _) fun env he s₁ x => ?_
  subst he
  exact ⟨hlim.keeps x.toInCall.keep, codeAny_func (h s₁ x)⟩

/-- C(..): dict at size, instance at size + 1, then __init__ -/
theorem make_obj {R : Result → Shared → Prop} {C fI : Addr} {rest : List Value} {kw : List (Str × Value)}
    (X : K.In s.heap) (hm : makesIn K C = true) (hi : findIn K (.ref C) "__init__" = some (some (.ref fI))) (hf : isFn K (.ref fI) = true)
    (h : codeAny (model prog w) (A.under (.builtin "type.__call__" ⟨.ref C :: rest, kw⟩)) (.call (.ref fI) ⟨.ref (s.heap.objs.size + 1) :: rest, kw⟩) (InitBack (s.heap.objs.size + 1) R)
      { s with heap := (s.heap.push emptyDict).push (instObj C s.heap.objs.size) }) : codeAny (model prog w) A (.call (.ref C) ⟨rest, kw⟩) R s := by
  obtain ⟨hh, g, d, t, os⟩ := s
  exact make_core (makes_of X hm) (looks_findIn X hi) (fun self => bind_fn X self (beq_iff_eq.mp hf)) (.inl rfl) h

/-- x.name where the instance's dict holds the name and the class does not -/
theorem get_field {x C : Addr} {ox : Obj} {es : List DictEntry} {n : Nat} {name : Str} {expr : Bool} {v : Value} {Q : Value → Shared → Prop}
    (X : K.In s.heap) (I : PySem.W.InstAt s.heap x ox C (some (dictOf es n))) (hg : plainGet K C name = true) (hh : hasDictIn K C = true) (ha : findIn K (.ref C) name = some none)
    (hl : getL name es = some (some v)) (hv : handedIn v = true) (h : Q v { s with toks := s.toks + 1 }) : wpAny (model prog w) A (getAttr (.ref x) name expr) Q E s :=
  get_value X I (plainGet_of hg).1 (findObj_own hh ha rfl hl) hv h

/-- x.m(..): the method found in the class -/
theorem get_method {x C f : Addr} {ox : Obj} {es : List DictEntry} {n : Nat} {name : Str} {pl : Sem Bool} {Q : Value × List Value → Shared → Prop}
    (X : K.In s.heap) (I : PySem.W.InstAt s.heap x ox C (some (dictOf es n))) (hg : plainGet K C name = true) (hf : findIn K (.ref C) name = some (some (.ref f))) (ht : isFn K (.ref f) = true)
    (hl : getL name es = some none) (h : Q (.ref f, [.ref x]) s) : wpAny (model prog w) A (getMethod (.ref x) name pl) Q E s :=
  method_fn X I (plainGet_of hg).1 (plainGet_of hg).2 hf (beq_iff_eq.mp ht) (by show (lookIn name (dictOf es n)).map _ = _; rw [lookIn_dict, hl]; rfl) h

/-! the whole heap as the ledger: makes every rule that writes through a ledger a rule over any heap -/
def noObjs (h : Heap) : Heap := { h with objs := #[] }
theorem noObjs_get (h : Heap) (b : Addr) : (noObjs h).get? b = none := by
  cases e : (noObjs h).get? b with
  | none => rfl
  | some o => exact absurd (Heap.lt_size e) (Nat.not_lt_zero _)
def ledger (h : Heap) (L d : Addr) : List (Addr × Obj) := (List.range h.objs.size).filterMap fun a => if a = L ∨ a = d then none else (h.get? a).map fun o => (a, o)
theorem mem_ledger {h : Heap} {L d a : Addr} {o : Obj} : (a, o) ∈ ledger h L d ↔ a ≠ L ∧ a ≠ d ∧ h.get? a = some o := by
  unfold ledger
  rw [List.mem_filterMap]
  constructor
  · rintro ⟨b, _, e⟩
    split at e
    · cases e
    · rename_i hb
      obtain ⟨o', ho, e'⟩ := Option.map_eq_some_iff.mp e
      cases e'
      exact ⟨fun q => hb (.inl q), fun q => hb (.inr q), ho⟩
  · rintro ⟨n1, n2, ho⟩
    refine ⟨a, List.mem_range.mpr (Heap.lt_size ho), ?_⟩
    rw [if_neg (show ¬ (a = L ∨ a = d) from fun q => q.elim n1 n2), ho] <;> rfl
theorem news_ledger {h : Heap} {L d : Addr} {od : Obj} (hne : d ≠ L) (ho : h.get? d = some od) : News (noObjs h) L h ([] ++ (d, od) :: ledger h L d) := by
  rintro ⟨a, o⟩ hp
  rcases List.mem_cons.mp hp with e | hp
  · cases e
    exact ⟨ho, hne, noObjs_get _ _⟩
  · obtain ⟨n1, n2, e⟩ := mem_ledger.mp hp
    exact ⟨e, n1, noObjs_get _ _⟩
theorem fr_all {h : Heap} {L : Addr} {m : Str → Option Value} (n : h.Ns L m) : Fr (noObjs h) L h m :=
  ⟨n, fun b o e => (by rw [noObjs_get] at e; cases e), Nat.zero_le _⟩
/-- Upd of the head entry (for append_K, setItem_K ..) -/
theorem upd_ledger {h : Heap} {L d : Addr} {o o' : Obj} : Upd d o o' ((d, o) :: ledger h L d) ((d, o') :: ledger h L d) :=
  .head fun ⟨_, _⟩ hp => (mem_ledger.mp hp).2.1

/-- x.name = v over any heap: L is any namespace of the heap (the frame's, say): its map stays, its object is not told; all else but the dict stays -/
theorem set_field {x C dx L : Addr} {ox : Obj} {m : Str → Option Value} {es es' : List DictEntry} {n n' : Nat} {name : Str} {v : Value} {Q : Unit → Shared → Prop}
    (X : K.In s.heap) (I : PySem.W.InstAt s.heap x ox C (some (dictOf es n))) (hd : ox.dict = some dx) (hL : s.heap.Ns L m) (hne : dx ≠ L)
    (hs : findIn K (.ref C) "__setattr__" = some (some (.builtin "object.__setattr__"))) (hp : plainOver K C = true) (ht : takerIn K C name = some none) (hh : hasDictIn K C = true) (hl : (getL name es).isSome = true)
    (e : (putL name (PyData.keyHash w.params name) (.str name (s.toks + 1)) v es, putN name es n) = (es', n')) (hz : es'.length ≤ 1000)
    (h : ∀ h' : Heap, h'.Ns L m → h'.get? dx = some (dictOf es' n') → (∀ b o, b ≠ dx → b ≠ L → s.heap.get? b = some o → h'.get? b = some o) → Q () { s with heap := h', toks := s.toks + 2 }) :
    wpAny (model prog w) A (setAttr (.ref x) name v) Q E s := by
  obtain ⟨e1, e2⟩ := Prod.mk.inj e
  have hdx : s.heap.get? dx = some (dictOf es n) := by
    have := I.dict
    rw [hd] at this
    exact this
  refine set_plain X I hs (osa_dict (s := { s with toks := s.toks + 1 }) (h₀ := noObjs s.heap) (L := L) (m := m) (od := dictOf es n) (od' := dictOf es' n') (es := es') (n := n') (pre := []) (post := ledger s.heap L dx)
    (fr_all hL) (news_ledger hne hdx) X I hd hp ht hh hl (fun _ q => nomatch q) (fun ⟨_, _⟩ q => (mem_ledger.mp q).2.1) (by rw [putName_dict, e1, e2]) rfl hz fun h' F' N' => ?_)
  exact h h' F'.ns (N'.get (List.Mem.head _)) fun b o n1 n2 ho => N'.get (List.Mem.tail _ (mem_ledger.mpr ⟨n2, n1, ho⟩))
end
end Att

namespace L2
open PySem PySem.Spec PyProof.Rows

theorem vals_ints : ∀ {vs : List Value} {ns : List Int}, IntsAre vs ns → Vals (ns.map V.int) vs
  | _, _, .nil => .nil
  | _, _, .cons n t h => .cons ⟨t, rfl⟩ (vals_ints h)

/-- nothing is tracked but the script, known to the object (or it is an object of the module) -/
def Only (H : Hp) : Prop := ∀ b, H b = none ∨ ∃ o xs, H b = some (.frz o (.lst xs))

/-- THE HEAD: the law's promise, at the heap behind the top. F, the promise of the law's def, may use that base is part of the heap (so K.In base, base.Ns mainGlobals mg stand in Mod) -/
theorem law_call {P : Program} {w : World} {K : PySem.W.Frag} {mg mb : Str → Option Value} {CX : CXT} {k : Nat} {fa a : Addr} {fd : FuncData} {x : Str} {sp : Sp} {s₁ : Shared} {vs : List Value} {ns : List Int}
    (KX : K.In s₁.heap) (hns : s₁.heap.Ns mainGlobals mg) (hb : s₁.heap.Ns builtinsNs mb) (hbb : ∀ x : Str, x ≠ "__name__" → mb x = bootBuiltins x) (hlim : s₁.heap.NoLimit) (hg : s₁.gens = #[])
    (ha : s₁.heap.get? a = some { cls := .type "list", data := .seq vs.toArray }) (hi : IntsAre vs ns) (hl : ns.length ≤ sizeLine) (hr : Room k callerA)
    (F : ∀ base : Heap, K.In base → base.Ns mainGlobals mg → FnOk P w K mg base CX k fa fd [x] sp) (hbind : ∀ (s : Shared) (u : Value), BindsTo s fd ⟨[u], []⟩ [(x, u)])
    (hsp : ∀ H : Hp, Only H → SqL K H a (ns.map V.int) → sp [.ref a] H (fun v _ => v = .bl true) fun _ _ _ => False)
    (hCX : ∀ H e s', CX [] H s₁ (fun _ _ _ => False) e s' → False) :
    codeAny (model P w) callerA (.call (.ref fa) ⟨[.ref a], []⟩) (fun r s' => r = .ok (.ret (.bool true)) ∧ OldK s₁.heap s'.heap ∧ s'.os = s₁.os ∧ AllBare s'.gens) s₁ := by
  have rv := vals_ints hi
  have lenV := hi.length
  -- from an abstract heap in which nothing but the script may be tracked
  have core : ∀ H : Hp, Only H → SqL K H a (ns.map V.int) → HOk P w H s₁.heap → (∀ b, H b ≠ none → b = a) → (H a ≠ none → K.lookup a = none) →
      codeAny (model P w) callerA (.call (.ref fa) ⟨[.ref a], []⟩) (fun r s' => r = .ok (.ret (.bool true)) ∧ OldK s₁.heap s'.heap ∧ s'.os = s₁.os ∧ AllBare s'.gens) s₁ := by
    intro H hO hS hok hA hK
    have base_of : ∀ {b : Addr} {o : Obj}, s₁.heap.get? b = some o → H b = none → (hidT s₁.heap H).get? b = some o := fun e n => hidT_get e n
    have noA : ∀ {b : Addr} {o : Obj} {es : Array DictEntry} {ep : Nat}, s₁.heap.get? b = some o → o.data = .dict es ep → H b = none := fun {b o es ep} e d => by
      cases q : H b with
      | none => rfl
      | some u =>
        have e' : b = a := hA b (by rw [q]; simp)
        subst e'
        rw [ha] at e; cases e
        have d' : Data.seq vs.toArray _ = Data.dict es ep := d
        cases d'
    have nsK : ∀ {b : Addr} {m : Str → Option Value}, s₁.heap.Ns b m → (hidT s₁.heap H).Ns b m := fun {b m} ⟨o, es, ep, e, d, r⟩ => ⟨o, es, ep, base_of e (noA e d), d, r⟩
    have hKb : K.In (hidT s₁.heap H) := fun b o e => base_of (KX b o e) (by
      cases q : H b with
      | none => rfl
      | some u =>
        have e' : b = a := hA b (by rw [q]; simp)
        subst e'
        rw [hK (by rw [q]; simp)] at e; cases e)
    have hM : Mod K mg (hidT s₁.heap H) := ⟨hKb, nsK hns, ⟨mb, nsK hb, hbb⟩, let ⟨mc, h1, h2⟩ := hlim; ⟨mc, nsK h1, h2⟩⟩
    have e0 : Env0 P w K mg (hidT s₁.heap H) callerA [] s₁ H := ⟨rfl, hM, fun b o e => of_hidT e, Nat.le_of_eq (hidT_size _ _), trivial, fun b hb => absurd (show b ∈ ([] : List Addr) from hb) (by simp), hok, .of_eq hg⟩
    refine codeAny_mono ((F _ hKb (nsK hns)).run callerA [] s₁ H ⟨[.ref a], []⟩ [.ref a] [.ref a] _ _ hr e0 (hbind s₁ (.ref a)) (.cons rfl .nil) (hsp H hO hS)) fun r s' h => ?_
    cases r with
    | error e => exact (hCX H e s' h).elim
    | ok fl =>
      cases fl with
      | next => exact False.elim h
      | brk => exact False.elim h
      | cont => exact False.elim h
      | ret u =>
        obtain ⟨v, H', os, bare, un, hok', r', q⟩ := h
        have q' : v = .bl true := q
        subst q'
        obtain rfl : u = Value.bool true := r'
        refine ⟨rfl, OldK.of_keep fun b o e => ?_, os, bare⟩
        cases q : H b with
        | none => exact un.keep b o e q (by intro z; exact absurd (show b ∈ ([] : List Addr) from z) (by simp)) (by simp)
        | some u =>
          rcases hO b with z | ⟨ob, xs, z⟩
          · rw [q] at z; cases z
          · have z2 := un.frzs b ob _ z
            obtain ⟨e1, _⟩ := hok b _ z
            obtain ⟨e2, _⟩ := hok' b _ z2
            rw [e] at e1; cases e1
            exact e2
  cases hk : K.lookup a with
  | some o =>
    -- the script is one of the module's own objects
    have e := KX a o hk
    rw [ha] at e
    cases e
    refine core (fun _ => none) (fun _ => .inl rfl) (.inr ⟨_, vs.toArray, _, hk, rfl, rfl, rfl, by rw [List.size_toArray, lenV]; exact hl, by simpa using rv⟩) (fun b u z => by have z' : (none : Option HO) = some u := z; cases z') (fun b z => absurd rfl z) fun z => absurd rfl z
  | none =>
    refine core (fun b => if b = a then some (.frz { cls := .type "list", data := .seq vs.toArray } (.lst (ns.map V.int))) else none) (fun b => ?_) (.inl (.inr ⟨{ cls := .type "list", data := .seq vs.toArray }, if_pos rfl⟩)) (fun b u z => ?_) (fun b z => ?_) fun _ => hk
    · by_cases hb : b = a
      · exact .inr ⟨_, _, if_pos hb⟩
      · exact .inl (if_neg hb)
    · by_cases hb : b = a
      · have z' := (if_pos hb).symm.trans z
        cases z'
        subst hb
        exact ⟨ha, by rw [List.length_map]; exact hl, vs, _, rv, ha⟩
      · have z' := (if_neg hb).symm.trans z
        cases z'
    · by_cases hb : b = a
      · exact hb
      · exact absurd (if_neg hb) z
end L2

namespace L2
open PySem PySem.Spec PyProof.Rows

abbrev KOf {K : PySem.W.Frag} {h : Heap} (_ : K.In h) : PySem.W.Frag := K

/-- the goal that k_head leaves (case hc), from the law's promise. F gives the function object fd (K's own) once, then the promise over every base -/
theorem walk_of {l : PySem.W.OpenLaw} {n k : Nat} {q : Program} {loose : List Str} {XP : (Str → Option Value) → Heap → Prop} {YP : World → Heap → Prop} {d : DefRec} {K : Params → PySem.W.Frag} {CX : World → CXT} {sp : World → Sp} {x : Str}
    (hn : l.most = some n) (hn2 : n ≤ sizeLine) (hdf : d.params.defaults = []) (hr : Room k callerA)
    (hY : ∀ (w : World) (h : Heap), YP w h → (K w.params).In h)
    (F : ∀ (w : World) (mg : Str → Option Value) (fa : Addr) (h : Heap), (K w.params).In h → h.Ns mainGlobals mg → mg d.name = some (.ref fa) →
      ∃ fd : FuncData, (∀ (s : Shared) (u : Value), BindsTo s fd ⟨[u], []⟩ [(x, u)]) ∧
        ∀ base : Heap, (K w.params).In base → base.Ns mainGlobals mg → FnOk l.prog w (K w.params) mg base (CX w) k fa fd [x] (sp w))
    (hsp : ∀ (w : World) (H : Hp) (a : Addr) (ns : List Int), ns.length ≤ n → Only H → SqL (K w.params) H a (ns.map V.int) → sp w [.ref a] H (fun v _ => v = .bl true) fun _ _ _ => False)
    (hCX : ∀ (w : World) (H : Hp) (s : Shared) (e : Value) (s' : Shared), CX w [] H s (fun _ _ _ => False) e s' → False) :
    PySem.W.WalkO q loose XP YP l.row.toRowW d [] (fun f vs => PySem.call f vs) := by
  refine Att.attach_call hn hdf fun w s₀ s₁ mg mb fa o pm cd doc a vs ns G Y ho hd hcd hmg hobj hints hlen hg => ?_
  have KX := hY w _ Y
  obtain ⟨fd, hb, hF⟩ := F w mg fa _ KX G.T.g hmg
  exact law_call KX G.T.g G.T.b G.T.builtins G.T.nolimit hg hobj hints (Nat.le_trans hlen hn2) hr hF hb (fun H hO hS => hsp w H a ns hlen hO hS) fun H e s' => hCX w H s₁ e s'
/-- the same where the promise hangs on the written part alone: (sp := My.sp_law), no hole under a binder -/
theorem walk_ofK {l : PySem.W.OpenLaw} {n k : Nat} {q : Program} {loose : List Str} {XP : (Str → Option Value) → Heap → Prop} {YP : World → Heap → Prop} {d : DefRec} {K : Params → PySem.W.Frag} {CX : CXT} {sp : PySem.W.Frag → Sp} {x : Str}
    (hn : l.most = some n) (hn2 : n ≤ sizeLine) (hdf : d.params.defaults = []) (hr : Room k callerA)
    (hY : ∀ (w : World) (h : Heap), YP w h → (K w.params).In h)
    (F : ∀ (w : World) (mg : Str → Option Value) (fa : Addr) (h : Heap), (K w.params).In h → h.Ns mainGlobals mg → mg d.name = some (.ref fa) →
      ∃ fd : FuncData, (∀ (s : Shared) (u : Value), BindsTo s fd ⟨[u], []⟩ [(x, u)]) ∧
        ∀ base : Heap, (K w.params).In base → base.Ns mainGlobals mg → FnOk l.prog w (K w.params) mg base CX k fa fd [x] (sp (K w.params)))
    (hsp : ∀ (K : PySem.W.Frag) (H : Hp) (a : Addr) (ns : List Int), ns.length ≤ n → Only H → SqL K H a (ns.map V.int) → sp K [.ref a] H (fun v _ => v = .bl true) fun _ _ _ => False)
    (hCX : ∀ (H : Hp) (s : Shared) (e : Value) (s' : Shared), CX [] H s (fun _ _ _ => False) e s' → False) :
    PySem.W.WalkO q loose XP YP l.row.toRowW d [] (fun f vs => PySem.call f vs) :=
  walk_of (K := K) (CX := fun _ => CX) (sp := fun w => sp (K w.params)) hn hn2 hdf hr hY F (fun w H a ns h1 h2 h3 => hsp (K w.params) H a ns h1 h2 h3) fun _ H s e s' => hCX H s e s'
end L2

/- THE LAST THEOREM (shape; LID, My.* are yours):
   My.Adr: a structure of the addresses that your layer names (classes, functions); My.Txt K t: a structure (Prop) of the equations over K;
   My.txt_mk : {K} {implicit addresses ..} (e1 : nsIn K mainGlobals "law" = some (some (.ref f))) (e2 : K.lookup f = some ⟨oc, od, .func (fnOf "law" "law" params body scope dV kV doc pm an cdv ct), sl⟩) (e3 : codeIn K cdv "law" = true) .. : ∃ t, My.Txt K t

set_option maxRecDepth 100000 in
set_option maxHeartbeats 0 in
theorem PySem.Challenge.cw_LID_holds : PySem.Challenge.rw_LID.Holds := by
  w_on; o_law; k_head; (case hw => w_witness2)
  k_fill
  refine L2.walk_of (l := PySem.Challenge.rw_LID) (n := 63) (k := 40) (x := "script") (CX := fun w => ..) (sp := fun _ => My.sp_law) rfl (by decide) rfl ⟨rfl, by decide, by decide⟩ (fun w h Y => PySem.W.kIn_of Y) ?F ?S ?C
  case F =>
    intro w mg fa h KX G hmg
    have T : ∃ t, My.Txt (L2.KOf KX) t := by
      dsimp only [L2.KOf]                          -- K must stand as «<heap const> w.params» for k_is
      refine' My.txt_mk ?e1 ?e2 ?e3 ..
      (case e1 => PySem.W.k_is)                    -- in the order: a name -> its address -> its object -> its parts
      (case e2 => PySem.W.k_is)
      ..
    obtain ⟨t, T⟩ := T
    have e0 := hmg.symm.trans (PySem.W.mg_of KX G T.law)
    cases e0                                       -- fa is the law's own address
    exact ⟨_, fun s u => .of_eq rfl, fun base kb nb => My.law_fn T kb nb⟩     -- if «.of_eq rfl» comes too early: refine' ⟨_, ?b, fun base kb nb => My.law_fn T kb nb⟩; exact fun s u => .of_eq rfl
  case S => exact fun w H a ns hl hO hS => ..
  case C => exact ..
(the tactic k_is has no namespace: write k_is) -/

/-! SHORT WORDS over the layer: a def of the text, its body, what a loop and a test want. -/
namespace L2
open PySem PySem.Spec PyProof.Rows

/-! ### the text by places -/
/-- the j-th statement of a class's body -/
def inClass (s : Stmt) (j : Nat) : Stmt := match s with
  | .ClassDef _ _ _ body _ _ _ _ _ _ _ => body.getD j (.Pass ⟨0, 0, 0, 0⟩)
  | _ => .Pass ⟨0, 0, 0, 0⟩
def defArgs (s : Stmt) : Arguments := match s with
  | .FunctionDef _ a _ _ _ _ _ _ _ _ => a
  | _ => { posonlyargs := [], args := [], vararg := none, kwonlyargs := [], kw_defaults := [], kwarg := none, defaults := [] }
def defBody (s : Stmt) : List Stmt := match s with
  | .FunctionDef _ _ b _ _ _ _ _ _ _ => b
  | _ => []
def defScope (s : Stmt) : Scope := match s with
  | .FunctionDef _ _ _ _ _ _ sc _ _ _ => sc
  | _ => { kind := .function, names := [], isGenerator := false, isCoroutine := false }

/-! ### no exception leaves a def -/
abbrev CX0 : CXT := fun _ _ _ _ _ _ => False
abbrev E0 : XK := fun _ _ _ => False
theorem pass0 {X : Cx} : Passes CX0 X E0 := fun _ _ _ _ _ _ _ h => h.elim

/-! ### a def (or method) of the text as it stands behind the top -/
structure Fun (K : PySem.W.Frag) (x qual : Str) (st : Stmt) (f : Addr) (fd : FuncData) : Prop where
  ex : ∃ (oc : Value) (od : Option Addr) (kV doc pm : Value) (an : Option Addr) (cdv ct : Value) (osl : Array (Option Value)),
    fd = PySem.W.fnOf x qual (defArgs st) (defBody st) (defScope st) .none kV doc pm an cdv ct ∧ K.lookup f = some ⟨oc, od, .func fd, osl⟩ ∧ PySem.W.codeIn K cdv qual = true
  kp : PySem.W.keepIn K (.ref f) = true
section
variable {P : Program} {w : World} {K : PySem.W.Frag} {mg : Str → Option Value} {base : Heap}
/-- THE RULE for a def: its body as a term of rules, and the reading of that term -/
theorem Fun.ok {x qual : Str} {st : Stmt} {f : Addr} {fd : FuncData} {N ps : List Str} {k : Nat} {sp : Sp} (F : Fun K x qual st f fd) (S : FnScope N ps (defScope st)) (len : ∀ vs H Q E, sp vs H Q E → vs.length = ps.length)
    (hbody : ∀ (cdv : Value) (A : Around) (outer : List Env) (s : Shared) (H : Hp) (vs : List V) (Q : VK) (E : XK), Room k (A.deeper (envOfC qual (defScope st) s.heap.objs.size f cdv)) → sp vs H Q E →
      ∃ t, PSs (cxOf CX0 P w K mg base N qual (defScope st) f cdv A outer s H E).nox (defBody st) t ∧ t { nx := fun _ H' => Q .non H', rt := Q } (start N vs) H) : FnOk P w K mg base CX0 (k + 1) f fd ps sp := by
  obtain ⟨oc, od, kV, doc, pm, an, cdv, ct, osl, rfl, lk, hcd⟩ := F.ex
  refine fn_of lk hcd S len fun A outer s H vs Q E hr hsp => ?_
  obtain ⟨t, h, q⟩ := hbody cdv A outer s H vs Q E hr hsp
  exact ⟨t, h.nox, q⟩
/-- how its arguments bind (no defaults): h is «fun _ _ _ _ _ _ us hl => match us, hl with | [_, _], _ => rfl», one _ a parameter -/
theorem Fun.binds {x qual : Str} {st : Stmt} {f : Addr} {fd : FuncData} {ps : List Str} (F : Fun K x qual st f fd)
    (h : ∀ (kV doc pm : Value) (an : Option Addr) (cdv ct : Value) (us : List Value), us.length = ps.length → bindArgs (PySem.W.fnOf x qual (defArgs st) (defBody st) (defScope st) .none kV doc pm an cdv ct) ⟨us, []⟩ = pure (ps.zip us)) : Binds K fd ps [] := by
  obtain ⟨oc, od, kV, doc, pm, an, cdv, ct, osl, rfl, lk, hcd⟩ := F.ex
  exact .all (h kV doc pm an cdv ct)
theorem fun_mk {x qual : Str} {st : Stmt} {f : Addr} {oc : Value} {od an : Option Addr} {osl : Array (Option Value)} {kV doc pm cdv ct : Value} (l : K.lookup f = some ⟨oc, od, .func (PySem.W.fnOf x qual (defArgs st) (defBody st) (defScope st) .none kV doc pm an cdv ct), osl⟩)
    (c : PySem.W.codeIn K cdv qual = true) (k : PySem.W.keepIn K (.ref f) = true) : Fun K x qual st f (PySem.W.fnOf x qual (defArgs st) (defBody st) (defScope st) .none kV doc pm an cdv ct) := ⟨⟨oc, od, kV, doc, pm, an, cdv, ct, osl, rfl, l, c⟩, k⟩
end
theorem hu_of {A : Around} {k : Nat} (hr : Room k A) : A.units + 1 < cLine := Nat.lt_of_le_of_lt (Nat.add_le_add_left (by decide : 1 ≤ 64) _) hr.units
theorem small1000 {n : Nat} (h : n ≤ 1000) : n < sizeLine := Nat.lt_of_le_of_lt h (by decide)

/-! ### expressions in short: the name that stands in the i-th slot -/
section
variable {X : Cx}
theorem pv (i : Nat) {x : Str} {pos : Pos} (hN : X.N[i]? = some x := by rfl) (hv : Vis X.env.scope x := by first | exact Or.inl rfl | exact Or.inr (Or.inl rfl) | exact Or.inr (Or.inr rfl)) (hd : (x == ("__debug__" : Str)) = false := by decide)
    (hcd : (x == ("__classdict__" : Str)) = false := by decide) : PE X (.Name x pos) (tVar i) := pe_var hN hv hd hcd
end

/-! ### tests -/
theorem iteF {A B : Prop} (h : B) : if false = true then A else B := by
  rw [if_neg Bool.false_ne_true]
  exact h
theorem iteT {A B : Prop} (h : A) : if true = true then A else B := by
  rw [if_pos rfl]
  exact h
theorem ite2 {c A B : Prop} [Decidable c] (h1 : c → A) (h2 : ¬ c → B) : if c then A else B := by
  by_cases h : c
  · rw [if_pos h]
    exact h1 h
  · rw [if_neg h]
    exact h2 h
theorem iteNS {c A B : Prop} [Decidable c] (hc : c) (h : B) : if (!decide c) = true then A else B := by
  rw [decide_eq_true hc]
  exact iteF h

/-! ### heaps -/
/-- all that was tracked is as it was -/
def Same (H H' : Hp) : Prop := ∀ b o, H b = some o → H' b = some o
theorem Same.refl (H : Hp) : Same H H := fun _ _ h => h
theorem Same.trans {H H1 H2 : Hp} (a : Same H H1) (b : Same H1 H2) : Same H H2 := fun c o h => b c o (a c o h)
theorem Same.free {H H' : Hp} (e : Same H H') {l : Addr} (h : H' l = Option.none) : H l = Option.none := by
  cases q : H l with
  | none => rfl
  | some o =>
    rw [e l o q] at h
    cases h
theorem Same.seq {K : PySem.W.Frag} {H H' : Hp} {a : Addr} {xs : List V} (e : Same H H') (h : SqL K H a xs) : SqL K H' a xs := by
  rcases h with (h | ⟨o, h⟩) | h
  · exact .inl (.inl (e _ _ h))
  · exact .inl (.inr ⟨o, e _ _ h⟩)
  · exact .inr h

end L2

set_option Elab.async false
set_option linter.all false
set_option maxRecDepth 100000
set_option maxHeartbeats 4000000
set_option exponentiation.threshold 10000
/-! Further rules over the hand layer: wide ints, isinstance, equality of data, a def under its name. -/
namespace L2
open PySem PySem.Spec PyProof.Rows
open Builtin.Int (intBits)
section
variable {X : Cx}

/-! ### wide ints -/
def CMulB (i j : Int) : Prop := intBits i ≤ 60000000 ∧ intBits j ≤ 60000000
theorem op_mulB : OpR X (binaryOp .Mult) (rI CMulB fun i j => .int (i * j)) := opI fun _ _ _ _ _ _ _ hc q => mul_int q (IntMulOk.of_le hc.1 hc.2 (by decide))
theorem bits_log2 {j : Int} (h0 : j ≠ 0) (h : intBits j ≤ 8000) : j.natAbs.log2 < 9000 := by
  have h1 : j.natAbs < 2 ^ 8000 := intBits_le_iff.mp h
  have h2 : j.natAbs ≠ 0 := by omega
  have h3 : j.natAbs.log2 < 8000 := (Nat.log2_lt h2).mpr h1
  omega
def CDivB (_ j : Int) : Prop := j ≠ 0 ∧ intBits j ≤ 8000
theorem op_fdivB : OpR X (binaryOp .FloorDiv) (rI CDivB fun i j => .int (i.fdiv j)) := opI fun _ _ _ _ _ _ _ hc q => floordiv_int hc.1 q (.inl (PyProof.noPylong_of_log2 (bits_log2 hc.1 hc.2)))

/-! ### isinstance by a built-in type -/
theorem call_isinst : CallR X (.builtin "isinstance") (fun xs H Q => ∃ x t c b, xs = [x, .ty c] ∧ TyOf X.K H x t ∧ PySem.W.kitOne X.K t (.type c) = some b ∧ Q (.bl b) H) := by
  intro pins s σ H xs us Q I r h
  obtain ⟨x, t, c, b, rfl, ty, e, q⟩ := h
  obtain ⟨u, w', rfl, rx, rc⟩ := vals2 r
  cases rc
  exact isinst_ok I rx ty e fun tk => ⟨.bl b, H, I.tok tk, rfl, q⟩

/-! ### data -/
mutual
def RepD (K : PySem.W.Frag) (H : Hp) : PyData → V → Prop
  | .none, v => v = .non
  | .bool b, v => v = .bl b
  | .int i, v => v = .int i
  | .str x, v => v = .str x
  | .tuple ds, v => ∃ a xs, v = .ref a ∧ SqT K H a xs ∧ RepAll K H ds xs
  | .list ds, v => ∃ a xs, v = .ref a ∧ SqL K H a xs ∧ RepAll K H ds xs
  | .dict _, _ => False
def RepAll (K : PySem.W.Frag) (H : Hp) : List PyData → List V → Prop
  | [], xs => xs = []
  | d :: ds, xs => ∃ x r, xs = x :: r ∧ RepD K H d x ∧ RepAll K H ds r
end
mutual
theorem RepD.reads {pins : List (Addr × Obj)} {σ : St} {H : Hp} {s : Shared} (I : Inv X pins σ H s) : ∀ (d : PyData) (v : V) (u : Value), RepD X.K H d v → RelV v u → ∃ as, Reads s.heap u d as
  | .none, v, u, h, r => by
    unfold RepD at h; subst h; cases r; exact ⟨_, .none⟩
  | .bool b, v, u, h, r => by
    unfold RepD at h; subst h; cases r; exact ⟨_, .bool b⟩
  | .int i, v, u, h, r => by
    unfold RepD at h; subst h; obtain ⟨t, rfl⟩ := r; exact ⟨_, .int i t⟩
  | .str x, v, u, h, r => by
    unfold RepD at h; subst h; obtain ⟨t, rfl⟩ := r; exact ⟨_, .str x t⟩
  | .tuple ds, v, u, h, r => by
    unfold RepD at h
    obtain ⟨a, xs, rfl, hq, ha⟩ := h
    cases r
    obtain ⟨its, rv, ⟨o, e, c, n, d⟩, _⟩ := I.tuple hq
    obtain ⟨as, ra⟩ := RepAll.reads I ds xs its ha rv
    exact ⟨_, .tuple e c d (by simpa using ra)⟩
  | .list ds, v, u, h, r => by
    unfold RepD at h
    obtain ⟨a, xs, rfl, hq, ha⟩ := h
    cases r
    obtain ⟨its, rv, ⟨o, n, e, c, _, d⟩, _⟩ := I.list hq
    obtain ⟨as, ra⟩ := RepAll.reads I ds xs its ha rv
    exact ⟨_, .list e c d (by simpa using ra)⟩
  | .dict _, v, u, h, r => by
    unfold RepD at h; exact h.elim
theorem RepAll.reads {pins : List (Addr × Obj)} {σ : St} {H : Hp} {s : Shared} (I : Inv X pins σ H s) : ∀ (ds : List PyData) (xs : List V) (us : List Value), RepAll X.K H ds xs → Vals xs us → ∃ as, ReadsAll s.heap us ds as
  | [], xs, us, h, r => by
    unfold RepAll at h; subst h; cases r; exact ⟨_, .nil⟩
  | d :: ds, xs, us, h, r => by
    unfold RepAll at h
    obtain ⟨x, xr, rfl, h1, h2⟩ := h
    cases r with
    | cons r1 r2 =>
      obtain ⟨as, ra⟩ := RepD.reads I d _ _ h1 r1
      obtain ⟨bs, rb⟩ := RepAll.reads I ds _ _ h2 r2
      exact ⟨_, .cons ra rb⟩
end
def rEqD (K : PySem.W.Frag) : R2 := fun x y H Q => ∃ d e, RepD K H d x ∧ RepD K H e y ∧ d.canLay0 = true ∧ e.canLay0 = true ∧ d.depth ≤ 64 ∧ Q (.bl (PyData.eqv d e)) H
def rNeD (K : PySem.W.Frag) : R2 := fun x y H Q => ∃ d e, RepD K H d x ∧ RepD K H e y ∧ d.canLay0 = true ∧ e.canLay0 = true ∧ d.depth ≤ 64 ∧ Q (.bl (!PyData.eqv d e)) H
theorem op_eqD (hu : X.A.units + 64 < cLine) : OpR X (compareOp .Eq) (rEqD X.K) := by
  intro pins s σ H x y v u Q I rx ry h
  obtain ⟨d, e, hd, he, cd, ce, hz, q⟩ := h
  obtain ⟨as, ra⟩ := RepD.reads I d x v hd rx
  obtain ⟨bs, rb⟩ := RepD.reads I e y u he ry
  exact SeqAt.eqOverData X.prog X.w X.A X.xe s v u d e as bs _ ra rb cd ce (by omega) ⟨.bl _, H, I, rfl, q⟩
theorem op_neD (hu : X.A.units + 64 < cLine) : OpR X (compareOp .NotEq) (rNeD X.K) := by
  intro pins s σ H x y v u Q I rx ry h
  obtain ⟨d, e, hd, he, cd, ce, hz, q⟩ := h
  obtain ⟨as, ra⟩ := RepD.reads I d x v hd rx
  obtain ⟨bs, rb⟩ := RepD.reads I e y u he ry
  exact SeqAt.neOverData X.prog X.w X.A X.xe s v u d e as bs _ ra rb cd ce (by omega) ⟨.bl _, H, I, rfl, q⟩

/-! tuples of ints -/
abbrev dInts (ns : List Int) : PyData := .tuple (ns.map .int)
theorem repAll_ints {K : PySem.W.Frag} {H : Hp} : ∀ ns : List Int, RepAll K H (ns.map .int) (ns.map V.int)
  | [] => by unfold RepAll; rfl
  | n :: ns => by
    show RepAll K H (.int n :: ns.map .int) (.int n :: ns.map V.int)
    unfold RepAll
    exact ⟨_, _, rfl, by unfold RepD; rfl, repAll_ints ns⟩
theorem rep_ints {K : PySem.W.Frag} {H : Hp} {a : Addr} {ns : List Int} (h : SqT K H a (ns.map V.int)) : RepD K H (dInts ns) (.ref a) := by
  unfold RepD
  exact ⟨a, _, rfl, h, repAll_ints ns⟩
theorem eqvAll_ints : ∀ ns ms : List Int, PyData.eqvAll (ns.map .int) (ms.map .int) = decide (ns = ms)
  | [], [] => rfl
  | [], _ :: _ => rfl
  | _ :: _, [] => rfl
  | n :: ns, m :: ms => by
    show (PyData.eqv (.int n) (.int m) && PyData.eqvAll (ns.map .int) (ms.map .int)) = _
    rw [eqvAll_ints ns ms]
    show ((n == m) && decide (ns = ms)) = _
    rw [Bool.eq_iff_iff]
    simp
theorem eqv_ints (ns ms : List Int) : PyData.eqv (dInts ns) (dInts ms) = decide (ns = ms) := by
  unfold PyData.eqv
  exact eqvAll_ints ns ms
theorem lay_ints : ∀ ns : List Int, PyData.canLayAll0 (ns.map .int) = true
  | [] => rfl
  | n :: ns => by
    show (PyData.canLay0 (.int n) && PyData.canLayAll0 (ns.map .int)) = true
    rw [lay_ints ns]
    rfl
theorem depth_ints : ∀ ns : List Int, PyData.depthAll (ns.map .int) ≤ 1
  | [] => by decide
  | n :: ns => by
    show max (PyData.depth (.int n)) (PyData.depthAll (ns.map .int)) ≤ 1
    have := depth_ints ns
    have e : PyData.depth (.int n) ≤ 1 := by unfold PyData.depth; decide
    omega
theorem depth_dInts (ns : List Int) : (dInts ns).depth ≤ 64 := by
  have := depth_ints ns
  unfold PyData.depth
  omega
/-- == of two tuples of ints -/
def rEqT (K : PySem.W.Frag) : R2 := fun x y H Q => ∃ (a b : Addr) (ns ms : List Int), x = .ref a ∧ y = .ref b ∧ SqT K H a (ns.map V.int) ∧ SqT K H b (ms.map V.int) ∧ Q (.bl (decide (ns = ms))) H
theorem op_eqT (hu : X.A.units + 64 < cLine) : OpR X (compareOp .Eq) (rEqT X.K) := by
  intro pins s σ H x y v u Q I rx ry h
  obtain ⟨a, b, ns, ms, rfl, rfl, ha, hb, q⟩ := h
  exact op_eqD hu pins s σ H _ _ v u Q I rx ry ⟨dInts ns, dInts ms, rep_ints ha, rep_ints hb, lay_ints ns, lay_ints ms, depth_dInts ns, by rw [eqv_ints]; exact q⟩
end

/-! ### heaps -/
theorem same_new {H : Hp} {p : Addr} (h : H p = none) (o : HO) : Same H (upd H p o) := fun b u q => by rw [upd_ne (ne_of_none q h)]; exact q
theorem Same.seqT {K : PySem.W.Frag} {H H' : Hp} {a : Addr} {xs : List V} (e : Same H H') (h : SqT K H a xs) : SqT K H' a xs := by
  rcases h with (h | ⟨o, h⟩) | h
  · exact .inl (.inl (e _ _ h))
  · exact .inl (.inr ⟨o, e _ _ h⟩)
  · exact .inr h

/-! ### a def under its name -/
def Dn (P : Program) (w : World) (K : PySem.W.Frag) (mg : Str → Option Value) (base : Heap) (x : Str) (ps : List Str) (k : Nat) (sp : Sp) : Prop :=
  ∃ f fd, FnOk P w K mg base CX0 k f fd ps sp ∧ mg x = some (.ref f) ∧ PySem.W.keepIn K (.ref f) = true ∧ Binds K fd ps []
section
variable {X : Cx} {x : Str} {ps : List Str} {k k' : Nat} {sp : Sp} {e : Expr} {es : List Expr} {t : TA} {p pos : Pos}
theorem pe_dn (D : Dn X.prog X.w X.K X.mg X.base x ps k sp) (hr : Room k' X.A) (hg : Gl X x) (ha : PA X (e :: es) t) (hk : k ≤ k' := by decide)
    (hdb : (x == ("__debug__" : Str)) = false := by decide) (he : starEach (e :: es) X.env = (false, eval e X.env) :: starEach es X.env := by rfl) (hpl : (backTo pos (starEach es X.env)).any (·.1) = false := by rfl) :
    PE X (.Call (.Name x p) (e :: es) [] pos) (tCall sp [] E0 t) := by
  obtain ⟨f, fd, F, hm, hkp, hb⟩ := D
  exact pe_call (F.mono hk) hr hg hm hkp hb .nil pass0 ha hdb he hpl
theorem pe_dn0 (D : Dn X.prog X.w X.K X.mg X.base x ps k sp) (hr : Room k' X.A) (hg : Gl X x) (hk : k ≤ k' := by decide)
    (hdb : (x == ("__debug__" : Str)) = false := by decide) : PE X (.Call (.Name x p) [] [] pos) (tCall sp [] E0 tNil) := by
  obtain ⟨f, fd, F, hm, hkp, hb⟩ := D
  exact pe_call0 (F.mono hk) hr hg hm hkp hb .nil pass0 hdb
end
end L2

set_option Elab.async false
set_option linter.all false
set_option maxRecDepth 100000
set_option maxHeartbeats 4000000
/-! A list comprehension of one clause over the hand layer. -/
namespace L2
open PySem PySem.Spec PyProof.Rows
def clOf (scope : Scope) (env : Env) : List (Str × Addr) := ((scope.names.filter fun y => y.2 == .free).map fun y => (y.1, (env.cells.lookup y.1).getD 0)).reverse
theorem clos_of {scope : Scope} {env : Env} (h : ∀ y ∈ scope.names, y.2 = .free → ∃ c, env.cells.lookup y.1 = some c) : closureFor scope env = pure (clOf scope env) := by
  have go : ∀ (names : List (Str × NameKind)) (acc : List (Str × Addr)), (∀ y ∈ names, y.2 = .free → ∃ c, env.cells.lookup y.1 = some c) →
      (forIn names acc fun (x : Str × NameKind) r => if (x.2 == NameKind.free) = true then do let a ← cellOf env x.1; pure (ForInStep.yield ((x.1, a) :: r)) else pure (ForInStep.yield r) : Sem (List (Str × Addr)))
      = pure (((names.filter fun y => y.2 == .free).map fun y => (y.1, (env.cells.lookup y.1).getD 0)).reverse ++ acc) := by
    intro names
    induction names with
    | nil => intro acc _; rfl
    | cons y r ih =>
      intro acc hh
      obtain ⟨n, k⟩ := y
      rw [List.forIn_cons]
      have hr : ∀ y ∈ r, y.2 = .free → ∃ c, env.cells.lookup y.1 = some c := fun y hy => hh y (List.mem_cons_of_mem _ hy)
      by_cases hk : k = .free
      · subst hk
        obtain ⟨c, hc⟩ := hh (n, .free) List.mem_cons_self rfl
        have hc' : List.lookup n env.cells = some c := hc
        have hcell : cellOf env n = pure c := by unfold cellOf; rw [hc']
        simp only [beq_self_eq_true, if_true]
        rw [hcell]
        simp only [pure_bind]
        rw [ih _ hr, List.filter_cons_of_pos (by rfl), List.map_cons, List.reverse_cons]
        simp [hc']
      · have hb : (k == NameKind.free) = false := by simpa using hk
        simp only [hb, Bool.false_eq_true, if_false, pure_bind]
        rw [ih _ hr, List.filter_cons_of_neg (by simp [hb])]
  have e := go scope.names [] h
  rw [List.append_nil] at e
  have e2 : closureFor scope env = (forIn scope.names ([] : List (Str × Addr)) fun (x : Str × NameKind) r => if (x.2 == NameKind.free) = true then do let a ← cellOf env x.1; pure (ForInStep.yield ((x.1, a) :: r)) else pure (ForInStep.yield r) : Sem (List (Str × Addr))) >>= fun r => pure r := rfl
  rw [e2, e, pure_bind]
  rfl
theorem mem_of_look {α : Type} {y : Str} {c : α} : ∀ {l : List (Str × α)}, l.lookup y = some c → (y, c) ∈ l
  | [], h => by simp at h
  | z :: r, h => by
    rw [List.lookup_cons] at h
    cases e : y == z.1 with
    | true =>
      rw [e] at h
      have : z.2 = c := Option.some.inj h
      have e' : y = z.1 := by simpa using e
      rw [e', ← this]
      exact List.mem_cons_self
    | false =>
      rw [e] at h
      exact List.mem_cons_of_mem _ (mem_of_look h)
theorem lookup_clOf {scope : Scope} {env : Env} {y : Str} {c : Addr} (hs : ∀ y ∈ scope.names, y.2 = .free → ∃ c, env.cells.lookup y.1 = some c) (h : (clOf scope env).lookup y = some c) : env.cells.lookup y = some c := by
  have hm := mem_of_look h
  unfold clOf at hm
  obtain ⟨z, hz, e⟩ := List.mem_map.mp (List.mem_reverse.mp hm)
  obtain ⟨hz1, hz2⟩ := List.mem_filter.mp hz
  obtain ⟨d, hd⟩ := hs z hz1 (by simpa using hz2)
  cases e
  rw [hd]; rfl
theorem clOf_has {scope : Scope} {env : Env} {y : Str} (h : (y, NameKind.free) ∈ scope.names) : ∃ c, (clOf scope env).lookup y = some c := by
  have : (y, (env.cells.lookup y).getD 0) ∈ clOf scope env := by
    unfold clOf
    exact List.mem_reverse.mpr (List.mem_map.mpr ⟨(y, .free), List.mem_filter.mpr ⟨h, rfl⟩, rfl⟩)
  have : ((clOf scope env).lookup y).isSome = true := by
    generalize clOf scope env = l at this
    induction l with
    | nil => cases this
    | cons z r ih =>
      rw [List.lookup_cons]
      cases e : y == z.1 with
      | true => rfl
      | false =>
        rcases List.mem_cons.mp this with q | q
        · rw [← q] at e
          simp at e
        · exact ih q
  exact Option.isSome_iff_exists.mp this

theorem look_relabel_free {env : Env} : ∀ {names : List (Str × NameKind)} {x : Str}, names.lookup x = some .free →
    (names.map fun (n, k) => if (k == NameKind.free && env.scope.kind == .function && env.kindOf n == some .cell) then (n, NameKind.cell) else (n, k)).lookup x = some .cell ∨
    (names.map fun (n, k) => if (k == NameKind.free && env.scope.kind == .function && env.kindOf n == some .cell) then (n, NameKind.cell) else (n, k)).lookup x = some .free
  | [], _, h => by simp at h
  | (n, k) :: r, x, h => by
    have ih := @look_relabel_free env r x
    show List.lookup x ((if (k == NameKind.free && env.scope.kind == .function && env.kindOf n == some .cell) = true then (n, NameKind.cell) else (n, k)) :: _) = _ ∨
      List.lookup x ((if (k == NameKind.free && env.scope.kind == .function && env.kindOf n == some .cell) = true then (n, NameKind.cell) else (n, k)) :: _) = _
    cases hx : x == n with
    | true =>
      simp only [List.lookup_cons, hx] at h
      cases h
      by_cases hc : (NameKind.free == NameKind.free && env.scope.kind == .function && env.kindOf n == some .cell) = true
      · rw [if_pos hc]; left; simp only [List.lookup_cons, hx]
      · rw [if_neg hc]; right; simp only [List.lookup_cons, hx]
    | false =>
      simp only [List.lookup_cons, hx] at h
      by_cases hc : (k == NameKind.free && env.scope.kind == .function && env.kindOf n == some .cell) = true
      · rw [if_pos hc]; simp only [List.lookup_cons, hx]; exact ih h
      · rw [if_neg hc]; simp only [List.lookup_cons, hx]; exact ih h
theorem relabel_inv {env : Env} {scope : Scope} {y : Str} (nocell : ∀ z ∈ scope.names, z.2 ≠ .cell) (h : (relabel scope env).names.lookup y = some .cell ∨ (relabel scope env).names.lookup y = some .free) : (y, NameKind.free) ∈ scope.names := by
  have go : ∀ k, (k = NameKind.cell ∨ k = NameKind.free) → (relabel scope env).names.lookup y = some k → (y, NameKind.free) ∈ scope.names := by
    intro k hk h
    obtain ⟨z, hz, e⟩ := List.mem_map.mp (mem_of_look h)
    obtain ⟨n, k0⟩ := z
    dsimp only at e
    by_cases hc : (k0 == NameKind.free && env.scope.kind == .function && env.kindOf n == some .cell) = true
    · rw [if_pos hc] at e
      have : k0 = .free := by
        rw [Bool.and_eq_true, Bool.and_eq_true] at hc
        simpa using hc.1.1
      cases e
      rw [← this]; exact hz
    · rw [if_neg hc] at e
      cases e
      rcases hk with hk | hk
      · exact absurd hk (nocell _ hz)
      · rw [← hk]; exact hz
  rcases h with h | h
  · exact go _ (.inl rfl) h
  · exact go _ (.inr rfl) h

/-- what a comprehension takes from around it: x its variable, N' its names (x first), caps the slots around it of the others -/
structure CompSc (X : Cx) (scope : Scope) (x : Str) (N' : List Str) (caps : List Nat) : Prop where
  nd : N'.Nodup
  n0 : N'[0]? = some x
  len : N'.length = caps.length + 1
  cap : ∀ (j i : Nat) (y : Str), caps[j]? = some i → N'[j + 1]? = some y → X.N[i]? = some y
  capf : ∀ (j : Nat) (y : Str), N'[j + 1]? = some y → scope.names.lookup y = some .free
  nocell : ∀ y ∈ scope.names, y.2 ≠ .cell
  kind : scope.kind = .function
  names : ∀ y ∈ scope.names, y.2 = .local → scope.names.lookup y.1 = some .local
  loc : scope.names.lookup x = some .local
  free : ∀ y ∈ scope.names, y.2 = .free → (X.env.kindOf y.1 = some .cell ∨ X.env.kindOf y.1 = some .free)
def capv (caps : List Nat) (σ : St) : St := caps.map fun i => (σ[i]?).getD none
abbrev cxComp (X : Cx) (scope : Scope) (N' : List Str) (C : Addr) (ex : List Addr) (s₀ : Shared) (H₀ : Hp) : Cx :=
  { X with N := N', s₀ := s₀, H₀ := H₀, env := compEnvC scope (clOf scope X.env) C X.env, outer := X.stack, stack := X.stack, ex := ex, fn := fun _ => false, pn := [], xe := fun _ _ => False }
def PIfs (X : Cx) (ifs : List Expr) (t : TT) : Prop :=
  ∀ (pins : List (Addr × Obj)) (s : Shared) (σ : St) (H : Hp) (Q : Bool → Hp → Prop), Inv X pins σ H s → t σ H Q →
    wpAny (model X.prog X.w) X.A (forIn ifs true fun c r => if r = true then do let ok ← isTrue c X.env (eval c X.env); pure (ForInStep.yield ok) else pure (ForInStep.yield r)) (TP X pins σ Q) X.xe s
def tYes : TT := fun _ H Q => Q true H
theorem pifs_nil {X : Cx} : PIfs X [] tYes := fun _ _ _ H _ I h => wpAny_tests_nil ⟨H, I, h⟩
theorem pifs_one {X : Cx} {c : Expr} {t : TT} (h : PT X c t) : PIfs X [c] t := fun pins s σ H Q I hw => wpAny_tests_one (h pins s σ H Q I hw)

def tComp (caps : List Nat) (wi : TI) (tt : TT) (te : TE) : TE := fun σ H Q => wi σ H fun J H1 => ∃ W : Nat → Nat → List V → Hp → Prop, (∃ m, W 0 m [] H1) ∧ ∀ i m ys H, W i m ys H →
  (J.stop i H ∧ ∀ p, H p = none → Q (.ref p) (upd H p (.lst ys))) ∨
  (J.go i H ∧ ∀ v H', J.yld i H v H' → tt (some v :: capv caps σ) H' fun b H2 => if b = true then te (some v :: capv caps σ) H2 fun y H3 => ys.length < sizeLine ∧ ∃ m', m' < m ∧ W (i + 1) m' (ys ++ [y]) H3 else ∃ m', m' < m ∧ W (i + 1) m' ys H2)

section
variable {X : Cx} {pins : List (Addr × Obj)} {σ : St} {H₂ : Hp} {scope : Scope} {x : Str} {N' : List Str} {caps : List Nat}

theorem CompSc.cells {s : Shared} (S : CompSc X scope x N' caps) (I : Inv X pins σ H₂ s) : ∀ y ∈ scope.names, y.2 = .free → ∃ c, X.env.cells.lookup y.1 = some c := fun y hy hf => I.ok.has y.1 (S.free y hy hf)

theorem comp_ok {s₃ : Shared} {C : Addr} {ex : List Addr} (S : CompSc X scope x N' caps) (I : Inv X pins σ H₂ s₃) (hC : s₃.heap.objs.size ≤ C) (hex : ∀ b ∈ ex, FpOk X pins H₂ b ∧ b < C) : (cxComp X scope N' C ex s₃ H₂).Ok where
  mod := I.ok.mod
  kind := S.kind
  glob := I.ok.glob
  blt := I.ok.blt
  above := hC
  inj := fun y z c h1 h2 => I.ok.inj y z c (lookup_clOf (S.cells I) h1) (lookup_clOf (S.cells I) h2)
  has := fun y hy => clOf_has (relabel_inv S.nocell hy)
  cab := fun y c h => nomatch h
  hd := I.ok.hd
  frames := I.ok.frames
  stk := .inl rfl
  exf := fun b hb => ⟨Nat.ne_of_lt (hex b hb).2, fun y c h => (hex b hb).1.2.2.2.2.1 y c (lookup_clOf (S.cells I) h)⟩
  bs := I.bs
  bsz := Nat.le_trans I.ok.bsz I.sz
  noex := fun b o e hb => by
    rcases (hex b hb).1.2.2.2.1 with z | z
    · exact I.ok.noex b o e z
    · exact absurd (Nat.lt_of_lt_of_le (Heap.lt_size e) (Nat.le_trans I.ok.bsz z)) (Nat.lt_irrefl _)
  exfs := fun b hb hm => by
    obtain ⟨_, f1, f2, _⟩ := (hex b hb).1
    rcases List.mem_cons.mp (I.stkSub b hm) with z | z
    · exact f1 z
    · exact f2 z
  funs := I.stack
  frf := I.stkFree

theorem capv_at {j : Nat} {v : V} (h : (capv caps σ)[j]? = some (some v)) : ∃ i, caps[j]? = some i ∧ σ[i]? = some (some v) := by
  unfold capv at h
  rw [List.getElem?_map] at h
  cases e : caps[j]? with
  | none => rw [e] at h; cases h
  | some i =>
    rw [e] at h
    refine ⟨i, rfl, ?_⟩
    have h' : (σ[i]?).getD none = some v := Option.some.inj h
    cases e2 : σ[i]? with
    | none => rw [e2] at h'; cases h'
    | some o => rw [e2] at h'; exact congrArg some h'

theorem comp_start {s₃ : Shared} {C : Addr} {ex : List Addr} {h₁ : Heap} {t : Nat} {m : Str → Option Value} (S : CompSc X scope x N' caps) (I : Inv X pins σ H₂ s₃) (hC : s₃.heap.objs.size ≤ C) (hex : ∀ b ∈ ex, FpOk X pins H₂ b ∧ b < C)
    (ns : h₁.Ns C m) (old : ∀ b o, s₃.heap.get? b = some o → h₁.get? b = some o) : Inv (cxComp X scope N' C ex s₃ H₂) [] (none :: capv caps σ) H₂ { s₃ with heap := h₁, toks := t } where
  ok := comp_ok S I hC hex
  os := rfl
  bare := I.bare
  base := Un.kept old
  loc := by
    refine ⟨m, ns, fun i y v h1 h2 h3 => ?_⟩
    cases i with
    | zero => cases h2
    | succ j =>
      obtain ⟨i, hi, hv⟩ := capv_at (show (capv caps σ)[j]? = some (some v) from h2)
      have hN := S.cap j i y hi h1
      have hfree : scope.names.lookup y = some .free := S.capf j y h1
      have hk : X.env.kindOf y = some .cell ∨ X.env.kindOf y = some .free := S.free (y, .free) (mem_of_look hfree) rfl
      obtain ⟨m0, _, hl⟩ := I.loc
      obtain ⟨u, r, l⟩ := hl i y v hN hv (by rcases hk with k | k; exact .inr (.inl k); exact .inr (.inr k))
      refine ⟨u, r, .inr ⟨look_relabel_free hfree, ?_⟩⟩
      rcases l with ⟨k, _⟩ | ⟨_, c, hc, z⟩
      · rcases hk with k' | k' <;> rw [k] at k' <;> cases k'
      · obtain ⟨c', hc'⟩ := clOf_has (env := X.env) (mem_of_look hfree)
        have := lookup_clOf (S.cells I) hc'
        rw [hc] at this; cases this
        obtain ⟨o, ho, hd⟩ := z
        exact ⟨c, hc', o, old _ _ ho, hd⟩
  cell := fun y c h => by
    obtain ⟨v, o, ho, hd⟩ := I.cell y c (lookup_clOf (S.cells I) h)
    exact ⟨v, o, old _ _ ho, hd⟩
  free := I.hok.fresh hC
  freeC := fun y c h => I.freeC y c (lookup_clOf (S.cells I) h)
  pin := fun p hp => by simp at hp
  hok := I.hok.kept old
  len := by
    show (none :: capv caps σ).length = N'.length
    rw [S.len]
    simp [capv]

/-- back from the block: what it changed is new, or its own -/
theorem comp_leave {s₃ s' : Shared} {C D : Addr} {ex : List Addr} {H' : Hp} {σ' : St} {pins' : List (Addr × Obj)} {ys : List V} {its : List Value} {n : Nat} (I : Inv X pins σ H₂ s₃) (J : Inv (cxComp X scope N' C ex s₃ H₂) pins' σ' H' s')
    (hex : ∀ b ∈ ex, FpOk X pins H₂ b) (hD : D ∈ ex) (fD : H' D = none) (gD : s'.heap.get? D = some { cls := .type "list", data := .seq its.toArray n }) (rv : Vals ys its) (hz : ys.length ≤ sizeLine) :
    Inv X pins σ (upd H' D (.lst ys)) s' := by
  have hD2 : H₂ D = none := (hex D hD).1
  have u := J.base
  have hok : HOk X.prog X.w (upd H' D (.lst ys)) s'.heap := fun b o e => by
    by_cases hb : b = D
    · subst hb; rw [upd_same] at e; cases e
      exact ⟨hz, its, n, rv, gD⟩
    · rw [upd_ne hb] at e
      exact (J.hok b o e).stay (fun c v _ q => q) (fun c q => by rw [upd_ne (ne_of_none q fD)]; exact q) fun c xs q => by rw [upd_ne (ne_of_none q fD)]; exact q
  refine I.call' (ch := ex) J.os ⟨u.keep, u.slot, fun b o e n hb => ?_, u.there, fun b xs e => ?_, fun b o v e => ?_, fun b ps e => ?_⟩ hok J.bare (fun b hb => ?_)
  · have : b ≠ D := fun z => hb (z ▸ hD)
    rw [upd_ne this]
    exact u.free b o e n hb
  · rw [upd_ne (ne_of_none e hD2)]; exact u.tups b xs e
  · rw [upd_ne (ne_of_none e hD2)]; exact u.frzs b o v e
  · rw [upd_ne (ne_of_none e hD2)]; exact u.tbls b ps e
  · obtain ⟨_, f1, _, f3, f4, f5⟩ := hex b hb
    exact ⟨f3, f1, f4, f5⟩

theorem loop_go {prog : Program} {w : World} {A : Around} {R : Result → Shared → Prop} {s : Shared} {elt target iter : Expr} {ifs : List Expr} {scope : Scope} {pos : Pos} {it acc : Value} {env : Env} (I : Nat → Shared → Prop)
    (turn : ∀ n s, I n s → wpAny (model prog w) A (pyNext it) (fun r s₁ => match r with
      | none => R (.ok .next) s₁
      | some v => wpAny (model prog w) A (letOwnedTupleGo target it v) (fun _ s₁ => wpAny (model prog w) A (assign target env v) (fun _ s₂ =>
          wpAny (model prog w) A (forIn ifs true fun c r => if r = true then do let ok ← isTrue c env (eval c env); pure (ForInStep.yield ok) else pure (ForInStep.yield r)) (fun ok s₃ =>
            if ok = true then wpAny (model prog w) A (eval elt env) (fun x s₄ =>
              wpAny (model prog w) A (call (.builtin "list.append") [acc, x]) (fun _ s₅ => ∃ m, m < n ∧ I m s₅) (fun _ _ => False) s₄) (fun _ _ => False) s₃
            else ∃ m, m < n ∧ I m s₃) (fun _ _ => False) s₂) (fun _ _ => False) s₁) (fun _ _ => False) s₁) (fun _ _ => False) s)
    (n : Nat) (h : I n s) :
    codeAny (model prog w) A (.compLoop (.ListComp elt [⟨target, iter, ifs, 0⟩] scope pos) 0 it acc env) R s := by
  refine codeAny_loop rfl I (fun n s hI => ?_) n h
  show wpAny _ A ((compTurn (.ListComp elt [⟨target, iter, ifs, 0⟩] scope pos) 0 it acc env).onRaise (fun x => do noteFrame x env; theTreesLotGoes x)) _ _ s
  refine wpAny_noted ?_
  rw [compTurn_list]
  refine wpAny_bind (wpAny_standAt (wpAny_bind (wpAny_mono (turn n s hI) (fun r s₁ h₁ => ?_) fun _ _ h' => h'.elim)))
  cases r with
  | none => exact wpAny_pure h₁
  | some v =>
    refine wpAny_bind (wpAny_mono h₁ (fun _ s₁ h₁ => ?_) fun _ _ h' => h'.elim)
    refine wpAny_bind (wpAny_mono h₁ (fun _ s₂ h₂ => wpAny_bind (wpAny_mono h₂ (fun ok s₃ h₃ => ?_) fun _ _ h' => h'.elim)) fun _ _ h' => h'.elim)
    cases ok with
    | false => exact wpAny_pure ⟨rfl, h₃⟩
    | true =>
      exact wpAny_bind (wpAny_bind (wpAny_mono h₃ (fun x s₄ h₄ => wpAny_bind (wpAny_mono h₄ (fun _ s₅ h₅ => wpAny_pure (wpAny_pure ⟨rfl, h₅⟩)) fun _ _ h' => h'.elim)) fun _ _ h' => h'.elim))

theorem comp_core {elt iter : Expr} {px : Pos} {ifs : List Expr} {pos : Pos} {tt : TT} {te : TE} {s₂ : Shared} {it : Addr} {fp : List Addr} {tn : Nat → Heap → Prop} {J : It} {RR : Value → Addr → Result → Shared → Prop} {E : Value → Shared → Prop}
    (S : CompSc X scope x N' caps) (hc : X.calm = true) (ht : ∀ C ex s₀ H₀, PIfs (cxComp X scope N' C ex s₀ H₀) ifs tt) (he : ∀ C ex s₀ H₀, PE (cxComp X scope N' C ex s₀ H₀) elt te)
    (I2 : Inv X pins σ H₂ s₂) (T : Turn X.prog X.w X.K (.Name x px) J fp it tn) (st2 : tn 0 s₂.heap) (f2 : ∀ b ∈ fp, FpOk X pins H₂ b)
    (W : Nat → Nat → List V → Hp → Prop) (m0 : Nat) (w0 : W 0 m0 [] H₂) (Fin : List V → Hp → Prop)
    (turn : ∀ i m ys H, W i m ys H → (J.stop i H ∧ Fin ys H) ∨
      (J.go i H ∧ ∀ v H', J.yld i H v H' → tt (some v :: capv caps σ) H' fun b H2 => if b = true then te (some v :: capv caps σ) H2 fun y H3 => ys.length < sizeLine ∧ ∃ m', m' < m ∧ W (i + 1) m' (ys ++ [y]) H3 else ∃ m', m' < m ∧ W (i + 1) m' ys H2))
    (hRR : ∀ (D C : Addr) (s' : Shared) (ys : List V) (H' : Hp) (m : Str → Option Value), Fin ys H' → H' D = none → Inv X pins σ (upd H' D (.lst ys)) s' → s'.heap.Ns C m → FpOk X pins (upd H' D (.lst ys)) C → RR (.ref D) C (.ok .next) s') :
    wpAny (model X.prog X.w) X.A (newList []) (fun acc s₃ => wpAny (model X.prog X.w) X.A (newFunctionEnv scope X.env.globals (clOf scope X.env) [] X.env.qual none .none (some X.env)) (fun cenv s₄ =>
      codeAny (model X.prog X.w) X.A (.compStart (.ListComp elt [⟨.Name x px, iter, ifs, 0⟩] scope pos) 0 (.ref it) acc { cenv with scope := relabel scope X.env }) (RR acc cenv.locals) s₄) E s₃) E s₂ := by
  refine wpAny_newObj_type (wpAny_newFunctionEnv S.nocell (by intro y hy; simp at hy) (fun h₁ hns₁ hsb₁ => ?_) S.kind)
  dsimp only at hns₁ hsb₁ ⊢
  generalize hHH : s₂.heap.push { cls := .type "list", dict := none, data := .seq ([] : List Value).toArray } = HH at hns₁ hsb₁ ⊢
  generalize hDe : s₂.heap.objs.size = D at *
  have up : ∀ b o, s₂.heap.get? b = some o → HH.get? b = some o := fun b o e => hHH ▸ Heap.get?_push_of_some _ e
  have hsz : HH.objs.size = D + 1 := by rw [← hHH, Heap.size_push, hDe]
  have gD3 : HH.get? D = some { cls := .type "list", data := .seq ([] : List Value).toArray } := by rw [← hHH, ← hDe]; exact Heap.get?_push_size _ rfl
  have I3 : Inv X pins σ H₂ { s₂ with heap := HH } := I2.kept (t' := s₂.toks) up
  generalize hC : HH.objs.size = C at *
  have hDC : D < C := by omega
  have old : ∀ b o, HH.get? b = some o → h₁.get? b = some o := fun b o e => hsb₁.extBut b o (Nat.ne_of_lt (by rw [← hC]; exact Heap.lt_size e)) (Heap.get?_push_of_some _ e)
  have fD : FpOk X pins H₂ D := I2.fpOk (Nat.le_of_eq hDe) (I2.hok.fresh (Nat.le_of_eq hDe))
  have fpC : ∀ b ∈ fp, b < C := fun b hb => by
    obtain ⟨o, e, _⟩ := T.obj _ _ st2 b hb
    have h1 : b < s₂.heap.objs.size := Heap.lt_size e
    rw [hDe] at h1
    exact Nat.lt_trans h1 hDC
  have hex : ∀ b ∈ fp ++ [D], FpOk X pins H₂ b ∧ b < C := fun b hb => by
    rcases List.mem_append.mp hb with z | z
    · exact ⟨f2 b z, fpC b z⟩
    · rw [List.mem_singleton.mp z]; exact ⟨fD, hDC⟩
  have hDm : D ∈ fp ++ [D] := List.mem_append_right _ (List.mem_singleton.mpr rfl)
  have nDf : D ∉ fp := fun z => by
    obtain ⟨o, e, _⟩ := T.obj _ _ st2 D z
    have h1 : D < s₂.heap.objs.size := Heap.lt_size e
    rw [hDe] at h1
    exact Nat.lt_irrefl _ h1
  have st1 : tn 0 h₁ := T.keep _ _ _ st2 fun b hb o e => old b o (up b o e)
  have J0 : Inv (cxComp X scope N' C (fp ++ [D]) { s₂ with heap := HH } H₂) [] (none :: capv caps σ) H₂ { s₂ with heap := h₁, toks := s₂.toks + ([] : List (Str × Value)).length } :=
    comp_start (s₃ := { s₂ with heap := HH }) S I3 (Nat.le_of_eq hC) hex hns₁ old
  -- what stays true of an untracked object of the block's
  have stat : ∀ {b : Addr} {H' : Hp} {pl : List (Addr × Obj)}, b ∈ fp ++ [D] → H' b = none → (∀ p ∈ pl, p.1 ≠ b) → FpOk (cxComp X scope N' C (fp ++ [D]) { s₂ with heap := HH } H₂) pl H' b := fun {b H' pl} hb hn hp => by
    have ok := J0.ok
    refine ⟨hn, (ok.exf b hb).1, ok.exfs b hb, .inl hb, (ok.exf b hb).2, fun p hp' => hp p (by simpa using hp')⟩
  have loop : ∀ s₃ : Shared, s₃ = { s₂ with heap := h₁, toks := s₂.toks + ([] : List (Str × Value)).length } →
      codeAny (model X.prog X.w) X.A (.compLoop (.ListComp elt [⟨.Name x px, iter, ifs, 0⟩] scope pos) 0 (.ref it) (.ref D) (compEnvC scope (clOf scope X.env) C X.env)) (RR (.ref D) C) s₃ := by
    rintro s₃ rfl
    refine loop_go (fun n s' => ∃ (i : Nat) (ys : List V) (its : List Value) (k : Nat) (o : Option V) (H' : Hp), Inv (cxComp X scope N' C (fp ++ [D]) { s₂ with heap := HH } H₂) [] (o :: capv caps σ) H' s' ∧ tn i s'.heap ∧ (∀ b ∈ fp, H' b = none) ∧ H' D = none ∧
      s'.heap.get? D = some { cls := .type "list", data := .seq its.toArray k } ∧ Vals ys its ∧ ys.length ≤ sizeLine ∧ W i n ys H') ?_ m0
      ⟨0, [], [], 0, none, H₂, J0, st1, fun b hb => (f2 b hb).1, fD.1, old _ _ gD3, .nil, Nat.zero_le _, w0⟩
    rintro n s' ⟨i, ys, its, k, o, H', I', st, fr, hD, gD, rv, hz, w⟩
    have ID : Inv (cxComp X scope N' C (fp ++ [D]) { s₂ with heap := HH } H₂) [(D, { cls := .type "list", data := .seq its.toArray k })] (o :: capv caps σ) H' s' := I'.pins_of fun p hp => by
      rw [List.mem_singleton.mp hp]
      have ok := J0.ok
      exact ⟨gD, hD, (ok.exf D hDm).1, ok.exfs D hDm, fun v z => by cases z⟩
    have hf : ∀ b ∈ fp, FpOk (cxComp X scope N' C (fp ++ [D]) { s₂ with heap := HH } H₂) [(D, { cls := .type "list", data := .seq its.toArray k })] H' b := fun b hb => stat (List.mem_append_left _ hb) (fr b hb) fun p hp => by
      rw [List.mem_singleton.mp hp]
      exact fun z => nDf ((show D = b from z) ▸ hb)
    rcases turn i n ys H' w with ⟨stop, fin⟩ | ⟨go, step⟩
    · refine wpAny_mono (T.done (cxComp X scope N' C (fp ++ [D]) { s₂ with heap := HH } H₂) rfl rfl rfl hc i _ s' _ H' (fun _ _ => False) ID hf st stop) (fun r s1 ⟨hr, I1⟩ => ?_) fun _ _ z => z
      subst hr
      have gD1 := (I1.pin _ (List.mem_append_right _ (List.mem_singleton.mpr rfl))).1
      obtain ⟨m, ns, _⟩ := I1.loc
      refine hRR D C s1 ys H' m fin hD (comp_leave I3 I1 (fun b hb => (hex b hb).1) hDm hD gD1 rv hz) ns ?_
      refine ⟨by rw [upd_ne (Nat.ne_of_gt hDC)]; exact I1.free, ?_⟩
      have q := I3.fpOk (b := C) (H' := H₂) (Nat.le_of_eq hC) (I3.hok.fresh (Nat.le_of_eq hC))
      exact q.2
    · refine wpAny_mono (T.item (cxComp X scope N' C (fp ++ [D]) { s₂ with heap := HH } H₂) rfl rfl rfl hc i _ s' _ H' (fun _ _ => False) ID hf st go) (fun r s1 ⟨u, hr, h4⟩ => ?_) fun _ _ z => z
      subst hr
      refine wpAny_mono h4 (fun _ s5 ⟨v, H5, I5, r5, y5, st5, fr5⟩ => ?_) fun _ _ z => z
      have I5' := I5.pinned (fp := fp) (fun b hb => stat (List.mem_append_left _ hb) (fr5 b hb) fun p hp => by
        rw [List.mem_singleton.mp hp]
        exact fun z => nDf ((show D = b from z) ▸ hb)) (T.obj _ _ st5)
      refine wpAny_assign_Name (store_ok I5' S.nd S.n0 (.inl (lookup_relabel_local S.loc)) r5 (fun s6 I6 => ?_) (.inr (lookup_relabel_local S.loc)))
      refine wpAny_mono (ht C (fp ++ [D]) { s₂ with heap := HH } H₂ _ s6 _ H5 _ I6 (step v H5 y5)) (fun b s7 ⟨H7, I7, q7⟩ => ?_) fun _ _ z => z
      have keepT : ∀ {s8 : Shared} {σ8 : St} {H8 : Hp}, Inv (cxComp X scope N' C (fp ++ [D]) { s₂ with heap := HH } H₂) ([(D, { cls := .type "list", data := .seq its.toArray k })] ++ pinsAt fp s5.heap) σ8 H8 s8 →
          (∀ b ∈ fp, ∀ ob, s5.heap.get? b = some ob → s8.heap.get? b = some ob) ∧ (∀ b ∈ fp, H8 b = none) ∧ s8.heap.get? D = some { cls := .type "list", data := .seq its.toArray k } ∧ H8 D = none := fun {s8 σ8 H8} I8 => by
        refine ⟨fun b hb ob e => (I8.pin (b, ob) (List.mem_append_right _ (List.mem_append_right _ (mem_pinsAt hb e)))).1, fun b hb => ?_, ?_, ?_⟩
        · obtain ⟨ob, e, _⟩ := T.obj _ _ st5 b hb
          exact (I8.pin (b, ob) (List.mem_append_right _ (List.mem_append_right _ (mem_pinsAt hb e)))).2.1
        · exact (I8.pin (D, _) (List.mem_append_right _ (List.mem_append_left _ (List.mem_singleton.mpr rfl)))).1
        · exact (I8.pin (D, _) (List.mem_append_right _ (List.mem_append_left _ (List.mem_singleton.mpr rfl)))).2.1
      cases b with
      | false =>
        rw [if_neg Bool.false_ne_true] at q7 ⊢
        obtain ⟨m', hm, w7⟩ := q7
        obtain ⟨k1, k2, k3, k4⟩ := keepT I7
        exact ⟨m', hm, i + 1, ys, its, k, some v, H7, I7.pins_of (fun p hp => by simp at hp), T.keep _ _ _ st5 k1, k2, k4, k3, rv, hz, w7⟩
      | true =>
        rw [if_pos rfl] at q7 ⊢
        refine wpAny_mono (he C (fp ++ [D]) { s₂ with heap := HH } H₂ _ s7 _ H7 _ I7 q7) (fun yv s8 ⟨y, H8, I8, r8, hz8, m', hm, w8⟩ => ?_) fun _ _ z => z
        obtain ⟨k1, k2, k3, k4⟩ := keepT I8
        refine append_at k3 (fun h9 sb9 e9 => ?_) (by rw [List.size_toArray, ← rv.length]; exact hz)
        have I8' : Inv (cxComp X scope N' C (fp ++ [D]) { s₂ with heap := HH } H₂) [] (some v :: capv caps σ) H8 s8 := I8.pins_of (fun p hp => by simp at hp)
        obtain ⟨g0, g1, g2, g3, g4, g5⟩ := stat (pl := []) hDm k4 (fun p hp => by simp at hp)
        have I9 : Inv (cxComp X scope N' C (fp ++ [D]) { s₂ with heap := HH } H₂) [] (some v :: capv caps σ) H8 { s8 with heap := h9 } := I8'.turned (t' := s8.toks) (fun b ob hb e => (sb9.2 b hb).trans e) g0 g1 g3 g4 g5
        refine ⟨m', hm, i + 1, ys ++ [y], its ++ [yv], k + 1, some v, H8, I9, T.keep _ _ _ st5 (fun b hb ob e => ?_), k2, k4, ?_, rv.append (.cons r8 .nil), ?_, w8⟩
        · exact (sb9.2 b (fun z => nDf (z ▸ hb))).trans (k1 b hb ob e)
        · rw [e9, List.push_toArray]
        · rw [List.length_append, List.length_singleton]; exact hz8
  exact codeAny_compStart_list (loop _ rfl) (T.self X.A 0 _ _ _ st1 (loop _ rfl))

/-- [elt for x in iter if ..] as a value -/
theorem pe_comp {elt iter : Expr} {px : Pos} {ifs : List Expr} {pos : Pos} {wi : TI} {tt : TT} {te : TE} (S : CompSc X scope x N' caps) (hc : X.calm = true) (hi : PI X (.Name x px) iter wi)
    (ht : ∀ C ex s₀ H₀, PIfs (cxComp X scope N' C ex s₀ H₀) ifs tt) (he : ∀ C ex s₀ H₀, PE (cxComp X scope N' C ex s₀ H₀) elt te)
    (hs : ∀ x, foldedSetIterable iter X.env x = pure x := by intro _; rfl) : PE X (.ListComp elt [⟨.Name x px, iter, ifs, 0⟩] scope pos) (tComp caps wi tt te) := by
  intro pins s σ H Q I h
  rw [eval_ListComp]
  refine wpAny_comprehension_free (use := none) rfl hs (clos_of (S.cells I)) S.kind S.names (thn (hi pins s σ H _ I h) fun v s1 h1 => thn h1 fun itv s2 h2 => ?_)
  obtain ⟨it, fp, tn, J, H2, e, I2, T, st2, f2, W, ⟨m0, w0⟩, turn⟩ := h2
  subst e
  refine comp_core (RR := fun acc C => compPost (model X.prog X.w) X.A X.xe none (EP X pins σ Q) acc C) S hc ht he I2 T st2 f2 W m0 w0 (fun ys H' => ∀ p, H' p = none → Q (.ref p) (upd H' p (.lst ys))) turn ?_
  intro D C s' ys H' m fin hD I' ns fC
  obtain ⟨f0, f1, f2', f3, f4, f5⟩ := fC
  refine ⟨m, ns, fun h' sb => ⟨.ref D, _, I'.turned (t' := s'.toks) (fun b o hb e => (sb.2 b hb).trans e) f0 f1 f3 f4 f5, rfl, fin D hD⟩⟩

/-- y = [elt for x in iter if ..] in one row -/
theorem ps_comp {elt iter : Expr} {px py : Pos} {ifs : List Expr} {pos spos : Pos} {wi : TI} {tt : TT} {te : TE} {i : Nat} {y : Str} (hN : X.N.Nodup) (hi0 : X.N[i]? = some y) (hy : X.env.scope.names.lookup y = some .local)
    (S : CompSc X scope x N' caps) (hc : X.calm = true) (hi : PI X (.Name x px) iter wi)
    (ht : ∀ C ex s₀ H₀, PIfs (cxComp X scope N' C ex s₀ H₀) ifs tt) (he : ∀ C ex s₀ H₀, PE (cxComp X scope N' C ex s₀ H₀) elt te)
    (hsw : swapsWith (.ListComp elt [⟨.Name x px, iter, ifs, 0⟩] scope pos) (some (.Name y py)) spos.line X.env = pure true := by rfl)
    (hs : ∀ x, foldedSetIterable iter X.env x = pure x := by intro _; rfl) : PS X (.Assign [.Name y py] (.ListComp elt [⟨.Name x px, iter, ifs, 0⟩] scope pos) spos) (tAsg (tComp caps wi tt te) (gName i)) := by
  intro pins s σ H D0 I h
  rw [exec_Assign_Name_used _ _ _ _ hsw]
  refine wpAny_bind (wpAny_standAt (wpAny_bind ?_))
  show wpAny _ X.A (do let _ ← comprehension (.ListComp elt [⟨.Name x px, iter, ifs, 0⟩] scope pos) scope X.env _ (newList []) false (eval iter X.env) (some (assign (.Name y py) X.env))) _ _ s
  refine wpAny_bind (wpAny_mono (wpAny_comprehension_free (use := some (assign (.Name y py) X.env)) (Q := fun _ s' => SP X pins D0 .next s') rfl hs (clos_of (S.cells I)) S.kind S.names
    (thn (hi pins s σ H _ I h) fun v s1 h1 => thn h1 fun itv s2 h2 => ?_)) (fun _ s' hq => wpAny_pure (wpAny_pure hq)) fun _ _ e => e)
  obtain ⟨it, fp, tn, J, H2, e, I2, T, st2, f2, W, ⟨m0, w0⟩, turn⟩ := h2
  subst e
  refine comp_core (RR := fun acc C => compPost (model X.prog X.w) X.A X.xe (some (assign (.Name y py) X.env)) (fun _ s' => SP X pins D0 .next s') acc C) S hc ht he I2 T st2 f2 W m0 w0
    (fun ys H' => ∀ p, H' p = none → D0.nx (σ.set i (some (.ref p))) (upd H' p (.lst ys))) turn ?_
  intro D C s' ys H' m fin hD I' ns fC
  obtain ⟨f0, f1, f2', f3, f4, f5⟩ := fC
  show wpAny _ X.A (assign (.Name y py) X.env (.ref D)) _ _ _
  refine wpAny_assign_Name (store_ok2 I' hN hi0 (.inl hy) (v := .ref D) rfl (fun s'' I'' ⟨a, sb, ha⟩ => ?_) (.inr hy))
  have hCa : C ≠ a := by
    rcases ha with z | z
    · rw [z]; exact f1
    · exact fun q => f4 _ _ z q.symm
  refine ⟨m, ns.sameBut sb hCa, fun h' sb' => ⟨_, _, I''.turned (t' := s''.toks) (fun b o hb e => (sb'.2 b hb).trans e) f0 f1 f3 f4 f5, fin D hD⟩⟩
end

/-! ### the forms one uses: N is what a turn is to reach -/
theorem comp_list {K : PySem.W.Frag} {a : Addr} {xs : List V} {caps : List Nat} {tt : TT} {te : TE} {σ : St} {H : Hp} {Q : VK} (Pv : Nat → List V → Hp → Prop) (h0 : Pv 0 [] H)
    (hl : ∀ i ys H, i ≤ xs.length → Pv i ys H → SqL K H a xs)
    (hs : ∀ i v ys H (N : List V → Hp → Prop), xs[i]? = some v → Pv i ys H → (∀ ys H, Pv (i + 1) ys H → N ys H) → tt (some v :: capv caps σ) H fun b H2 => if b = true then te (some v :: capv caps σ) H2 fun y H3 => ys.length < sizeLine ∧ N (ys ++ [y]) H3 else N ys H2)
    (hd : ∀ ys H, Pv xs.length ys H → ∀ p, H p = none → Q (.ref p) (upd H p (.lst ys))) :
    ∃ W : Nat → Nat → List V → Hp → Prop, (∃ m, W 0 m [] H) ∧ ∀ i m ys H, W i m ys H →
      ((Itl K a).stop i H ∧ ∀ p, H p = none → Q (.ref p) (upd H p (.lst ys))) ∨
      ((Itl K a).go i H ∧ ∀ v H', (Itl K a).yld i H v H' → tt (some v :: capv caps σ) H' fun b H2 => if b = true then te (some v :: capv caps σ) H2 fun y H3 => ys.length < sizeLine ∧ ∃ m', m' < m ∧ W (i + 1) m' (ys ++ [y]) H3 else ∃ m', m' < m ∧ W (i + 1) m' ys H2) := by
  refine ⟨fun i m ys H => m = xs.length - i ∧ i ≤ xs.length ∧ Pv i ys H, ⟨xs.length, by simp, Nat.zero_le _, h0⟩, ?_⟩
  rintro i m ys H ⟨rfl, hi, p⟩
  have q1 := hl i ys H hi p
  by_cases hlt : i < xs.length
  · have hx : xs[i]? = some xs[i] := by simp [hlt]
    refine .inr ⟨⟨xs, xs[i], q1, hx⟩, fun v H' y => ?_⟩
    obtain ⟨e, y⟩ := y
    subst e
    exact hs i v ys _ (fun ys H => ∃ m', m' < xs.length - i ∧ m' = xs.length - (i + 1) ∧ i + 1 ≤ xs.length ∧ Pv (i + 1) ys H) (y xs q1) p fun ys H z => ⟨_, by omega, rfl, hlt, z⟩
  · have e : i = xs.length := by omega
    subst e
    exact .inl ⟨⟨xs, q1, Nat.le_refl _⟩, hd ys H p⟩
theorem comp_tup {K : PySem.W.Frag} {a : Addr} {xs : List V} {caps : List Nat} {tt : TT} {te : TE} {σ : St} {H : Hp} {Q : VK} (Pv : Nat → List V → Hp → Prop) (h0 : Pv 0 [] H)
    (hl : ∀ i ys H, i ≤ xs.length → Pv i ys H → SqT K H a xs)
    (hs : ∀ i v ys H (N : List V → Hp → Prop), xs[i]? = some v → Pv i ys H → (∀ ys H, Pv (i + 1) ys H → N ys H) → tt (some v :: capv caps σ) H fun b H2 => if b = true then te (some v :: capv caps σ) H2 fun y H3 => ys.length < sizeLine ∧ N (ys ++ [y]) H3 else N ys H2)
    (hd : ∀ ys H, Pv xs.length ys H → ∀ p, H p = none → Q (.ref p) (upd H p (.lst ys))) :
    ∃ W : Nat → Nat → List V → Hp → Prop, (∃ m, W 0 m [] H) ∧ ∀ i m ys H, W i m ys H →
      ((Itt K a).stop i H ∧ ∀ p, H p = none → Q (.ref p) (upd H p (.lst ys))) ∨
      ((Itt K a).go i H ∧ ∀ v H', (Itt K a).yld i H v H' → tt (some v :: capv caps σ) H' fun b H2 => if b = true then te (some v :: capv caps σ) H2 fun y H3 => ys.length < sizeLine ∧ ∃ m', m' < m ∧ W (i + 1) m' (ys ++ [y]) H3 else ∃ m', m' < m ∧ W (i + 1) m' ys H2) := by
  refine ⟨fun i m ys H => m = xs.length - i ∧ i ≤ xs.length ∧ Pv i ys H, ⟨xs.length, by simp, Nat.zero_le _, h0⟩, ?_⟩
  rintro i m ys H ⟨rfl, hi, p⟩
  have q1 := hl i ys H hi p
  by_cases hlt : i < xs.length
  · have hx : xs[i]? = some xs[i] := by simp [hlt]
    refine .inr ⟨⟨xs, xs[i], q1, hx⟩, fun v H' y => ?_⟩
    obtain ⟨e, y⟩ := y
    subst e
    exact hs i v ys _ (fun ys H => ∃ m', m' < xs.length - i ∧ m' = xs.length - (i + 1) ∧ i + 1 ≤ xs.length ∧ Pv (i + 1) ys H) (y xs q1) p fun ys H z => ⟨_, by omega, rfl, hlt, z⟩
  · have e : i = xs.length := by omega
    subst e
    exact .inl ⟨⟨xs, q1, Nat.le_refl _⟩, hd ys H p⟩
theorem comp_range {lo : Int} {n : Nat} {caps : List Nat} {tt : TT} {te : TE} {σ : St} {H : Hp} {Q : VK} (Pv : Nat → List V → Hp → Prop) (h0 : Pv 0 [] H)
    (hs : ∀ i ys H (N : List V → Hp → Prop), i < n → Pv i ys H → (∀ ys H, Pv (i + 1) ys H → N ys H) → tt (some (.int (lo + i)) :: capv caps σ) H fun b H2 => if b = true then te (some (.int (lo + i)) :: capv caps σ) H2 fun y H3 => ys.length < sizeLine ∧ N (ys ++ [y]) H3 else N ys H2)
    (hd : ∀ ys H, Pv n ys H → ∀ p, H p = none → Q (.ref p) (upd H p (.lst ys))) :
    ∃ W : Nat → Nat → List V → Hp → Prop, (∃ m, W 0 m [] H) ∧ ∀ i m ys H, W i m ys H →
      ((Itr lo n).stop i H ∧ ∀ p, H p = none → Q (.ref p) (upd H p (.lst ys))) ∨
      ((Itr lo n).go i H ∧ ∀ v H', (Itr lo n).yld i H v H' → tt (some v :: capv caps σ) H' fun b H2 => if b = true then te (some v :: capv caps σ) H2 fun y H3 => ys.length < sizeLine ∧ ∃ m', m' < m ∧ W (i + 1) m' (ys ++ [y]) H3 else ∃ m', m' < m ∧ W (i + 1) m' ys H2) := by
  refine ⟨fun i m ys H => m = n - i ∧ i ≤ n ∧ Pv i ys H, ⟨n, by simp, Nat.zero_le _, h0⟩, ?_⟩
  rintro i m ys H ⟨rfl, hi, p⟩
  by_cases hlt : i < n
  · refine .inr ⟨hlt, fun v H' y => ?_⟩
    obtain ⟨e, y⟩ := y
    subst e y
    exact hs i ys _ (fun ys H => ∃ m', m' < n - i ∧ m' = n - (i + 1) ∧ i + 1 ≤ n ∧ Pv (i + 1) ys H) hlt p fun ys H z => ⟨_, by omega, rfl, hlt, z⟩
  · have e : i = n := by omega
    subst e
    exact .inl ⟨Nat.le_refl _, hd ys H p⟩
end L2

set_option Elab.async false
set_option linter.all false
set_option maxRecDepth 100000
set_option maxHeartbeats 4000000
/-! Data: a value and all that hangs on it as one plain term; heaps with hidden places; readings over data. -/
namespace L2.DL
open PySem PySem.Spec PyProof.Rows

inductive D where
  | non | bl (b : Bool) | int (i : Int) | str (x : Str) | tup (l : List D) | lst (l : List D) | scr (ns : List Int) | crs (n : Int) (ps : List (Int × Int)) | ty (n : String) | cls (a : Addr)

def prV (K : PySem.W.Frag) (H : Hp) (p : Int × Int) (v : V) : Prop := ∃ a, v = .ref a ∧ SqT K H a [.int p.1, .int p.2]
mutual
def Rep (K : PySem.W.Frag) (C : Addr) (H : Hp) : D → V → Prop
  | .non, v => v = .non
  | .bl b, v => v = .bl b
  | .int i, v => v = .int i
  | .str x, v => v = .str x
  | .ty n, v => v = .ty n
  | .cls a, v => v = .ref a
  | .tup ds, v => ∃ a xs, v = .ref a ∧ SqT K H a xs ∧ RepA K C H ds xs
  | .lst ds, v => ∃ a xs, v = .ref a ∧ H a = some (.lst xs) ∧ RepA K C H ds xs
  | .scr ns, v => ∃ a, v = .ref a ∧ SqL K H a (ns.map V.int)
  | .crs n ps, v => ∃ a dx q xs, v = .ref a ∧ H a = some (.ins C dx [("streams", .int n), ("pairs", .ref q)]) ∧ H q = some (.lst xs) ∧ Paired (prV K H) ps xs
def RepA (K : PySem.W.Frag) (C : Addr) (H : Hp) : List D → List V → Prop
  | [], xs => xs = []
  | d :: ds, xs => ∃ x r, xs = x :: r ∧ Rep K C H d x ∧ RepA K C H ds r
end

section
variable {K : PySem.W.Frag} {C : Addr} {H H' H1 : Hp}
theorem prV.mono (e : Same H H') {p : Int × Int} {v : V} (h : prV K H p v) : prV K H' p v := let ⟨a, h1, h2⟩ := h; ⟨a, h1, e.seqT h2⟩
mutual
theorem Rep.mono (e : Same H H') : ∀ (d : D) (v : V), Rep K C H d v → Rep K C H' d v
  | .non, v, h => by unfold Rep at h ⊢; exact h
  | .bl _, v, h => by unfold Rep at h ⊢; exact h
  | .int _, v, h => by unfold Rep at h ⊢; exact h
  | .str _, v, h => by unfold Rep at h ⊢; exact h
  | .ty _, v, h => by unfold Rep at h ⊢; exact h
  | .cls _, v, h => by unfold Rep at h ⊢; exact h
  | .tup ds, v, h => by
    unfold Rep at h ⊢
    obtain ⟨a, xs, h1, h2, h3⟩ := h
    exact ⟨a, xs, h1, e.seqT h2, RepA.mono e ds xs h3⟩
  | .lst ds, v, h => by
    unfold Rep at h ⊢
    obtain ⟨a, xs, h1, h2, h3⟩ := h
    exact ⟨a, xs, h1, e _ _ h2, RepA.mono e ds xs h3⟩
  | .scr ns, v, h => by
    unfold Rep at h ⊢
    obtain ⟨a, h1, h2⟩ := h
    exact ⟨a, h1, e.seq h2⟩
  | .crs n ps, v, h => by
    unfold Rep at h ⊢
    obtain ⟨a, dx, q, xs, h1, h2, h3, h4⟩ := h
    exact ⟨a, dx, q, xs, h1, e _ _ h2, e _ _ h3, Paired.mapP h4 fun _ _ z => z.mono e⟩
theorem RepA.mono (e : Same H H') : ∀ (ds : List D) (xs : List V), RepA K C H ds xs → RepA K C H' ds xs
  | [], xs, h => by unfold RepA at h ⊢; exact h
  | d :: ds, xs, h => by
    unfold RepA at h ⊢
    obtain ⟨x, r, h1, h2, h3⟩ := h
    exact ⟨x, r, h1, Rep.mono e d x h2, RepA.mono e ds r h3⟩
end
theorem repA_nil : RepA K C H [] [] := by unfold RepA; rfl
theorem repA_cons {d : D} {ds : List D} {x : V} {xs : List V} (h : Rep K C H d x) (h' : RepA K C H ds xs) : RepA K C H (d :: ds) (x :: xs) := by
  unfold RepA; exact ⟨x, xs, rfl, h, h'⟩
theorem repA_iff : ∀ {ds : List D} {xs : List V}, RepA K C H ds xs ↔ Paired (Rep K C H) ds xs
  | [], xs => by
    unfold RepA
    exact ⟨fun h => by subst h; exact .nil, fun h => by cases h; rfl⟩
  | d :: ds, xs => by
    unfold RepA
    constructor
    · rintro ⟨x, r, rfl, h1, h2⟩
      exact .cons h1 (repA_iff.mp h2)
    · intro h
      cases h with
      | cons h1 h2 => exact ⟨_, _, rfl, h1, repA_iff.mpr h2⟩
theorem paired_len {α β : Type} {F : α → β → Prop} : ∀ {l : List α} {m : List β}, Paired F l m → l.length = m.length
  | _, _, .nil => rfl
  | _, _, .cons _ t => by simp [paired_len t]
theorem paired_get {α β : Type} {F : α → β → Prop} : ∀ {l : List α} {m : List β} {i : Nat} {a : α}, Paired F l m → l[i]? = some a → ∃ b, m[i]? = some b ∧ F a b
  | _, _, _, _, .nil, h => by simp at h
  | _, _, 0, _, .cons h1 t, h => by simp at h; subst h; exact ⟨_, rfl, h1⟩
  | _, _, i + 1, _, .cons h1 t, h => by simp at h; simpa using paired_get t h
theorem paired_get' {α β : Type} {F : α → β → Prop} : ∀ {l : List α} {m : List β} {i : Nat} {b : β}, Paired F l m → m[i]? = some b → ∃ a, l[i]? = some a ∧ F a b
  | _, _, _, _, .nil, h => by simp at h
  | _, _, 0, _, .cons h1 t, h => by simp at h; subst h; exact ⟨_, rfl, h1⟩
  | _, _, i + 1, _, .cons h1 t, h => by simp at h; simpa using paired_get' t h
theorem paired_app {α β : Type} {F : α → β → Prop} : ∀ {l l' : List α} {m m' : List β}, Paired F l m → Paired F l' m' → Paired F (l ++ l') (m ++ m')
  | _, _, _, _, .nil, h => h
  | _, _, _, _, .cons h1 t, h => .cons h1 (paired_app t h)
theorem paired_take {α β : Type} {F : α → β → Prop} : ∀ {l : List α} {m : List β} (n : Nat), Paired F l m → Paired F (l.take n) (m.take n)
  | _, _, 0, _ => by simpa using Paired.nil
  | _, _, n + 1, .nil => .nil
  | _, _, n + 1, .cons h t => .cons h (paired_take n t)
theorem paired_drop {α β : Type} {F : α → β → Prop} : ∀ {l : List α} {m : List β} (n : Nat), Paired F l m → Paired F (l.drop n) (m.drop n)
  | _, _, 0, h => h
  | _, _, n + 1, .nil => .nil
  | _, _, n + 1, .cons h t => paired_drop n t
theorem paired_set {α β : Type} {F : α → β → Prop} {a : α} {b : β} (hab : F a b) : ∀ {l : List α} {m : List β} (i : Nat), Paired F l m → Paired F (l.set i a) (m.set i b)
  | _, _, _, .nil => .nil
  | _, _, 0, .cons h t => .cons hab t
  | _, _, i + 1, .cons h t => .cons h (paired_set hab i t)
theorem repA_len {ds : List D} {xs : List V} (h : RepA K C H ds xs) : ds.length = xs.length := paired_len (repA_iff.mp h)
theorem repA_get {ds : List D} {xs : List V} {i : Nat} {d : D} (h : RepA K C H ds xs) (e : ds[i]? = some d) : ∃ x, xs[i]? = some x ∧ Rep K C H d x := paired_get (repA_iff.mp h) e
theorem repA_get' {ds : List D} {xs : List V} {i : Nat} {x : V} (h : RepA K C H ds xs) (e : xs[i]? = some x) : ∃ d, ds[i]? = some d ∧ Rep K C H d x := paired_get' (repA_iff.mp h) e
theorem repA_app {ds es : List D} {xs ys : List V} (h : RepA K C H ds xs) (h' : RepA K C H es ys) : RepA K C H (ds ++ es) (xs ++ ys) := repA_iff.mpr (paired_app (repA_iff.mp h) (repA_iff.mp h'))
theorem repA_ints : ∀ {ns : List Int} {xs : List V}, RepA K C H (ns.map D.int) xs → xs = ns.map V.int
  | [], xs, h => by unfold RepA at h; exact h
  | n :: ns, xs, h => by
    rw [List.map_cons] at h
    unfold RepA at h
    obtain ⟨x, r, rfl, h1, h2⟩ := h
    unfold Rep at h1
    subst h1
    rw [repA_ints h2]
    rfl
theorem ints_repA : ∀ {ns : List Int}, RepA K C H (ns.map D.int) (ns.map V.int)
  | [] => repA_nil
  | n :: ns => repA_cons (by unfold Rep; rfl) ints_repA

/-! ### hidden places -/
noncomputable def less (H : Hp) (S : Addr → Prop) : Hp := fun a => open Classical in if S a then none else H a
def wi (S : Addr → Prop) (p : Addr) : Addr → Prop := fun a => S a ∨ a = p
theorem less_iff {S : Addr → Prop} {a : Addr} {u : HO} : less H S a = some u ↔ ¬ S a ∧ H a = some u := by
  unfold less
  by_cases h : S a
  · rw [if_pos h]; simp [h]
  · rw [if_neg h]; simp [h]
theorem less_same {S : Addr → Prop} : Same (less H S) H := fun _ _ h => (less_iff.mp h).2
theorem same_less {S : Addr → Prop} (e : Same H H') : Same (less H S) (less H' S) := fun b u h => by
  obtain ⟨h1, h2⟩ := less_iff.mp h
  exact less_iff.mpr ⟨h1, e _ _ h2⟩
theorem less_sub {S S0 : Addr → Prop} (h : ∀ p, S0 p → S p) : Same (less H S) (less H S0) := fun b u z => by
  obtain ⟨h1, h2⟩ := less_iff.mp z
  exact less_iff.mpr ⟨fun q => h1 (h _ q), h2⟩
def Dom (H : Hp) (S : Addr → Prop) : Prop := ∀ p, S p → H p ≠ none
theorem Same.none {p : Addr} (e : Same H H') (h : H' p = none) : H p = none := by
  cases q : H p with
  | none => rfl
  | some u => rw [e _ _ q] at h; cases h
theorem Dom.mono {S : Addr → Prop} (d : Dom H S) (e : Same H H') : Dom H' S := fun p hp z => d p hp (Same.none e z)
theorem same_wi {S : Addr → Prop} {p : Addr} (e : Same H H') (h : H p = none) : Same (less H S) (less H' (wi S p)) := fun b u z => by
  obtain ⟨h1, h2⟩ := less_iff.mp z
  exact less_iff.mpr ⟨fun q => q.elim h1 fun q => (by rw [q, h] at h2; cases h2), e _ _ h2⟩
theorem less_upd {S : Addr → Prop} {p : Addr} {o : HO} (h : S p) : less (upd H p o) S = less H S := by
  funext a
  unfold less
  by_cases z : S a
  · rw [if_pos z, if_pos z]
  · rw [if_neg z, if_neg z, upd_ne (fun q => z (by rw [q]; exact h))]

/-! ### the state -/
inductive SV where
  | sh (d : D) | ow (ds : List D)
abbrev En := List (Option SV)
def RepV (K : PySem.W.Frag) (C : Addr) (H : Hp) (S : Addr → Prop) : SV → V → Prop
  | .sh d, v => Rep K C (less H S) d v
  | .ow ds, v => ∃ p xs, v = .ref p ∧ S p ∧ H p = some (.lst xs) ∧ RepA K C (less H S) ds xs
structure EOk (K : PySem.W.Frag) (C : Addr) (H : Hp) (S : Addr → Prop) (σ : St) (env : En) : Prop where
  len : σ.length = env.length
  slot : ∀ (i : Nat) (sv : SV), env[i]? = some (some sv) → ∃ v, σ[i]? = some (some v) ∧ RepV K C H S sv v
  inj : ∀ (i j : Nat) (ds es : List D) (p : Addr), env[i]? = some (some (.ow ds)) → env[j]? = some (some (.ow es)) → σ[i]? = some (some (.ref p)) → σ[j]? = some (some (.ref p)) → i = j
  dom : Dom H S
theorem EOk.mono {S : Addr → Prop} {σ : St} {env : En} (h : EOk K C H S σ env) (e : Same H H') : EOk K C H' S σ env := by
  refine ⟨h.len, fun i sv z => ?_, h.inj, h.dom.mono e⟩
  obtain ⟨v, h1, h2⟩ := h.slot i sv z
  refine ⟨v, h1, ?_⟩
  cases sv with
  | sh d => exact Rep.mono (same_less e) d v h2
  | ow ds =>
    obtain ⟨p, xs, h3, h4, h5, h6⟩ := h2
    exact ⟨p, xs, h3, h4, e _ _ h5, RepA.mono (same_less e) _ _ h6⟩

/-! ### what is wanted of a value -/
def KD (K : PySem.W.Frag) (C : Addr) (H : Hp) (S : Addr → Prop) (P : D → Prop) (Q : VK) : Prop := ∀ d, P d → ∀ v H', Same H H' → Rep K C (less H' S) d v → Q v H'
def KF (K : PySem.W.Frag) (C : Addr) (H : Hp) (S : Addr → Prop) (P : List D → Prop) (Q : VK) : Prop :=
  ∀ ds, P ds → ∀ p xs H', Same H H' → H p = none → H' p = some (.lst xs) → RepA K C (less H' (wi S p)) ds xs → Q (.ref p) H'
theorem KD.mono {S : Addr → Prop} {P : D → Prop} {Q : VK} (k : KD K C H S P Q) (e : Same H H1) : KD K C H1 S P Q := fun d hd v H' e' r => k d hd v H' (e.trans e') r
theorem KF.mono {S : Addr → Prop} {P : List D → Prop} {Q : VK} (k : KF K C H S P Q) (e : Same H H1) : KF K C H1 S P Q := fun d hd p xs H' e' hp => k d hd p xs H' (e.trans e') (Same.none e hp)
theorem KD.fresh {S : Addr → Prop} {P : D → Prop} {Q : VK} (k : KD K C H S P Q) (hd : Dom H S) : KF K C H S (fun ds => P (.lst ds)) Q := fun ds h p xs H' e hp hl r => by
  refine k _ h _ H' e ?_
  unfold Rep
  refine ⟨p, xs, rfl, less_iff.mpr ⟨fun z => hd p z hp, hl⟩, RepA.mono (less_sub fun _ => .inl) _ _ r⟩
/-- a list just laid -/
theorem KF.new {S : Addr → Prop} {P : List D → Prop} {Q : VK} (k : KF K C H S P Q) {ds : List D} {xs : List V} (h : P ds) (r : RepA K C (less H S) ds xs) {p : Addr} (hp : H p = none) : Q (.ref p) (upd H p (.lst xs)) :=
  k ds h p xs _ (same_new hp _) hp upd_same (RepA.mono (same_wi (same_new hp _) hp) _ _ r)
theorem KD.new {S : Addr → Prop} {P : D → Prop} {Q : VK} (k : KD K C H S P Q) (hd : Dom H S) {ds : List D} {xs : List V} (h : P (.tup ds)) (r : RepA K C (less H S) ds xs) {p : Addr} (hp : H p = none) : Q (.ref p) (upd H p (.tup xs)) := by
  refine k _ h _ _ (same_new hp _) ?_
  unfold Rep
  exact ⟨p, xs, rfl, SqT.of (less_iff.mpr ⟨fun z => hd p z hp, upd_same⟩), RepA.mono (same_less (same_new hp _)) _ _ r⟩
theorem KD.flat {S : Addr → Prop} {P : D → Prop} {Q : VK} (k : KD K C H S P Q) {d : D} {v : V} (h : P d) (r : Rep K C (less H S) d v) : Q v H := k d h v H (Same.refl _) r
theorem rep_int {i : Int} : Rep K C H (.int i) (.int i) := by unfold Rep; rfl
theorem rep_bl {b : Bool} : Rep K C H (.bl b) (.bl b) := by unfold Rep; rfl
theorem rep_non : Rep K C H .non .non := by unfold Rep; rfl
theorem rep_ty {x : String} : Rep K C H (.ty x) (.ty x) := by unfold Rep; rfl
theorem rep_cls {x : Addr} : Rep K C H (.cls x) (.ref x) := by unfold Rep; rfl
theorem rep_str {x : Str} : Rep K C H (.str x) (.str x) := by unfold Rep; rfl
end

/-! ### readings over data -/
abbrev DT1 := En → (D → Prop) → Prop
abbrev DTT := En → (Bool → Prop) → Prop
abbrev DTA := En → (List D → Prop) → Prop
def rE (K : PySem.W.Frag) (C : Addr) (t : DT1) : TE := fun σ H Q => ∃ S env P, EOk K C H S σ env ∧ t env P ∧ KD K C H S P Q
def rF (K : PySem.W.Frag) (C : Addr) (t : DTA) : TE := fun σ H Q => ∃ S env P, EOk K C H S σ env ∧ t env P ∧ KF K C H S P Q
def rT (K : PySem.W.Frag) (C : Addr) (t : DTT) : TT := fun σ H Q => ∃ S env P, EOk K C H S σ env ∧ t env P ∧ ∀ b, P b → ∀ H', Same H H' → Q b H'
def rA (K : PySem.W.Frag) (C : Addr) (t : DTA) : TA := fun σ H Q => ∃ S env P, EOk K C H S σ env ∧ t env P ∧ ∀ ds, P ds → ∀ vs H', Same H H' → RepA K C (less H' S) ds vs → Q vs H'
def DE (C : Addr) (X : Cx) (e : Expr) (t : DT1) : Prop := PE X e (rE X.K C t)
def DF (C : Addr) (X : Cx) (e : Expr) (t : DTA) : Prop := PE X e (rF X.K C t)
def DB (C : Addr) (X : Cx) (e : Expr) (t : DTT) : Prop := PT X e (rT X.K C t)
def DW (C : Addr) (X : Cx) (e : Expr) (t : DTT) : Prop := PW X e (rT X.K C t)
def DA (C : Addr) (X : Cx) (es : List Expr) (t : DTA) : Prop := PA X es (rA X.K C t)

theorem peW {X : Cx} {e : Expr} {t t' : TE} (h : PE X e t) (w : ∀ σ H Q, t' σ H Q → t σ H Q) : PE X e t' := fun pins s σ H Q I q => h pins s σ H Q I (w σ H Q q)
theorem ptW {X : Cx} {e : Expr} {t t' : TT} (h : PT X e t) (w : ∀ σ H Q, t' σ H Q → t σ H Q) : PT X e t' := fun pins s σ H Q I q => h pins s σ H Q I (w σ H Q q)
theorem pwW {X : Cx} {e : Expr} {t t' : TT} (h : PW X e t) (w : ∀ σ H Q, t' σ H Q → t σ H Q) : PW X e t' := fun wh pins s σ H Q I q => h wh pins s σ H Q I (w σ H Q q)
theorem paW {X : Cx} {es : List Expr} {t t' : TA} (h : PA X es t) (w : ∀ σ H Q, t' σ H Q → t σ H Q) : PA X es t' := fun p pins s σ H Q I q => h p pins s σ H Q I (w σ H Q q)

def dVar (i : Nat) : DT1 := fun env Q => match env[i]? with
  | some (some (.sh d)) => Q d
  | _ => False
def dC (d : D) : DT1 := fun _ Q => Q d
def d1 (r : D → (D → Prop) → Prop) (ta : DT1) : DT1 := fun env Q => ta env fun x => r x Q
def d2 (r : D → D → (D → Prop) → Prop) (ta tb : DT1) : DT1 := fun env Q => ta env fun x => tb env fun y => r x y Q
def d2F (r : D → D → (List D → Prop) → Prop) (ta tb : DT1) : DTA := fun env Q => ta env fun x => tb env fun y => r x y Q
def dNil : DTA := fun _ Q => Q []
def dCons (ta : DT1) (t : DTA) : DTA := fun env Q => ta env fun x => t env fun xs => Q (x :: xs)
def dCall (r : List D → (D → Prop) → Prop) (ta : DTA) : DT1 := fun env Q => ta env fun xs => r xs Q
def dCallF (r : List D → (List D → Prop) → Prop) (ta : DTA) : DTA := fun env Q => ta env fun xs => r xs Q
def dOf (t : DTA) : DT1 := fun env Q => t env fun ds => Q (.lst ds)

def Lift1 (K : PySem.W.Frag) (C : Addr) (r : V → Hp → VK → Prop) (rd : D → (D → Prop) → Prop) : Prop :=
  ∀ H S d v P Q, Dom H S → Rep K C (less H S) d v → rd d P → KD K C H S P Q → r v H Q
def Lift2 (K : PySem.W.Frag) (C : Addr) (r : R2) (rd : D → D → (D → Prop) → Prop) : Prop :=
  ∀ H S d v e u P Q, Dom H S → Rep K C (less H S) d v → Rep K C (less H S) e u → rd d e P → KD K C H S P Q → r v u H Q
def Lift2F (K : PySem.W.Frag) (C : Addr) (r : R2) (rd : D → D → (List D → Prop) → Prop) : Prop :=
  ∀ H S d v e u P Q, Dom H S → Rep K C (less H S) d v → Rep K C (less H S) e u → rd d e P → KF K C H S P Q → r v u H Q
def LiftN (K : PySem.W.Frag) (C : Addr) (r : List V → Hp → VK → Prop) (rd : List D → (D → Prop) → Prop) : Prop :=
  ∀ H S ds vs P Q, Dom H S → RepA K C (less H S) ds vs → rd ds P → KD K C H S P Q → r vs H Q
def LiftNF (K : PySem.W.Frag) (C : Addr) (r : List V → Hp → VK → Prop) (rd : List D → (List D → Prop) → Prop) : Prop :=
  ∀ H S ds vs P Q, Dom H S → RepA K C (less H S) ds vs → rd ds P → KF K C H S P Q → r vs H Q

section
variable {C : Addr} {X : Cx} {a b c e : Expr} {es : List Expr} {ta tb tc te : DT1} {t : DTA} {pos : Pos}
theorem DE.of (h : DF C X e t) : DE C X e (dOf t) := peW h fun σ H Q ⟨S, env, P, h1, h2, h3⟩ => ⟨S, env, _, h1, h2, h3.fresh h1.dom⟩
theorem dvar_at {env : En} {i : Nat} {P : D → Prop} (h : dVar i env P) : ∃ d, env[i]? = some (some (.sh d)) ∧ P d := by
  unfold dVar at h
  split at h
  · exact ⟨_, by assumption, h⟩
  · exact h.elim
theorem de_of_var {i : Nat} (h : PE X e (tVar i)) : DE C X e (dVar i) := peW h fun σ H Q ⟨S, env, P, h1, h2, h3⟩ => by
  obtain ⟨d, e1, p⟩ := dvar_at h2
  obtain ⟨v, e2, r⟩ := h1.slot i _ e1
  exact ⟨v, e2, h3.flat p r⟩
theorem de_of_c {v : V} {d : D} (h : PE X e (tC v)) (r : ∀ H, Rep X.K C H d v) : DE C X e (dC d) := peW h fun σ H Q ⟨S, env, P, h1, h2, h3⟩ => h3.flat h2 (r _)
theorem de_int {i j} : DE C X (.Constant (.int i) j pos) (dC (.int i)) := de_of_c pe_int fun _ => rep_int
theorem de_bl {i j} : DE C X (.Constant (.bool i) j pos) (dC (.bl i)) := de_of_c pe_bl fun _ => rep_bl
theorem de_non {j} : DE C X (.Constant .none j pos) (dC .non) := de_of_c pe_non fun _ => rep_non
theorem de_str {x j} : DE C X (.Constant (.str x) j pos) (dC (.str x)) := de_of_c pe_str fun _ => rep_str
/-- one value, then a rule -/
theorem tun_of {r : V → Hp → VK → Prop} {rd : D → (D → Prop) → Prop} (L : Lift1 X.K C r rd) : ∀ σ H Q, rE X.K C (d1 rd ta) σ H Q → tUn r (rE X.K C ta) σ H Q := fun σ H Q ⟨S, env, P, h1, h2, h3⟩ =>
  ⟨S, env, fun x => rd x P, h1, h2, fun d hd v H' e rv => L H' S d v P Q (h1.dom.mono e) rv hd (h3.mono e)⟩
theorem top_of {r : R2} {rd : D → D → (D → Prop) → Prop} (L : Lift2 X.K C r rd) : ∀ σ H Q, rE X.K C (d2 rd ta tb) σ H Q → tOp r (rE X.K C ta) (rE X.K C tb) σ H Q := fun σ H Q ⟨S, env, P, h1, h2, h3⟩ =>
  ⟨S, env, _, h1, h2, fun d hd v H' e rv => ⟨S, env, _, h1.mono e, hd, fun d' hd' v' H'' e' rv' => L H'' S d v d' v' P Q (h1.dom.mono (e.trans e')) (Rep.mono (same_less e') _ _ rv) rv' hd' (h3.mono (e.trans e'))⟩⟩
theorem topF_of {r : R2} {rd : D → D → (List D → Prop) → Prop} (L : Lift2F X.K C r rd) : ∀ σ H Q, rF X.K C (d2F rd ta tb) σ H Q → tOp r (rE X.K C ta) (rE X.K C tb) σ H Q := fun σ H Q ⟨S, env, P, h1, h2, h3⟩ =>
  ⟨S, env, _, h1, h2, fun d hd v H' e rv => ⟨S, env, _, h1.mono e, hd, fun d' hd' v' H'' e' rv' => L H'' S d v d' v' P Q (h1.dom.mono (e.trans e')) (Rep.mono (same_less e') _ _ rv) rv' hd' (h3.mono (e.trans e'))⟩⟩
theorem tcb_of {r : List V → Hp → VK → Prop} {rd : List D → (D → Prop) → Prop} (L : LiftN X.K C r rd) : ∀ σ H Q, rE X.K C (dCall rd t) σ H Q → tCB r (rA X.K C t) σ H Q := fun σ H Q ⟨S, env, P, h1, h2, h3⟩ =>
  ⟨S, env, _, h1, h2, fun ds hd vs H' e rv => L H' S ds vs P Q (h1.dom.mono e) rv hd (h3.mono e)⟩
theorem tcbF_of {r : List V → Hp → VK → Prop} {rd : List D → (List D → Prop) → Prop} (L : LiftNF X.K C r rd) : ∀ σ H Q, rF X.K C (dCallF rd t) σ H Q → tCB r (rA X.K C t) σ H Q := fun σ H Q ⟨S, env, P, h1, h2, h3⟩ =>
  ⟨S, env, _, h1, h2, fun ds hd vs H' e rv => L H' S ds vs P Q (h1.dom.mono e) rv hd (h3.mono e)⟩
theorem de_op {op : Operator} {r : R2} {rd : D → D → (D → Prop) → Prop} (ho : OpR X (binaryOp op) r) (L : Lift2 X.K C r rd) (ha : DE C X a ta) (hb : DE C X b tb) : DE C X (.BinOp a op b pos) (d2 rd ta tb) := peW (pe_op ho ha hb) (top_of L)
theorem df_op {op : Operator} {r : R2} {rd : D → D → (List D → Prop) → Prop} (ho : OpR X (binaryOp op) r) (L : Lift2F X.K C r rd) (ha : DE C X a ta) (hb : DE C X b tb) : DF C X (.BinOp a op b pos) (d2F rd ta tb) := peW (pe_op ho ha hb) (topF_of L)
theorem de_un {op : UnaryOp} {r : V → Hp → VK → Prop} {rd : D → (D → Prop) → Prop} (ho : UnR X (unaryOp op) r) (L : Lift1 X.K C r rd) (ha : DE C X a ta) : DE C X (.UnaryOp op a pos) (d1 rd ta) := peW (pe_un ho ha) (tun_of L)
theorem de_cmp {op : CmpOp} {r : R2} {rd : D → D → (D → Prop) → Prop} (ho : OpR X (compareOp op) r) (L : Lift2 X.K C r rd) (ha : DE C X a ta) (hb : DE C X b tb) (hm : behindInMarks op b = false) : DE C X (.Compare a [op] [b] pos) (d2 rd ta tb) := peW (pe_cmpR ho ha hb hm) (top_of L)
def dTest (t : DT1) : DTT := fun env Q => t env fun x => match x with
  | .bl b => Q b
  | _ => False
theorem test_at {x : D} {P : Bool → Prop} (h : match x with | .bl b => P b | _ => False) : ∃ b, x = .bl b ∧ P b := by
  cases x <;> first | exact ⟨_, rfl, h⟩ | exact h.elim
theorem ttest_of {tv : TE} (w : ∀ σ H Q, rE X.K C te σ H Q → tv σ H Q) : ∀ σ H Q, rT X.K C (dTest te) σ H Q → tTest tv σ H Q := fun σ H Q ⟨S, env, P, h1, h2, h3⟩ => by
  refine w σ H _ ⟨S, env, _, h1, h2, fun d hd v H' e rv => ?_⟩
  obtain ⟨b, rfl, p⟩ := test_at hd
  unfold Rep at rv
  exact ⟨b, rv, h3 b p H' e⟩
theorem db_cmp {op : CmpOp} {r : R2} {rd : D → D → (D → Prop) → Prop} (ho : OpR X (compareOp op) r) (L : Lift2 X.K C r rd) (ha : DE C X a ta) (hb : DE C X b tb) (hm : behindInMarks op b = false) : DB C X (.Compare a [op] [b] pos) (dTest (d2 rd ta tb)) :=
  ptW (pt_cmpR ho ha hb hm) (ttest_of (top_of L))
theorem db_val (h : DE C X e te) (he : ∀ whole, isTrue e X.env whole = (do let v ← whole; standAt e.pos; holding [v] (truthy v)) := by intro _; rfl) : DB C X e (dTest te) := ptW (pt_val h he) (ttest_of fun _ _ _ z => z)
end
end L2.DL

set_option Elab.async false
set_option linter.all false
set_option maxRecDepth 100000
set_option maxHeartbeats 4000000
/-! Rules over data: operators, calls, statements, a def. -/
namespace L2.DL
open PySem PySem.Spec PyProof.Rows
open Builtin.Int (intBits)

/-! ### and, or, not, if -/
section
variable {C : Addr} {X : Cx} {a b c e : Expr} {es rest : List Expr} {ta tb tc te : DT1} {t : DTA} {tt tu : DTT} {pos : Pos}
def dAnd (t u : DTT) : DTT := fun env Q => t env fun c => if c = true then u env Q else Q false
def dOr (t u : DTT) : DTT := fun env Q => t env fun c => if c = true then Q true else u env Q
def dNot (t : DTT) : DTT := fun env Q => t env fun c => Q (!c)
theorem DW.db (h : DW C X e tt) : DB C X e tt := PW.pt h
theorem dw_and1 (ha : DB C X a tt) : DW C X (.BoolOp .And [a] pos) tt := pw_and1 ha
theorem dw_or1 (ha : DB C X a tt) : DW C X (.BoolOp .Or [a] pos) tt := pw_or1 ha
theorem dw_and (ha : DB C X a tt) (hb : DW C X (.BoolOp .And (b :: rest) pos) tu) : DW C X (.BoolOp .And (a :: b :: rest) pos) (dAnd tt tu) := pwW (pw_and ha hb) fun σ H Q ⟨S, env, P, h1, h2, h3⟩ =>
  ⟨S, env, _, h1, h2, fun d hd H' e => by
    cases d with
    | true => exact ⟨S, env, P, h1.mono e, hd, fun b hb H'' e' => h3 b hb H'' (e.trans e')⟩
    | false => exact h3 false hd H' e⟩
theorem dw_or (ha : DB C X a tt) (hb : DW C X (.BoolOp .Or (b :: rest) pos) tu) : DW C X (.BoolOp .Or (a :: b :: rest) pos) (dOr tt tu) := pwW (pw_or ha hb) fun σ H Q ⟨S, env, P, h1, h2, h3⟩ =>
  ⟨S, env, _, h1, h2, fun d hd H' e => by
    cases d with
    | false => exact ⟨S, env, P, h1.mono e, hd, fun b hb H'' e' => h3 b hb H'' (e.trans e')⟩
    | true => exact h3 true hd H' e⟩
theorem db_not (ha : DB C X a tt) : DB C X (.UnaryOp .Not a pos) (dNot tt) := ptW (pt_not ha) fun σ H Q ⟨S, env, P, h1, h2, h3⟩ => ⟨S, env, _, h1, h2, fun d hd H' e => h3 _ hd H' e⟩
def dAndV (ta tb : DT1) : DT1 := fun env Q => ta env fun x => match x with
  | .bl true => tb env Q
  | .bl false => Q (.bl false)
  | _ => False
def dOrV (ta tb : DT1) : DT1 := fun env Q => ta env fun x => match x with
  | .bl true => Q (.bl true)
  | .bl false => tb env Q
  | _ => False
def dNotV (ta : DT1) : DT1 := fun env Q => ta env fun x => match x with
  | .bl b => Q (.bl (!b))
  | _ => False
theorem de_one {op} (h : DE C X a ta) : DE C X (.BoolOp op [a] pos) ta := pe_one h
theorem de_and (ha : DE C X a ta) (hb : DE C X (.BoolOp .And (b :: rest) pos) tb) : DE C X (.BoolOp .And (a :: b :: rest) pos) (dAndV ta tb) := peW (pe_and ha hb) fun σ H Q ⟨S, env, P, h1, h2, h3⟩ =>
  ⟨S, env, _, h1, h2, fun d hd v H' e rv => by
    cases d with
    | bl k =>
      unfold Rep at rv
      refine ⟨k, rv, ?_⟩
      cases k with
      | true => exact ⟨S, env, P, h1.mono e, hd, h3.mono e⟩
      | false => exact h3 _ hd _ H' e rep_bl
    | _ => exact hd.elim⟩
theorem de_or (ha : DE C X a ta) (hb : DE C X (.BoolOp .Or (b :: rest) pos) tb) : DE C X (.BoolOp .Or (a :: b :: rest) pos) (dOrV ta tb) := peW (pe_or ha hb) fun σ H Q ⟨S, env, P, h1, h2, h3⟩ =>
  ⟨S, env, _, h1, h2, fun d hd v H' e rv => by
    cases d with
    | bl k =>
      unfold Rep at rv
      refine ⟨k, rv, ?_⟩
      cases k with
      | false => exact ⟨S, env, P, h1.mono e, hd, h3.mono e⟩
      | true => exact h3 _ hd _ H' e rep_bl
    | _ => exact hd.elim⟩
theorem de_not (ha : DE C X a ta) : DE C X (.UnaryOp .Not a pos) (dNotV ta) := peW (pe_not ha) fun σ H Q ⟨S, env, P, h1, h2, h3⟩ =>
  ⟨S, env, _, h1, h2, fun d hd v H' e rv => by
    cases d with
    | bl k =>
      unfold Rep at rv
      exact ⟨k, rv, h3 _ hd _ H' e rep_bl⟩
    | _ => exact hd.elim⟩
def dIf (t : DTT) (ta tb : DT1) : DT1 := fun env Q => t env fun c => if c = true then ta env Q else tb env Q
theorem de_if (hc : DB C X c tt) (ha : DE C X a ta) (hb : DE C X b tb) : DE C X (.IfExp c a b pos) (dIf tt ta tb) := peW (pe_ifExp hc ha hb) fun σ H Q ⟨S, env, P, h1, h2, h3⟩ =>
  ⟨S, env, _, h1, h2, fun d hd H' e => by
    cases d with
    | true => exact ⟨S, env, P, h1.mono e, hd, h3.mono e⟩
    | false => exact ⟨S, env, P, h1.mono e, hd, h3.mono e⟩⟩

/-! ### argument lists, displays -/
theorem da_nil : DA C X [] dNil := paW pa_nil fun σ H Q ⟨S, env, P, h1, h2, h3⟩ => h3 [] h2 [] H (Same.refl _) repA_nil
theorem da_cons (ha : DE C X e te) (hr : DA C X es t) (hs : starEach (e :: es) X.env = (false, eval e X.env) :: starEach es X.env := by rfl) : DA C X (e :: es) (dCons te t) := paW (pa_cons ha hr hs) fun σ H Q ⟨S, env, P, h1, h2, h3⟩ =>
  ⟨S, env, _, h1, h2, fun d hd v H' e rv => ⟨S, env, _, h1.mono e, hd, fun ds hds vs H'' e' rvs => h3 _ hds _ H'' (e.trans e') (repA_cons (Rep.mono (same_less e') _ _ rv) rvs)⟩⟩
def dTup (t : DTA) : DT1 := fun env Q => t env fun xs => xs.length ≤ sizeLine ∧ Q (.tup xs)
def dLst (t : DTA) : DTA := fun env Q => t env fun xs => xs.length ≤ sizeLine ∧ Q xs
theorem de_tup {x1} (h : DA C X es t) : DE C X (.Tuple es x1 pos) (dTup t) := peW (pe_tup h) fun σ H Q ⟨S, env, P, h1, h2, h3⟩ =>
  ⟨S, env, _, h1, h2, fun ds hd vs H' e rv => ⟨by rw [← repA_len rv]; exact hd.1, fun p hp => (h3.mono e).new (h1.dom.mono e) hd.2 rv hp⟩⟩
theorem df_lst (h : DA C X es t) : DF C X (.List es pos) (dLst t) := peW (pe_lst h) fun σ H Q ⟨S, env, P, h1, h2, h3⟩ =>
  ⟨S, env, _, h1, h2, fun ds hd vs H' e rv => ⟨by rw [← repA_len rv]; exact hd.1, fun p hp => (h3.mono e).new hd.2 rv hp⟩⟩

/-! ### ints -/
def rdI (Cn : Int → Int → Prop) (g : Int → Int → D) : D → D → (D → Prop) → Prop := fun d e Q => match d, e with
  | .int i, .int j => Cn i j ∧ Q (g i j)
  | _, _ => False
def rdI0 (g : Int → Int → D) : D → D → (D → Prop) → Prop := fun d e Q => match d, e with
  | .int i, .int j => Q (g i j)
  | _, _ => False
theorem lift_rI {Cn : Int → Int → Prop} {g : Int → Int → V} {gd : Int → Int → D} (hg : ∀ H i j, Rep X.K C H (gd i j) (g i j)) : Lift2 X.K C (rI Cn g) (rdI Cn gd) := by
  intro H S d v e u P Q dm r1 r2 h k
  unfold rdI at h
  split at h
  · unfold Rep at r1 r2
    exact ⟨_, _, r1, r2, h.1, k.flat h.2 (hg _ _ _)⟩
  · exact h.elim
theorem lift_rI0 {g : Int → Int → V} {gd : Int → Int → D} (hg : ∀ H i j, Rep X.K C H (gd i j) (g i j)) : Lift2 X.K C (rI0 g) (rdI0 gd) := by
  intro H S d v e u P Q dm r1 r2 h k
  unfold rdI0 at h
  split at h
  · unfold Rep at r1 r2
    exact ⟨_, _, r1, r2, k.flat h (hg _ _ _)⟩
  · exact h.elim
abbrev dAdd := d2 (rdI0 fun i j => .int (i + j))
abbrev dSub := d2 (rdI0 fun i j => .int (i - j))
abbrev dMul := d2 (rdI CMulB fun i j => .int (i * j))
abbrev dDivB := d2 (rdI CDivB fun i j => .int (i.fdiv j))
abbrev dDiv := d2 (rdI CDiv fun i j => .int (i / j))
abbrev dMod := d2 (rdI (fun _ j => 0 < j) fun i j => .int (i % j))
abbrev dPow := d2 (rdI CPow fun i j => .int (i ^ j.toNat))
theorem de_add (ha : DE C X a ta) (hb : DE C X b tb) : DE C X (.BinOp a .Add b pos) (dAdd ta tb) := de_op op_add (lift_rI0 fun _ _ _ => rep_int) ha hb
theorem de_sub (ha : DE C X a ta) (hb : DE C X b tb) : DE C X (.BinOp a .Sub b pos) (dSub ta tb) := de_op op_sub (lift_rI0 fun _ _ _ => rep_int) ha hb
theorem de_mul (ha : DE C X a ta) (hb : DE C X b tb) : DE C X (.BinOp a .Mult b pos) (dMul ta tb) := de_op op_mulB (lift_rI fun _ _ _ => rep_int) ha hb
theorem de_divB (ha : DE C X a ta) (hb : DE C X b tb) : DE C X (.BinOp a .FloorDiv b pos) (dDivB ta tb) := de_op op_fdivB (lift_rI fun _ _ _ => rep_int) ha hb
theorem de_div (ha : DE C X a ta) (hb : DE C X b tb) : DE C X (.BinOp a .FloorDiv b pos) (dDiv ta tb) := de_op op_fdiv (lift_rI fun _ _ _ => rep_int) ha hb
theorem de_mod (ha : DE C X a ta) (hb : DE C X b tb) : DE C X (.BinOp a .Mod b pos) (dMod ta tb) := de_op op_mod (lift_rI fun _ _ _ => rep_int) ha hb
theorem de_pow (ha : DE C X a ta) (hb : DE C X b tb) : DE C X (.BinOp a .Pow b pos) (dPow ta tb) := de_op op_pow (lift_rI fun _ _ _ => rep_int) ha hb
def rdU (g : Int → D) : D → (D → Prop) → Prop := fun d Q => match d with
  | .int i => Q (g i)
  | _ => False
theorem de_neg (ha : DE C X a ta) : DE C X (.UnaryOp .USub a pos) (d1 (rdU fun i => .int (-i)) ta) := de_un un_neg (fun H S d v P Q dm r h k => by
  unfold rdU at h
  split at h
  · unfold Rep at r
    exact ⟨_, r, k.flat h rep_int⟩
  · exact h.elim) ha
theorem l_lt : Lift2 X.K C (rI0 fun i j => .bl (decide (i < j))) (rdI0 fun i j => .bl (decide (i < j))) := lift_rI0 fun _ _ _ => rep_bl
theorem l_le : Lift2 X.K C (rI0 fun i j => .bl (decide (i ≤ j))) (rdI0 fun i j => .bl (decide (i ≤ j))) := lift_rI0 fun _ _ _ => rep_bl
theorem l_gt : Lift2 X.K C (rI0 fun i j => .bl (decide (j < i))) (rdI0 fun i j => .bl (decide (j < i))) := lift_rI0 fun _ _ _ => rep_bl
theorem l_ge : Lift2 X.K C (rI0 fun i j => .bl (decide (j ≤ i))) (rdI0 fun i j => .bl (decide (j ≤ i))) := lift_rI0 fun _ _ _ => rep_bl
theorem rep_bl' {K : PySem.W.Frag} {H : Hp} {b c : Bool} (h : c = b) : Rep K C H (.bl b) (.bl c) := by subst h; exact rep_bl
/-- == of ints, bools, texts -/
def rdEq : D → D → (D → Prop) → Prop := fun d e Q => match d, e with
  | .int i, .int j => Q (.bl (decide (i = j)))
  | .bl i, .bl j => Q (.bl (decide (i = j)))
  | .str i, .str j => Q (.bl (decide (i = j)))
  | _, _ => False
def rdNe : D → D → (D → Prop) → Prop := fun d e Q => match d, e with
  | .int i, .int j => Q (.bl (!decide (i = j)))
  | .bl i, .bl j => Q (.bl (!decide (i = j)))
  | .str i, .str j => Q (.bl (!decide (i = j)))
  | _, _ => False
theorem l_eq : Lift2 X.K C rEq rdEq := by
  intro H S d v e u P Q dm r1 r2 h k
  unfold rdEq at h
  split at h
  · unfold Rep at r1 r2
    subst r1 r2
    exact ⟨rfl, k.flat h (rep_bl' (by simp))⟩
  · unfold Rep at r1 r2
    subst r1 r2
    exact ⟨rfl, k.flat h (rep_bl' (by simp))⟩
  · unfold Rep at r1 r2
    subst r1 r2
    exact ⟨rfl, k.flat h (rep_bl' (by simp))⟩
  · exact h.elim
theorem l_ne : Lift2 X.K C rNe rdNe := by
  intro H S d v e u P Q dm r1 r2 h k
  unfold rdNe at h
  split at h
  · unfold Rep at r1 r2
    subst r1 r2
    exact ⟨rfl, k.flat h (rep_bl' (by simp))⟩
  · unfold Rep at r1 r2
    subst r1 r2
    exact ⟨rfl, k.flat h (rep_bl' (by simp))⟩
  · unfold Rep at r1 r2
    subst r1 r2
    exact ⟨rfl, k.flat h (rep_bl' (by simp))⟩
  · exact h.elim
def isNon : D → Bool
  | .non => true
  | _ => false
def rdIs : D → D → (D → Prop) → Prop := fun d e Q => match e with
  | .non => Q (.bl (isNon d))
  | _ => False
def rdIsNot : D → D → (D → Prop) → Prop := fun d e Q => match e with
  | .non => Q (.bl (!isNon d))
  | _ => False
theorem non_of {H : Hp} {d : D} {v : V} (r : Rep X.K C H d v) : decide (v = .non) = isNon d := by
  cases d <;> unfold Rep at r <;> first
    | (subst r; rfl)
    | (obtain ⟨_, _, r, _⟩ := r; subst r; rfl)
    | (obtain ⟨_, r, _⟩ := r; subst r; rfl)
    | (obtain ⟨_, _, _, _, r, _⟩ := r; subst r; rfl)
theorem l_is : Lift2 X.K C (fun x y H Q => y = .non ∧ Q (.bl (decide (x = .non))) H) rdIs := by
  intro H S d v e u P Q dm r1 r2 h k
  unfold rdIs at h
  split at h
  · unfold Rep at r2
    exact ⟨r2, k.flat h (rep_bl' (non_of r1))⟩
  · exact h.elim
theorem l_isnot : Lift2 X.K C (fun x y H Q => y = .non ∧ Q (.bl (!decide (x = .non))) H) rdIsNot := by
  intro H S d v e u P Q dm r1 r2 h k
  unfold rdIsNot at h
  split at h
  · unfold Rep at r2
    exact ⟨r2, k.flat h (rep_bl' (by rw [non_of r1]))⟩
  · exact h.elim

/-! ### == of data -/
mutual
def py : D → PyData
  | .non => .none
  | .bl b => .bool b
  | .int i => .int i
  | .str x => .str x
  | .tup l => .tuple (pys l)
  | .lst l => .list (pys l)
  | .scr _ => .none
  | .crs _ _ => .none
  | .ty _ => .none
  | .cls _ => .none
def pys : List D → List PyData
  | [] => []
  | d :: ds => py d :: pys ds
end
def ok : Nat → D → Bool
  | _, .non => true
  | _, .bl _ => true
  | _, .int _ => true
  | _, .str x => PyData.strOk x
  | n + 1, .tup l => l.all (ok n)
  | n + 1, .lst l => l.all (ok n)
  | _, _ => false
theorem ok_all {K : PySem.W.Frag} {H : Hp} {n : Nat} (ih : ∀ d : D, ok n d = true → (∀ v, Rep K C H d v → RepD K H (py d) v) ∧ (py d).canLay0 = true ∧ (py d).depth ≤ n) :
    ∀ l : List D, l.all (ok n) = true → (∀ xs, RepA K C H l xs → RepAll K H (pys l) xs) ∧ PyData.canLayAll0 (pys l) = true ∧ PyData.depthAll (pys l) ≤ n
  | [], _ => ⟨fun xs h => by unfold RepA at h; unfold pys RepAll; exact h, rfl, Nat.zero_le _⟩
  | d :: l, h => by
    rw [List.all_cons, Bool.and_eq_true] at h
    obtain ⟨a1, a2, a3⟩ := ih d h.1
    obtain ⟨b1, b2, b3⟩ := ok_all ih l h.2
    refine ⟨fun xs z => ?_, ?_, ?_⟩
    · unfold RepA at z
      obtain ⟨x, r, e, z1, z2⟩ := z
      unfold pys RepAll
      exact ⟨x, r, e, a1 _ z1, b1 _ z2⟩
    · unfold pys PyData.canLayAll0
      rw [a2, b2]
      rfl
    · unfold pys PyData.depthAll
      omega
theorem ok_py {K : PySem.W.Frag} {H : Hp} : ∀ (n : Nat) (d : D), ok n d = true → (∀ v, Rep K C H d v → RepD K H (py d) v) ∧ (py d).canLay0 = true ∧ (py d).depth ≤ n
  | n, .non, _ => ⟨fun v h => by unfold Rep at h; unfold py RepD; exact h, by unfold py PyData.canLay0; rfl, by unfold py PyData.depth; omega⟩
  | n, .bl _, _ => ⟨fun v h => by unfold Rep at h; unfold py RepD; exact h, by unfold py PyData.canLay0; rfl, by unfold py PyData.depth; omega⟩
  | n, .int _, _ => ⟨fun v h => by unfold Rep at h; unfold py RepD; exact h, by unfold py PyData.canLay0; rfl, by unfold py PyData.depth; omega⟩
  | n, .str x, h => ⟨fun v h => by unfold Rep at h; unfold py RepD; exact h, by unfold py PyData.canLay0; unfold ok at h; exact h, by unfold py PyData.depth; omega⟩
  | 0, .tup l, h => by unfold ok at h; cases h
  | 0, .lst l, h => by unfold ok at h; cases h
  | 0, .scr l, h => by unfold ok at h; cases h
  | 0, .crs _ _, h => by unfold ok at h; cases h
  | 0, .ty _, h => by unfold ok at h; cases h
  | 0, .cls _, h => by unfold ok at h; cases h
  | n + 1, .ty _, h => by unfold ok at h; cases h
  | n + 1, .cls _, h => by unfold ok at h; cases h
  | n + 1, .scr l, h => by unfold ok at h; cases h
  | n + 1, .crs _ _, h => by unfold ok at h; cases h
  | n + 1, .tup l, h => by
    unfold ok at h
    obtain ⟨b1, b2, b3⟩ := ok_all (ok_py n) l h
    refine ⟨fun v z => ?_, by unfold py PyData.canLay0; exact b2, by unfold py PyData.depth; omega⟩
    unfold Rep at z
    obtain ⟨a, xs, e, z1, z2⟩ := z
    unfold py RepD
    exact ⟨a, xs, e, z1, b1 _ z2⟩
  | n + 1, .lst l, h => by
    unfold ok at h
    obtain ⟨b1, b2, b3⟩ := ok_all (ok_py n) l h
    refine ⟨fun v z => ?_, by unfold py PyData.canLay0; exact b2, by unfold py PyData.depth; omega⟩
    unfold Rep at z
    obtain ⟨a, xs, e, z1, z2⟩ := z
    unfold py RepD
    exact ⟨a, xs, e, SqL.of z1, b1 _ z2⟩
def eqD (d e : D) : Bool := PyData.eqv (py d) (py e)
def rdEqD : D → D → (D → Prop) → Prop := fun d e Q => ok 8 d = true ∧ ok 8 e = true ∧ Q (.bl (eqD d e))
def rdNeD : D → D → (D → Prop) → Prop := fun d e Q => ok 8 d = true ∧ ok 8 e = true ∧ Q (.bl (!eqD d e))
theorem l_eqD : Lift2 X.K C (rEqD X.K) rdEqD := by
  intro H S d v e u P Q dm r1 r2 ⟨o1, o2, h⟩ k
  obtain ⟨a1, a2, a3⟩ := ok_py (C := C) (K := X.K) (H := H) 8 d o1
  obtain ⟨b1, b2, b3⟩ := ok_py (C := C) (K := X.K) (H := H) 8 e o2
  exact ⟨py d, py e, a1 _ (Rep.mono less_same _ _ r1), b1 _ (Rep.mono less_same _ _ r2), a2, b2, by omega, k.flat h rep_bl⟩
theorem l_neD : Lift2 X.K C (rNeD X.K) rdNeD := by
  intro H S d v e u P Q dm r1 r2 ⟨o1, o2, h⟩ k
  obtain ⟨a1, a2, a3⟩ := ok_py (C := C) (K := X.K) (H := H) 8 d o1
  obtain ⟨b1, b2, b3⟩ := ok_py (C := C) (K := X.K) (H := H) 8 e o2
  exact ⟨py d, py e, a1 _ (Rep.mono less_same _ _ r1), b1 _ (Rep.mono less_same _ _ r2), a2, b2, by omega, k.flat h rep_bl⟩

/-! ### in -/
def allI : List D → Bool
  | [] => true
  | .int _ :: l => allI l
  | _ :: _ => false
def hasI (i : Int) : List D → Bool
  | [] => false
  | .int j :: l => (j == i) || hasI i l
  | _ :: l => hasI i l
theorem allI_map : ∀ ns : List Int, allI (ns.map D.int) = true
  | [] => rfl
  | n :: ns => by rw [List.map_cons]; unfold allI; exact allI_map ns
theorem hasI_map (i : Int) : ∀ ns : List Int, hasI i (ns.map D.int) = decide (i ∈ ns)
  | [] => rfl
  | n :: ns => by
    rw [List.map_cons]
    unfold hasI
    rw [hasI_map i ns, Bool.eq_iff_iff]
    simp only [Bool.or_eq_true, beq_iff_eq, decide_eq_true_eq, List.mem_cons]
    exact ⟨fun h => h.imp Eq.symm id, fun h => h.imp Eq.symm id⟩
theorem allI_inv : ∀ l : List D, allI l = true → ∃ ns : List Int, l = ns.map D.int
  | [], _ => ⟨[], rfl⟩
  | .int i :: l, h => by
    unfold allI at h
    obtain ⟨ns, rfl⟩ := allI_inv l h
    exact ⟨i :: ns, rfl⟩
  | .non :: _, h => by unfold allI at h; cases h
  | .bl _ :: _, h => by unfold allI at h; cases h
  | .str _ :: _, h => by unfold allI at h; cases h
  | .tup _ :: _, h => by unfold allI at h; cases h
  | .lst _ :: _, h => by unfold allI at h; cases h
  | .scr _ :: _, h => by unfold allI at h; cases h
  | .crs _ _ :: _, h => by unfold allI at h; cases h
  | .ty _ :: _, h => by unfold allI at h; cases h
  | .cls _ :: _, h => by unfold allI at h; cases h
def rdIn (f : Bool → Bool) : D → D → (D → Prop) → Prop := fun d e Q => match d, e with
  | .int i, .tup l => allI l = true ∧ Q (.bl (f (hasI i l)))
  | .int i, .lst l => allI l = true ∧ Q (.bl (f (hasI i l)))
  | _, _ => False
theorem flat_ints : ∀ ns : List Int, (ns.map V.int).all flatV = true
  | [] => rfl
  | n :: ns => by rw [List.map_cons, List.all_cons, flat_ints ns]; rfl
theorem inV_ints (i : Int) : ∀ ns : List Int, inV (.int i) (ns.map V.int) = decide (i ∈ ns)
  | [] => rfl
  | n :: ns => by
    have e : inV (.int i) ((n :: ns).map V.int) = ((n == i) || inV (.int i) (ns.map V.int)) := rfl
    rw [e, inV_ints i ns, Bool.eq_iff_iff]
    simp only [Bool.or_eq_true, beq_iff_eq, decide_eq_true_eq, List.mem_cons]
    exact ⟨fun h => h.imp Eq.symm id, fun h => h.imp Eq.symm id⟩
theorem l_in : Lift2 X.K C (rIn X.K false) (rdIn id) := by
  intro H S d v e u P Q dm r1 r2 h k
  unfold rdIn at h
  split at h
  · unfold Rep at r1 r2
    obtain ⟨a, xs, rfl, h2, h3⟩ := r2
    obtain ⟨ns, rfl⟩ := allI_inv _ h.1
    rw [repA_ints h3] at h2
    subst r1
    refine ⟨a, _, rfl, .inr (less_same.seqT h2), rfl, flat_ints ns, k.flat h.2 (rep_bl' ?_)⟩
    rw [inV_ints, hasI_map]
    rfl
  · unfold Rep at r1 r2
    obtain ⟨a, xs, rfl, h2, h3⟩ := r2
    obtain ⟨ns, rfl⟩ := allI_inv _ h.1
    rw [repA_ints h3] at h2
    subst r1
    refine ⟨a, _, rfl, .inl (SqL.of (less_same _ _ h2)), rfl, flat_ints ns, k.flat h.2 (rep_bl' ?_)⟩
    rw [inV_ints, hasI_map]
    rfl
  · exact h.elim
theorem l_notin : Lift2 X.K C (rIn X.K true) (rdIn not) := by
  intro H S d v e u P Q dm r1 r2 h k
  unfold rdIn at h
  split at h
  · unfold Rep at r1 r2
    obtain ⟨a, xs, rfl, h2, h3⟩ := r2
    obtain ⟨ns, rfl⟩ := allI_inv _ h.1
    rw [repA_ints h3] at h2
    subst r1
    refine ⟨a, _, rfl, .inr (less_same.seqT h2), rfl, flat_ints ns, k.flat h.2 (rep_bl' ?_)⟩
    rw [inV_ints, hasI_map]
    rfl
  · unfold Rep at r1 r2
    obtain ⟨a, xs, rfl, h2, h3⟩ := r2
    obtain ⟨ns, rfl⟩ := allI_inv _ h.1
    rw [repA_ints h3] at h2
    subst r1
    refine ⟨a, _, rfl, .inl (SqL.of (less_same _ _ h2)), rfl, flat_ints ns, k.flat h.2 (rep_bl' ?_)⟩
    rw [inV_ints, hasI_map]
    rfl
  · exact h.elim

/-! ### subscripts, slices -/
def rdIx : D → D → (D → Prop) → Prop := fun d e Q => match d, e with
  | .tup l, .int i => match atI l i with
    | some x => Q x
    | none => False
  | .lst l, .int i => match atI l i with
    | some x => Q x
    | none => False
  | .scr l, .int i => match atI l i with
    | some x => Q (.int x)
    | none => False
  | _, _ => False
theorem atI_rep {K : PySem.W.Frag} {H : Hp} {l : List D} {xs : List V} {i : Int} {x : D} (h : RepA K C H l xs) (e : atI l i = some x) : ∃ v, atI xs i = some v ∧ Rep K C H x v := by
  unfold atI at e ⊢
  rw [← repA_len h]
  cases q : ixN l.length i with
  | none => rw [q] at e; cases e
  | some j =>
    rw [q] at e
    exact repA_get h e
theorem l_ixT : Lift2 X.K C (rIx X.K) rdIx := by
  intro H S d v e u P Q dm r1 r2 h k
  unfold rdIx at h
  split at h
  · split at h
    · next l j _ x e =>
      unfold Rep at r1 r2
      obtain ⟨a, xs, rfl, h2, h3⟩ := r1
      obtain ⟨v, e1, r⟩ := atI_rep h3 e
      exact .inr (.inl ⟨a, xs, _, v, rfl, r2, less_same.seqT h2, e1, k.flat h r⟩)
    · exact h.elim
  · split at h
    · next l j _ x e =>
      unfold Rep at r1 r2
      obtain ⟨a, xs, rfl, h2, h3⟩ := r1
      obtain ⟨v, e1, r⟩ := atI_rep h3 e
      exact .inl ⟨a, xs, _, v, rfl, r2, SqL.of (less_same _ _ h2), e1, k.flat h r⟩
    · exact h.elim
  · split at h
    · next l j _ x e =>
      unfold Rep at r1 r2
      obtain ⟨a, rfl, h2⟩ := r1
      refine .inl ⟨a, _, _, .int x, rfl, r2, less_same.seq h2, ?_, k.flat h rep_int⟩
      unfold atI at e ⊢
      rw [List.length_map]
      cases q : ixN l.length j with
      | none => rw [q] at e; cases e
      | some m =>
        rw [q] at e
        have e' : l[m]? = some x := e
        show (l.map V.int)[m]? = some (V.int x)
        rw [List.getElem?_map, e']
        rfl
    · exact h.elim
  · exact h.elim
theorem de_ix (ha : DE C X a ta) (hb : DE C X b tb) (hs : PlainIx b) : DE C X (.Subscript a b pos) (d2 rdIx ta tb) := peW (pe_ix ix_seq ha hb hs) (top_of l_ixT)
def DO (C : Addr) (X : Cx) (e : Option Expr) (t : En → (Option Int → Prop) → Prop) : Prop :=
  PO X e fun σ H Q => ∃ S env P, EOk X.K C H S σ env ∧ t env P ∧ ∀ i, P i → ∀ H', Same H H' → Q i H'
def dNoPart : En → (Option Int → Prop) → Prop := fun _ Q => Q none
def dPart (t : DT1) : En → (Option Int → Prop) → Prop := fun env Q => t env fun x => match x with
  | .int i => Q (some i)
  | _ => False
theorem poW {e : Option Expr} {t t' : TO} (h : PO X e t) (w : ∀ σ H Q, t' σ H Q → t σ H Q) : PO X e t' := fun pins s σ H Q I q => h pins s σ H Q I (w σ H Q q)
theorem do_none : DO C X none dNoPart := poW po_none fun σ H Q ⟨S, env, P, h1, h2, h3⟩ => h3 _ h2 H (Same.refl _)
theorem do_some (h : DE C X e te) : DO C X (some e) (dPart te) := poW (po_some h) fun σ H Q ⟨S, env, P, h1, h2, h3⟩ => ⟨S, env, _, h1, h2, fun d hd v H' e rv => by
  cases d with
  | int i => unfold Rep at rv; exact ⟨i, rv, h3 _ hd H' e⟩
  | _ => exact hd.elim⟩
def cut {α : Type} (xs : List α) (lo hi : Option Int) : List α := (xs.drop (HT.sIx xs.length 0 lo)).take (HT.sIx xs.length xs.length hi - HT.sIx xs.length 0 lo)
/-- a slice of a list -/
def dSl (te : DT1) (tl th : En → (Option Int → Prop) → Prop) : DTA := fun env Q => te env fun x => tl env fun l => th env fun u => match x with
  | .lst xs => Q (cut xs l u)
  | _ => False
theorem df_slice {lo hi : Option Expr} {tl th : En → (Option Int → Prop) → Prop} {p2 : Pos} (he : DE C X e te) (hl : DO C X lo tl) (hu : DO C X hi th) : DF C X (.Subscript e (.Slice lo hi none p2) pos) (dSl te tl th) :=
  peW (pe_slice sl_list he hl hu) fun σ H Q ⟨S, env, P, h1, h2, h3⟩ => ⟨S, env, _, h1, h2, fun d hd v H' e rv => ⟨S, env, _, h1.mono e, hd, fun l hl H2 e2 => ⟨S, env, _, h1.mono (e.trans e2), hl, fun u hu H3 e3 => by
    cases d with
    | lst xs =>
      unfold Rep at rv
      obtain ⟨a, vs, rfl, r1, r2⟩ := rv
      refine ⟨a, vs, rfl, SqL.of (e3 _ _ (e2 _ _ (less_same _ _ r1))), fun p hp => ?_⟩
      refine (h3.mono (e.trans (e2.trans e3))).new hu ?_ hp
      have rr := repA_iff.mp (RepA.mono (same_less (e2.trans e3)) _ _ r2)
      unfold cut cutV
      rw [← paired_len rr]
      exact repA_iff.mpr (paired_take _ (paired_drop _ rr))
    | _ => exact hu.elim⟩⟩⟩

/-! ### list + list, list * int -/
def rdCat : D → D → (List D → Prop) → Prop := fun d e Q => match d, e with
  | .lst l, .lst m => l.length + m.length ≤ sizeLine ∧ Q (l ++ m)
  | _, _ => False
theorem l_cat : Lift2F X.K C rCat rdCat := by
  intro H S d v e u P Q dm r1 r2 h k
  unfold rdCat at h
  split at h
  · unfold Rep at r1 r2
    obtain ⟨a, xs, rfl, h2, h3⟩ := r1
    obtain ⟨b, ys, rfl, h4, h5⟩ := r2
    refine ⟨a, b, xs, ys, rfl, rfl, less_same _ _ h2, less_same _ _ h4, ?_, fun p hp => k.new h.2 (repA_app h3 h5) hp⟩
    rw [← repA_len h3, ← repA_len h5]
    exact h.1
  · exact h.elim
def rdRep : D → D → (List D → Prop) → Prop := fun d e Q => match d, e with
  | .lst l, .int k => -(2 ^ 63) ≤ k ∧ k < 2 ^ 63 ∧ l.length * k.toNat ≤ sizeLine ∧ Q (List.replicate k.toNat l).flatten
  | _, _ => False
theorem l_rep : Lift2F X.K C rRep rdRep := by
  intro H S d v e u P Q dm r1 r2 h k
  unfold rdRep at h
  split at h
  · unfold Rep at r1 r2
    obtain ⟨a, xs, rfl, h2, h3⟩ := r1
    subst r2
    refine ⟨a, _, xs, rfl, rfl, less_same _ _ h2, h.1, h.2.1, ?_, fun p hp => k.new h.2.2.2 ?_ hp⟩
    · rw [← repA_len h3]
      exact h.2.2.1
    · generalize Int.toNat _ = n
      induction n with
      | zero => exact repA_nil
      | succ n ih => rw [List.replicate_succ, List.replicate_succ, List.flatten_cons, List.flatten_cons]; exact repA_app h3 ih
  · exact h.elim
theorem df_cat (ha : DE C X a ta) (hb : DE C X b tb) : DF C X (.BinOp a .Add b pos) (d2F rdCat ta tb) := df_op op_cat l_cat ha hb
theorem df_rep (ha : DE C X a ta) (hb : DE C X b tb) : DF C X (.BinOp a .Mult b pos) (d2F rdRep ta tb) := df_op op_rep l_rep ha hb

/-! ### calls of built-ins -/
def rcLen : List D → (D → Prop) → Prop := fun xs Q => match xs with
  | [.tup l] => Q (.int l.length)
  | [.lst l] => Q (.int l.length)
  | [.scr l] => Q (.int l.length)
  | _ => False
theorem l_len : LiftN X.K C (fun xs H Q => ∃ p ys, xs = [.ref p] ∧ (SqL X.K H p ys ∨ SqT X.K H p ys) ∧ Q (.int ys.length) H) rcLen := by
  intro H S ds vs P Q dm r h k
  unfold rcLen at h
  split at h
  all_goals first
    | (unfold RepA at r
       obtain ⟨x, y, rfl, r1, r2⟩ := r
       unfold RepA at r2
       subst r2
       unfold Rep at r1)
    | exact h.elim
  · obtain ⟨a, xs, rfl, h2, h3⟩ := r1
    exact ⟨a, xs, rfl, .inr (less_same.seqT h2), by rw [← repA_len h3]; exact k.flat h rep_int⟩
  · obtain ⟨a, xs, rfl, h2, h3⟩ := r1
    exact ⟨a, xs, rfl, .inl (SqL.of (less_same _ _ h2)), by rw [← repA_len h3]; exact k.flat h rep_int⟩
  · obtain ⟨a, rfl, h2⟩ := r1
    exact ⟨a, _, rfl, .inl (less_same.seq h2), by rw [List.length_map]; exact k.flat h rep_int⟩
theorem repA_one {K : PySem.W.Frag} {H : Hp} {d : D} {vs : List V} (r : RepA K C H [d] vs) : ∃ v, vs = [v] ∧ Rep K C H d v := by
  unfold RepA at r
  obtain ⟨x, y, rfl, r1, r2⟩ := r
  unfold RepA at r2
  subst r2
  exact ⟨x, rfl, r1⟩
theorem repA_two {K : PySem.W.Frag} {H : Hp} {d e : D} {vs : List V} (r : RepA K C H [d, e] vs) : ∃ v u, vs = [v, u] ∧ Rep K C H d v ∧ Rep K C H e u := by
  unfold RepA at r
  obtain ⟨x, y, rfl, r1, r2⟩ := r
  obtain ⟨u, rfl, r3⟩ := repA_one r2
  exact ⟨x, u, rfl, r1, r3⟩
def rcAbs : List D → (D → Prop) → Prop := fun xs Q => match xs with
  | [.int i] => Q (.int i.natAbs)
  | _ => False
theorem l_abs : LiftN X.K C (fun xs H Q => ∃ i, xs = [.int i] ∧ Q (.int (if i < 0 then -i else i)) H) rcAbs := by
  intro H S ds vs P Q dm r h k
  unfold rcAbs at h
  split at h
  · obtain ⟨v, rfl, r1⟩ := repA_one r
    unfold Rep at r1
    subst r1
    refine ⟨_, rfl, ?_⟩
    have e : ∀ i : Int, (if i < 0 then -i else i) = (i.natAbs : Int) := fun i => by split <;> omega
    rw [e]
    exact k.flat h rep_int
  · exact h.elim
def rcMin : List D → (D → Prop) → Prop := fun xs Q => match xs with
  | [.int i, .int j] => Q (.int (if j < i then j else i))
  | _ => False
def rcMax : List D → (D → Prop) → Prop := fun xs Q => match xs with
  | [.int i, .int j] => Q (.int (if j > i then j else i))
  | _ => False
theorem l_min : LiftN X.K C (fun xs H Q => ∃ i j, xs = [.int i, .int j] ∧ Q (.int (if j < i then j else i)) H) rcMin := by
  intro H S ds vs P Q dm r h k
  unfold rcMin at h
  split at h
  · obtain ⟨v, u, rfl, r1, r2⟩ := repA_two r
    unfold Rep at r1 r2
    subst r1 r2
    exact ⟨_, _, rfl, k.flat h rep_int⟩
  · exact h.elim
theorem l_max : LiftN X.K C (fun xs H Q => ∃ i j, xs = [.int i, .int j] ∧ Q (.int (if j > i then j else i)) H) rcMax := by
  intro H S ds vs P Q dm r h k
  unfold rcMax at h
  split at h
  · obtain ⟨v, u, rfl, r1, r2⟩ := repA_two r
    unfold Rep at r1 r2
    subst r1 r2
    exact ⟨_, _, rfl, k.flat h rep_int⟩
  · exact h.elim
def rcList : List D → (List D → Prop) → Prop := fun xs Q => match xs with
  | [.tup l] => Q l
  | [.lst l] => Q l
  | _ => False
theorem l_list : LiftNF X.K C (fun xs H Q => ∃ p ys, xs = [.ref p] ∧ (SqL X.K H p ys ∨ SqT X.K H p ys) ∧ ∀ l, H l = none → Q (.ref l) (upd H l (.lst ys))) rcList := by
  intro H S ds vs P Q dm r h k
  unfold rcList at h
  split at h
  all_goals first
    | exact h.elim
    | (obtain ⟨v, rfl, r1⟩ := repA_one r
       unfold Rep at r1
       obtain ⟨a, xs, rfl, h2, h3⟩ := r1)
  · exact ⟨a, xs, rfl, .inr (less_same.seqT h2), fun l hl => k.new h h3 hl⟩
  · exact ⟨a, xs, rfl, .inl (SqL.of (less_same _ _ h2)), fun l hl => k.new h h3 hl⟩
def rcTuple : List D → (D → Prop) → Prop := fun xs Q => match xs with
  | [.tup l] => Q (.tup l)
  | [.lst l] => Q (.tup l)
  | _ => False
theorem l_tuple : LiftN X.K C (fun xs H Q => ∃ p ys, xs = [.ref p] ∧ ((SqL X.K H p ys ∧ ∀ l, H l = none → Q (.ref l) (upd H l (.tup ys))) ∨ (SqT X.K H p ys ∧ Q (.ref p) H))) rcTuple := by
  intro H S ds vs P Q dm r h k
  unfold rcTuple at h
  split at h
  all_goals first
    | exact h.elim
    | (obtain ⟨v, rfl, r1⟩ := repA_one r
       have r0 := r1
       unfold Rep at r1
       obtain ⟨a, xs, rfl, h2, h3⟩ := r1)
  · exact ⟨a, xs, rfl, .inr ⟨less_same.seqT h2, k.flat h r0⟩⟩
  · exact ⟨a, xs, rfl, .inl ⟨SqL.of (less_same _ _ h2), fun l hl => k.new dm h h3 hl⟩⟩
theorem de_callB {x : Str} {id : String} {p : Pos} {r : List V → Hp → VK → Prop} {rd : List D → (D → Prop) → Prop} (hc : CallR X (.builtin id) r) (L : LiftN X.K C r rd) (hg : Gl X x) (hm : X.mg x = none) (hv : bootBuiltins x = some (.builtin id)) (ha : DA C X (e :: es) t) (hn : x ≠ "__name__" := by decide) (hdb : (x == ("__debug__" : Str)) = false := by decide)
    (he : starEach (e :: es) X.env = (false, eval e X.env) :: starEach es X.env := by rfl) (hpl : (backTo pos (starEach es X.env)).any (·.1) = false := by rfl) : DE C X (.Call (.Name x p) (e :: es) [] pos) (dCall rd t) :=
  peW (pe_callB hc hg hm hv ha hn hdb he hpl) (tcb_of L)
theorem de_callTy {x : Str} {T : String} {p : Pos} {r : List V → Hp → VK → Prop} {rd : List D → (D → Prop) → Prop} (hc : CallR X (.type T) r) (L : LiftN X.K C r rd) (hg : Gl X x) (hm : X.mg x = none) (hv : bootBuiltins x = some (.type T)) (ha : DA C X (e :: es) t) (hn : x ≠ "__name__" := by decide) (hdb : (x == ("__debug__" : Str)) = false := by decide)
    (he : starEach (e :: es) X.env = (false, eval e X.env) :: starEach es X.env := by rfl) (hpl : (backTo pos (starEach es X.env)).any (·.1) = false := by rfl) : DE C X (.Call (.Name x p) (e :: es) [] pos) (dCall rd t) :=
  peW (pe_callTy hc hg hm hv ha hn hdb he hpl) (tcb_of L)
theorem df_callTy {x : Str} {T : String} {p : Pos} {r : List V → Hp → VK → Prop} {rd : List D → (List D → Prop) → Prop} (hc : CallR X (.type T) r) (L : LiftNF X.K C r rd) (hg : Gl X x) (hm : X.mg x = none) (hv : bootBuiltins x = some (.type T)) (ha : DA C X (e :: es) t) (hn : x ≠ "__name__" := by decide) (hdb : (x == ("__debug__" : Str)) = false := by decide)
    (he : starEach (e :: es) X.env = (false, eval e X.env) :: starEach es X.env := by rfl) (hpl : (backTo pos (starEach es X.env)).any (·.1) = false := by rfl) : DF C X (.Call (.Name x p) (e :: es) [] pos) (dCallF rd t) :=
  peW (pe_callTy hc hg hm hv ha hn hdb he hpl) (tcbF_of L)

/-! ### a def's promise over data -/
def spD (K : PySem.W.Frag) (C : Addr) (T : List D → (D → Prop) → Prop) : Sp := fun vs H Q _ => ∃ S ds P, Dom H S ∧ RepA K C (less H S) ds vs ∧ T ds P ∧ KD K C H S P Q
def spF (K : PySem.W.Frag) (C : Addr) (T : List D → (List D → Prop) → Prop) : Sp := fun vs H Q _ => ∃ S ds P, Dom H S ∧ RepA K C (less H S) ds vs ∧ T ds P ∧ KF K C H S P Q
theorem tcall_of {T : List D → (D → Prop) → Prop} : ∀ σ H Q, rE X.K C (dCall T t) σ H Q → tCall (spD X.K C T) [] E0 (rA X.K C t) σ H Q := fun σ H Q ⟨S, env, P, h1, h2, h3⟩ =>
  ⟨S, env, _, h1, h2, fun ds hd vs H' e rv => ⟨S, ds, P, h1.dom.mono e, by rw [List.append_nil]; exact rv, hd, h3.mono e⟩⟩
theorem tcallF_of {T : List D → (List D → Prop) → Prop} : ∀ σ H Q, rF X.K C (dCallF T t) σ H Q → tCall (spF X.K C T) [] E0 (rA X.K C t) σ H Q := fun σ H Q ⟨S, env, P, h1, h2, h3⟩ =>
  ⟨S, env, _, h1, h2, fun ds hd vs H' e rv => ⟨S, ds, P, h1.dom.mono e, by rw [List.append_nil]; exact rv, hd, h3.mono e⟩⟩
theorem de_dn {x : Str} {ps : List Str} {k k' : Nat} {p : Pos} {T : List D → (D → Prop) → Prop} (Df : Dn X.prog X.w X.K X.mg X.base x ps k (spD X.K C T)) (hr : Room k' X.A) (hg : Gl X x) (ha : DA C X (e :: es) t) (hk : k ≤ k' := by decide)
    (hdb : (x == ("__debug__" : Str)) = false := by decide) (he : starEach (e :: es) X.env = (false, eval e X.env) :: starEach es X.env := by rfl) (hpl : (backTo pos (starEach es X.env)).any (·.1) = false := by rfl) :
    DE C X (.Call (.Name x p) (e :: es) [] pos) (dCall T t) := peW (pe_dn Df hr hg ha hk hdb he hpl) tcall_of
theorem df_dn {x : Str} {ps : List Str} {k k' : Nat} {p : Pos} {T : List D → (List D → Prop) → Prop} (Df : Dn X.prog X.w X.K X.mg X.base x ps k (spF X.K C T)) (hr : Room k' X.A) (hg : Gl X x) (ha : DA C X (e :: es) t) (hk : k ≤ k' := by decide)
    (hdb : (x == ("__debug__" : Str)) = false := by decide) (he : starEach (e :: es) X.env = (false, eval e X.env) :: starEach es X.env := by rfl) (hpl : (backTo pos (starEach es X.env)).any (·.1) = false := by rfl) :
    DF C X (.Call (.Name x p) (e :: es) [] pos) (dCallF T t) := peW (pe_dn Df hr hg ha hk hdb he hpl) tcallF_of
end
end L2.DL

set_option Elab.async false
set_option linter.all false
set_option maxRecDepth 100000
set_option maxHeartbeats 4000000
/-! Rules over data: statements, loops, comprehensions, a def. -/
namespace L2.DL
open PySem PySem.Spec PyProof.Rows

structure DEnds where
  nx : En → Prop
  rt : D → Prop
  bk : En → Prop := fun _ => False
  ct : En → Prop := fun _ => False
  rf : List D → Prop := fun _ => False
abbrev DTS := DEnds → En → Prop
structure SOk (K : PySem.W.Frag) (C : Addr) (H0 : Hp) (S0 : Addr → Prop) (H : Hp) (S : Addr → Prop) (σ : L2.St) (env : En) : Prop where
  e : EOk K C H S σ env
  same : Same H0 H
  sub : ∀ p, S0 p → S p
  hid : ∀ p, S p → S0 p ∨ H0 p = none
  own : ∀ (i : Nat) (ds : List D) (p : Addr), env[i]? = some (some (.ow ds)) → σ[i]? = some (some (.ref p)) → H0 p = none
  dom0 : Dom H0 S0
structure EndsOk (K : PySem.W.Frag) (C : Addr) (H0 : Hp) (S0 : Addr → Prop) (DD : DEnds) (D0 : Ends) : Prop where
  nx : ∀ env S σ H, DD.nx env → SOk K C H0 S0 H S σ env → D0.nx σ H
  rt : ∀ d v H, DD.rt d → Same H0 H → Rep K C (less H S0) d v → D0.rt v H
  bk : ∀ env S σ H, DD.bk env → SOk K C H0 S0 H S σ env → D0.bk σ H
  ct : ∀ env S σ H, DD.ct env → SOk K C H0 S0 H S σ env → D0.ct σ H
  rf : ∀ ds p xs H, DD.rf ds → Same H0 H → H0 p = none → H p = some (.lst xs) → RepA K C (less H (wi S0 p)) ds xs → D0.rt (.ref p) H
def rS (K : PySem.W.Frag) (C : Addr) (t : DTS) : TS := fun D0 σ H => ∃ H0 S0 S env DD, SOk K C H0 S0 H S σ env ∧ t DD env ∧ EndsOk K C H0 S0 DD D0
def DS (C : Addr) (X : Cx) (st : Stmt) (t : DTS) : Prop := PS X st (rS X.K C t)
def DSs (C : Addr) (X : Cx) (st : List Stmt) (t : DTS) : Prop := PSs X st (rS X.K C t)
theorem psW {X : Cx} {st : Stmt} {t t' : TS} (h : PS X st t) (w : ∀ D0 σ H, t' D0 σ H → t D0 σ H) : PS X st t' := fun pins s σ H D0 I q => h pins s σ H D0 I (w D0 σ H q)
theorem pssW {X : Cx} {st : List Stmt} {t t' : TS} (h : PSs X st t) (w : ∀ D0 σ H, t' D0 σ H → t D0 σ H) : PSs X st t' := fun pins s σ H D0 I q => h pins s σ H D0 I (w D0 σ H q)
section
variable {K : PySem.W.Frag} {C : Addr} {H0 H H' : Hp} {S0 S : Addr → Prop} {σ : L2.St} {env : En}
theorem SOk.mono (h : SOk K C H0 S0 H S σ env) (e : Same H H') : SOk K C H0 S0 H' S σ env := ⟨h.e.mono e, h.same.trans e, h.sub, h.hid, h.own, h.dom0⟩
/-- what a body may rely on stays so -/
theorem SOk.prot (h : SOk K C H0 S0 H S σ env) : Same (less H0 S0) (less H S) := fun a u z => by
  obtain ⟨h1, h2⟩ := less_iff.mp z
  exact less_iff.mpr ⟨fun q => (h.hid a q).elim h1 fun w => (by rw [h2] at w; cases w), h.same _ _ h2⟩
theorem SOk.set (h : SOk K C H0 S0 H S σ env) {d : D} {v : V} (r : Rep K C (less H S) d v) (i : Nat) : SOk K C H0 S0 H S (σ.set i (some v)) (env.set i (some (.sh d))) := by
  refine ⟨⟨by rw [List.length_set, List.length_set]; exact h.e.len, fun j sv z => ?_, fun j k ds es p h1 h2 h3 h4 => ?_, h.e.dom⟩, h.same, h.sub, h.hid, fun j ds p h1 h2 => ?_, h.dom0⟩
  · by_cases q : i = j
    · subst q
      rw [List.getElem?_set] at z
      split at z
      · split at z
        · cases z
          refine ⟨v, ?_, r⟩
          rw [List.getElem?_set, if_pos rfl, if_pos (by rw [h.e.len]; assumption)]
        · cases z
      · exact absurd rfl (by assumption)
    · rw [List.getElem?_set_ne q] at z ⊢
      exact h.e.slot j sv z
  · have n1 : i ≠ j := fun q => by
      subst q
      rw [List.getElem?_set, if_pos rfl] at h1
      split at h1 <;> cases h1
    have n2 : i ≠ k := fun q => by
      subst q
      rw [List.getElem?_set, if_pos rfl] at h2
      split at h2 <;> cases h2
    rw [List.getElem?_set_ne n1] at h1 h3
    rw [List.getElem?_set_ne n2] at h2 h4
    exact h.e.inj j k ds es p h1 h2 h3 h4
  · have n1 : i ≠ j := fun q => by
      subst q
      rw [List.getElem?_set, if_pos rfl] at h1
      split at h1 <;> cases h1
    rw [List.getElem?_set_ne n1] at h1 h2
    exact h.own j ds p h1 h2
theorem RepV.wi {p : Addr} {sv : SV} {v : V} (r : RepV K C H S sv v) (e : Same H H') (hp : H p = none) : RepV K C H' (wi S p) sv v := by
  cases sv with
  | sh d => exact Rep.mono (same_wi e hp) _ _ r
  | ow ds =>
    obtain ⟨q, xs, h1, h2, h3, h4⟩ := r
    exact ⟨q, xs, h1, .inl h2, e _ _ h3, RepA.mono (same_wi e hp) _ _ h4⟩
theorem SOk.setO (h : SOk K C H0 S0 H S σ env) {ds : List D} {p : Addr} {xs : List V} (e : Same H H') (hp : H p = none) (hl : H' p = some (.lst xs)) (r : RepA K C (less H' (DL.wi S p)) ds xs) (i : Nat) :
    SOk K C H0 S0 H' (DL.wi S p) (σ.set i (some (.ref p))) (env.set i (some (.ow ds))) := by
  have hp0 : H0 p = none := Same.none h.same hp
  have get : ∀ {j : Nat} {sv : SV}, (env.set i (some (.ow ds)))[j]? = some (some sv) → (i = j ∧ sv = .ow ds ∧ (σ.set i (some (.ref p)))[j]? = some (some (.ref p))) ∨ (i ≠ j ∧ env[j]? = some (some sv) ∧ (σ.set i (some (.ref p)))[j]? = σ[j]?) := fun {j sv} z => by
    by_cases q : i = j
    · subst q
      rw [List.getElem?_set, if_pos rfl] at z
      split at z
      · cases z
        refine .inl ⟨rfl, rfl, ?_⟩
        rw [List.getElem?_set, if_pos rfl, if_pos (by rw [h.e.len]; assumption)]
      · cases z
    · rw [List.getElem?_set_ne q] at z
      exact .inr ⟨q, z, List.getElem?_set_ne q⟩
  have ne : ∀ {j : Nat} {es : List D} {q : Addr}, env[j]? = some (some (.ow es)) → σ[j]? = some (some (.ref q)) → q ≠ p := fun {j es q} z1 z2 z3 => by
    obtain ⟨v, e1, q', xs', r1, r2, r3, _⟩ := h.e.slot j _ z1
    rw [z2] at e1
    cases e1
    cases r1
    rw [z3, hp] at r3
    cases r3
  refine ⟨⟨by rw [List.length_set, List.length_set]; exact h.e.len, fun j sv z => ?_, fun j k ds' es q h1 h2 h3 h4 => ?_, fun q hq => ?_⟩, h.same.trans e, fun q hq => .inl (h.sub q hq), fun q hq => ?_, fun j ds' q h1 h2 => ?_, h.dom0⟩
  · rcases get z with ⟨_, rfl, g⟩ | ⟨_, z', g⟩
    · exact ⟨_, g, p, xs, rfl, .inr rfl, hl, r⟩
    · obtain ⟨v, e1, r1⟩ := h.e.slot j sv z'
      exact ⟨v, g.trans e1, r1.wi e hp⟩
  · rcases get h1 with ⟨q1, _, g1⟩ | ⟨_, z1, g1⟩ <;> rcases get h2 with ⟨q2, _, g2⟩ | ⟨_, z2, g2⟩
    · exact q1.symm.trans q2
    · rw [g1] at h3
      cases h3
      rw [g2] at h4
      exact absurd rfl (ne z2 h4)
    · rw [g2] at h4
      cases h4
      rw [g1] at h3
      exact absurd rfl (ne z1 h3)
    · rw [g1] at h3
      rw [g2] at h4
      exact h.e.inj j k _ _ q z1 z2 h3 h4
  · rcases hq with hq | rfl
    · exact h.e.dom.mono e q hq
    · rw [hl]; exact Option.some_ne_none _
  · rcases hq with hq | rfl
    · exact h.hid q hq
    · exact .inr hp0
  · rcases get h1 with ⟨_, _, g⟩ | ⟨_, z, g⟩
    · rw [g] at h2
      cases h2
      exact hp0
    · rw [g] at h2
      exact h.own j ds' q z h2
/-- a list of one's own is written -/
theorem SOk.write (h : SOk K C H0 S0 H S σ env) {i : Nat} {ds es : List D} (z : env[i]? = some (some (.ow ds))) : ∃ p xs, σ[i]? = some (some (.ref p)) ∧ H p = some (.lst xs) ∧ RepA K C (less H S) ds xs ∧
    ∀ ys, RepA K C (less H S) es ys → SOk K C H0 S0 (upd H p (.lst ys)) S σ (env.set i (some (.ow es))) := by
  obtain ⟨v, e1, p, xs, rfl, r1, r2, r3⟩ := h.e.slot i _ z
  refine ⟨p, xs, e1, r2, r3, fun ys ry => ?_⟩
  have hl := less_upd (H := H) (o := .lst ys) r1
  have hp0 := h.own i ds p z e1
  have get : ∀ {j : Nat} {sv : SV}, (env.set i (some (.ow es)))[j]? = some (some sv) → (i = j ∧ sv = .ow es) ∨ (i ≠ j ∧ env[j]? = some (some sv)) := fun {j sv} z => by
    by_cases q : i = j
    · subst q
      rw [List.getElem?_set, if_pos rfl] at z
      split at z
      · cases z
        exact .inl ⟨rfl, rfl⟩
      · cases z
    · rw [List.getElem?_set_ne q] at z
      exact .inr ⟨q, z⟩
  have owe : ∀ {j : Nat} {es' : List D}, (env.set i (some (.ow es)))[j]? = some (some (.ow es')) → ∃ ds', env[j]? = some (some (.ow ds')) := fun {j es'} z' => by
    rcases get z' with ⟨rfl, _⟩ | ⟨_, z'⟩
    · exact ⟨_, z⟩
    · exact ⟨_, z'⟩
  refine ⟨⟨by rw [List.length_set]; exact h.e.len, fun j sv z' => ?_, fun j k ds' es' q h1 h2 h3 h4 => ?_, fun q hq => ?_⟩, fun b u hb => ?_, h.sub, h.hid, fun j ds' q h1 h2 => ?_, h.dom0⟩
  · rcases get z' with ⟨rfl, rfl⟩ | ⟨q, z'⟩
    · exact ⟨_, e1, p, ys, rfl, r1, upd_same, by rw [hl]; exact ry⟩
    · obtain ⟨v, e2, r⟩ := h.e.slot j sv z'
      refine ⟨v, e2, ?_⟩
      cases sv with
      | sh d => show Rep K C (less _ S) d v; rw [hl]; exact r
      | ow ds' =>
        obtain ⟨p', xs', rfl, r1', r2', r3'⟩ := r
        have np : p' ≠ p := fun w => q (h.e.inj i j _ _ p z z' e1 (by rw [e2, w]))
        exact ⟨p', xs', rfl, r1', by rw [upd_ne np]; exact r2', by rw [hl]; exact r3'⟩
  · obtain ⟨_, w1⟩ := owe h1
    obtain ⟨_, w2⟩ := owe h2
    exact h.e.inj j k _ _ q w1 w2 h3 h4
  · unfold upd
    split
    · exact Option.some_ne_none _
    · exact h.e.dom q hq
  · rw [upd_ne (fun w => by rw [w, hp0] at hb; cases hb)]
    exact h.same b u hb
  · obtain ⟨_, w1⟩ := owe h1
    exact h.own j _ q w1 h2
/-- a list of one's own is given away -/
theorem SOk.share (h : SOk K C H0 S0 H S σ env) {i : Nat} {ds : List D} (z : env[i]? = some (some (.ow ds))) : ∃ S', (∀ p, S' p → S p) ∧ SOk K C H0 S0 H S' σ (env.set i (some (.sh (.lst ds)))) := by
  obtain ⟨v, e1, p, xs, rfl, r1, r2, r3⟩ := h.e.slot i _ z
  have hp0 := h.own i ds p z e1
  have sm : Same (less H S) (less H fun a => S a ∧ a ≠ p) := less_sub fun a q => q.1
  have get : ∀ {j : Nat} {sv : SV}, (env.set i (some (.sh (.lst ds))))[j]? = some (some sv) → (i = j ∧ sv = .sh (.lst ds)) ∨ (i ≠ j ∧ env[j]? = some (some sv)) := fun {j sv} z => by
    by_cases q : i = j
    · subst q
      rw [List.getElem?_set, if_pos rfl] at z
      split at z
      · cases z
        exact .inl ⟨rfl, rfl⟩
      · cases z
    · rw [List.getElem?_set_ne q] at z
      exact .inr ⟨q, z⟩
  refine ⟨fun a => S a ∧ a ≠ p, fun a q => q.1, ⟨by rw [List.length_set]; exact h.e.len, fun j sv z' => ?_, fun j k ds' es' q h1 h2 h3 h4 => ?_, fun q hq => h.e.dom q hq.1⟩, h.same, fun a q => ⟨h.sub a q, fun w => ?_⟩, fun a q => h.hid a q.1, fun j ds' q h1 h2 => ?_, h.dom0⟩
  · rcases get z' with ⟨rfl, rfl⟩ | ⟨q, z'⟩
    · refine ⟨_, e1, ?_⟩
      show Rep K C _ (.lst ds) _
      unfold Rep
      exact ⟨p, xs, rfl, less_iff.mpr ⟨fun w => w.2 rfl, r2⟩, RepA.mono sm _ _ r3⟩
    · obtain ⟨v, e2, r⟩ := h.e.slot j sv z'
      refine ⟨v, e2, ?_⟩
      cases sv with
      | sh d => exact Rep.mono sm _ _ r
      | ow ds' =>
        obtain ⟨p', xs', rfl, r1', r2', r3'⟩ := r
        have np : p' ≠ p := fun w => q (h.e.inj i j _ _ p z z' e1 (by rw [e2, w]))
        exact ⟨p', xs', rfl, ⟨r1', np⟩, r2', RepA.mono sm _ _ r3'⟩
  · rcases get h1 with ⟨_, w⟩ | ⟨_, w1⟩
    · cases w
    · rcases get h2 with ⟨_, w⟩ | ⟨_, w2⟩
      · cases w
      · exact h.e.inj j k _ _ q w1 w2 h3 h4
  · rw [w] at q
    exact h.dom0 p q hp0
  · rcases get h1 with ⟨_, w⟩ | ⟨_, w1⟩
    · cases w
    · exact h.own j _ q w1 h2
end

/-! ### statements -/
section
variable {C : Addr} {X : Cx} {a b c e : Expr} {st : Stmt} {sts sts2 : List Stmt} {ta tb tc te : DT1} {t : DTA} {tt : DTT} {u w : DTS} {pos : Pos}
def dNext : DTS := fun DD env => DD.nx env
def dSeq (t u : DTS) : DTS := fun DD env => t { DD with nx := u DD } env
theorem dss_nil : DSs C X [] dNext := pssW pss_nil fun D0 σ H ⟨H0, S0, S, env, DD, h1, h2, h3⟩ => h3.nx _ _ _ _ h2 h1
theorem seq_ends {K : PySem.W.Frag} {H0 : Hp} {S0 : Addr → Prop} {DD : DEnds} {D0 : Ends} (h : EndsOk K C H0 S0 DD D0) : EndsOk K C H0 S0 { DD with nx := u DD } { D0 with nx := rS K C u D0 } :=
  ⟨fun env S σ H hx hs => ⟨H0, S0, S, env, DD, hs, hx, h⟩, h.rt, h.bk, h.ct, h.rf⟩
theorem dss_cons (h1 : DS C X st w) (h2 : DSs C X sts u) : DSs C X (st :: sts) (dSeq w u) := pssW (pss_cons h1 h2) fun D0 σ H ⟨H0, S0, S, env, DD, h1, h2, h3⟩ => ⟨H0, S0, S, env, _, h1, h2, seq_ends h3⟩
theorem dss_one (h1 : DS C X st w) : DSs C X [st] w := pss_one h1
theorem ds_pass : DS C X (.Pass pos) dNext := psW ps_pass fun D0 σ H ⟨H0, S0, S, env, DD, h1, h2, h3⟩ => h3.nx _ _ _ _ h2 h1
theorem ds_break : DS C X (.Break pos) (fun DD env => DD.bk env) := psW ps_break fun D0 σ H ⟨H0, S0, S, env, DD, h1, h2, h3⟩ => h3.bk _ _ _ _ h2 h1
theorem ds_continue : DS C X (.Continue pos) (fun DD env => DD.ct env) := psW ps_continue fun D0 σ H ⟨H0, S0, S, env, DD, h1, h2, h3⟩ => h3.ct _ _ _ _ h2 h1
def dNever : DTS := fun _ _ => False
theorem ds_never : DS C X st dNever := psW ps_never fun D0 σ H ⟨H0, S0, S, env, DD, h1, h2, h3⟩ => h2.elim
theorem dss_never : DSs C X sts dNever := pssW pss_never fun D0 σ H ⟨H0, S0, S, env, DD, h1, h2, h3⟩ => h2.elim
def dRet (te : DT1) : DTS := fun DD env => te env DD.rt
theorem ds_ret (he : DE C X e te) : DS C X (.Return (some e) pos) (dRet te) := psW (ps_ret he) fun D0 σ H ⟨H0, S0, S, env, DD, h1, h2, h3⟩ =>
  ⟨S, env, _, h1.e, h2, fun d hd v H' e rv => h3.rt d v H' hd (h1.same.trans e) (Rep.mono (less_sub h1.sub) _ _ rv)⟩
/-- return of a list of one's own -/
def dRetF (t : DTA) : DTS := fun DD env => t env DD.rf
theorem ds_retF (he : DF C X e t) : DS C X (.Return (some e) pos) (dRetF t) := psW (ps_ret he) fun D0 σ H ⟨H0, S0, S, env, DD, h1, h2, h3⟩ =>
  ⟨S, env, _, h1.e, h2, fun ds hd p xs H' e hp hl rv => h3.rf ds p xs H' hd (h1.same.trans e) (Same.none h1.same hp) hl (RepA.mono (less_sub fun q hq => hq.imp (h1.sub q) id) _ _ rv)⟩
def dRetO (i : Nat) : DTS := fun DD env => match env[i]? with
  | some (some (.ow ds)) => DD.rf ds
  | _ => False
theorem ds_retO {i : Nat} (he : PE X e (tVar i)) : DS C X (.Return (some e) pos) (dRetO i) := psW (ps_ret he) fun D0 σ H ⟨H0, S0, S, env, DD, h1, h2, h3⟩ => by
  have h2' : ∃ ds, env[i]? = some (some (.ow ds)) ∧ DD.rf ds := by
    unfold dRetO at h2
    split at h2
    · exact ⟨_, by assumption, h2⟩
    · exact h2.elim
  obtain ⟨ds, z, hd⟩ := h2'
  obtain ⟨v, e1, p, xs, rfl, r1, r2, r3⟩ := h1.e.slot i _ z
  refine ⟨_, e1, h3.rf ds p xs H hd h1.same (h1.own i ds p z e1) r2 (RepA.mono (less_sub fun q hq => ?_) _ _ r3)⟩
  rcases hq with hq | rfl
  · exact h1.sub q hq
  · exact r1
def dRetN : DTS := fun DD _ => DD.rt .non
theorem ds_retN : DS C X (.Return none pos) dRetN := psW ps_retN fun D0 σ H ⟨H0, S0, S, env, DD, h1, h2, h3⟩ => h3.rt _ _ _ h2 h1.same rep_non
def dIfS (c : DTT) (t u : DTS) : DTS := fun DD env => c env fun b => if b = true then t DD env else u DD env
theorem ds_if (hc : DB C X c tt) (ha : DSs C X sts u) (hb : DSs C X sts2 w) : DS C X (.If c sts sts2 pos) (dIfS tt u w) := psW (ps_if hc ha hb) fun D0 σ H ⟨H0, S0, S, env, DD, h1, h2, h3⟩ =>
  ⟨S, env, _, h1.e, h2, fun d hd H' e => by
    cases d with
    | true => exact ⟨H0, S0, S, env, DD, h1.mono e, hd, h3⟩
    | false => exact ⟨H0, S0, S, env, DD, h1.mono e, hd, h3⟩⟩
def dSet (i : Nat) (te : DT1) : DTS := fun DD env => te env fun d => DD.nx (env.set i (some (.sh d)))
def dSetO (i : Nat) (t : DTA) : DTS := fun DD env => t env fun ds => DD.nx (env.set i (some (.ow ds)))
theorem asg_of {i : Nat} : ∀ D0 σ H, rS X.K C (dSet i te) D0 σ H → tAsg (rE X.K C te) (gName i) D0 σ H := fun D0 σ H ⟨H0, S0, S, env, DD, h1, h2, h3⟩ =>
  ⟨S, env, _, h1.e, h2, fun d hd v H' e rv => h3.nx _ _ _ _ hd ((h1.mono e).set rv i)⟩
theorem asgO_of {i : Nat} : ∀ D0 σ H, rS X.K C (dSetO i t) D0 σ H → tAsg (rF X.K C t) (gName i) D0 σ H := fun D0 σ H ⟨H0, S0, S, env, DD, h1, h2, h3⟩ =>
  ⟨S, env, _, h1.e, h2, fun d hd p xs H' e hp hl r => h3.nx _ _ _ _ hd (h1.setO e hp hl r i)⟩
theorem asgS_of {i : Nat} : ∀ D0 σ H, rS X.K C (dSet i (dOf t)) D0 σ H → tAsg (rF X.K C t) (gName i) D0 σ H := fun D0 σ H ⟨H0, S0, S, env, DD, h1, h2, h3⟩ =>
  ⟨S, env, _, h1.e, h2, KD.fresh (P := fun d => DD.nx (env.set i (some (.sh d)))) (fun d hd v H' e rv => h3.nx _ _ _ _ hd ((h1.mono e).set rv i)) h1.e.dom⟩
theorem ds_set {i : Nat} {x : Str} {pos' : Pos} (hN : X.N.Nodup) (hi : X.N[i]? = some x) (hx : Loc X.env.scope x) (he : DE C X e te) (hs : swapsWith e (some (.Name x pos')) pos.line X.env = pure false := by rfl) (hf : X.fn x = true ∨ X.env.scope.names.lookup x = some .local := by first | exact .inl rfl | exact .inr rfl | assumption) :
    DS C X (.Assign [.Name x pos'] e pos) (dSet i te) := psW (ps_set hN hi hx he hs hf) asg_of
theorem ds_setO {i : Nat} {x : Str} {pos' : Pos} (hN : X.N.Nodup) (hi : X.N[i]? = some x) (hx : Loc X.env.scope x) (he : DF C X e t) (hs : swapsWith e (some (.Name x pos')) pos.line X.env = pure false := by rfl) (hf : X.fn x = true ∨ X.env.scope.names.lookup x = some .local := by first | exact .inl rfl | exact .inr rfl | assumption) :
    DS C X (.Assign [.Name x pos'] e pos) (dSetO i t) := psW (ps_set hN hi hx he hs hf) asgO_of
/-- x.append(e) of one's own list -/
theorem own_at {i : Nat} {env : En} {P : List D → Prop} (h : match env[i]? with | some (some (.ow ds)) => P ds | _ => False) : ∃ ds, env[i]? = some (some (.ow ds)) ∧ P ds := by
  split at h
  · exact ⟨_, by assumption, h⟩
  · exact h.elim
def dAppend (i : Nat) (te : DT1) : DTS := fun DD env => match env[i]? with
  | some (some (.ow ds)) => te env fun d => ds.length < sizeLine ∧ DD.nx (env.set i (some (.ow (ds ++ [d]))))
  | _ => False
def oneIs (A : D → Prop) : List D → Prop
  | [d] => A d
  | _ => False
theorem oneIs_inv {A : D → Prop} {l : List D} (h : oneIs A l) : ∃ d, l = [d] ∧ A d := by
  unfold oneIs at h
  split at h
  · exact ⟨_, rfl, h⟩
  · exact h.elim
theorem ds_append {i : Nat} (h : PS X st (tDrop (tBM X.K "list" rAppend (tVar i) (rA X.K C (dCons te dNil))))) : DS C X st (dAppend i te) := psW h fun D0 σ H ⟨H0, S0, S, env, DD, h1, h2, h3⟩ => by
  obtain ⟨ds, z, h2⟩ := own_at h2
  obtain ⟨p, xs, e1, r2, r3, _⟩ := h1.write (es := ds) z
  refine ⟨_, e1, .inl ⟨rfl, xs, SqL.of r2⟩, S, env, oneIs fun d => ds.length < sizeLine ∧ DD.nx (env.set i (some (.ow (ds ++ [d])))), h1.e, h2, fun l hl vs H' e rv => ?_⟩
  obtain ⟨d, rfl, hz, hn⟩ := oneIs_inv hl
  obtain ⟨v, rfl, rd⟩ := repA_one rv
  obtain ⟨p', xs', e1', r2', r3', k⟩ := (h1.mono e).write (es := ds ++ [d]) z
  rw [e1] at e1'
  cases e1'
  exact ⟨p, xs', v, rfl, rfl, r2', by rw [← repA_len r3']; exact hz, h3.nx _ _ _ _ hn (k _ (repA_app r3' (repA_cons rd repA_nil)))⟩
/-- x.extend(e) -/
def dExtend (i : Nat) (te : DT1) : DTS := fun DD env => match env[i]? with
  | some (some (.ow ds)) => te env fun d => match d with
    | .lst es => ds.length + es.length ≤ sizeLine ∧ DD.nx (env.set i (some (.ow (ds ++ es))))
    | _ => False
  | _ => False
theorem ds_extend {i : Nat} (h : PS X st (tDrop (tBM X.K "list" rExtend (tVar i) (rA X.K C (dCons te dNil))))) : DS C X st (dExtend i te) := psW h fun D0 σ H ⟨H0, S0, S, env, DD, h1, h2, h3⟩ => by
  obtain ⟨ds, z, h2⟩ := own_at h2
  obtain ⟨p, xs, e1, r2, r3, _⟩ := h1.write (es := ds) z
  refine ⟨_, e1, .inl ⟨rfl, xs, SqL.of r2⟩, S, env, oneIs _, h1.e, h2, fun l hl vs H' e rv => ?_⟩
  obtain ⟨d, rfl, hn⟩ := oneIs_inv hl
  obtain ⟨v, rfl, rd⟩ := repA_one rv
  cases d with
  | lst es =>
    obtain ⟨p', xs', e1', r2', r3', k⟩ := (h1.mono e).write (es := ds ++ es) z
    rw [e1] at e1'
    cases e1'
    unfold Rep at rd
    obtain ⟨b, ys, rfl, rd1, rd2⟩ := rd
    exact ⟨p, b, xs', ys, rfl, rfl, r2', less_same _ _ rd1, by rw [← repA_len r3', ← repA_len rd2]; exact hn.1, h3.nx _ _ _ _ hn.2 (k _ (repA_app r3' rd2))⟩
  | _ => exact hn.elim
/-- x.clear() -/
def dClear (i : Nat) : DTS := fun DD env => match env[i]? with
  | some (some (.ow ds)) => DD.nx (env.set i (some (.ow [])))
  | _ => False
theorem ds_clear {i : Nat} (h : PS X st (tDrop (tBM0 X.K "list" rClear (tVar i)))) : DS C X st (dClear i) := psW h fun D0 σ H ⟨H0, S0, S, env, DD, h1, h2, h3⟩ => by
  obtain ⟨ds, z, h2⟩ := own_at h2
  obtain ⟨p, xs, e1, r2, r3, k⟩ := h1.write (es := []) z
  exact ⟨_, e1, .inl ⟨rfl, xs, SqL.of r2⟩, p, xs, rfl, rfl, r2, h3.nx _ _ _ _ h2 (k _ repA_nil)⟩
/-- x[k] = e: e, then x, then k -/
def dPut (i : Nat) (te tk : DT1) : DTS := fun DD env => match env[i]? with
  | some (some (.ow ds)) => te env fun d => tk env fun k => match k with
    | .int k => ∃ j, ixN ds.length k = some j ∧ DD.nx (env.set i (some (.ow (ds.set j d))))
    | _ => False
  | _ => False
theorem ds_put {i : Nat} {tk : DT1} (h : PS X st (tAsg (rE X.K C te) (gSub (tVar i) (rE X.K C tk) rSetL))) : DS C X st (dPut i te tk) := psW h fun D0 σ H ⟨H0, S0, S, env, DD, h1, h2, h3⟩ => by
  obtain ⟨ds, z, h2⟩ := own_at h2
  obtain ⟨p, xs, e1, r2, r3, _⟩ := h1.write (es := ds) z
  refine ⟨S, env, _, h1.e, h2, fun d hd v H1 e rv => ⟨_, e1, S, env, _, h1.e.mono e, hd, fun k hk kv H2 e2 rk => ?_⟩⟩
  cases k with
  | int k =>
    obtain ⟨j, hj, hn⟩ := hk
    unfold Rep at rk
    subst rk
    obtain ⟨p', xs', e1', r2', r3', kk⟩ := (h1.mono (e.trans e2)).write (es := ds.set j d) z
    rw [e1] at e1'
    cases e1'
    refine ⟨p, xs', k, j, rfl, rfl, r2', by rw [← repA_len r3']; exact hj, h3.nx _ _ _ _ hn (kk _ ?_)⟩
    exact repA_iff.mpr (paired_set (Rep.mono (same_less e2) _ _ rv) j (repA_iff.mp r3'))
  | _ => exact hk.elim
/-- a list of one's own is given away from here on -/
def dShare (i : Nat) (u : DTS) : DTS := fun DD env => match env[i]? with
  | some (some (.ow ds)) => u DD (env.set i (some (.sh (.lst ds))))
  | _ => False
theorem share_of {i : Nat} {K : PySem.W.Frag} : ∀ D0 σ H, rS K C (dShare i u) D0 σ H → rS K C u D0 σ H := fun D0 σ H ⟨H0, S0, S, env, DD, h1, h2, h3⟩ => by
  obtain ⟨ds, z, h2⟩ := own_at h2
  obtain ⟨S', _, h1'⟩ := h1.share z
  exact ⟨H0, S0, S', _, DD, h1', h2, h3⟩
theorem ds_share (i : Nat) (h : DS C X st u) : DS C X st (dShare i u) := psW h share_of
theorem dss_share (i : Nat) (h : DSs C X sts u) : DSs C X sts (dShare i u) := pssW h share_of
end
end L2.DL

set_option Elab.async false
set_option linter.all false
set_option maxRecDepth 100000
set_option maxHeartbeats 4000000
/-! Rules over data: loops, comprehensions, a def. -/
namespace L2.DL
open PySem PySem.Spec PyProof.Rows
section
variable {C : Addr} {X : Cx} {a b c e : Expr} {st : Stmt} {sts sts2 : List Stmt} {ta tb tc te : DT1} {t : DTA} {tt : DTT} {u w : DTS} {pos : Pos}
/-! ### while -/
def dWhile (c : DTT) (tb : DTS) : DTS := fun DD env => ∃ W : Nat → En → Prop, (∃ m, W m env) ∧ ∀ m env, W m env →
  c env fun b => if b = true then tb { DD with nx := fun env' => ∃ m', m' < m ∧ W m' env', ct := fun env' => ∃ m', m' < m ∧ W m' env', bk := DD.nx } env else DD.nx env
theorem ds_while (hp : PassesOwn (model X.prog X.w) X.A X.env X.xe) (hc : DB C X c tt) (hb : DSs C X sts u) : DS C X (.While c sts [] pos) (dWhile tt u) := psW (ps_while hp hc hb) fun D0 σ H ⟨H0, S0, S, env, DD, h1, ⟨W, ⟨m0, w0⟩, turn⟩, h3⟩ => by
  refine ⟨fun m σ H => ∃ S env, SOk X.K C H0 S0 H S σ env ∧ W m env, ⟨m0, S, env, h1, w0⟩, ?_⟩
  rintro m σ1 H1 ⟨S1, env1, k1, w1⟩
  refine ⟨S1, env1, _, k1.e, turn m env1 w1, fun b hb H2 e => ?_⟩
  cases b with
  | true =>
    refine ⟨fun σ' H' => ∃ m', m' < m ∧ ∃ S env, SOk X.K C H0 S0 H' S σ' env ∧ W m' env, fun _ _ z => z, H0, S0, S1, env1, _, k1.mono e, hb, ⟨fun env' S' σ' H' hx hs => ?_, h3.rt, h3.nx, fun env' S' σ' H' hx hs => ?_, h3.rf⟩⟩
    · obtain ⟨m', l, w'⟩ := hx
      exact ⟨m', l, S', env', hs, w'⟩
    · obtain ⟨m', l, w'⟩ := hx
      exact ⟨m', l, S', env', hs, w'⟩
  | false => exact h3.nx _ _ _ _ hb (k1.mono e)

/-! ### what is walked -/
structure ItOk (K : PySem.W.Frag) (C : Addr) (J : It) (items : List D) (G : Hp) : Prop where
  go : ∀ i H S, Same G (less H S) → i < items.length → J.go i H
  yld : ∀ i H S x H', Dom H S → Same G (less H S) → i < items.length → J.yld i H x H' → ∃ d, items[i]? = some d ∧ Same H H' ∧ Rep K C (less H' S) d x
  stop : ∀ i H S, Same G (less H S) → items.length ≤ i → J.stop i H
def rIt (K : PySem.W.Frag) (C : Addr) (t : DTA) : TI := fun σ H R => ∃ S env P, EOk K C H S σ env ∧ t env P ∧ ∀ items, P items → ∀ J H', Same H H' → ItOk K C J items (less H' S) → R J H'
def DI (C : Addr) (X : Cx) (tg iter : Expr) (t : DTA) : Prop := PI X tg iter (rIt X.K C t)
theorem piW {tg iter : Expr} {wi wi' : TI} (h : PI X tg iter wi) (k : ∀ σ H R, wi' σ H R → wi σ H R) : PI X tg iter wi' := fun pins s σ H R I q => h pins s σ H R I (k σ H R q)
theorem itl_ok {K : PySem.W.Frag} {a : Addr} {xs : List V} {ds : List D} {G : Hp} (h1 : G a = some (.lst xs)) (h2 : RepA K C G ds xs) : ItOk K C (Itl K a) ds G := by
  have hl := repA_len h2
  refine ⟨fun i H S e hi => ?_, fun i H S x H' dm e hi y => ?_, fun i H S e hi => ⟨xs, SqL.of (less_same _ _ (e _ _ h1)), by omega⟩⟩
  · exact ⟨xs, xs[i]'(by omega), SqL.of (less_same _ _ (e _ _ h1)), by rw [List.getElem?_eq_getElem]⟩
  · obtain ⟨rfl, y⟩ := y
    have yx := y xs (SqL.of (less_same _ _ (e _ _ h1)))
    obtain ⟨d, e1, r⟩ := repA_get' h2 yx
    exact ⟨d, e1, Same.refl _, Rep.mono e _ _ r⟩
theorem itt_ok {K : PySem.W.Frag} {a : Addr} {xs : List V} {ds : List D} {G : Hp} (h1 : SqT K G a xs) (h2 : RepA K C G ds xs) : ItOk K C (Itt K a) ds G := by
  have hl := repA_len h2
  refine ⟨fun i H S e hi => ?_, fun i H S x H' dm e hi y => ?_, fun i H S e hi => ⟨xs, less_same.seqT (e.seqT h1), by omega⟩⟩
  · exact ⟨xs, xs[i]'(by omega), less_same.seqT (e.seqT h1), by rw [List.getElem?_eq_getElem]⟩
  · obtain ⟨rfl, y⟩ := y
    have yx := y xs (less_same.seqT (e.seqT h1))
    obtain ⟨d, e1, r⟩ := repA_get' h2 yx
    exact ⟨d, e1, Same.refl _, Rep.mono e _ _ r⟩
def rng (lo : Int) (n : Nat) : List D := (List.range n).map fun (i : Nat) => .int (lo + i)
theorem itr_ok {K : PySem.W.Frag} {lo : Int} {n : Nat} {G : Hp} : ItOk K C (Itr lo n) (rng lo n) G := by
  have hl : (rng lo n).length = n := by unfold rng; rw [List.length_map, List.length_range]
  refine ⟨fun i H S e hi => by rw [hl] at hi; exact hi, fun i H S x H' dm e hi y => ?_, fun i H S e hi => by rw [hl] at hi; exact hi⟩
  obtain ⟨rfl, rfl⟩ := y
  refine ⟨.int (lo + i), ?_, Same.refl _, rep_int⟩
  rw [hl] at hi
  unfold rng
  rw [List.getElem?_map, List.getElem?_range hi]
  rfl
def dItL (te : DT1) : DTA := fun env Q => te env fun d => match d with
  | .lst l => Q l
  | _ => False
def dItT (te : DT1) : DTA := fun env Q => te env fun d => match d with
  | .tup l => Q l
  | _ => False
theorem di_list {tg : Expr} (h : DE C X e te) : DI C X tg e (dItL te) := piW (pi_list h) fun σ H R ⟨S, env, P, h1, h2, h3⟩ => ⟨S, env, _, h1, h2, fun d hd v H' e rv => by
  cases d with
  | lst l =>
    unfold Rep at rv
    obtain ⟨a, xs, rfl, r1, r2⟩ := rv
    exact ⟨a, rfl, ⟨xs, SqL.of (less_same _ _ r1)⟩, h3 l hd _ H' e (itl_ok r1 r2)⟩
  | _ => exact hd.elim⟩
theorem di_tup {tg : Expr} (h : DE C X e te) : DI C X tg e (dItT te) := piW (pi_tup h) fun σ H R ⟨S, env, P, h1, h2, h3⟩ => ⟨S, env, _, h1, h2, fun d hd v H' e rv => by
  cases d with
  | tup l =>
    unfold Rep at rv
    obtain ⟨a, xs, rfl, r1, r2⟩ := rv
    exact ⟨a, rfl, ⟨xs, less_same.seqT r1⟩, h3 l hd _ H' e (itt_ok r1 r2)⟩
  | _ => exact hd.elim⟩
/-- range(n), range(a, b): what is walked is told by its bounds -/
def dRng1 (t : DTA) : DTA := fun env Q => t env fun l => match l with
  | [.int j] => -(2 ^ 62) ≤ j ∧ j < 2 ^ 62 ∧ Q (rng 0 j.toNat)
  | _ => False
def dRng2 (t : DTA) : DTA := fun env Q => t env fun l => match l with
  | [.int i, .int j] => (-(2 ^ 62) ≤ i ∧ i < 2 ^ 62 ∧ -(2 ^ 62) ≤ j ∧ j < 2 ^ 62) ∧ Q (rng i (j - i).toNat)
  | _ => False
theorem di_range1 {tg : Expr} {p : Pos} (hg : Gl X "range") (hm : X.mg "range" = none) (ha : DA C X [a] t) (hs : starEach [a] X.env = [(false, eval a X.env)] := by rfl) : DI C X tg (.Call (.Name "range" p) [a] [] pos) (dRng1 t) := piW (pi_range1 hg hm ha hs) fun σ H R ⟨S, env, P, h1, h2, h3⟩ =>
  ⟨S, env, _, h1, h2, fun ds hd vs H' e rv => by
    split at hd
    · obtain ⟨v, rfl, r⟩ := repA_one rv
      unfold Rep at r
      subst r
      exact ⟨_, rfl, hd.1, hd.2.1, h3 _ hd.2.2 _ H' e itr_ok⟩
    · exact hd.elim⟩
theorem di_range2 {tg : Expr} {p : Pos} (hg : Gl X "range") (hm : X.mg "range" = none) (ha : DA C X [a, b] t) (hs : starEach [a, b] X.env = [(false, eval a X.env), (false, eval b X.env)] := by rfl) (hs2 : starEach [b] X.env = [(false, eval b X.env)] := by rfl) : DI C X tg (.Call (.Name "range" p) [a, b] [] pos) (dRng2 t) := piW (pi_range2 hg hm ha hs hs2) fun σ H R ⟨S, env, P, h1, h2, h3⟩ =>
  ⟨S, env, _, h1, h2, fun ds hd vs H' e rv => by
    split at hd
    · obtain ⟨v, u, rfl, r, r'⟩ := repA_two rv
      unfold Rep at r r'
      subst r r'
      exact ⟨_, _, rfl, hd.1, h3 _ hd.2 _ H' e itr_ok⟩
    · exact hd.elim⟩

/-! ### for -/
abbrev DTG := D → En → (En → Prop) → Prop
def rG (K : PySem.W.Frag) (C : Addr) (g : DTG) : TG := fun v σ H Q => ∃ H0 S0 S env d P, SOk K C H0 S0 H S σ env ∧ Rep K C (less H S) d v ∧ g d env P ∧ ∀ env', P env' → ∀ σ' H' S', SOk K C H0 S0 H' S' σ' env' → Q σ' H'
def DG (C : Addr) (X : Cx) (tg : Expr) (g : DTG) : Prop := PG X tg (rG X.K C g)
theorem pgW {tg : Expr} {g g' : TG} (h : PG X tg g) (k : ∀ v σ H Q, g' v σ H Q → g v σ H Q) : PG X tg g' := fun pins s σ H v u Q I r q => h pins s σ H v u Q I r (k v σ H Q q)
def dName (i : Nat) : DTG := fun d env Q => Q (env.set i (some (.sh d)))
theorem dg_name {i : Nat} {x : Str} (hN : X.N.Nodup) (hi : X.N[i]? = some x) (hx : Loc X.env.scope x) (hf : X.fn x = true ∨ X.env.scope.names.lookup x = some .local := by first | exact .inl rfl | exact .inr rfl | assumption) : DG C X (.Name x pos) (dName i) :=
  pgW (pg_name hN hi hx hf) fun v σ H Q ⟨H0, S0, S, env, d, P, h1, h2, h3, h4⟩ => h4 _ h3 _ _ _ (h1.set h2 i)
/-- (x, y) = a pair -/
def dName2 (i j : Nat) : DTG := fun d env Q => match d with
  | .tup [x, y] => Q ((env.set i (some (.sh x))).set j (some (.sh y)))
  | _ => False
theorem dg_name2 {i j k : Nat} {x y : Str} {p1 p2 : Pos} (hc : X.calm = true) (hN : X.N.Nodup) (hi : X.N[i]? = some x) (hx : Loc X.env.scope x) (hj : X.N[j]? = some y) (hy : Loc X.env.scope y) (hf : X.fn x = true ∨ X.env.scope.names.lookup x = some .local := by first | exact .inl rfl | exact .inr rfl | assumption)
    (hf' : X.fn y = true ∨ X.env.scope.names.lookup y = some .local := by first | exact .inl rfl | exact .inr rfl | assumption) : DG C X (.Tuple [.Name x p1, .Name y p2] k pos) (dName2 i j) :=
  pgW (pg_tup hc (pgs_cons (pg_name hN hi hx hf) (pgs_cons (pg_name hN hj hy hf') pgs_nil))) fun v σ H Q ⟨H0, S0, S, env, d, P, h1, h2, h3, h4⟩ => by
    unfold dName2 at h3
    split at h3
    · unfold Rep at h2
      obtain ⟨a, xs, rfl, r1, r2⟩ := h2
      obtain ⟨v1, v2, rfl, q1, q2⟩ := repA_two r2
      exact ⟨a, _, rfl, less_same.seqT r1, rfl, _, _, rfl, _, _, rfl, rfl, h4 _ h3 _ _ _ ((h1.set q1 i).set q2 j)⟩
    · exact h3.elim
/-- over a list by the part taken -/
def dFor (ti : DTA) (g : DTG) (tb : DTS) : DTS := fun DD env => ti env fun items => ∃ (α : Type) (xs : List α) (enc : α → D) (Pv : List α → En → Prop), items = xs.map enc ∧ Pv [] env ∧
  (∀ pre x post env', xs = pre ++ x :: post → Pv pre env' → g (enc x) env' fun env2 => tb { DD with nx := Pv (pre ++ [x]), ct := Pv (pre ++ [x]), bk := DD.nx } env2) ∧ ∀ env', Pv xs env' → DD.nx env'
/-- the places that are not one's own -/
theorem loop_base {K : PySem.W.Frag} {H0 H : Hp} {S0 S : Addr → Prop} {σ : L2.St} {env : En} (h : SOk K C H0 S0 H S σ env) : ∃ G, SOk K C G S0 H S σ env ∧ less G S0 = less H S ∧ (∀ {H' S' σ' env'}, SOk K C G S0 H' S' σ' env' → SOk K C H0 S0 H' S' σ' env') ∧ (∀ {H'}, Same G H' → Same H0 H') ∧ ∀ {p}, G p = none → H0 p = none := by
  have g0 : Same H0 (less H fun a => S a ∧ ¬ S0 a) := fun b u z => less_iff.mpr ⟨fun q => (h.hid b q.1).elim q.2 fun w => (by rw [z] at w; cases w), h.same _ _ z⟩
  have gn : ∀ {p : Addr}, (less H fun a => S a ∧ ¬ S0 a) p = none → H0 p = none := fun {p} z => Same.none g0 z
  refine ⟨less H fun a => S a ∧ ¬ S0 a, ⟨h.e, less_same, h.sub, fun p q => ?_, fun i ds p z1 z2 => ?_, fun p q => ?_⟩, ?_, fun {H' S' σ' env'} k => ⟨k.e, g0.trans k.same, k.sub, fun p q => (k.hid p q).imp id gn, fun i ds p z1 z2 => gn (k.own i ds p z1 z2), h.dom0⟩, fun k => g0.trans k, gn⟩
  · by_cases w : S0 p
    · exact .inl w
    · refine .inr ?_
      unfold less
      rw [if_pos ⟨q, w⟩]
  · have hp0 := h.own i ds p z1 z2
    obtain ⟨v, e1, p', xs, rfl, r1, _⟩ := h.e.slot i _ z1
    rw [z2] at e1
    cases e1
    unfold less
    rw [if_pos ⟨r1, fun w => h.dom0 p w hp0⟩]
  · unfold less
    rw [if_neg fun w => w.2 q]
    exact h.e.dom p (h.sub p q)
  · funext a
    unfold less
    by_cases w : S0 a
    · rw [if_pos w, if_pos (h.sub a w)]
    · rw [if_neg w]
      by_cases v : S a
      · rw [if_pos ⟨v, w⟩, if_pos v]
      · rw [if_neg fun z => v z.1, if_neg v]
theorem split_at {α : Type} {xs : List α} {i : Nat} (h : i < xs.length) : xs = xs.take i ++ xs[i] :: xs.drop (i + 1) := by
  rw [List.getElem_cons_drop, List.take_append_drop]
theorem ds_for {tg iter : Expr} {g : DTG} (hp : PassesOwn (model X.prog X.w) X.A X.env X.xe) (hc : X.calm = true) (hi : DI C X tg iter t) (hg : DG C X tg g) (hb : DSs C X sts u)
    (hs : ∀ x, foldedSetIterable iter X.env x = pure x := by intro _; rfl) : DS C X (.For tg iter sts [] pos) (dFor t g u) := psW (ps_for hp hc hi hg hb hs) fun D0 σ H ⟨H0, S0, S, env, DD, h1, h2, h3⟩ => by
  refine ⟨S, env, _, h1.e, h2, fun items ⟨α, xs, enc, Pv, hit, p0, turn, fin⟩ J H1 e J1 => ?_⟩
  subst hit
  obtain ⟨G, k1, hG, back, backS, backN⟩ := loop_base (h1.mono e)
  rw [← hG] at J1
  have hlen : (xs.map enc).length = xs.length := List.length_map _
  refine ⟨fun i m σ H => m = xs.length - i ∧ i ≤ xs.length ∧ ∃ S env, SOk X.K C G S0 H S σ env ∧ Pv (xs.take i) env, ⟨xs.length, by simp, Nat.zero_le _, S, env, k1, p0⟩, ?_⟩
  rintro i m σ2 H2 ⟨rfl, hi, S2, env2, k2, p2⟩
  have pr := k2.prot
  by_cases hlt : i < xs.length
  · refine .inr ⟨J1.go i H2 S2 pr (by omega), fun σ' H' => ∃ S env, SOk X.K C G S0 H' S σ' env ∧ Pv (xs.take (i + 1)) env, fun σ' H' z => ⟨xs.length - (i + 1), by omega, rfl, hlt, z⟩, fun x H' y => ?_⟩
    obtain ⟨d, e1, s1, r⟩ := J1.yld i H2 S2 x H' k2.e.dom pr (by omega) y
    rw [List.getElem?_map, List.getElem?_eq_getElem hlt] at e1
    cases e1
    have tk : xs.take (i + 1) = xs.take i ++ [xs[i]] := by rw [List.take_append_getElem]
    refine ⟨G, S0, S2, env2, _, _, k2.mono s1, r, turn _ _ _ env2 (split_at hlt) p2, fun env' z σ' H'' S' k' => ⟨G, S0, S', env', _, k', z, ⟨fun env'' S'' σ'' H3 hx hs => ⟨S'', env'', hs, by rw [tk]; exact hx⟩, fun d v H3 hr hs rv => h3.rt d v H3 hr (backS hs) rv,
      fun env'' S'' σ'' H3 hx hs => h3.nx _ _ _ _ hx (back hs), fun env'' S'' σ'' H3 hx hs => ⟨S'', env'', hs, by rw [tk]; exact hx⟩, fun ds p xs H3 hd hs hp hl rv => h3.rf ds p xs H3 hd (backS hs) (backN hp) hl rv⟩⟩⟩
  · have e' : i = xs.length := by omega
    subst e'
    rw [List.take_length] at p2
    exact .inl ⟨J1.stop _ H2 S2 pr (by omega), h3.nx _ _ _ _ (fin env2 p2) (back k2)⟩

/-! ### comprehensions -/
def capD (caps : List Nat) (env : En) : En := caps.map fun i => (env[i]?).getD none
def dComp (caps : List Nat) (ti : DTA) (tt : DTT) (te : DT1) : DTA := fun env Q => ti env fun items => ∃ (α : Type) (xs : List α) (enc : α → D) (f : α → Option D), items = xs.map enc ∧ xs.length ≤ sizeLine ∧
  (∀ x ∈ xs, tt (some (.sh (enc x)) :: capD caps env) fun b => if b = true then te (some (.sh (enc x)) :: capD caps env) fun y => f x = some y else f x = none) ∧ Q (xs.filterMap f)
theorem cap_at {caps : List Nat} {env : En} {j : Nat} {sv : SV} (h : (capD caps env)[j]? = some (some sv)) : ∃ i, caps[j]? = some i ∧ env[i]? = some (some sv) := by
  unfold capD at h
  rw [List.getElem?_map] at h
  cases q : caps[j]? with
  | none => rw [q] at h; cases h
  | some i =>
    rw [q] at h
    refine ⟨i, rfl, ?_⟩
    have h' : (env[i]?).getD none = some sv := Option.some.inj h
    cases z : env[i]? with
    | none => rw [z] at h'; cases h'
    | some o => rw [z] at h'; exact congrArg some h'
theorem nodup_inj {l : List Nat} (h : l.Nodup) {i j : Nat} (hi : i < l.length) (hj : j < l.length) (e : l[i] = l[j]) : i = j := by
  have p := List.pairwise_iff_getElem.mp h
  rcases Nat.lt_trichotomy i j with q | q | q
  · exact absurd e (p i j hi hj q)
  · exact q
  · exact absurd e.symm (p j i hj hi q)
theorem cap_ok {K : PySem.W.Frag} {H : Hp} {S : Addr → Prop} {σ : L2.St} {env : En} {caps : List Nat} {d : D} {v : V} (h : EOk K C H S σ env) (hn : caps.Nodup) (r : Rep K C (less H S) d v) : EOk K C H S (some v :: capv caps σ) (some (.sh d) :: capD caps env) := by
  have look : ∀ {j : Nat} {sv : SV}, (capD caps env)[j]? = some (some sv) → ∃ i, caps[j]? = some i ∧ env[i]? = some (some sv) ∧ (capv caps σ)[j]? = some ((σ[i]?).getD none) := fun {j sv} z => by
    obtain ⟨i, e1, e2⟩ := cap_at z
    refine ⟨i, e1, e2, ?_⟩
    unfold capv
    rw [List.getElem?_map, e1]
    rfl
  refine ⟨by unfold capv capD; simp, fun j sv z => ?_, fun j k ds es p z1 z2 z3 z4 => ?_, h.dom⟩
  · cases j with
    | zero => simp at z; subst z; exact ⟨v, rfl, r⟩
    | succ j =>
      rw [List.getElem?_cons_succ] at z ⊢
      obtain ⟨i, e1, e2, e3⟩ := look z
      obtain ⟨u, g1, g2⟩ := h.slot i sv e2
      exact ⟨u, by rw [e3, g1]; rfl, g2⟩
  · cases j with
    | zero => simp at z1
    | succ j =>
      cases k with
      | zero => simp at z2
      | succ k =>
        rw [List.getElem?_cons_succ] at z1 z2 z3 z4
        obtain ⟨i, e1, e2, e3⟩ := look z1
        obtain ⟨i', e1', e2', e3'⟩ := look z2
        obtain ⟨u, g1, _⟩ := h.slot i _ e2
        obtain ⟨u', g1', _⟩ := h.slot i' _ e2'
        rw [e3, g1] at z3
        rw [e3', g1'] at z4
        have q3 : u = .ref p := Option.some.inj (Option.some.inj z3)
        have q4 : u' = .ref p := Option.some.inj (Option.some.inj z4)
        have hii := h.inj i i' _ _ p e2 e2' (by rw [g1, q3]) (by rw [g1', q4])
        subst hii
        have hj := List.getElem?_eq_some_iff.mp e1
        have hk := List.getElem?_eq_some_iff.mp e1'
        obtain ⟨hj1, hj2⟩ := hj
        obtain ⟨hk1, hk2⟩ := hk
        rw [nodup_inj hn hj1 hk1 (hj2.trans hk2.symm)]
theorem comp_of {caps : List Nat} (hn : caps.Nodup) : ∀ σ H Q, rF X.K C (dComp caps t tt te) σ H Q → tComp caps (rIt X.K C t) (rT X.K C tt) (rE X.K C te) σ H Q := fun σ H Q ⟨S, env, P, h1, h2, h3⟩ => by
  refine ⟨S, env, _, h1, h2, fun items ⟨α, xs, enc, f, hit, hz, turn, fin⟩ J H1 e J1 => ?_⟩
  subst hit
  have hlen : (xs.map enc).length = xs.length := List.length_map _
  refine ⟨fun i m ys H => m = xs.length - i ∧ i ≤ xs.length ∧ Same H1 H ∧ RepA X.K C (less H S) ((xs.take i).filterMap f) ys, ⟨xs.length, by simp, Nat.zero_le _, Same.refl _, repA_nil⟩, ?_⟩
  rintro i m ys H2 ⟨rfl, hi, s2, r2⟩
  have pr : Same (less H1 S) (less H2 S) := same_less s2
  by_cases hlt : i < xs.length
  · refine .inr ⟨J1.go i H2 S pr (by omega), fun v H' y => ?_⟩
    obtain ⟨d, e1, s1, r⟩ := J1.yld i H2 S v H' (h1.dom.mono (e.trans s2)) pr (by omega) y
    rw [List.getElem?_map, List.getElem?_eq_getElem hlt] at e1
    cases e1
    have eo : EOk X.K C H' S (some v :: capv caps σ) (some (.sh (enc xs[i])) :: capD caps env) := cap_ok (h1.mono (e.trans (s2.trans s1))) hn r
    have hm : xs[i] ∈ xs := List.getElem_mem hlt
    have tk : (xs.take (i + 1)).filterMap f = (xs.take i).filterMap f ++ [xs[i]].filterMap f := by rw [← List.take_append_getElem hlt, List.filterMap_append]
    refine ⟨S, _, _, eo, turn _ hm, fun b hb H3 e3 => ?_⟩
    cases b with
    | true =>
      refine ⟨S, _, _, eo.mono e3, hb, fun y hy yv H4 e4 ry => ⟨?_, xs.length - (i + 1), by omega, rfl, hlt, s2.trans (s1.trans (e3.trans e4)), ?_⟩⟩
      · have q1 := repA_len r2
        have q2 := List.length_filterMap_le f (xs.take i)
        have q3 := List.length_take_le i xs
        omega
      · rw [tk, List.filterMap_cons_some hy]
        exact repA_app (RepA.mono (same_less (s1.trans (e3.trans e4))) _ _ r2) (repA_cons ry repA_nil)
    | false =>
      refine ⟨xs.length - (i + 1), by omega, rfl, hlt, s2.trans (s1.trans e3), ?_⟩
      rw [tk, List.filterMap_cons_none hb, List.filterMap_nil, List.append_nil]
      exact RepA.mono (same_less (s1.trans e3)) _ _ r2
  · have e' : i = xs.length := by omega
    subst e'
    rw [List.take_length] at r2
    exact .inl ⟨J1.stop _ H2 S pr (by omega), fun p hp => (h3.mono (e.trans s2)).new fin r2 hp⟩
def DIfs (C : Addr) (X : Cx) (ifs : List Expr) (t : DTT) : Prop := PIfs X ifs (rT X.K C t)
def dYes : DTT := fun _ Q => Q true
theorem difs_nil : DIfs C X [] dYes := fun pins s σ H Q I ⟨S, env, P, h1, h2, h3⟩ => pifs_nil pins s σ H Q I (h3 _ h2 H (Same.refl _))
theorem difs_one (h : DB C X c tt) : DIfs C X [c] tt := pifs_one h
section
variable {scope : Scope} {x : Str} {N' : List Str} {caps : List Nat} {elt iter : Expr} {px : Pos} {ifs : List Expr}
theorem df_comp (S : CompSc X scope x N' caps) (hc : X.calm = true) (hi : DI C X (.Name x px) iter t) (ht : ∀ C' ex s₀ H₀, DIfs C (cxComp X scope N' C' ex s₀ H₀) ifs tt) (he : ∀ C' ex s₀ H₀, DE C (cxComp X scope N' C' ex s₀ H₀) elt te) (hn : caps.Nodup := by decide)
    (hs : ∀ x, foldedSetIterable iter X.env x = pure x := by intro _; rfl) : DF C X (.ListComp elt [⟨.Name x px, iter, ifs, 0⟩] scope pos) (dComp caps t tt te) := peW (pe_comp (tt := rT X.K C tt) (te := rE X.K C te) S hc hi (fun C' ex s h => ht C' ex s h) (fun C' ex s h => he C' ex s h) hs) (comp_of hn)
theorem ds_compO {i : Nat} {y : Str} {py spos : Pos} (hN : X.N.Nodup) (hi0 : X.N[i]? = some y) (hy : X.env.scope.names.lookup y = some .local) (S : CompSc X scope x N' caps) (hc : X.calm = true) (hi : DI C X (.Name x px) iter t) (ht : ∀ C' ex s₀ H₀, DIfs C (cxComp X scope N' C' ex s₀ H₀) ifs tt) (he : ∀ C' ex s₀ H₀, DE C (cxComp X scope N' C' ex s₀ H₀) elt te) (hn : caps.Nodup := by decide)
    (hsw : swapsWith (.ListComp elt [⟨.Name x px, iter, ifs, 0⟩] scope pos) (some (.Name y py)) spos.line X.env = pure true := by rfl)
    (hs : ∀ x, foldedSetIterable iter X.env x = pure x := by intro _; rfl) : DS C X (.Assign [.Name y py] (.ListComp elt [⟨.Name x px, iter, ifs, 0⟩] scope pos) spos) (dSetO i (dComp caps t tt te)) := psW (ps_comp (tt := rT X.K C tt) (te := rE X.K C te) hN hi0 hy S hc hi (fun C' ex s h => ht C' ex s h) (fun C' ex s h => he C' ex s h) hsw hs) fun D0 σ H h => by
  obtain ⟨H0, S0, S, env, DD, h1, h2, h3⟩ := h
  exact comp_of hn σ H _ ⟨S, env, _, h1.e, h2, fun ds hd p xs H' e hp hl r => h3.nx _ _ _ _ hd (h1.setO e hp hl r i)⟩
theorem ds_comp {i : Nat} {y : Str} {py spos : Pos} (hN : X.N.Nodup) (hi0 : X.N[i]? = some y) (hy : X.env.scope.names.lookup y = some .local) (S : CompSc X scope x N' caps) (hc : X.calm = true) (hi : DI C X (.Name x px) iter t) (ht : ∀ C' ex s₀ H₀, DIfs C (cxComp X scope N' C' ex s₀ H₀) ifs tt) (he : ∀ C' ex s₀ H₀, DE C (cxComp X scope N' C' ex s₀ H₀) elt te) (hn : caps.Nodup := by decide)
    (hsw : swapsWith (.ListComp elt [⟨.Name x px, iter, ifs, 0⟩] scope pos) (some (.Name y py)) spos.line X.env = pure true := by rfl)
    (hs : ∀ x, foldedSetIterable iter X.env x = pure x := by intro _; rfl) : DS C X (.Assign [.Name y py] (.ListComp elt [⟨.Name x px, iter, ifs, 0⟩] scope pos) spos) (dSet i (dOf (dComp caps t tt te))) := psW (ps_comp (tt := rT X.K C tt) (te := rE X.K C te) hN hi0 hy S hc hi (fun C' ex s h => ht C' ex s h) (fun C' ex s h => he C' ex s h) hsw hs) fun D0 σ H h => by
  obtain ⟨H0, S0, S, env, DD, h1, h2, h3⟩ := h
  exact comp_of hn σ H _ ⟨S, env, fun ds => DD.nx (env.set i (some (.sh (.lst ds)))), h1.e, h2, KD.fresh (P := fun d => DD.nx (env.set i (some (.sh d)))) (fun d hd v H' e rv => h3.nx _ _ _ _ hd ((h1.mono e).set rv i)) h1.e.dom⟩
end
end

/-! ### a def -/
def startD (N : List Str) (ds : List D) : En := ds.map (fun d => some (.sh d)) ++ List.replicate (N.length - ds.length) none
theorem start_ok {K : PySem.W.Frag} {C : Addr} {N : List Str} {H : Hp} {S : Addr → Prop} {ds : List D} {vs : List V} (dm : Dom H S) (r : RepA K C (less H S) ds vs) : SOk K C H S H S (start N vs) (startD N ds) := by
  have hl := repA_len r
  have look : ∀ {j : Nat} {sv : SV}, (startD N ds)[j]? = some (some sv) → ∃ d v, sv = .sh d ∧ (start N vs)[j]? = some (some v) ∧ Rep K C (less H S) d v := fun {j sv} z => by
    unfold startD at z
    by_cases hj : j < ds.length
    · rw [List.getElem?_append_left (by simpa using hj), List.getElem?_map, List.getElem?_eq_getElem hj] at z
      obtain ⟨v, e, rv⟩ := repA_get r (List.getElem?_eq_getElem hj)
      refine ⟨ds[j], v, (Option.some.inj (Option.some.inj z)).symm, ?_, rv⟩
      unfold start
      rw [List.getElem?_append_left (by simp; omega), List.getElem?_map, e]
      rfl
    · rw [List.getElem?_append_right (by simpa using hj), List.getElem?_replicate] at z
      split at z <;> cases z
  refine ⟨⟨?_, fun j sv z => ?_, fun j k es es' p z1 => ?_, dm⟩, Same.refl _, fun _ h => h, fun _ h => .inl h, fun j es p z1 => ?_, dm⟩
  · unfold start startD
    simp [hl]
  · obtain ⟨d, v, rfl, e, rv⟩ := look z
    exact ⟨v, e, rv⟩
  · obtain ⟨d, v, q, _⟩ := look z1
    cases q
  · obtain ⟨d, v, q, _⟩ := look z1
    cases q
section
variable {P : Program} {w : World} {K : PySem.W.Frag} {mg : Str → Option Value} {base : Heap} {C : Addr}
/-- THE RULE for a def over data -/
theorem fn_d {x qual : Str} {st : Stmt} {f : Addr} {fd : FuncData} {N ps : List Str} {k : Nat} {T : List D → (D → Prop) → Prop} (F : Fun K x qual st f fd) (Sc : FnScope N ps (defScope st)) (len : ∀ ds Q, T ds Q → ds.length = ps.length)
    (hbody : ∀ (cdv : Value) (A : Around) (outer : List Env) (s : Shared) (H : Hp) (E : XK), Room k (A.deeper (envOfC qual (defScope st) s.heap.objs.size f cdv)) →
      ∃ t, DSs C (cxOf CX0 P w K mg base N qual (defScope st) f cdv A outer s H E).nox (defBody st) t ∧ ∀ ds Q, T ds Q → t { nx := fun _ => Q .non, rt := Q } (startD N ds)) : FnOk P w K mg base CX0 (k + 1) f fd ps (spD K C T) := by
  refine F.ok Sc (fun vs H Q E h => ?_) (fun cdv A outer s H vs Q E hr h => ?_)
  · obtain ⟨S, ds, R, dm, r, hT, _⟩ := h
    rw [← repA_len r]
    exact len ds R hT
  · obtain ⟨S, ds, R, dm, r, hT, kd⟩ := h
    obtain ⟨t, h1, h2⟩ := hbody cdv A outer s H E hr
    exact ⟨_, h1, H, S, S, startD N ds, _, start_ok dm r, h2 ds R hT, ⟨fun env S' σ H' hx hs => kd _ hx _ H' hs.same rep_non, fun d v H' hx e rv => kd d hx v H' e rv, fun _ _ _ _ z => z.elim, fun _ _ _ _ z => z.elim, fun _ _ _ _ z => z.elim⟩⟩
end
end L2.DL

set_option Elab.async false
set_option linter.all false
set_option maxRecDepth 100000
set_option maxHeartbeats 4000000
/-! Rules over data: isinstance, module constants, a def that hands back a new list, forms of use. -/
namespace L2.DL
open PySem PySem.Spec PyProof.Rows
theorem kit_same {K : PySem.W.Frag} {t : String} : PySem.W.kitOne K (.type t) (.type t) = some true := by
  unfold PySem.W.kitOne
  rw [if_pos (by simp)]
theorem kit_diff {K : PySem.W.Frag} {t c : String} {b : Bool} (h : (Value.type t == Value.type c) = false) (hm : PySem.W.kitMeta c = true) (hf : (fastBuiltinMro t).map (·.contains (Value.type c)) = some b) : PySem.W.kitOne K (.type t) (.type c) = some b := by
  unfold PySem.W.kitOne PySem.W.kitCls
  rw [if_neg (by rw [h]; exact Bool.false_ne_true)]
  show (if PySem.W.kitMeta c = true then PySem.W.subIn K (.type t) (.type c) else none) = some b
  rw [if_pos hm]
  exact hf
def isTy : D → String → Option Bool
  | .int _, "int" => some true
  | .int _, "bool" => some false
  | .int _, "tuple" => some false
  | .int _, "list" => some false
  | .bl _, "bool" => some true
  | .bl _, "int" => some true
  | .bl _, "tuple" => some false
  | .tup _, "tuple" => some true
  | .tup _, "list" => some false
  | .tup _, "int" => some false
  | .lst _, "list" => some true
  | .lst _, "tuple" => some false
  | .str _, "str" => some true
  | .non, "tuple" => some false
  | .non, "bool" => some false
  | .non, "int" => some false
  | _, _ => none
def rcInst : List D → (D → Prop) → Prop := fun xs Q => match xs with
  | [d, .ty c] => match isTy d c with
    | some b => Q (.bl b)
    | none => False
  | _ => False
def rInst (K : PySem.W.Frag) : List V → Hp → VK → Prop := fun xs H Q => (∃ x t c b, xs = [x, .ty c] ∧ TyOf K H x t ∧ PySem.W.kitOne K t (.type c) = some b ∧ Q (.bl b) H) ∨
  ∃ a ys c b, xs = [.ref a, .ty c] ∧ SqT K H a ys ∧ PySem.W.kitOne K (.type "tuple") (.type c) = some b ∧ Q (.bl b) H
section
variable {C : Addr} {X : Cx} {a b c e : Expr} {es : List Expr} {st : Stmt} {sts sts2 : List Stmt} {ta tb tc te : DT1} {t : DTA} {tt : DTT} {u w : DTS} {pos : Pos}
theorem call_inst : CallR X (.builtin "isinstance") (rInst X.K) := by
  intro pins s σ H xs us Q I r h
  rcases h with h | ⟨a, ys, c, b, rfl, hq, e, q⟩
  · exact call_isinst pins s σ H xs us Q I r h
  · obtain ⟨u, w', rfl, rx, rc⟩ := vals2 r
    cases rc
    cases rx
    obtain ⟨its, rv, ⟨o, h1, h2, _⟩, _⟩ := I.tuple hq
    exact PySem.W.kia_one PySem.W.kitx_tuple I.kIn ⟨o, h1, h2⟩ e (fun z => nomatch z) fun tk => ⟨.bl b, H, I.tok tk, rfl, q⟩
theorem l_inst : LiftN X.K C (rInst X.K) rcInst := by
  intro H S ds vs P Q dm r h k
  unfold rcInst at h
  split at h
  · next d cn =>
    obtain ⟨v, w, rfl, r1, r2⟩ := repA_two r
    unfold Rep at r2
    subst r2
    split at h
    · next b e =>
      have kf := k.flat h (rep_bl (K := X.K) (C := C) (H := less H S))
      unfold isTy at e
      split at e <;> cases e
      all_goals unfold Rep at r1
      all_goals first
        | (subst r1; exact .inl ⟨_, _, _, _, rfl, .int _, by first | exact kit_same | exact kit_diff (by decide) (by kernel_rfl) (by kernel_rfl), kf⟩)
        | (subst r1; exact .inl ⟨_, _, _, _, rfl, .bl _, by first | exact kit_same | exact kit_diff (by decide) (by kernel_rfl) (by kernel_rfl), kf⟩)
        | (subst r1; exact .inl ⟨_, _, _, _, rfl, .str _, by first | exact kit_same | exact kit_diff (by decide) (by kernel_rfl) (by kernel_rfl), kf⟩)
        | (subst r1; exact .inl ⟨_, _, _, _, rfl, .non, by first | exact kit_same | exact kit_diff (by decide) (by kernel_rfl) (by kernel_rfl), kf⟩)
        | (obtain ⟨a, xs, rfl, g1, g2⟩ := r1; exact .inr ⟨a, xs, _, _, rfl, less_same.seqT g1, by first | exact kit_same | exact kit_diff (by decide) (by kernel_rfl) (by kernel_rfl), kf⟩)
        | (obtain ⟨a, xs, rfl, g1, g2⟩ := r1; exact .inl ⟨_, _, _, _, rfl, .lst (less_same _ _ g1), by first | exact kit_same | exact kit_diff (by decide) (by kernel_rfl) (by kernel_rfl), kf⟩)
    · exact h.elim
  · exact h.elim
/-- a built-in type as a value -/
theorem de_ty {x : Str} {n : String} (hg : Gl X x) (hm : X.mg x = none) (hv : bootBuiltins x = some (.type n)) (hn : x ≠ "__name__" := by decide) (hd : (x == ("__debug__" : Str)) = false := by decide) : DE C X (.Name x pos) (dC (.ty n)) :=
  de_of_c (pe_bltn (v := .ty n) hg hm hv rfl hn hd) fun _ => rep_ty
/-- a module's constant -/
theorem de_gl {x : Str} {v : V} {uv : Value} {d : D} (hg : Gl X x) (hm : X.mg x = some uv) (r : RelV v uv) (h : ∀ H, Rep X.K C H d v) (hd : (x == ("__debug__" : Str)) = false := by decide) : DE C X (.Name x pos) (dC d) := de_of_c (pe_glob hg hm r hd) h
end
/-- an int of the module -/
structure GInt (mg : Str → Option Value) (x : Str) (i : Int) : Prop where
  at_ : ∃ t, mg x = some (.int i t)
/-- a tuple of ints of the module -/
structure GTup (K : PySem.W.Frag) (mg : Str → Option Value) (x : Str) (ns : List Int) : Prop where
  at_ : ∃ a, mg x = some (.ref a) ∧ ∀ H : Hp, SqT K H a (ns.map V.int)
section
variable {C : Addr} {X : Cx} {pos : Pos}
theorem de_gint {x : Str} {i : Int} (g : GInt X.mg x i) (hg : Gl X x) (hd : (x == ("__debug__" : Str)) = false := by decide) : DE C X (.Name x pos) (dC (.int i)) := by
  obtain ⟨t, h⟩ := g.at_
  exact de_gl (v := .int i) hg h ⟨t, rfl⟩ (fun _ => rep_int) hd
theorem de_gtup {x : Str} {ns : List Int} (g : GTup X.K X.mg x ns) (hg : Gl X x) (hd : (x == ("__debug__" : Str)) = false := by decide) : DE C X (.Name x pos) (dC (.tup (ns.map D.int))) := by
  obtain ⟨a, h, s⟩ := g.at_
  refine de_gl (v := .ref a) hg h rfl (fun H => ?_) hd
  unfold Rep
  exact ⟨a, _, rfl, s H, ints_repA⟩
end
section
variable {P : Program} {w : World} {K : PySem.W.Frag} {mg : Str → Option Value} {base : Heap} {C : Addr}
/-- THE RULE for a def that hands back a list of its own -/
theorem fn_f {x qual : Str} {st : Stmt} {f : Addr} {fd : FuncData} {N ps : List Str} {k : Nat} {T : List D → (List D → Prop) → Prop} (F : Fun K x qual st f fd) (Sc : FnScope N ps (defScope st)) (len : ∀ ds Q, T ds Q → ds.length = ps.length)
    (hbody : ∀ (cdv : Value) (A : Around) (outer : List Env) (s : Shared) (H : Hp) (E : XK), Room k (A.deeper (envOfC qual (defScope st) s.heap.objs.size f cdv)) →
      ∃ t, DSs C (cxOf CX0 P w K mg base N qual (defScope st) f cdv A outer s H E).nox (defBody st) t ∧ ∀ ds Q, T ds Q → t { nx := fun _ => False, rt := fun _ => False, rf := Q } (startD N ds)) : FnOk P w K mg base CX0 (k + 1) f fd ps (spF K C T) := by
  refine F.ok Sc (fun vs H Q E h => ?_) (fun cdv A outer s H vs Q E hr h => ?_)
  · obtain ⟨S, ds, R, dm, r, hT, _⟩ := h
    rw [← repA_len r]
    exact len ds R hT
  · obtain ⟨S, ds, R, dm, r, hT, kd⟩ := h
    obtain ⟨t, h1, h2⟩ := hbody cdv A outer s H E hr
    exact ⟨_, h1, H, S, S, startD N ds, _, start_ok dm r, h2 ds R hT, ⟨fun env S' σ H' hx hs => hx.elim, fun d v H' hx e rv => hx.elim, fun _ _ _ _ z => z.elim, fun _ _ _ _ z => z.elim, fun ds p xs H' hx e hp hl rv => kd ds hx p xs H' e hp hl rv⟩⟩
end
end L2.DL

set_option Elab.async false
set_option linter.all false
set_option maxRecDepth 100000
set_option maxHeartbeats 4000000
/-! Fractions as rational numbers; their sizes. -/
namespace L2.DL
open PySem PySem.Spec PyProof.Rows
open Builtin.Int (intBits)
def dQ (q : Rat) : D := .tup [.int q.num, .int q.den]
def Sz (n : Nat) (q : Rat) : Prop := q.num.natAbs < 2 ^ n ∧ q.den < 2 ^ n
theorem Sz.mono {m n : Nat} {q : Rat} (h : Sz m q) (e : m ≤ n) : Sz n q := by
  have := Nat.pow_le_pow_right (n := 2) (by decide) e
  exact ⟨by have := h.1; omega, by have := h.2; omega⟩
theorem Sz.top {n : Nat} {q : Rat} (h : Sz n q) : intBits q.num ≤ n := intBits_le_iff.mpr h.1
theorem Sz.bot {n : Nat} {q : Rat} (h : Sz n q) : intBits (q.den : Int) ≤ n := intBits_le_iff.mpr (by rw [Int.natAbs_natCast]; exact h.2)
theorem mk_le {t : Int} {b : Nat} (hb : b ≠ 0) : (mkRat t b).num.natAbs ≤ t.natAbs ∧ (mkRat t b).den ≤ b := by
  rw [Rat.num_mkRat, Rat.den_mkRat, if_neg hb, if_neg hb]
  exact ⟨Int.natAbs_ediv_le_natAbs _ _, Nat.div_le_self _ _⟩
theorem Sz.mk {n : Nat} {t : Int} {b : Nat} (hb : b ≠ 0) (h1 : t.natAbs < 2 ^ n) (h2 : b < 2 ^ n) : Sz n (mkRat t b) := by
  obtain ⟨a1, a2⟩ := mk_le (t := t) hb
  exact ⟨by omega, by omega⟩
theorem mul_lt {a b m n : Nat} (h1 : a < 2 ^ m) (h2 : b < 2 ^ n) : a * b < 2 ^ (m + n) := by
  rw [Nat.pow_add]
  exact Nat.mul_lt_mul'' h1 h2
theorem den0 (q : Rat) : (q.den : Int) ≠ 0 := by have := q.den_nz; omega
theorem Sz.add {m n : Nat} {p q : Rat} (h1 : Sz m p) (h2 : Sz n q) : Sz (m + n + 1) (p + q) := by
  rw [Rat.add_def']
  refine Sz.mk (Nat.mul_ne_zero p.den_nz q.den_nz) ?_ ?_
  · have a1 := mul_lt h1.1 h2.2
    have a2 := mul_lt h2.1 h1.2
    rw [Nat.add_comm n m] at a2
    have a3 := Int.natAbs_add_le (p.num * q.den) (q.num * p.den)
    rw [Int.natAbs_mul, Int.natAbs_mul, Int.natAbs_natCast, Int.natAbs_natCast] at a3
    rw [Nat.pow_succ]
    omega
  · have := mul_lt h1.2 h2.2
    rw [Nat.pow_succ]
    omega
theorem Sz.neg {n : Nat} {q : Rat} (h : Sz n q) : Sz n (-q) := by
  unfold Sz
  show (-q.num).natAbs < _ ∧ q.den < _
  rw [Int.natAbs_neg]
  exact h
theorem Sz.sub {m n : Nat} {p q : Rat} (h1 : Sz m p) (h2 : Sz n q) : Sz (m + n + 1) (p - q) := by
  rw [Rat.sub_eq_add_neg]
  exact h1.add h2.neg
theorem Sz.mul {m n : Nat} {p q : Rat} (h1 : Sz m p) (h2 : Sz n q) : Sz (m + n) (p * q) := by
  rw [Rat.mul_def']
  refine Sz.mk (Nat.mul_ne_zero p.den_nz q.den_nz) ?_ ?_
  · rw [Int.natAbs_mul]
    exact mul_lt h1.1 h2.1
  · exact mul_lt h1.2 h2.2
theorem inv_num {q : Rat} (h : q ≠ 0) : q⁻¹.num.natAbs = q.den ∧ q⁻¹.den = q.num.natAbs := by
  have hn : q.num ≠ 0 := fun z => h (Rat.num_eq_zero.mp z)
  rw [Rat.num_inv, Rat.den_inv, if_neg hn]
  refine ⟨?_, rfl⟩
  rw [Int.natAbs_mul, Int.natAbs_natCast, Int.natAbs_sign_of_ne_zero hn, Nat.one_mul]
theorem Sz.div {m n : Nat} {p q : Rat} (h1 : Sz m p) (h2 : Sz n q) (h : q ≠ 0) : Sz (m + n) (p / q) := by
  rw [Rat.div_def]
  refine h1.mul ⟨?_, ?_⟩
  · rw [(inv_num h).1]; exact h2.2
  · rw [(inv_num h).2]; exact h2.1
theorem Sz.int {n : Nat} {i : Int} (h : i.natAbs < 2 ^ n) (h0 : 1 ≤ n) : Sz n (i : Rat) := by
  unfold Sz
  rw [Rat.num_intCast, Rat.den_intCast]
  exact ⟨h, Nat.one_lt_two_pow (by omega)⟩
theorem Sz.zero : Sz 1 0 := ⟨by decide +kernel, by decide +kernel⟩
/-- a quotient of whole numbers in lowest terms -/
theorem low_eq {t b : Int} (hb : 0 < b) : t.fdiv (Int.gcd t b : Int) = (Rat.divInt t b).num ∧ b.fdiv (Int.gcd t b : Int) = ((Rat.divInt t b).den : Int) := by
  obtain ⟨n, rfl⟩ : ∃ n : Nat, b = n := ⟨b.toNat, by omega⟩
  have hn : n ≠ 0 := by omega
  have hg : Int.gcd t (n : Int) = n.gcd t.natAbs := by
    show Nat.gcd t.natAbs (n : Int).natAbs = _
    rw [Int.natAbs_natCast, Nat.gcd_comm]
  rw [Rat.divInt_ofNat, Rat.num_mkRat, Rat.den_mkRat, if_neg hn, if_neg hn, hg]
  refine ⟨Int.fdiv_eq_ediv_of_nonneg _ (by omega), ?_⟩
  rw [Int.fdiv_eq_ediv_of_nonneg _ (by omega)]
  exact (Int.natCast_ediv _ _).symm
theorem low_eq' {t b : Int} (hb : b < 0) : t.fdiv (-(Int.gcd t b : Int)) = (Rat.divInt t b).num ∧ b.fdiv (-(Int.gcd t b : Int)) = ((Rat.divInt t b).den : Int) := by
  have h := low_eq (t := -t) (b := -b) (by omega)
  rw [Rat.neg_divInt_neg, Int.gcd_neg, Int.neg_gcd] at h
  have e1 : (-t).fdiv (Int.gcd t b : Int) = t.fdiv (-(Int.gcd t b : Int)) := by
    have := Int.neg_fdiv_neg (-t) (Int.gcd t b : Int)
    rw [Int.neg_neg] at this
    exact this.symm
  have e2 : (-b).fdiv (Int.gcd t b : Int) = b.fdiv (-(Int.gcd t b : Int)) := by
    have := Int.neg_fdiv_neg (-b) (Int.gcd t b : Int)
    rw [Int.neg_neg] at this
    exact this.symm
  rw [e1, e2] at h
  exact h
theorem add_eq (p q : Rat) : Rat.divInt (p.num * q.den + q.num * p.den) (p.den * q.den) = p + q := by
  rw [Rat.add_def', ← Rat.divInt_ofNat, Int.natCast_mul]
theorem sub_eq (p q : Rat) : Rat.divInt (p.num * q.den - q.num * p.den) (p.den * q.den) = p - q := by
  rw [Rat.sub_def', ← Rat.divInt_ofNat, Int.natCast_mul]
theorem mul_eq (p q : Rat) : Rat.divInt (p.num * q.num) (p.den * q.den) = p * q := by
  rw [Rat.mul_def', ← Rat.divInt_ofNat, Int.natCast_mul]
theorem num_den (p : Rat) : (p.num : Rat) / (p.den : Int) = p := by
  rw [← Rat.divInt_eq_div, Rat.divInt_ofNat, Rat.mkRat_self]
theorem cast_ne {i : Int} (h : i ≠ 0) : (i : Rat) ≠ 0 := fun z => h (by have := congrArg Rat.num z; rw [Rat.num_intCast] at this; exact this)
theorem div_eq (p q : Rat) (h : q ≠ 0) : Rat.divInt (p.num * q.den) (p.den * q.num) = p / q := by
  have hn : q.num ≠ 0 := fun z => h (Rat.num_eq_zero.mp z)
  have h1 := cast_ne (den0 p)
  have h2 := cast_ne (den0 q)
  have h3 := cast_ne hn
  rw [Rat.divInt_eq_div, Rat.intCast_mul, Rat.intCast_mul]
  conv => rhs; rw [← num_den p, ← num_den q]
  grind
theorem lt_eq (p q : Rat) : decide (p.num * q.den < q.num * p.den) = decide (p < q) := by rw [decide_eq_decide]; exact (Rat.lt_iff p q).symm
theorem div_int (t b : Int) : Rat.divInt t b = (t : Rat) / b := Rat.divInt_eq_div t b
theorem dQ_int (n : Int) : D.tup [.int n, .int 1] = dQ (n : Rat) := by
  unfold dQ
  rw [Rat.num_intCast, Rat.den_intCast]
  rfl
theorem dQ_nought : D.tup [.int 0, .int 1] = dQ 0 := dQ_int 0
theorem dQ_one : D.tup [.int 1, .int 1] = dQ 1 := dQ_int 1
theorem floor_eq (q : Rat) : q.num.fdiv (q.den : Int) = q.floor := by
  rw [Rat.floor_def, Int.fdiv_eq_ediv_of_nonneg _ (by omega)]
theorem floor_of {x : Rat} {n : Int} (h : (n : Rat) ≤ x) (h2 : x < n + 1) : x.floor = n := by
  have a1 := Rat.le_floor_iff.mpr h
  have a2 := Rat.floor_le x
  have a3 : (x.floor : Rat) < n + 1 := by grind
  have a4 : x.floor < n + 1 := by
    have : ((n + 1 : Int) : Rat) = (n : Rat) + 1 := by rw [Rat.intCast_add]; rfl
    rw [← this] at a3
    exact Rat.intCast_lt_intCast.mp a3
  omega
def sumQ : List Rat → Rat
  | [] => 0
  | q :: l => q + sumQ l
theorem sumQ_app (l m : List Rat) : sumQ (l ++ m) = sumQ l + sumQ m := by
  induction l with
  | nil => simp [sumQ, Rat.zero_add]
  | cons q l ih => simp only [List.cons_append, sumQ, ih, Rat.add_assoc]
theorem sumQ_snoc (l : List Rat) (q : Rat) : sumQ (l ++ [q]) = sumQ l + q := by rw [sumQ_app]; simp [sumQ, Rat.add_zero]
/-- numbers that can be added up -/
def SzL (qs : List Rat) : Prop := ∃ m, (∀ q ∈ qs, Sz m q) ∧ 1 + qs.length * (m + 1) ≤ 2900
theorem Sz.sum {m : Nat} : ∀ {qs : List Rat}, (∀ q ∈ qs, Sz m q) → Sz (1 + qs.length * (m + 1)) (sumQ qs)
  | [], _ => by simpa [sumQ] using Sz.zero
  | q :: l, h => by
    have a := (h q List.mem_cons_self).add (Sz.sum fun x hx => h x (List.mem_cons_of_mem _ hx))
    unfold sumQ
    refine a.mono ?_
    rw [List.length_cons, Nat.add_mul]
    omega
theorem SzL.sum {qs : List Rat} (h : SzL qs) : Sz 2900 (sumQ qs) := by
  obtain ⟨m, h1, h2⟩ := h
  exact (Sz.sum h1).mono h2
theorem SzL.pre {pre post : List Rat} (h : SzL (pre ++ post)) : SzL pre := by
  obtain ⟨m, h1, h2⟩ := h
  refine ⟨m, fun q hq => h1 q (List.mem_append_left _ hq), Nat.le_trans (Nat.add_le_add_left (Nat.mul_le_mul_right _ ?_) _) h2⟩
  rw [List.length_append]
  omega
theorem SzL.mem {qs : List Rat} {q : Rat} (h : SzL qs) (hq : q ∈ qs) : Sz 2900 q := by
  obtain ⟨m, h1, h2⟩ := h
  refine (h1 q hq).mono ?_
  have h3 : 1 ≤ qs.length := List.length_pos_of_mem hq
  have := Nat.mul_le_mul_right (m + 1) h3
  omega
theorem SzL.sub {qs rs : List Rat} (h : SzL qs) (hs : ∀ q ∈ rs, q ∈ qs) (hl : rs.length ≤ qs.length) : SzL rs := by
  obtain ⟨m, h1, h2⟩ := h
  exact ⟨m, fun q hq => h1 q (hs q hq), Nat.le_trans (Nat.add_le_add_left (Nat.mul_le_mul_right _ hl) _) h2⟩
theorem mulB {i j : Int} {m n : Nat} (h1 : intBits i ≤ m) (h2 : intBits j ≤ n) (hm : m ≤ 60000000 := by decide) (hn : n ≤ 60000000 := by decide) : CMulB i j := ⟨Nat.le_trans h1 hm, Nat.le_trans h2 hn⟩
theorem bits_mul {i j : Int} {m n : Nat} (h1 : intBits i ≤ m) (h2 : intBits j ≤ n) : intBits (i * j) ≤ m + n := intBits_mul_le h1 h2
theorem bits_le {i : Int} {n : Nat} (h : i.natAbs < 2 ^ n) : intBits i ≤ n := intBits_le_iff.mpr h
theorem gcd_step {x y : Nat} : Nat.gcd y (x % y) = Nat.gcd x y := by
  rw [Nat.gcd_comm y (x % y), ← Nat.gcd_rec, Nat.gcd_comm]
end L2.DL

set_option Elab.async false
set_option linter.all false
set_option maxRecDepth 100000
set_option maxHeartbeats 4000000
/-! A comprehension's names; heads of proofs. -/
namespace L2.DL
open PySem PySem.Spec PyProof.Rows
theorem compSc {X : Cx} {scope : Scope} {x : Str} (sc : Scope) (NN N' : List Str) (caps : List Nat) (hX : X.env.scope = sc) (hN : X.N = NN) (nd : N'.Nodup) (n0 : N'[0]? = some x) (len : N'.length = caps.length + 1) (cap : ∀ p ∈ caps.zip N'.tail, NN[p.1]? = some p.2)
    (capf : ∀ y ∈ N'.tail, scope.names.lookup y = some .free) (nocell : ∀ y ∈ scope.names, y.2 ≠ .cell) (kind : scope.kind = .function) (names : ∀ y ∈ scope.names, y.2 = .local → scope.names.lookup y.1 = some .local) (loc : scope.names.lookup x = some .local)
    (free : ∀ y ∈ scope.names, y.2 = .free → sc.names.lookup y.1 = some .cell ∨ sc.names.lookup y.1 = some .free) : CompSc X scope x N' caps := by
  refine ⟨nd, n0, len, fun j i y h1 h2 => ?_, fun j y h => capf y ?_, nocell, kind, names, loc, fun y hy hf => ?_⟩
  · rw [hN]
    refine cap (i, y) ?_
    have h2' : N'.tail[j]? = some y := by rw [List.getElem?_tail]; exact h2
    exact List.mem_of_getElem? (i := j) (by rw [List.getElem?_zip_eq_some]; exact ⟨h1, h2'⟩)
  · have h' : N'.tail[j]? = some y := by rw [List.getElem?_tail]; exact h
    exact List.mem_of_getElem? h'
  · have := free y hy hf
    rw [← hX] at this
    exact this
/-- the names' data at the entry -/
def startE : List Str → List D → En
  | [], _ => []
  | _ :: N, [] => none :: startE N []
  | _ :: N, d :: ds => some (.sh d) :: startE N ds
theorem startE_nil : ∀ N : List Str, startE N [] = List.replicate N.length none
  | [] => rfl
  | n :: N => by unfold startE; rw [startE_nil N]; rfl
theorem startE_eq : ∀ (N : List Str) (ds : List D), ds.length ≤ N.length → startE N ds = startD N ds
  | N, [], _ => by rw [startE_nil]; unfold startD; simp
  | [], d :: ds, h => by simp at h
  | n :: N, d :: ds, h => by
    unfold startE
    rw [startE_eq N ds (by simpa using h)]
    unfold startD
    simp
section
variable {P : Program} {w : World} {K : PySem.W.Frag} {mg : Str → Option Value} {base : Heap} {C : Addr}
theorem FnScope.le {N ps : List Str} {sc : Scope} (S : FnScope N ps sc) : ps.length ≤ N.length := by
  have := congrArg List.length S.pre
  rw [List.length_take] at this
  omega
theorem fn_e {x qual : Str} {st : Stmt} {f : Addr} {fd : FuncData} {N ps : List Str} {k : Nat} {T : List D → (D → Prop) → Prop} (F : Fun K x qual st f fd) (Sc : FnScope N ps (defScope st)) (len : ∀ ds Q, T ds Q → ds.length = ps.length)
    (hbody : ∀ (cdv : Value) (A : Around) (outer : List Env) (s : Shared) (H : Hp) (E : XK), Room k (A.deeper (envOfC qual (defScope st) s.heap.objs.size f cdv)) →
      ∃ t, DSs C (cxOf CX0 P w K mg base N qual (defScope st) f cdv A outer s H E).nox (defBody st) t ∧ ∀ ds Q, T ds Q → t { nx := fun _ => Q .non, rt := Q } (startE N ds)) : FnOk P w K mg base CX0 (k + 1) f fd ps (spD K C T) :=
  fn_d F Sc len fun cdv A outer s H E hr => by
    obtain ⟨t, h1, h2⟩ := hbody cdv A outer s H E hr
    refine ⟨t, h1, fun ds Q hT => ?_⟩
    rw [← startE_eq N ds (by rw [len ds Q hT]; exact FnScope.le Sc)]
    exact h2 ds Q hT
theorem fn_ef {x qual : Str} {st : Stmt} {f : Addr} {fd : FuncData} {N ps : List Str} {k : Nat} {T : List D → (List D → Prop) → Prop} (F : Fun K x qual st f fd) (Sc : FnScope N ps (defScope st)) (len : ∀ ds Q, T ds Q → ds.length = ps.length)
    (hbody : ∀ (cdv : Value) (A : Around) (outer : List Env) (s : Shared) (H : Hp) (E : XK), Room k (A.deeper (envOfC qual (defScope st) s.heap.objs.size f cdv)) →
      ∃ t, DSs C (cxOf CX0 P w K mg base N qual (defScope st) f cdv A outer s H E).nox (defBody st) t ∧ ∀ ds Q, T ds Q → t { nx := fun _ => False, rt := fun _ => False, rf := Q } (startE N ds)) : FnOk P w K mg base CX0 (k + 1) f fd ps (spF K C T) :=
  fn_f F Sc len fun cdv A outer s H E hr => by
    obtain ⟨t, h1, h2⟩ := hbody cdv A outer s H E hr
    refine ⟨t, h1, fun ds Q hT => ?_⟩
    rw [← startE_eq N ds (by rw [len ds Q hT]; exact FnScope.le Sc)]
    exact h2 ds Q hT
end
end L2.DL

set_option Elab.async false
set_option linter.all false
set_option maxRecDepth 100000
set_option maxHeartbeats 4000000
/-! What the defs promise, over data. -/
namespace L2.DL
open PySem PySem.Spec PyProof.Rows
open Builtin.Int (intBits)
abbrev TD := List D → (D → Prop) → Prop
abbrev TF := List D → (List D → Prop) → Prop
abbrev Plan := List (List Int × Rat)
def dG (g : List Int) : D := .tup (g.map D.int)
def dPh (ph : List Int × Rat) : D := .tup [dG ph.1, dQ ph.2]
def dPlan (pl : Plan) : D := .lst (pl.map dPh)
def cellAt (ns : List Int) (k : Int) : Int := ns.getD k.toNat 0
def lens (pl : Plan) : List Rat := pl.map fun ph => ph.2
def tot (pl : Plan) : Rat := sumQ (lens pl)

def tCd : TD := fun ds Q => ∃ a b : Nat, ds = [.int a, .int b] ∧ Q (.int (Nat.gcd a b : Nat))
def tLowest : TD := fun ds Q => ∃ t b : Int, ds = [.int t, .int b] ∧ b ≠ 0 ∧ intBits b ≤ 8000 ∧ Q (dQ (Rat.divInt t b))
def tLow : TD := fun ds Q => ∃ t b : Int, ds = [.int t, .int b] ∧ 0 < b ∧ intBits b ≤ 8000 ∧ Q (dQ (Rat.divInt t b))
def tPlus : TD := fun ds Q => ∃ p q : Rat, ds = [dQ p, dQ q] ∧ Sz 3000 p ∧ Sz 3000 q ∧ Q (dQ (p + q))
def tMinus : TD := fun ds Q => ∃ p q : Rat, ds = [dQ p, dQ q] ∧ Sz 3000 p ∧ Sz 3000 q ∧ Q (dQ (p - q))
def tTimes : TD := fun ds Q => ∃ p q : Rat, ds = [dQ p, dQ q] ∧ Sz 3000 p ∧ Sz 3000 q ∧ Q (dQ (p * q))
def tOver : TD := fun ds Q => ∃ p q : Rat, ds = [dQ p, dQ q] ∧ Sz 3000 p ∧ Sz 3000 q ∧ q ≠ 0 ∧ Q (dQ (p / q))
def tLess : TD := fun ds Q => ∃ p q : Rat, ds = [dQ p, dQ q] ∧ Sz 3000 p ∧ Sz 3000 q ∧ Q (.bl (decide (p < q)))
def tTotal : TD := fun ds Q => ∃ qs : List Rat, ds = [.lst (qs.map dQ)] ∧ SzL qs ∧ Q (dQ (sumQ qs))
def tWhole : TD := fun ds Q => ∃ n : Int, ds = [.int n] ∧ Q (dQ (n : Rat))
def tRoundOf : TD := fun ds Q => ∃ pl : Plan, ds = [dPlan pl] ∧ pl.length ≤ 1000 ∧ SzL (lens pl) ∧ Q (dQ (tot pl))
def onStream (pl : Plan) (s : Int) : Plan := pl.filter fun ph => decide (s ∈ ph.1)
def tGreen : TD := fun ds Q => ∃ (pl : Plan) (s : Int), ds = [dPlan pl, .int s] ∧ pl.length ≤ 1000 ∧ SzL (lens pl) ∧ Q (dQ (tot (onStream pl s)))
def tWithin : TD := fun ds Q => ∃ m l : Rat, ds = [dQ m, dQ l] ∧ 0 < l ∧ Sz 900 m ∧ Sz 900 l ∧ Q (dQ (m - l * ((m / l).floor : Int)))
/-- the group at a moment of the round -/
def goAt : Plan → Rat → List Int
  | [], _ => []
  | ph :: pl, x => if x < ph.2 then ph.1 else goAt pl (x - ph.2)
def AllPos (pl : Plan) : Prop := ∀ ph ∈ pl, 0 < ph.2
/-- lengths small enough that all along the walk is -/
def Small (pl : Plan) : Prop := pl.length ≤ 20 ∧ ∀ ph ∈ pl, Sz 8 ph.2
theorem Small.lens {pl : Plan} (h : Small pl) : SzL (lens pl) := by
  refine ⟨8, fun q hq => ?_, ?_⟩
  · obtain ⟨ph, h1, rfl⟩ := List.mem_map.mp hq
    exact h.2 ph h1
  · unfold DL.lens
    rw [List.length_map]
    have := Nat.mul_le_mul_right (8 + 1) h.1
    omega
def tGoing : TD := fun ds Q => ∃ (pl : Plan) (m : Rat), ds = [dPlan pl, dQ m] ∧ pl ≠ [] ∧ AllPos pl ∧ Small pl ∧ Sz 550 m ∧ Q (dG (goAt pl (m - tot pl * ((m / tot pl).floor : Int))))
def tCell : TD := fun ds Q => ∃ (ns : List Int) (k : Int), ds = [.scr ns, .int k] ∧ 0 ≤ k ∧ Q (.int (cellAt ns k))
def tIsWhole : TD := fun ds Q => ∃ i : Int, ds = [.int i] ∧ Q (.bl true)
def tFrac : TD := fun ds Q => ∃ p : Rat, ds = [dQ p, dQ p] ∧ Q (.bl true)
def bitsOf (n : Int) (k : Nat) : List Int := ((List.range k).filter fun (i : Nat) => n / 2 ^ i % 2 == 1).map Int.ofNat
def tBits : TD := fun ds Q => ∃ (n : Int) (k : Nat), ds = [.int n, .int k] ∧ k ≤ 63 ∧ Q (dG (bitsOf n k))
def planOf (ns : List Int) (st : Int) (k ph : Nat) : Plan := (List.range ph).map fun (j : Nat) =>
  (bitsOf (cellAt ns (st + 2 * j)) k, Rat.divInt (1 + cellAt ns (st + 2 * j + 1) % 20) (1 + cellAt ns (st + 2 * j + 1) / 20 % 12))
def tLawPlan : TF := fun ds Q => ∃ (ns : List Int) (st : Int) (k ph : Nat), ds = [.scr ns, .int st, .int k, .int ph] ∧ 0 ≤ st ∧ k ≤ 63 ∧ ph ≤ 63 ∧ Q ((planOf ns st k ph).map dPh)
def tLawTimes : TD := fun ds Q => ∃ (n : Int) (q : Rat), ds = [.int n, dQ q] ∧ intBits n ≤ 3000 ∧ Sz 3000 q ∧ Q (dQ (n * q))
def tLawGoing : TD := fun ds Q => ∃ (pl : Plan) (x : Rat), ds = [dPlan pl, dQ x] ∧ AllPos pl ∧ Small pl ∧ 0 ≤ x ∧ x < tot pl ∧ Sz 500 x ∧ Q (dG (goAt pl x))
def tLawPart : TD := fun ds Q => ∃ (ns : List Int) (pl : Plan), ds = [.scr ns, dPlan pl, dQ (tot pl)] ∧ pl ≠ [] ∧ AllPos pl ∧ Small pl ∧ ∀ x : Rat, 0 ≤ x → x < tot pl → Sz 250 x → Q (dQ x)
def tLaw : TD := fun ds Q => ∃ ns : List Int, ds = [.scr ns] ∧ ns.length ≤ 63 ∧ Q (.bl true)

def spLaw (K : PySem.W.Frag) : Sp := fun vs H Q _ => ∃ (a : Addr) (ns : List Int), vs = [.ref a] ∧ SqL K H a (ns.map V.int) ∧ ns.length ≤ 63 ∧ ∀ H', Q (.bl true) H'
theorem law_start {K : PySem.W.Frag} {H : Hp} {a : Addr} {ns : List Int} (hl : ns.length ≤ 63) (hS : SqL K H a (ns.map V.int)) : spLaw K [.ref a] H (fun v _ => v = .bl true) fun _ _ _ => False := ⟨a, ns, rfl, hS, hl, fun _ => rfl⟩
theorem law_imp {P : Program} {w : World} {K : PySem.W.Frag} {mg : Str → Option Value} {base : Heap} {k : Nat} {f : Addr} {fd : FuncData} {ps : List Str} {C : Addr} (h : FnOk P w K mg base CX0 k f fd ps (spD K C tLaw)) : FnOk P w K mg base CX0 k f fd ps (spLaw K) :=
  h.imp fun vs H Q E ⟨a, ns, e, hS, hl, q⟩ => by
    subst e
    refine ⟨fun _ => False, [.scr ns], fun d => d = .bl true, fun _ z => z.elim, repA_cons ?_ repA_nil, ⟨ns, rfl, hl, rfl⟩, fun d hd v H' _ r => ?_⟩
    · have e : less H (fun _ => False) = H := by
        funext b
        unfold less
        rw [if_neg (fun z => z)]
      rw [e]
      unfold Rep
      exact ⟨a, rfl, hS⟩
    · subst hd
      unfold Rep at r
      subst r
      exact q H'

/-! ### the reading's small steps -/
theorem ix0 {x y : D} : atI [x, y] 0 = some x := rfl
theorem ix1 {x y : D} : atI [x, y] 1 = some y := rfl
theorem rdIx_Q0 {q : Rat} {Q : D → Prop} : rdIx (dQ q) (.int 0) Q = Q (.int q.num) := rfl
theorem rdIx_Q1 {q : Rat} {Q : D → Prop} : rdIx (dQ q) (.int 1) Q = Q (.int (q.den : Int)) := rfl
theorem rdIx_P0 {ph : List Int × Rat} {Q : D → Prop} : rdIx (dPh ph) (.int 0) Q = Q (dG ph.1) := rfl
theorem rdIx_P1 {ph : List Int × Rat} {Q : D → Prop} : rdIx (dPh ph) (.int 1) Q = Q (dQ ph.2) := rfl
theorem eqD_refl_all {n : Nat} (ih : ∀ d : D, ok n d = true → eqD d d = true) : ∀ l : List D, l.all (ok n) = true → PyData.eqvAll (pys l) (pys l) = true
  | [], _ => rfl
  | d :: l, h => by
    rw [List.all_cons, Bool.and_eq_true] at h
    unfold pys PyData.eqvAll
    rw [eqD_refl_all ih l h.2]
    have := ih d h.1
    unfold eqD at this
    rw [this]
    rfl
theorem eqD_refl : ∀ (n : Nat) (d : D), ok n d = true → eqD d d = true
  | _, .non, _ => by unfold eqD py PyData.eqv; rfl
  | _, .bl _, _ => by unfold eqD py PyData.eqv; simp
  | _, .int _, _ => by unfold eqD py PyData.eqv; simp
  | _, .str _, _ => by unfold eqD py PyData.eqv; simp
  | n + 1, .tup l, h => by
    unfold ok at h
    unfold eqD py PyData.eqv
    exact eqD_refl_all (eqD_refl n) l h
  | n + 1, .lst l, h => by
    unfold ok at h
    unfold eqD py PyData.eqv
    exact eqD_refl_all (eqD_refl n) l h
  | 0, .tup l, h => by unfold ok at h; cases h
  | 0, .lst l, h => by unfold ok at h; cases h
  | 0, .scr l, h => by unfold ok at h; cases h
  | 0, .crs _ _, h => by unfold ok at h; cases h
  | 0, .ty _, h => by unfold ok at h; cases h
  | 0, .cls _, h => by unfold ok at h; cases h
  | n + 1, .scr l, h => by unfold ok at h; cases h
  | n + 1, .crs _ _, h => by unfold ok at h; cases h
  | n + 1, .ty _, h => by unfold ok at h; cases h
  | n + 1, .cls _, h => by unfold ok at h; cases h
theorem ok_ints {n : Nat} (ns : List Int) : (ns.map D.int).all (ok n) = true := by
  induction ns with
  | nil => rfl
  | cons i ns ih => rw [List.map_cons, List.all_cons, ih]; cases n <;> rfl
theorem ok_G {n : Nat} (g : List Int) : ok (n + 1) (dG g) = true := by unfold dG ok; exact ok_ints g
theorem ok_Q {n : Nat} (q : Rat) : ok (n + 1) (dQ q) = true := ok_ints (n := n) [q.num, q.den]
theorem ok_Ph {n : Nat} (ph : List Int × Rat) : ok (n + 2) (dPh ph) = true := by
  unfold dPh ok
  rw [List.all_cons, List.all_cons, ok_G, ok_Q]
  rfl
theorem ok_Plan {n : Nat} (pl : Plan) : ok (n + 3) (dPlan pl) = true := by
  unfold dPlan ok
  induction pl with
  | nil => rfl
  | cons ph pl ih => rw [List.map_cons, List.all_cons, ok_Ph, ih]; rfl
theorem eqD_Q (p q : Rat) : eqD (dQ p) (dQ q) = decide (p = q) := by
  have e : eqD (dQ p) (dQ q) = ((p.num == q.num) && (((p.den : Int) == (q.den : Int)) && true)) := rfl
  rw [e, Bool.eq_iff_iff, Bool.and_true, Bool.and_eq_true, beq_iff_eq, beq_iff_eq, decide_eq_true_eq]
  exact ⟨fun h => Rat.ext h.1 (by omega), fun h => by rw [h]; exact ⟨rfl, rfl⟩⟩
theorem isTy_ii {i : Int} : isTy (.int i) "int" = some true := rfl
theorem isTy_ib {i : Int} : isTy (.int i) "bool" = some false := rfl
theorem isTy_bb {i : Bool} : isTy (.bl i) "bool" = some true := rfl
theorem isTy_Qt {q : Rat} : isTy (dQ q) "tuple" = some true := rfl
theorem isTy_Gt {g : List Int} : isTy (dG g) "tuple" = some true := rfl
theorem isTy_tt {l : List D} : isTy (.tup l) "tuple" = some true := rfl
theorem isTy_ll {l : List D} : isTy (.lst l) "list" = some true := rfl
theorem rcLen_Q {q : Rat} {Q : D → Prop} : rcLen [dQ q] Q = Q (.int 2) := rfl
theorem rcLen_G {g : List Int} {Q : D → Prop} : rcLen [dG g] Q = Q (.int g.length) := by unfold rcLen dG; simp only [List.length_map]
theorem rdIn_G {g : List Int} {i : Int} {Q : D → Prop} : rdIn id (.int i) (dG g) Q ↔ Q (.bl (decide (i ∈ g))) := by
  unfold rdIn dG
  simp only [allI_map, hasI_map, id, true_and]
theorem rdNotIn_G {g : List Int} {i : Int} {Q : D → Prop} : rdIn not (.int i) (dG g) Q ↔ Q (.bl (!decide (i ∈ g))) := by
  unfold rdIn dG
  simp only [allI_map, hasI_map, true_and]
theorem rdIx_scr {ns : List Int} {k : Int} {Q : D → Prop} (h0 : 0 ≤ k) (h : k < ns.length) : rdIx (.scr ns) (.int k) Q = Q (.int (cellAt ns k)) := by
  have e : atI ns k = some (cellAt ns k) := by
    unfold atI ixN cellAt
    rw [if_pos h0, if_pos h]
    show ns[k.toNat]? = _
    rw [List.getD_eq_getElem?_getD, List.getElem?_eq_getElem (by omega)]
    rfl
  unfold rdIx
  simp only [e]
theorem cell_out {ns : List Int} {k : Int} (h : ¬ k < ns.length) : cellAt ns k = 0 := by
  unfold cellAt
  rw [List.getD_eq_getElem?_getD, List.getElem?_eq_none (by omega)]
  rfl
theorem rdIx_mid {α : Type} {enc : α → D} {pre post : List α} {x : α} {i : Int} {Q : D → Prop} (h : i = pre.length) : rdIx (.lst ((pre ++ x :: post).map enc)) (.int i) Q = Q (enc x) := by
  have e : atI ((pre ++ x :: post).map enc) i = some (enc x) := by
    subst h
    refine atI_nat ?_
    rw [List.getElem?_map, List.getElem?_append_right (Nat.le_refl _), Nat.sub_self]
    rfl
  unfold rdIx
  simp only [e]
theorem fm_some {α : Type} {g : α → D} (xs : List α) : xs.filterMap (fun x => some (g x)) = xs.map g := by
  induction xs with
  | nil => rfl
  | cons x xs ih => rw [List.filterMap_cons_some (f := fun x => some (g x)) (b := g x) rfl, ih]; rfl
theorem fm_if {α : Type} {g : α → D} {p : α → Bool} (xs : List α) : xs.filterMap (fun x => if p x = true then some (g x) else none) = (xs.filter p).map g := by
  induction xs with
  | nil => rfl
  | cons x xs ih =>
    by_cases h : p x = true
    · rw [List.filterMap_cons_some (by rw [if_pos h]), List.filter_cons_of_pos h, ih]; rfl
    · rw [List.filterMap_cons_none (by rw [if_neg h]), List.filter_cons_of_neg h, ih]
theorem range_split {k : Nat} {pre post : List Nat} {x : Nat} (h : List.range k = pre ++ x :: post) : x = pre.length ∧ x < k ∧ pre = List.range x := by
  have hl := congrArg List.length h
  rw [List.length_range, List.length_append, List.length_cons] at hl
  have hx : (List.range k)[pre.length]? = some x := by rw [h, List.getElem?_append_right (Nat.le_refl _), Nat.sub_self]; rfl
  rw [List.getElem?_range (by omega)] at hx
  cases hx
  refine ⟨rfl, by omega, ?_⟩
  have := congrArg (List.take pre.length) h
  rw [List.take_left, List.take_range, Nat.min_eq_left (by omega)] at this
  exact this.symm
theorem bits_succ (n : Int) (i : Nat) : bitsOf n (i + 1) = bitsOf n i ++ if n / 2 ^ i % 2 = 1 then [(i : Int)] else [] := by
  unfold bitsOf
  rw [List.range_succ, List.filter_append, List.map_append]
  congr 1
  by_cases h : n / 2 ^ i % 2 = 1
  · rw [if_pos h, List.filter_cons_of_pos (by simpa using h)]; rfl
  · rw [if_neg h, List.filter_cons_of_neg (by simpa using h)]; rfl
theorem half_succ (n : Int) (i : Nat) : n / 2 ^ i / 2 = n / 2 ^ (i + 1) := by
  rw [Int.ediv_ediv_of_nonneg (Int.pow_nonneg (by decide)), Int.pow_succ]
theorem divInt_pos {t b : Int} (h : 0 < b) : Sz 1 (Rat.divInt t b) ∨ True := .inr trivial
theorem Sz.divInt {n : Nat} {t b : Int} (hb : 0 < b) (h1 : t.natAbs < 2 ^ n) (h2 : b < 2 ^ n) : Sz n (Rat.divInt t b) := by
  obtain ⟨m, rfl⟩ : ∃ m : Nat, b = m := ⟨b.toNat, by omega⟩
  rw [Rat.divInt_ofNat]
  refine Sz.mk (by omega) h1 ?_
  have : ((2 : Int) ^ n) = ((2 ^ n : Nat) : Int) := by rw [Int.natCast_pow]; rfl
  omega
theorem divInt_gt {t b : Int} (ht : 0 < t) (hb : 0 < b) : (0 : Rat) < Rat.divInt t b := by
  rw [Rat.divInt_eq_div]
  have h1 : (0 : Rat) < (t : Rat) := by exact_mod_cast ht
  have h2 : (0 : Rat) < (b : Rat) := by exact_mod_cast hb
  rw [Rat.div_def]
  exact Rat.mul_pos h1 (Rat.inv_pos.mpr h2)
theorem lens_app (a b : Plan) : lens (a ++ b) = lens a ++ lens b := List.map_append
theorem tot_app (a b : Plan) : tot (a ++ b) = tot a + tot b := by unfold tot; rw [lens_app, sumQ_app]
theorem tot_cons (ph : List Int × Rat) (b : Plan) : tot (ph :: b) = ph.2 + tot b := rfl
theorem tot_nil : tot [] = 0 := rfl
theorem tot_nonneg : ∀ {pl : Plan}, AllPos pl → 0 ≤ tot pl
  | [], _ => by decide +kernel
  | ph :: pl, h => by
    have h1 := h ph List.mem_cons_self
    have h2 := tot_nonneg (pl := pl) fun x hx => h x (List.mem_cons_of_mem _ hx)
    rw [tot_cons]
    grind
theorem tot_pos {pl : Plan} (h : AllPos pl) (hn : pl ≠ []) : 0 < tot pl := by
  cases pl with
  | nil => exact absurd rfl hn
  | cons ph pl =>
    have h1 := h ph List.mem_cons_self
    have h2 := tot_nonneg (pl := pl) fun x hx => h x (List.mem_cons_of_mem _ hx)
    rw [tot_cons]
    grind
theorem plan_succ (ns : List Int) (st : Int) (k j : Nat) : planOf ns st k (j + 1) = planOf ns st k j ++ [(bitsOf (cellAt ns (st + 2 * j)) k, Rat.divInt (1 + cellAt ns (st + 2 * j + 1) % 20) (1 + cellAt ns (st + 2 * j + 1) / 20 % 12))] := by
  unfold planOf
  rw [List.range_succ, List.map_append]
  rfl
theorem plan_len (ns : List Int) (st : Int) (k j : Nat) : (planOf ns st k j).length = j := by unfold planOf; rw [List.length_map, List.length_range]
theorem plan_pos (ns : List Int) (st : Int) (k j : Nat) : AllPos (planOf ns st k j) := fun ph h => by
  obtain ⟨i, _, rfl⟩ := List.mem_map.mp h
  exact divInt_gt (by omega) (by omega)
theorem plan_small {ns : List Int} {st : Int} {k j : Nat} (h : j ≤ 20) : Small (planOf ns st k j) := by
  refine ⟨by rw [plan_len]; exact h, fun ph h => ?_⟩
  obtain ⟨i, _, rfl⟩ := List.mem_map.mp h
  exact Sz.divInt (by omega) (by omega) (by omega)
theorem Small.tot {pl : Plan} (hs : Small pl) : Sz 200 (tot pl) := by
  refine (Sz.sum (m := 8) (qs := DL.lens pl) fun q hq => ?_).mono ?_
  · obtain ⟨ph, h1, rfl⟩ := List.mem_map.mp hq
    exact hs.2 ph h1
  · unfold DL.lens
    rw [List.length_map]
    have := hs.1
    omega
theorem cut_take {α : Type} (xs : List α) (j : Nat) (h : j ≤ xs.length) : cut xs none (some (j : Int)) = xs.take j := by
  unfold cut
  have e1 : HT.sIx xs.length 0 none = 0 := rfl
  have e2 : HT.sIx xs.length xs.length (some (j : Int)) = j := by
    rw [HT.sIx_nat, Nat.min_eq_left h]
  rw [e1, e2]
  rfl
theorem cut_drop {α : Type} (xs : List α) (j : Nat) (h : j ≤ xs.length) : cut xs (some (j : Int)) none = xs.drop j := by
  unfold cut
  have e1 : HT.sIx xs.length 0 (some (j : Int)) = j := by
    rw [HT.sIx_nat, Nat.min_eq_left h]
  have e2 : HT.sIx xs.length xs.length none = xs.length := rfl
  rw [e1, e2]
  refine List.take_of_length_le ?_
  rw [List.length_drop]
  omega
theorem AllPos.of {a b : Plan} (h : AllPos a) (hs : ∀ x ∈ b, x ∈ a) : AllPos b := fun x hx => h x (hs x hx)
end L2.DL

set_option Elab.async false
set_option linter.all false
set_option maxRecDepth 100000
set_option maxHeartbeats 4000000
/-! enumerate(list), zip(list, list) as what is walked with a pair of names. -/
namespace L2
open PySem PySem.Spec PyProof.Rows
section
variable {X : Cx} {pins : List (Addr × Obj)} {σ : St} {H : Hp} {s : Shared} {h' : Heap}
/-- untracked records of ours have turned -/
theorem Inv.turnedL {t' : Nat} {ch : List Addr} (I : Inv X pins σ H s) (k : ∀ b o, b ∉ ch → s.heap.get? b = some o → h'.get? b = some o) (hf : ∀ b ∈ ch, FpOk X pins H b) : Inv X pins σ H { s with heap := h', toks := t' } := by
  have nit : ∀ b u, H b = some u → b ∉ ch := fun b u e z => by rw [(hf b z).1] at e; cases e
  have hL : X.env.locals ∉ ch := fun z => (hf _ z).2.1 rfl
  refine I.step (g' := s.gens) (d' := s.drawn) (ch := ch) (fun b hb => ?_) (fun b o _ _ hc e _ => k b o hc e) (fun b o _ _ hc e _ => ⟨o.slots, k b o hc e⟩) (fun _ _ _ _ n => n)
    (fun b o hc e => ⟨o, k b o hc e⟩) (fun _ _ e => e) (fun _ _ _ e => e) (fun b ps e => ⟨#[], by rw [e]; simp⟩) (fun m hm => ?_) (fun b u e => ?_) I.bare
  · obtain ⟨_, h1, _, h2, h3, h4⟩ := hf b hb
    exact ⟨h2, h1, h3, h4⟩
  · obtain ⟨o, es, ep, ho, r⟩ := hm
    exact ⟨o, es, ep, k _ o hL ho, r⟩
  · refine (I.hok b u e).stay (fun c v hc q => k c v ?_ q) (fun _ q => q) fun _ _ q => q
    rcases hc with z | z
    · rw [z]; exact nit b u e
    · exact nit c _ z
end
/-- (0, x0), (1, x1), .. of the list at a -/
def Ite (K : PySem.W.Frag) (a : Addr) : It :=
  ⟨fun i H => ∃ xs x, SqL K H a xs ∧ xs[i]? = some x, fun i H x H' => ∃ p v, H p = none ∧ x = .ref p ∧ H' = upd H p (.tup [.int i, v]) ∧ ∀ xs, SqL K H a xs → xs[i]? = some v, fun i H => ∃ xs, SqL K H a xs ∧ xs.length ≤ i⟩
/-- a pair handed out: e's own records turn, the pair is new -/
theorem Inv.pair {X : Cx} {pins : List (Addr × Obj)} {σ : St} {H : Hp} {s : Shared} {h2 : Heap} {t' : Nat} {ch : List Addr} {x y : V} {u v : Value} (I : Inv X pins σ H s) (hf : ∀ b ∈ ch, FpOk X pins H b) (ho : ∀ b ∈ ch, ∃ o, s.heap.get? b = some o)
    (rx : RelV x u) (ry : RelV y v) (ht : h2.get? s.heap.objs.size = some { cls := .type "tuple", data := .seq #[u, v] }) (hk : ∀ b o, b ∉ ch → s.heap.get? b = some o → h2.get? b = some o) :
    Inv X pins σ (upd H s.heap.objs.size (.tup [x, y])) { s with heap := h2, toks := t' } := by
  have hn : H s.heap.objs.size = none := I.hok.fresh (Nat.le_refl _)
  have I1 : Inv X pins σ (upd H s.heap.objs.size (.tup [x, y])) { s with heap := s.heap.push { cls := .type "tuple", data := .seq #[u, v] } } := by
    refine I.laid (t' := s.toks) (fun b o e => Heap.get?_push_of_some _ e) (Nat.le_refl _) ⟨by show 2 ≤ sizeLine; decide, [u, v], .cons rx (.cons ry .nil), ?_⟩
    exact ⟨_, Heap.get?_push_size s.heap rfl, rfl, 0, rfl⟩
  have hne : ∀ b ∈ ch, b ≠ s.heap.objs.size := fun b hb z => by
    obtain ⟨o, e⟩ := ho b hb
    have := Heap.lt_size e
    rw [z] at this
    exact Nat.lt_irrefl _ this
  refine Inv.turnedL (s := { s with heap := s.heap.push { cls := .type "tuple", data := .seq #[u, v] } }) (h' := h2) (t' := t') (ch := ch) I1 (fun b o hb e => ?_) (fun b hb => ?_)
  · have e' : (s.heap.push { cls := .type "tuple", data := .seq #[u, v] }).get? b = some o := e
    rcases Heap.get?_push_cases e' with ⟨q, rfl⟩ | g
    · rw [q]
      exact ht
    · exact hk b o hb g
  · obtain ⟨f0, f1⟩ := hf b hb
    exact ⟨by rw [upd_ne (hne b hb)]; exact f0, f1⟩
theorem turn_enum {P : Program} {w : World} {K : PySem.W.Frag} {elts : List Expr} {k : Nat} {pos : Pos} (a e it : Addr) (hne : e ≠ it) : Turn P w K (.Tuple elts k pos) (Ite K a) [e, it] e (fun i h => (∃ old, IsEnum h e it i old) ∧ h.IsListIter it a i) where
  mem := by simp
  obj := fun i h st b hb => by
    obtain ⟨⟨old, st1⟩, o, e1, c, d⟩ := st
    have hb' : b = e ∨ b = it := by simpa using hb
    rcases hb' with rfl | rfl
    · exact ⟨_, st1, fun v z => by cases z⟩
    · exact ⟨o, e1, fun v z => by rw [d] at z; cases z⟩
  keep := fun i h h' st kk => ⟨let ⟨old, q⟩ := st.1; ⟨old, kk e (by simp) _ q⟩, st.2.at fun o q => kk it (by simp) o q⟩
  item := by
    intro X hP hw hK hc i pins s σ H E I hf st hg
    subst hP hw hK
    obtain ⟨xs, x, hq, hx⟩ := hg
    obtain ⟨its, rv, p, hz⟩ := I.list hq
    obtain ⟨u, hu, ru⟩ := rv.get hx
    obtain ⟨⟨old, st1⟩, st2⟩ := st
    refine wpAny_pyNext_enum_item st1 st2 p.isList (x := u) (by simpa using hu) hne fun h1 heo hit1 ht1 hz1 hk1 => ?_
    refine ⟨_, rfl, wpAny_letOwnedTupleGo_enum heo fun h2 he2 hs2 => ?_⟩
    have hel : e < s.heap.objs.size := Heap.lt_size st1
    have ho : ∀ b ∈ [e, it], ∃ o, s.heap.get? b = some o := fun b hb => by
      have hb' : b = e ∨ b = it := by simpa using hb
      rcases hb' with rfl | rfl
      · exact ⟨_, st1⟩
      · obtain ⟨o, q, _⟩ := st2; exact ⟨o, q⟩
    have hfr : ∀ b ∈ [e, it], b ≠ s.heap.objs.size := fun b hb z => by
      obtain ⟨o, q⟩ := ho b hb
      have := Heap.lt_size q
      rw [z] at this
      exact Nat.lt_irrefl _ this
    refine ⟨.ref s.heap.objs.size, _, Inv.pair (s := s) (h2 := h2) (t' := s.toks + 1) (ch := [e, it]) I (x := .int i) (y := x) (u := .int i s.toks) (v := u) hf ho ⟨_, rfl⟩ ru ?_ ?_, rfl, ⟨s.heap.objs.size, x, I.hok.fresh (Nat.le_refl _), rfl, rfl, fun ys hy => by rw [I.list_inj hy hq]; exact hx⟩, ⟨⟨u, ?_⟩, hit1.extBut hs2.extBut (Ne.symm hne)⟩, fun b hb => ?_⟩
    · exact hs2.extBut _ _ (Nat.ne_of_gt hel) ht1
    · intro b o hb q
      have hb1 : b ≠ e := fun z => hb (by simp [z])
      have hb2 : b ≠ it := fun z => hb (by simp [z])
      exact hs2.extBut b o hb1 (hk1 b o hb1 hb2 q)
    · rw [show ((i + 1 : Nat) : Int) = (i : Int) + 1 by omega]
      exact he2
    · rw [upd_ne (hfr b hb)]
      exact (hf b hb).1
  done := by
    intro X hP hw hK hc i pins s σ H E I hf st hg
    subst hP hw hK
    obtain ⟨xs, hq, hx⟩ := hg
    obtain ⟨its, rv, p, hz⟩ := I.list hq
    have hl := rv.length
    obtain ⟨⟨old, st1⟩, st2⟩ := st
    exact wpAny_pyNext_enum_end (I.ok.hd hc) st1 st2 p.isList (by simp; omega) fun h' eb => ⟨rfl, I.turnedL (t' := s.toks) (ch := [e, it]) (fun b o hb q => eb b o (fun z => hb (by simp [z])) q) hf⟩
  self := fun _ _ _ _ _ st h => wpAny_pyIter_enum st.1.choose_spec h
section
variable {X : Cx} {tg a b : Expr} {pos : Pos}
def iEnum (K : PySem.W.Frag) (ta : TA) : TI := fun σ H R => ta σ H fun vs H1 => ∃ a, vs = [.ref a] ∧ (∃ xs, SqL K H1 a xs) ∧ R (Ite K a) H1
theorem pi_enum {elts : List Expr} {k : Nat} {tp p : Pos} {ta : TA} (hg : Gl X "enumerate") (hm : X.mg "enumerate" = none) (ha : PA X [a] ta) (hs : starEach [a] X.env = [(false, eval a X.env)] := by rfl) : PI X (.Tuple elts k tp) (.Call (.Name "enumerate" p) [a] [] pos) (iEnum X.K ta) := by
  intro pins s σ H R I h
  refine Call_ (ld_blt I hg hm boot_enumerate (PyProof.Rows.callWith_type1 (thn (ha pos pins s σ H _ I h) fun us s1 ⟨vs, H1, I1, r1, q1⟩ => ?_) hs rfl))
  obtain ⟨l, e, ⟨xs, hq⟩, q⟩ := q1
  subst e
  obtain ⟨u, rfl, ru⟩ := vals1 r1
  cases ru
  obtain ⟨its, rv, pl, hz⟩ := I1.list hq
  refine call_enumerate_list pl.isList fun h1 hE hI hsz hk => ?_
  refine wpAny_pyIter_enum hE ?_
  have I2 : Inv X pins σ H1 { s1 with heap := h1 } := I1.kept (t' := s1.toks) hk
  refine ⟨s1.heap.objs.size + 1, [s1.heap.objs.size + 1, s1.heap.objs.size], _, _, H1, rfl, I2, turn_enum l _ _ (Nat.succ_ne_self _), ⟨⟨_, hE⟩, hI⟩, fun b hb => ?_, q⟩
  have hb' : b = s1.heap.objs.size + 1 ∨ b = s1.heap.objs.size := by simpa using hb
  have hle : s1.heap.objs.size ≤ b := by rcases hb' with rfl | rfl <;> omega
  exact I1.fpOk hle (I1.hok.fresh hle)
end

/-! ### zip -/
def Itz (K : PySem.W.Frag) (a b : Addr) : It :=
  ⟨fun i H => ∃ xs ys x y, SqL K H a xs ∧ SqL K H b ys ∧ xs[i]? = some x ∧ ys[i]? = some y, fun i H x H' => ∃ p v w, H p = none ∧ x = .ref p ∧ H' = upd H p (.tup [v, w]) ∧ ∀ xs ys, SqL K H a xs → SqL K H b ys → xs[i]? = some v ∧ ys[i]? = some w,
    fun i H => ∃ xs ys, SqL K H a xs ∧ SqL K H b ys ∧ (xs.length ≤ i ∨ ys.length ≤ i)⟩
theorem turn_zip {P : Program} {w : World} {K : PySem.W.Frag} {elts : List Expr} {k : Nat} {pos : Pos} (l1 l2 z TI TO i1 i2 : Addr) (D : ZipApart z TI TO i1 i2 l1 l2) : Turn P w K (.Tuple elts k pos) (Itz K l1 l2) [z, TI, TO, i1, i2] z
    (fun i h => IsZip h z TI TO .none ∧ IsPair h TI (.ref i1) (.ref i2) ∧ (∃ a b, IsPair h TO a b) ∧ h.IsListIter i1 l1 i ∧ h.IsListIter i2 l2 i) where
  mem := by simp
  obj := fun i h st b hb => by
    obtain ⟨s1, s2, ⟨_, _, s3⟩, ⟨o4, e4, c4, d4⟩, ⟨o5, e5, c5, d5⟩⟩ := st
    have hb' : b = z ∨ b = TI ∨ b = TO ∨ b = i1 ∨ b = i2 := by simpa using hb
    rcases hb' with rfl | rfl | rfl | rfl | rfl
    · exact ⟨_, s1, fun v q => by cases q⟩
    · exact ⟨_, s2, fun v q => by cases q⟩
    · exact ⟨_, s3, fun v q => by cases q⟩
    · exact ⟨o4, e4, fun v q => by rw [d4] at q; cases q⟩
    · exact ⟨o5, e5, fun v q => by rw [d5] at q; cases q⟩
  keep := fun i h h' st kk => by
    obtain ⟨s1, s2, ⟨a, b, s3⟩, s4, s5⟩ := st
    exact ⟨kk z (by simp) _ s1, kk TI (by simp) _ s2, ⟨a, b, kk TO (by simp) _ s3⟩, s4.at fun o q => kk i1 (by simp) o q, s5.at fun o q => kk i2 (by simp) o q⟩
  item := by
    intro X hP hw hK hc i pins s σ H E I hf st hg
    subst hP hw hK
    obtain ⟨xs, ys, x, y, hq1, hq2, hx, hy⟩ := hg
    obtain ⟨its, rv, p, _⟩ := I.list hq1
    obtain ⟨jts, rw', p', _⟩ := I.list hq2
    obtain ⟨u, hu, ru⟩ := rv.get hx
    obtain ⟨v, hv, rv2⟩ := rw'.get hy
    obtain ⟨s1, s2, ⟨a, b, s3⟩, s4, s5⟩ := st
    refine wpAny_pyNext_zip_item D s1 s2 s3 s4 s5 p.isList p'.isList (x := u) (y := v) (by simpa using hu) (by simpa using hv) fun h1 a1 a2 a3 a4 a5 a6 hk1 => ?_
    refine ⟨_, rfl, wpAny_letOwnedTupleGo_zip a1 fun h2 hz2 hs2 => ?_⟩
    have hel : z < s.heap.objs.size := Heap.lt_size s1
    have ho : ∀ b ∈ [z, TI, TO, i1, i2], ∃ o, s.heap.get? b = some o := fun b hb => by
      have hb' : b = z ∨ b = TI ∨ b = TO ∨ b = i1 ∨ b = i2 := by simpa using hb
      rcases hb' with rfl | rfl | rfl | rfl | rfl
      · exact ⟨_, s1⟩
      · exact ⟨_, s2⟩
      · exact ⟨_, s3⟩
      · obtain ⟨o, q, _⟩ := s4; exact ⟨o, q⟩
      · obtain ⟨o, q, _⟩ := s5; exact ⟨o, q⟩
    have hfr : ∀ b ∈ [z, TI, TO, i1, i2], b ≠ s.heap.objs.size := fun b hb z => by
      obtain ⟨o, q⟩ := ho b hb
      have := Heap.lt_size q
      rw [z] at this
      exact Nat.lt_irrefl _ this
    refine ⟨.ref s.heap.objs.size, _, Inv.pair (s := s) (h2 := h2) (t' := s.toks) (ch := [z, TI, TO, i1, i2]) I (x := x) (y := y) (u := u) (v := v) hf ho ru rv2 ?_ ?_, rfl, ⟨s.heap.objs.size, x, y, I.hok.fresh (Nat.le_refl _), rfl, rfl, fun xs' ys' h1 h2 => ?_⟩,
      ⟨hz2, hs2.extBut _ _ D.TIz (hk1 _ _ D.TIz D.TITO D.TIi1 D.TIi2 s2), ⟨u, v, hs2.extBut _ _ D.TOz a2⟩, a3.extBut hs2.extBut D.i1z, a4.extBut hs2.extBut D.i2z⟩, fun b hb => ?_⟩
    · exact hs2.extBut _ _ (Nat.ne_of_gt hel) a5
    · intro b o hb q
      exact hs2.extBut b o (fun z => hb (by simp [z])) (hk1 b o (fun z => hb (by simp [z])) (fun z => hb (by simp [z])) (fun z => hb (by simp [z])) (fun z => hb (by simp [z])) q)
    · rw [I.list_inj h1 hq1, I.list_inj h2 hq2]
      exact ⟨hx, hy⟩
    · rw [upd_ne (hfr b hb)]
      exact (hf b hb).1
  done := by
    intro X hP hw hK hc i pins s σ H E I hf st hg
    subst hP hw hK
    obtain ⟨xs, ys, hq1, hq2, hx⟩ := hg
    obtain ⟨its, rv, p, _⟩ := I.list hq1
    obtain ⟨jts, rw', p', _⟩ := I.list hq2
    have hl := rv.length
    have hl' := rw'.length
    obtain ⟨s1, s2, ⟨a, b, s3⟩, s4, s5⟩ := st
    exact wpAny_pyNext_zip_end (I.ok.hd hc) D s1 s2 s3 s4 s5 p.isList p'.isList (hx.imp (fun q => by simp; omega) (fun q => by simp; omega)) fun h' eb =>
      ⟨rfl, I.turnedL (t' := s.toks) (ch := [z, TI, TO, i1, i2]) (fun b o hb q => eb b o (fun z => hb (by simp [z])) (fun z => hb (by simp [z])) (fun z => hb (by simp [z])) (fun z => hb (by simp [z])) q) hf⟩
  self := fun _ _ _ _ _ st h => wpAny_pyIter_zip st.1 h
section
variable {X : Cx} {tg a b : Expr} {pos : Pos}
def iZip (K : PySem.W.Frag) (ta : TA) : TI := fun σ H R => ta σ H fun vs H1 => ∃ a b, vs = [.ref a, .ref b] ∧ (∃ xs, SqL K H1 a xs) ∧ (∃ ys, SqL K H1 b ys) ∧ R (Itz K a b) H1
theorem pi_zip {elts : List Expr} {k : Nat} {tp p : Pos} {ta : TA} (hg : Gl X "zip") (hm : X.mg "zip" = none) (ha : PA X [a, b] ta) (hs : starEach [a, b] X.env = [(false, eval a X.env), (false, eval b X.env)] := by rfl) (hs2 : starEach [b] X.env = [(false, eval b X.env)] := by rfl) :
    PI X (.Tuple elts k tp) (.Call (.Name "zip" p) [a, b] [] pos) (iZip X.K ta) := by
  intro pins s σ H R I h
  refine Call_ (ld_blt I hg hm boot_zip (PyProof.Rows.callWith_type1 (thn (ha pos pins s σ H _ I h) fun us s1 ⟨vs, H1, I1, r1, q1⟩ => ?_) (by rw [hs, hs2]) (by rw [hs2]; rfl)))
  obtain ⟨l1, l2, e, ⟨xs, hq1⟩, ⟨ys, hq2⟩, q⟩ := q1
  subst e
  obtain ⟨u, v, rfl, ru, rv'⟩ := vals2 r1
  cases ru
  cases rv'
  obtain ⟨its, rv, pl, hz⟩ := I1.list hq1
  obtain ⟨jts, rw', pl', hz'⟩ := I1.list hq2
  have hlt1 : l1 < s1.heap.objs.size := by obtain ⟨o, e, _⟩ := pl.isList; exact Heap.lt_size e
  have hlt2 : l2 < s1.heap.objs.size := by obtain ⟨o, e, _⟩ := pl'.isList; exact Heap.lt_size e
  have D : ZipApart (s1.heap.objs.size + 4) (s1.heap.objs.size + 2) (s1.heap.objs.size + 3) s1.heap.objs.size (s1.heap.objs.size + 1) l1 l2 := PySem.W.ktu_apart _ _ _ hlt1 hlt2
  refine call_zip_2 pl.isList pl'.isList fun h1 a1 a2 a3 a4 a5 hsz hk => ?_
  refine wpAny_pyIter_zip a1 ?_
  have I2 : Inv X pins σ H1 { s1 with heap := h1 } := I1.kept (t' := s1.toks) hk
  refine ⟨s1.heap.objs.size + 4, [s1.heap.objs.size + 4, s1.heap.objs.size + 2, s1.heap.objs.size + 3, s1.heap.objs.size, s1.heap.objs.size + 1], _, _, H1, rfl, I2, turn_zip l1 l2 _ _ _ _ _ D, ⟨a1, a2, ⟨_, _, a3⟩, a4, a5⟩, fun b hb => ?_, q⟩
  have hb' : b = s1.heap.objs.size + 4 ∨ b = s1.heap.objs.size + 2 ∨ b = s1.heap.objs.size + 3 ∨ b = s1.heap.objs.size ∨ b = s1.heap.objs.size + 1 := by simpa using hb
  have hle : s1.heap.objs.size ≤ b := by rcases hb' with rfl | rfl | rfl | rfl | rfl <;> omega
  exact I1.fpOk hle (I1.hok.fresh hle)
end
end L2
namespace L2.DL
open PySem PySem.Spec PyProof.Rows
section
variable {C : Addr} {X : Cx} {a b c e : Expr} {ta tb tc te : DT1} {t : DTA} {pos : Pos}
def enumD (l : List D) : List D := l.zipIdx.map fun p => .tup [.int (p.2 : Nat), p.1]
theorem ite_ok {K : PySem.W.Frag} {a : Addr} {xs : List V} {ds : List D} {G : Hp} (h1 : G a = some (.lst xs)) (h2 : RepA K C G ds xs) : ItOk K C (Ite K a) (enumD ds) G := by
  have hl := repA_len h2
  have hL : (enumD ds).length = ds.length := by unfold enumD; rw [List.length_map, List.length_zipIdx]
  refine ⟨fun i H S e hi => ?_, fun i H S x H' dm e hi y => ?_, fun i H S e hi => ⟨xs, SqL.of (less_same _ _ (e _ _ h1)), by omega⟩⟩
  · exact ⟨xs, xs[i]'(by omega), SqL.of (less_same _ _ (e _ _ h1)), by rw [List.getElem?_eq_getElem]⟩
  · obtain ⟨p, v, hp, rfl, rfl, y⟩ := y
    have yx := y xs (SqL.of (less_same _ _ (e _ _ h1)))
    obtain ⟨d, e1, r⟩ := repA_get' h2 yx
    refine ⟨.tup [.int i, d], ?_, same_new hp _, ?_⟩
    · unfold enumD
      rw [List.getElem?_map, List.getElem?_zipIdx, e1]
      simp
    · unfold Rep
      exact ⟨p, _, rfl, SqT.of (less_iff.mpr ⟨fun z => dm p z hp, upd_same⟩), repA_cons rep_int (repA_cons (Rep.mono (e.trans (same_less (same_new hp _))) _ _ r) repA_nil)⟩
def dEnum (te : DT1) : DTA := fun env Q => te env fun d => match d with
  | .lst l => Q (enumD l)
  | _ => False
theorem di_enumerate {elts : List Expr} {k : Nat} {tp p : Pos} (hg : Gl X "enumerate") (hm : X.mg "enumerate" = none) (h : DE C X a ta) (hs : starEach [a] X.env = [(false, eval a X.env)] := by rfl) (hs1 : starEach [a] X.env = (false, eval a X.env) :: starEach [] X.env := by rfl) : DI C X (.Tuple elts k tp) (.Call (.Name "enumerate" p) [a] [] pos) (dEnum ta) :=
  piW (pi_enum hg hm (da_cons h da_nil hs1) hs) fun σ H R ⟨S, env, P, h1, h2, h3⟩ => ⟨S, env, oneIs _, h1, h2, fun l hl vs H' e rv => by
    obtain ⟨d, rfl, hd⟩ := oneIs_inv hl
    obtain ⟨v, rfl, r⟩ := repA_one rv
    cases d with
    | lst l =>
      unfold Rep at r
      obtain ⟨q, xs, rfl, r1, r2⟩ := r
      exact ⟨q, rfl, ⟨xs, SqL.of (less_same _ _ r1)⟩, h3 _ hd _ H' e (ite_ok r1 r2)⟩
    | _ => exact hd.elim⟩
def zipD : List D → List D → List D
  | x :: l, y :: m => .tup [x, y] :: zipD l m
  | _, _ => []
theorem zipD_len : ∀ l m : List D, (zipD l m).length = min l.length m.length
  | [], _ => by simp [zipD]
  | _ :: _, [] => by simp [zipD]
  | x :: l, y :: m => by simp only [zipD, List.length_cons, zipD_len l m]; omega
theorem zipD_get : ∀ (l m : List D) (i : Nat) {x y : D}, l[i]? = some x → m[i]? = some y → (zipD l m)[i]? = some (.tup [x, y])
  | [], _, _, _, _, h, _ => by simp at h
  | _ :: _, [], _, _, _, _, h => by simp at h
  | x' :: l, y' :: m, 0, x, y, h, h' => by simp at h h'; subst h h'; rfl
  | x' :: l, y' :: m, i + 1, x, y, h, h' => by
    unfold zipD
    rw [List.getElem?_cons_succ]
    exact zipD_get l m i (by simpa using h) (by simpa using h')
theorem itz_ok {K : PySem.W.Frag} {a b : Addr} {xs ys : List V} {ds es : List D} {G : Hp} (h1 : G a = some (.lst xs)) (h2 : RepA K C G ds xs) (k1 : G b = some (.lst ys)) (k2 : RepA K C G es ys) : ItOk K C (Itz K a b) (zipD ds es) G := by
  have hl := repA_len h2
  have hl' := repA_len k2
  have hL := zipD_len ds es
  refine ⟨fun i H S e hi => ?_, fun i H S x H' dm e hi y => ?_, fun i H S e hi => ⟨xs, ys, SqL.of (less_same _ _ (e _ _ h1)), SqL.of (less_same _ _ (e _ _ k1)), by omega⟩⟩
  · exact ⟨xs, ys, xs[i]'(by omega), ys[i]'(by omega), SqL.of (less_same _ _ (e _ _ h1)), SqL.of (less_same _ _ (e _ _ k1)), by rw [List.getElem?_eq_getElem], by rw [List.getElem?_eq_getElem]⟩
  · obtain ⟨p, v, w, hp, rfl, rfl, y⟩ := y
    obtain ⟨y1, y2⟩ := y xs ys (SqL.of (less_same _ _ (e _ _ h1))) (SqL.of (less_same _ _ (e _ _ k1)))
    obtain ⟨d, e1, r⟩ := repA_get' h2 y1
    obtain ⟨d', e1', r'⟩ := repA_get' k2 y2
    refine ⟨.tup [d, d'], zipD_get ds es i e1 e1', same_new hp _, ?_⟩
    unfold Rep
    exact ⟨p, _, rfl, SqT.of (less_iff.mpr ⟨fun z => dm p z hp, upd_same⟩), repA_cons (Rep.mono (e.trans (same_less (same_new hp _))) _ _ r) (repA_cons (Rep.mono (e.trans (same_less (same_new hp _))) _ _ r') repA_nil)⟩
def dZip (ta tb : DT1) : DTA := fun env Q => ta env fun d => tb env fun d' => match d, d' with
  | .lst l, .lst m => Q (zipD l m)
  | _, _ => False
def twoIs (A : D → D → Prop) : List D → Prop
  | [d, e] => A d e
  | _ => False
theorem twoIs_inv {A : D → D → Prop} {l : List D} (h : twoIs A l) : ∃ d e, l = [d, e] ∧ A d e := by
  unfold twoIs at h
  split at h
  · exact ⟨_, _, rfl, h⟩
  · exact h.elim
theorem di_zip {elts : List Expr} {k : Nat} {tp p : Pos} (hg : Gl X "zip") (hm : X.mg "zip" = none) (h : DE C X a ta) (h' : DE C X b tb) (hs : starEach [a, b] X.env = [(false, eval a X.env), (false, eval b X.env)] := by rfl) (hs2 : starEach [b] X.env = [(false, eval b X.env)] := by rfl)
    (hs3 : starEach [a, b] X.env = (false, eval a X.env) :: starEach [b] X.env := by rfl) (hs4 : starEach [b] X.env = (false, eval b X.env) :: starEach [] X.env := by rfl) : DI C X (.Tuple elts k tp) (.Call (.Name "zip" p) [a, b] [] pos) (dZip ta tb) :=
  piW (pi_zip hg hm (da_cons h (da_cons h' da_nil hs4) hs3) hs hs2) fun σ H R ⟨S, env, P, h1, h2, h3⟩ => ⟨S, env, twoIs _, h1, h2, fun l hl vs H' e rv => by
    obtain ⟨d, d', rfl, hd⟩ := twoIs_inv hl
    obtain ⟨v, w, rfl, r, r'⟩ := repA_two rv
    split at hd
    · unfold Rep at r r'
      obtain ⟨q, xs, rfl, r1, r2⟩ := r
      obtain ⟨q', ys, rfl, r1', r2'⟩ := r'
      exact ⟨q, q', rfl, ⟨xs, SqL.of (less_same _ _ r1)⟩, ⟨ys, SqL.of (less_same _ _ r1')⟩, h3 _ hd _ H' e (itz_ok r1 r2 r1' r2')⟩
    · exact hd.elim⟩
end
end L2.DL

set_option Elab.async false
set_option linter.all false
set_option maxRecDepth 100000
set_option maxHeartbeats 4000000
/-! Waits. -/
namespace L2.DL
open PySem PySem.Spec PyProof.Rows
section
variable {C : Addr} {X : Cx} {a b c e : Expr} {ta tb tc te : DT1} {t : DTA} {pos : Pos}
/-- an item of a list of one's own -/
def dIxO (i : Nat) (tb : DT1) : DT1 := fun env Q => match env[i]? with
  | some (some (.ow ds)) => tb env fun k => match k with
    | .int k => match atI ds k with
      | some d => Q d
      | none => False
    | _ => False
  | _ => False
theorem de_ixO {i : Nat} (ha : PE X a (tVar i)) (hb : DE C X b tb) (hs : PlainIx b) : DE C X (.Subscript a b pos) (dIxO i tb) := peW (pe_ix ix_list ha hb hs) fun σ H Q ⟨S, env, P, h1, h2, h3⟩ => by
  obtain ⟨ds, z, h2⟩ := own_at h2
  obtain ⟨v, e1, p, xs, rfl, r1, r2, r3⟩ := h1.slot i _ z
  refine ⟨_, e1, S, env, _, h1, h2, fun k hk kv H' e rk => ?_⟩
  cases k with
  | int k =>
    unfold Rep at rk
    subst rk
    cases g : atI ds k with
    | none => simp only [g] at hk
    | some d =>
      simp only [g] at hk
      obtain ⟨w, e2, r⟩ := atI_rep (RepA.mono (same_less e) _ _ r3) g
      exact ⟨p, xs, k, w, rfl, rfl, SqL.of (e _ _ r2), e2, (h3.mono e).flat hk r⟩
  | _ => exact hk.elim
end
def mx (a b : Rat) : Rat := if a < b then b else a
def tFromGreen : TD := fun ds Q => ∃ (pl : Plan) (s : Int), ds = [dPlan pl, .int s] ∧ pl.length ≤ 1000 ∧ (∀ a ph b, pl = a ++ ph :: b → (∀ x ∈ a, s ∉ x.1) → s ∈ ph.1 → Q (dPlan (ph :: b ++ a))) ∧ ((∀ x ∈ pl, s ∉ x.1) → Q (dPlan []))
/-- longest and wait of the program -/
def pStep (s : Int) (st : Rat × Rat) (ph : List Int × Rat) : Rat × Rat := if s ∈ ph.1 then (mx st.1 0, 0) else (mx st.1 (st.2 + ph.2), st.2 + ph.2)
def pRun (s : Int) (st : Rat × Rat) (pl : Plan) : Rat × Rat := pl.foldl (pStep s) st
/-- longest and stretch of the law -/
def lStep (s : Int) (st : Rat × Option Rat) (ph : List Int × Rat) : Rat × Option Rat :=
  if s ∈ ph.1 then (match st.2 with | some x => mx st.1 x | none => st.1, some 0) else (st.1, st.2.map (· + ph.2))
def lRun (s : Int) (st : Rat × Option Rat) (pl : Plan) : Rat × Option Rat := pl.foldl (lStep s) st
def dO : Option Rat → D
  | none => .non
  | some q => dQ q
def tLongest : TD := fun ds Q => ∃ (pl : Plan) (s : Int), ds = [dPlan pl, .int s] ∧ AllPos pl ∧ Small pl ∧ (∀ a ph b, pl = a ++ ph :: b → (∀ x ∈ a, s ∉ x.1) → s ∈ ph.1 → Q (dQ (pRun s (0, 0) (ph :: b ++ a)).1)) ∧ ((∀ x ∈ pl, s ∉ x.1) → Q .non)
def tLawWait : TD := fun ds Q => ∃ (pl : Plan) (s : Int), ds = [dPlan pl, .int s] ∧ AllPos pl ∧ Small pl ∧ Q (match (lRun s (0, none) (pl ++ pl ++ pl)).2 with | none => .non | some _ => dQ (lRun s (0, none) (pl ++ pl ++ pl)).1)
theorem pRun_app (s : Int) (st : Rat × Rat) (a b : Plan) : pRun s st (a ++ b) = pRun s (pRun s st a) b := List.foldl_append
theorem lRun_app (s : Int) (st : Rat × Option Rat) (a b : Plan) : lRun s st (a ++ b) = lRun s (lRun s st a) b := List.foldl_append
theorem mx_le {a b : Rat} : a ≤ mx a b ∧ b ≤ mx a b := by unfold mx; split <;> grind
theorem mx_lub {a b c : Rat} (h1 : a ≤ c) (h2 : b ≤ c) : mx a b ≤ c := by unfold mx; split <;> assumption
theorem pRun_nn (s : Int) : ∀ (pl : Plan), AllPos pl → ∀ st : Rat × Rat, 0 ≤ st.2 → 0 ≤ (pRun s st pl).2 ∧ st.1 ≤ (pRun s st pl).1
  | [], _, st, h => ⟨h, by show st.1 ≤ st.1; grind⟩
  | ph :: pl, hp, st, h => by
    have h1 := hp ph List.mem_cons_self
    have ih := pRun_nn s pl (fun x hx => hp x (List.mem_cons_of_mem _ hx)) (pStep s st ph)
    show 0 ≤ (pRun s (pStep s st ph) pl).2 ∧ st.1 ≤ (pRun s (pStep s st ph) pl).1
    unfold pStep at ih ⊢
    by_cases c : s ∈ ph.1
    · rw [if_pos c] at ih ⊢
      obtain ⟨i1, i2⟩ := ih (by show (0 : Rat) ≤ 0; grind)
      exact ⟨i1, by have := (mx_le (a := st.1) (b := 0)).1; grind⟩
    · rw [if_neg c] at ih ⊢
      obtain ⟨i1, i2⟩ := ih (by show 0 ≤ st.2 + ph.2; grind)
      exact ⟨i1, by have := (mx_le (a := st.1) (b := st.2 + ph.2)).1; grind⟩
/-- the same runs, told at their ends and all along -/
theorem run_eq (s : Int) : ∀ (pl : Plan), AllPos pl → ∀ (L x : Rat), 0 ≤ x → ∃ L' x', lRun s (L, some x) pl = (L', some x') ∧ pRun s (mx L x, x) pl = (mx L' x', x') ∧ 0 ≤ x' ∧ L ≤ L'
  | [], _, L, x, h => ⟨L, x, rfl, rfl, h, by grind⟩
  | ph :: pl, hp, L, x, h => by
    have h1 := hp ph List.mem_cons_self
    have ih := run_eq s pl fun y hy => hp y (List.mem_cons_of_mem _ hy)
    show ∃ L' x', lRun s (lStep s (L, some x) ph) pl = _ ∧ pRun s (pStep s (mx L x, x) ph) pl = _ ∧ _
    unfold lStep pStep
    by_cases c : s ∈ ph.1
    · rw [if_pos c, if_pos c]
      obtain ⟨L', x', e1, e2, e3, e4⟩ := ih (mx L x) 0 (by grind)
      refine ⟨L', x', e1, e2, e3, ?_⟩
      have := (mx_le (a := L) (b := x)).1
      grind
    · rw [if_neg c, if_neg c]
      obtain ⟨L', x', e1, e2, e3, e4⟩ := ih L (x + ph.2) (by grind)
      refine ⟨L', x', e1, ?_, e3, e4⟩
      have e : mx (mx L x) (x + ph.2) = mx L (x + ph.2) := by unfold mx; split <;> split <;> (try split) <;> grind
      show pRun s (mx (mx L x) (x + ph.2), x + ph.2) pl = _
      rw [e]
      exact e2
/-- a longer wait known beforehand -/
theorem pRun_from (s : Int) : ∀ (pl : Plan) (M N x : Rat), (pRun s (mx M N, x) pl).1 = mx M (pRun s (N, x) pl).1 ∧ (pRun s (mx M N, x) pl).2 = (pRun s (N, x) pl).2
  | [], M, N, x => ⟨rfl, rfl⟩
  | ph :: pl, M, N, x => by
    have ih := pRun_from s pl M
    show (pRun s (pStep s (mx M N, x) ph) pl).1 = mx M (pRun s (pStep s (N, x) ph) pl).1 ∧ (pRun s (pStep s (mx M N, x) ph) pl).2 = (pRun s (pStep s (N, x) ph) pl).2
    have as : ∀ a b c : Rat, mx (mx a b) c = mx a (mx b c) := fun a b c => by unfold mx; split <;> split <;> (try split) <;> grind
    unfold pStep
    by_cases c : s ∈ ph.1
    · rw [if_pos c, if_pos c]
      show (pRun s (mx (mx M N) 0, 0) pl).1 = _ ∧ (pRun s (mx (mx M N) 0, 0) pl).2 = _
      rw [as]
      exact ih _ _
    · rw [if_neg c, if_neg c]
      show (pRun s (mx (mx M N) (x + ph.2), x + ph.2) pl).1 = _ ∧ (pRun s (mx (mx M N) (x + ph.2), x + ph.2) pl).2 = _
      rw [as]
      exact ih _ _
theorem lRun_off (s : Int) : ∀ (a : Plan), (∀ x ∈ a, s ∉ x.1) → ∀ L, lRun s (L, none) a = (L, none)
  | [], _, L => rfl
  | ph :: a, h, L => by
    show lRun s (lStep s (L, none) ph) a = _
    unfold lStep
    rw [if_neg (h ph List.mem_cons_self)]
    exact lRun_off s a (fun x hx => h x (List.mem_cons_of_mem _ hx)) L
theorem law_never {s : Int} {pl : Plan} (h : ∀ x ∈ pl, s ∉ x.1) : lRun s (0, none) (pl ++ pl ++ pl) = (0, none) := lRun_off s _ (fun x hx => h x (by simpa using hx)) 0
theorem law_wait {s : Int} {a b : Plan} {ph : List Int × Rat} (hp : AllPos (a ++ ph :: b)) (ha : ∀ x ∈ a, s ∉ x.1) (hon : s ∈ ph.1) :
    ∃ y, lRun s (0, none) ((a ++ ph :: b) ++ (a ++ ph :: b) ++ (a ++ ph :: b)) = ((pRun s (0, 0) (ph :: b ++ a)).1, some y) := by
  have pb : AllPos b := hp.of fun x hx => by simp [hx]
  have pba : AllPos (b ++ a) := hp.of fun x hx => by simp at hx ⊢; grind
  have e00 : mx 0 0 = (0 : Rat) := by unfold mx; split <;> rfl
  have one : ∀ L x : Rat, lRun s (L, some x) [ph] = (mx L x, some 0) := fun L x => by
    show lStep s (L, some x) ph = _
    unfold lStep
    rw [if_pos hon]
  have pone : pRun s (0, 0) [ph] = (0, 0) := by
    show pStep s (0, 0) ph = _
    unfold pStep
    rw [if_pos hon]
    show (mx 0 0, (0 : Rat)) = _
    rw [e00]
  -- the pieces in a row
  have el : (a ++ ph :: b) ++ (a ++ ph :: b) ++ (a ++ ph :: b) = a ++ ([ph] ++ ((b ++ a) ++ ([ph] ++ ((b ++ a) ++ ([ph] ++ b))))) := by simp
  rw [el, lRun_app, lRun_off s a ha, lRun_app]
  have f1 : lRun s (0, none) [ph] = (0, some 0) := by
    show lStep s (0, none) ph = _
    unfold lStep
    rw [if_pos hon]
  rw [f1, lRun_app]
  obtain ⟨L1, x1, g1, g2, g3, g4⟩ := run_eq s (b ++ a) pba 0 0 (by grind)
  rw [g1, lRun_app, one, lRun_app]
  rw [e00] at g2
  have eR : (pRun s (0, 0) (ph :: b ++ a)).1 = mx L1 x1 := by
    rw [show ph :: b ++ a = [ph] ++ (b ++ a) by simp, pRun_app, pone, g2]
  rw [eR]
  generalize hM : mx L1 x1 = M
  have M0 : 0 ≤ M := by have := (mx_le (a := L1) (b := x1)).1; grind
  have eM0 : mx M 0 = M := by unfold mx; split <;> grind
  obtain ⟨L2, x2, k1, k2, k3, k4⟩ := run_eq s (b ++ a) pba M 0 (by grind)
  rw [k1, lRun_app, one]
  have q2 := (pRun_from s (b ++ a) M 0 0).1
  rw [k2, g2] at q2
  have e2 : mx L2 x2 = M := by
    rw [show mx L2 x2 = mx M (mx L1 x1) from q2, hM]
    unfold mx
    split <;> grind
  rw [e2]
  obtain ⟨L3, x3, m1, m2, m3, m4⟩ := run_eq s b pb M 0 (by grind)
  rw [m1]
  have q3 := (pRun_from s b M 0 0).1
  rw [m2] at q3
  have hle : (pRun s (0, 0) b).1 ≤ M := by
    have h1 := pRun_app s (0, 0) b a
    rw [g2] at h1
    have h2 := (pRun_nn s a (hp.of fun x hx => by simp [hx]) (pRun s (0, 0) b) ((pRun_nn s b pb (0, 0) (by show (0 : Rat) ≤ 0; grind)).1)).2
    rw [← h1] at h2
    rw [← hM]
    exact h2
  have e3 : mx L3 x3 = M := by
    rw [show mx L3 x3 = mx M (pRun s (0, 0) b).1 from q3]
    unfold mx
    split <;> grind
  have := (mx_le (a := L3) (b := x3)).1
  exact ⟨x3, by rw [show L3 = M by grind]⟩
theorem Sz.mx {n : Nat} {a b : Rat} (h1 : Sz n a) (h2 : Sz n b) : Sz n (mx a b) := by unfold DL.mx; split <;> assumption
theorem enum_map (pl : Plan) : enumD (pl.map dPh) = pl.zipIdx.map fun p => D.tup [.int (p.2 : Nat), dPh p.1] := by
  unfold enumD
  rw [List.zipIdx_map, List.map_map]
  rfl
theorem zipIdx_split {α : Type} {pl : List α} {pre post : List (α × Nat)} {x : α × Nat} (h : pl.zipIdx = pre ++ x :: post) : x.2 = pre.length ∧ pl = pre.map (·.1) ++ x.1 :: post.map (·.1) := by
  have h1 := congrArg (List.map Prod.fst) h
  rw [List.zipIdx_map_fst] at h1
  refine ⟨?_, by rw [h1]; simp⟩
  have h2 := congrArg (List.map Prod.snd) h
  rw [List.zipIdx_map_snd] at h2
  have h3 : (List.range' 0 pl.length)[pre.length]? = some x.2 := by rw [h2]; simp
  rw [List.getElem?_range'] at h3
  · simp at h3
    exact h3.symm
  · have := congrArg List.length h
    simp at this
    omega
theorem atI0 {α : Type} {x : α} {l : List α} : atI (x :: l) 0 = some x := atI_nat (j := 0) rfl
theorem ixN0 {n : Nat} : ixN (n + 1) 0 = some 0 := by
  unfold ixN
  rw [if_pos (by decide), if_pos (by omega)]
  rfl
end L2.DL

set_option maxHeartbeats 4000000
set_option exponentiation.threshold 10000
namespace K05
open PySem L2 L2.DL PyProof.Rows
open Builtin.Int (intBits)
def top (i : Nat) : Stmt := PySem.Challenge.pw_greenturns_k05_the_longest_wait.main.body.getD i (.Pass ⟨0, 0, 0, 0⟩)
abbrev s_common_divisor : Stmt := top 2
abbrev s_lowest : Stmt := top 3
abbrev s_plus : Stmt := top 4
abbrev s_less : Stmt := top 5
abbrev s_from_green : Stmt := top 7
abbrev s_longest_wait : Stmt := top 8
abbrev s__law_cell_at : Stmt := top 10
abbrev s__law_low : Stmt := top 11
abbrev s__law_sum : Stmt := top 12
abbrev s__law_less : Stmt := top 14
abbrev s__law_whole : Stmt := top 15
abbrev s__law_fraction : Stmt := top 16
abbrev s__law_bits : Stmt := top 17
abbrev s__law_plan : Stmt := top 18
abbrev s__law_wait : Stmt := top 19
abbrev s_law : Stmt := top 20
structure Bi (mg : Str → Option Value) : Prop where
  b_abs : mg "abs" = none
  b_bool : mg "bool" = none
  b_enumerate : mg "enumerate" = none
  b_int : mg "int" = none
  b_isinstance : mg "isinstance" = none
  b_len : mg "len" = none
  b_list : mg "list" = none
  b_range : mg "range" = none
  b_tuple : mg "tuple" = none
theorem sc_common_divisor : FnScope ["one", "other", "larger", "lesser", "rest"] ["one", "other"] (defScope s_common_divisor) := ⟨rfl, rfl, rfl, by decide +kernel, rfl, by decide +kernel, by decide +kernel⟩
theorem sc_lowest : FnScope ["top", "bottom", "divisor"] ["top", "bottom"] (defScope s_lowest) := ⟨rfl, rfl, rfl, by decide +kernel, rfl, by decide +kernel, by decide +kernel⟩
theorem sc_plus : FnScope ["one", "other"] ["one", "other"] (defScope s_plus) := ⟨rfl, rfl, rfl, by decide +kernel, rfl, by decide +kernel, by decide +kernel⟩
theorem sc_less : FnScope ["one", "other"] ["one", "other"] (defScope s_less) := ⟨rfl, rfl, rfl, by decide +kernel, rfl, by decide +kernel, by decide +kernel⟩
theorem sc_from_green : FnScope ["plan", "stream", "place", "phase"] ["plan", "stream"] (defScope s_from_green) := ⟨rfl, rfl, rfl, by decide +kernel, rfl, by decide +kernel, by decide +kernel⟩
theorem sc_longest_wait : FnScope ["plan", "stream", "turned", "longest", "wait", "phase"] ["plan", "stream"] (defScope s_longest_wait) := ⟨rfl, rfl, rfl, by decide +kernel, rfl, by decide +kernel, by decide +kernel⟩
theorem sc__law_cell_at : FnScope ["script", "k"] ["script", "k"] (defScope s__law_cell_at) := ⟨rfl, rfl, rfl, by decide +kernel, rfl, by decide +kernel, by decide +kernel⟩
theorem sc__law_low : FnScope ["top", "bottom", "one", "other", "rest"] ["top", "bottom"] (defScope s__law_low) := ⟨rfl, rfl, rfl, by decide +kernel, rfl, by decide +kernel, by decide +kernel⟩
theorem sc__law_sum : FnScope ["one", "other"] ["one", "other"] (defScope s__law_sum) := ⟨rfl, rfl, rfl, by decide +kernel, rfl, by decide +kernel, by decide +kernel⟩
theorem sc__law_less : FnScope ["one", "other"] ["one", "other"] (defScope s__law_less) := ⟨rfl, rfl, rfl, by decide +kernel, rfl, by decide +kernel, by decide +kernel⟩
theorem sc__law_whole : FnScope ["found"] ["found"] (defScope s__law_whole) := ⟨rfl, rfl, rfl, by decide +kernel, rfl, by decide +kernel, by decide +kernel⟩
theorem sc__law_fraction : FnScope ["found", "due"] ["found", "due"] (defScope s__law_fraction) := ⟨rfl, rfl, rfl, by decide +kernel, rfl, by decide +kernel, by decide +kernel⟩
theorem sc__law_bits : FnScope ["number", "streams", "group", "stream"] ["number", "streams"] (defScope s__law_bits) := ⟨rfl, rfl, rfl, by decide +kernel, rfl, by decide +kernel, by decide +kernel⟩
theorem sc__law_plan : FnScope ["script", "start", "streams", "phases", "plan", "k", "cell", "length"] ["script", "start", "streams", "phases"] (defScope s__law_plan) := ⟨rfl, rfl, rfl, by decide +kernel, rfl, by decide +kernel, by decide +kernel⟩
theorem sc__law_wait : FnScope ["plan", "stream", "longest", "stretch", "phase"] ["plan", "stream"] (defScope s__law_wait) := ⟨rfl, rfl, rfl, by decide +kernel, rfl, by decide +kernel, by decide +kernel⟩
theorem sc_law : FnScope ["script", "plan", "handed", "stream", "due", "found"] ["script"] (defScope s_law) := ⟨rfl, rfl, rfl, by decide +kernel, rfl, by decide +kernel, by decide +kernel⟩
local macro_rules
  | `(tactic| walk_at "rd") => `(tactic| try simp only [dSeq, dSet, dSetO, dVar, dC, d1, d2, d2F, dNil, dCons, dCall, dCallF, dOf, dTest, dAnd, dOr, dNot, dAndV, dOrV, dNotV, dIf, dTup, dLst, dAdd, dSub, dMul, dDivB, dDiv, dMod, dPow, rdI, rdI0, rdU, rdEq, rdNe, rdIs, rdIsNot, rdEqD, rdNeD,
    dRet, dRetN, dRetF, dRetO, dIfS, dNext, dNever, dAppend, dExtend, dClear, dPut, dShare, dItL, dItT, dRng1, dRng2, dName, dName2, dYes, capD, startE, dIxO, dEnum, dZip, dSl, dPart, dNoPart, rcLen, rcAbs, rcMin, rcMax, rcList, rcTuple, rcInst, isTy_ii, isTy_ib, isTy_bb, isTy_Qt, isTy_Gt, isTy_tt, isTy_ll, rcLen_Q, rcLen_G, rdIn_G, rdNotIn_G, dQ_nought, dQ_one, dPlan, Bool.not_true, Bool.not_false, Int.ofNat_eq_natCast, decide_true, decide_false, Int.zero_add, rdIx_Q0, rdIx_Q1, rdIx_P0, rdIx_P1,
    List.set_cons_zero, List.set_cons_succ, List.getElem?_cons_zero, List.getElem?_cons_succ, List.map_cons, List.map_nil, List.cons_append, List.nil_append, Option.getD_some, Option.getD_none, List.length_cons, List.length_nil, ite_true, ite_false, if_true, if_false, Bool.false_eq_true])
section
variable {P : Program} {w : World} {K : PySem.W.Frag} {mg : Str → Option Value} {base : Heap} {f : Addr} {fd : FuncData} {C : Addr}
theorem ok_common_divisor (B : Bi mg) (F : Fun K "common_divisor" "common_divisor" s_common_divisor f fd) :
    FnOk P w K mg base CX0 1 f fd ["one", "other"] (spD K C tCd) := by
  refine fn_e F sc_common_divisor (fun ds Q h => by obtain ⟨x0, y0, rfl, k⟩ := h; rfl) (fun cdv A outer s H E hr => ⟨_, (dss_cons (ds_set (i := 2) sc_common_divisor.nd rfl (Or.inl rfl) (de_of_var (pv 0)))
        (dss_cons (ds_set (i := 3) sc_common_divisor.nd rfl (Or.inl rfl) (de_of_var (pv 1)))
        (dss_cons (ds_while PassesOwn.never (db_cmp op_gt l_gt (de_of_var (pv 3)) de_int (nomark _)) (dss_cons (ds_set (i := 4) sc_common_divisor.nd rfl (Or.inl rfl) (de_mod (de_of_var (pv 2)) (de_of_var (pv 3))))
        (dss_cons (ds_set (i := 2) sc_common_divisor.nd rfl (Or.inl rfl) (de_of_var (pv 3)))
        (dss_one (ds_set (i := 3) sc_common_divisor.nd rfl (Or.inl rfl) (de_of_var (pv 4)))))))
        (dss_one (ds_ret (de_of_var (pv 2))))))), fun ds Q h => ?_⟩)
  obtain ⟨x0, y0, rfl, k⟩ := h
  walk_at "rd"
  refine ⟨fun m env => ∃ (x y : Nat) (r : Option SV), env = [some (.sh (.int x0)), some (.sh (.int y0)), some (.sh (.int x)), some (.sh (.int y)), r] ∧ Nat.gcd x y = Nat.gcd x0 y0 ∧ m = y, ⟨y0, x0, y0, none, rfl, rfl, rfl⟩, ?_⟩
  rintro m env ⟨x, y, r, rfl, g, rfl⟩
  walk_at "rd"
  refine ite2 (fun c => ?_) (fun c => ?_)
  · have c' : (0 : Int) < (m : Int) := of_decide_eq_true c
    walk_at "rd"
    refine ⟨c', x % m, Nat.mod_lt _ (by omega), m, x % m, _, rfl, gcd_step.trans g, rfl⟩
  · have c' : ¬ (0 : Int) < (m : Int) := of_decide_eq_false (Bool.eq_false_iff.mpr c)
    obtain rfl : m = 0 := by omega
    rw [Nat.gcd_zero_right] at g
    walk_at "rd"
    rw [g]
    exact k
theorem ok_lowest (B : Bi mg) (d_common_divisor : Dn P w K mg base "common_divisor" ["one", "other"] 1 (spD K C tCd)) (F : Fun K "lowest" "lowest" s_lowest f fd) :
    FnOk P w K mg base CX0 2 f fd ["top", "bottom"] (spD K C tLowest) := by
  refine fn_e F sc_lowest (fun ds Q h => by obtain ⟨t, b, rfl, hb, hz, k⟩ := h; rfl) (fun cdv A outer s H E hr => ⟨_, (dss_cons (ds_set (i := 2) sc_lowest.nd rfl (Or.inl rfl) (de_dn d_common_divisor hr rfl (da_cons (de_callB call_abs l_abs rfl B.b_abs boot_abs (da_cons (de_of_var (pv 0)) da_nil)) (da_cons (de_callB call_abs l_abs rfl B.b_abs boot_abs (da_cons (de_of_var (pv 1)) da_nil)) da_nil))))
        (dss_cons (ds_if (db_cmp op_lt l_lt (de_of_var (pv 1)) de_int (nomark _)) (dss_one (ds_set (i := 2) sc_lowest.nd rfl (Or.inl rfl) (de_neg (de_of_var (pv 2))))) dss_nil)
        (dss_one (ds_ret (de_tup (da_cons (de_divB (de_of_var (pv 0)) (de_of_var (pv 2))) (da_cons (de_divB (de_of_var (pv 1)) (de_of_var (pv 2))) da_nil))))))), fun ds Q h => ?_⟩)
  obtain ⟨t, b, rfl, hb, hz, k⟩ := h
  have eg : Nat.gcd t.natAbs b.natAbs = Int.gcd t b := rfl
  have hg : 0 < Int.gcd t b := Int.gcd_pos_of_ne_zero_right _ hb
  have hgz : intBits (Int.gcd t b : Int) ≤ 8000 := by
    refine intBits_le_of_natAbs ?_ hz
    rw [Int.natAbs_natCast]
    exact Nat.gcd_le_right _ (by omega)
  walk_at "rd"
  refine ⟨_, _, rfl, ?_⟩
  rw [eg]
  refine ite2 (fun c => ?_) (fun c => ?_)
  · have c' : b < 0 := of_decide_eq_true c
    obtain ⟨e1, e2⟩ := low_eq' (t := t) c'
    refine ⟨⟨by omega, intBits_neg_le hgz⟩, ⟨by omega, intBits_neg_le hgz⟩, by decide, ?_⟩
    rw [e1, e2]
    exact k
  · have c' : ¬ b < 0 := of_decide_eq_false (Bool.eq_false_iff.mpr c)
    obtain ⟨e1, e2⟩ := low_eq (t := t) (b := b) (by omega)
    refine ⟨⟨by omega, hgz⟩, ⟨by omega, hgz⟩, by decide, ?_⟩
    rw [e1, e2]
    exact k
theorem ok_plus (B : Bi mg) (d_lowest : Dn P w K mg base "lowest" ["top", "bottom"] 2 (spD K C tLowest)) (F : Fun K "plus" "plus" s_plus f fd) :
    FnOk P w K mg base CX0 3 f fd ["one", "other"] (spD K C tPlus) := by
  refine fn_e F sc_plus (fun ds Q h => by obtain ⟨p, q, rfl, hp, hq, k⟩ := h; rfl) (fun cdv A outer s H E hr => ⟨_, (dss_one (ds_ret (de_dn d_lowest hr rfl (da_cons (de_add (de_mul (de_ix (de_of_var (pv 0)) de_int (fun _ _ => rfl)) (de_ix (de_of_var (pv 1)) de_int (fun _ _ => rfl))) (de_mul (de_ix (de_of_var (pv 1)) de_int (fun _ _ => rfl)) (de_ix (de_of_var (pv 0)) de_int (fun _ _ => rfl)))) (da_cons (de_mul (de_ix (de_of_var (pv 0)) de_int (fun _ _ => rfl)) (de_ix (de_of_var (pv 1)) de_int (fun _ _ => rfl))) da_nil))))), fun ds Q h => ?_⟩)
  obtain ⟨p, q, rfl, hp, hq, k⟩ := h
  walk_at "rd"
  refine ⟨mulB hp.top hq.bot, mulB hq.top hp.bot, mulB hp.bot hq.bot, _, _, rfl, Int.mul_ne_zero (den0 p) (den0 q), Nat.le_trans (intBits_mul_le hp.bot hq.bot) (by decide), ?_⟩
  rw [add_eq]
  exact k
theorem ok_less (B : Bi mg) (F : Fun K "less" "less" s_less f fd) :
    FnOk P w K mg base CX0 1 f fd ["one", "other"] (spD K C tLess) := by
  refine fn_e F sc_less (fun ds Q h => by obtain ⟨p, q, rfl, hp, hq, k⟩ := h; rfl) (fun cdv A outer s H E hr => ⟨_, (dss_one (ds_ret (de_cmp op_lt l_lt (de_mul (de_ix (de_of_var (pv 0)) de_int (fun _ _ => rfl)) (de_ix (de_of_var (pv 1)) de_int (fun _ _ => rfl))) (de_mul (de_ix (de_of_var (pv 1)) de_int (fun _ _ => rfl)) (de_ix (de_of_var (pv 0)) de_int (fun _ _ => rfl))) (nomark _)))), fun ds Q h => ?_⟩)
  obtain ⟨p, q, rfl, hp, hq, k⟩ := h
  walk_at "rd"
  refine ⟨mulB hp.top hq.bot, mulB hq.top hp.bot, ?_⟩
  rw [lt_eq]
  exact k
theorem ok_from_green (B : Bi mg) (F : Fun K "from_green" "from_green" s_from_green f fd) :
    FnOk P w K mg base CX0 1 f fd ["plan", "stream"] (spD K C tFromGreen) := by
  refine fn_e F sc_from_green (fun ds Q h => by obtain ⟨pl, st, rfl, hl, k1, k2⟩ := h; rfl) (fun cdv A outer s H E hr => ⟨_, (dss_cons (ds_for PassesOwn.never rfl (di_enumerate rfl B.b_enumerate (de_of_var (pv 0))) (dg_name2 (i := 2) (j := 3) rfl sc_from_green.nd rfl (Or.inl rfl) rfl (Or.inl rfl)) (dss_one (ds_if (db_cmp op_in_seq l_in (de_of_var (pv 1)) (de_ix (de_of_var (pv 3)) de_int (fun _ _ => rfl)) (by with_unfolding_all rfl)) (dss_one (ds_ret (DE.of (df_cat (DE.of (df_slice (de_of_var (pv 0)) (do_some (de_of_var (pv 2))) do_none)) (DE.of (df_slice (de_of_var (pv 0)) do_none (do_some (de_of_var (pv 2))))))))) dss_nil)))
        (dss_one (ds_ret (DE.of (df_lst da_nil))))), fun ds Q h => ?_⟩)
  obtain ⟨pl, st, rfl, hl, k1, k2⟩ := h
  walk_at "rd"
  refine ⟨_, pl.zipIdx, fun p => .tup [.int (p.2 : Nat), dPh p.1], fun pre env => ∃ r1 r2 : Option SV, env = [some (.sh (dPlan pl)), some (.sh (.int st)), r1, r2] ∧ ∀ x ∈ pre, st ∉ x.1.1, enum_map pl, ⟨none, none, rfl, fun x hx => by simp at hx⟩, ?_, ?_⟩
  · rintro pre x post env e ⟨r1, r2, rfl, hh⟩
    obtain ⟨e1, e2⟩ := zipIdx_split e
    have hlen : pre.length ≤ pl.length := by rw [e2]; simp
    walk_at "rd"
    refine ite2 (fun c => ?_) (fun c => ?_)
    · have c' : st ∈ x.1.1 := of_decide_eq_true c
      walk_at "rd"
      rw [e1, cut_drop _ _ (by rw [List.length_map]; exact hlen), cut_take _ _ (by rw [List.length_map]; exact hlen)]
      refine ⟨?_, ?_⟩
      · rw [List.length_drop, List.length_take, List.length_map]
        have : (1000 : Nat) ≤ sizeLine := by decide
        omega
      · have q := k1 (pre.map (·.1)) x.1 (post.map (·.1)) e2 (fun y hy => by obtain ⟨z, h1, rfl⟩ := List.mem_map.mp hy; exact hh z h1) c'
        have e3 : List.drop pre.length (pl.map dPh) ++ List.take pre.length (pl.map dPh) = (x.1 :: post.map (·.1) ++ pre.map (·.1)).map dPh := by
          rw [e2]
          rw [← List.map_drop, ← List.map_take, List.drop_left' (by simp), List.take_left' (by simp), ← List.map_append]
        rw [e3]
        exact q
    · have c' : ¬ st ∈ x.1.1 := of_decide_eq_false (Bool.eq_false_iff.mpr c)
      refine ⟨_, _, rfl, fun y hy => ?_⟩
      rcases List.mem_append.mp hy with h | h
      · exact hh y h
      · rw [List.mem_singleton.mp h]; exact c'
  · rintro env ⟨r1, r2, rfl, hh⟩
    walk_at "rd"
    refine ⟨by decide, k2 fun x hx => ?_⟩
    obtain ⟨i, hi, rfl⟩ := List.getElem_of_mem hx
    exact hh (pl[i], i) (List.mem_of_getElem? (i := i) (by simp [List.getElem?_zipIdx, hi]))
theorem ok_longest_wait (B : Bi mg) (g_NOUGHT : GTup K mg "NOUGHT" [0, 1]) (d_plus : Dn P w K mg base "plus" ["one", "other"] 3 (spD K C tPlus)) (d_less : Dn P w K mg base "less" ["one", "other"] 1 (spD K C tLess)) (d_from_green : Dn P w K mg base "from_green" ["plan", "stream"] 1 (spD K C tFromGreen)) (F : Fun K "longest_wait" "longest_wait" s_longest_wait f fd) :
    FnOk P w K mg base CX0 4 f fd ["plan", "stream"] (spD K C tLongest) := by
  refine fn_e F sc_longest_wait (fun ds Q h => by obtain ⟨pl, st, rfl, hp, hs, k1, k2⟩ := h; rfl) (fun cdv A outer s H E hr => ⟨_, (dss_cons (ds_set (i := 2) sc_longest_wait.nd rfl (Or.inl rfl) (de_dn d_from_green hr rfl (da_cons (de_of_var (pv 0)) (da_cons (de_of_var (pv 1)) da_nil))))
        (dss_cons (ds_if (db_cmp op_eq l_eq (de_callB call_len_seq l_len rfl B.b_len PySem.boot_len (da_cons (de_of_var (pv 2)) da_nil)) de_int (nomark _)) (dss_one (ds_ret de_non)) dss_nil)
        (dss_cons (ds_set (i := 3) sc_longest_wait.nd rfl (Or.inl rfl) (de_gtup g_NOUGHT rfl))
        (dss_cons (ds_set (i := 4) sc_longest_wait.nd rfl (Or.inl rfl) (de_gtup g_NOUGHT rfl))
        (dss_cons (ds_for PassesOwn.never rfl (di_list (de_of_var (pv 2))) (dg_name (i := 5) sc_longest_wait.nd rfl (Or.inl rfl)) (dss_cons (ds_set (i := 4) sc_longest_wait.nd rfl (Or.inl rfl) (de_if (db_cmp op_in_seq l_in (de_of_var (pv 1)) (de_ix (de_of_var (pv 5)) de_int (fun _ _ => rfl)) (by with_unfolding_all rfl)) (de_gtup g_NOUGHT rfl) (de_dn d_plus hr rfl (da_cons (de_of_var (pv 4)) (da_cons (de_ix (de_of_var (pv 5)) de_int (fun _ _ => rfl)) da_nil)))))
        (dss_one (ds_if (db_val (de_dn d_less hr rfl (da_cons (de_of_var (pv 3)) (da_cons (de_of_var (pv 4)) da_nil)))) (dss_one (ds_set (i := 3) sc_longest_wait.nd rfl (Or.inl rfl) (de_of_var (pv 4)))) dss_nil))))
        (dss_one (ds_ret (de_of_var (pv 3))))))))), fun ds Q h => ?_⟩)
  obtain ⟨pl, st, rfl, hp, hs, k1, k2⟩ := h
  walk_at "rd"
  refine ⟨pl, st, rfl, Nat.le_trans hs.1 (by decide), fun a ph b e ha hon => ?_, fun hoff => ?_⟩
  · have hk := k1 a ph b e ha hon
    have hperm : ∀ x ∈ ph :: b ++ a, x ∈ pl := fun x hx => by rw [e]; simp at hx ⊢; grind
    have hlen : (ph :: b ++ a).length = pl.length := by rw [e]; simp; omega
    have hne : ¬ (((ph :: b ++ a).map dPh).length : Int) = 0 := by rw [List.length_map]; simp; omega
    generalize ph :: b ++ a = tp at *
    walk_at "rd"
    refine ite2 (fun c => absurd (of_decide_eq_true c) hne) (fun _ => ?_)
    refine ⟨_, tp, dPh, fun pre env => ∃ r : Option SV, env = [some (.sh (dPlan pl)), some (.sh (.int st)), some (.sh (dPlan tp)), some (.sh (dQ (pRun st (0, 0) pre).1)), some (.sh (dQ (pRun st (0, 0) pre).2)), r] ∧ Sz (1 + 9 * pre.length) (pRun st (0, 0) pre).1 ∧ Sz (1 + 9 * pre.length) (pRun st (0, 0) pre).2, rfl, ⟨none, rfl, Sz.zero, Sz.zero⟩, ?_, ?_⟩
    · rintro pre x post env e' ⟨r, rfl, z1, z2⟩
      have hl : pre.length ≤ 20 := by have := hs.1; rw [← hlen, e', List.length_append] at this; omega
      have zx : Sz 8 x.2 := hs.2 x (hperm x (by rw [e']; simp))
      have es : pRun st (0, 0) (pre ++ [x]) = pStep st (pRun st (0, 0) pre) x := by rw [pRun_app]; rfl
      have el : (pre ++ [x]).length = pre.length + 1 := by simp
      walk_at "rd"
      rw [es, el]
      generalize pRun st (0, 0) pre = q at *
      unfold pStep
      refine ite2 (fun c => ?_) (fun c => ?_)
      · have c' : st ∈ x.1 := of_decide_eq_true c
        rw [if_pos c']
        refine ⟨_, _, rfl, z1.mono (by omega), Sz.zero.mono (by decide), ?_⟩
        unfold mx
        refine ite2 (fun c2 => ?_) (fun c2 => ?_)
        · rw [if_pos (of_decide_eq_true c2)]
          exact ⟨_, rfl, Sz.zero.mono (by omega), Sz.zero.mono (by omega)⟩
        · rw [if_neg (of_decide_eq_false (Bool.eq_false_iff.mpr c2))]
          exact ⟨_, rfl, z1.mono (by omega), Sz.zero.mono (by omega)⟩
      · have c' : ¬ st ∈ x.1 := of_decide_eq_false (Bool.eq_false_iff.mpr c)
        rw [if_neg c']
        have z3 := z2.add zx
        refine ⟨_, _, rfl, z2.mono (by omega), zx.mono (by decide), _, _, rfl, z1.mono (by omega), z3.mono (by omega), ?_⟩
        unfold mx
        refine ite2 (fun c2 => ?_) (fun c2 => ?_)
        · rw [if_pos (of_decide_eq_true c2)]
          exact ⟨_, rfl, z3.mono (by omega), z3.mono (by omega)⟩
        · rw [if_neg (of_decide_eq_false (Bool.eq_false_iff.mpr c2))]
          exact ⟨_, rfl, z1.mono (by omega), z3.mono (by omega)⟩
    · rintro env ⟨r, rfl, _, _⟩
      walk_at "rd"
      exact hk
  · walk_at "rd"
    exact k2 hoff
theorem ok__law_cell_at (B : Bi mg) (F : Fun K "_law_cell_at" "_law_cell_at" s__law_cell_at f fd) :
    FnOk P w K mg base CX0 1 f fd ["script", "k"] (spD K C tCell) := by
  refine fn_e F sc__law_cell_at (fun ds Q h => by obtain ⟨ns, k0, rfl, h0, k⟩ := h; rfl) (fun cdv A outer s H E hr => ⟨_, (dss_cons (ds_if (db_cmp op_lt l_lt (de_of_var (pv 1)) (de_callB call_len_seq l_len rfl B.b_len PySem.boot_len (da_cons (de_of_var (pv 0)) da_nil)) (nomark _)) (dss_one (ds_ret (de_ix (de_of_var (pv 0)) (de_of_var (pv 1)) (fun _ _ => rfl)))) dss_nil)
        (dss_one (ds_ret de_int))), fun ds Q h => ?_⟩)
  obtain ⟨ns, k0, rfl, h0, k⟩ := h
  walk_at "rd"
  refine ite2 (fun c => ?_) (fun c => ?_)
  · have c' : k0 < (ns.length : Int) := of_decide_eq_true c
    rw [rdIx_scr h0 c']
    exact k
  · have c' : ¬ k0 < (ns.length : Int) := of_decide_eq_false (Bool.eq_false_iff.mpr c)
    rw [cell_out c'] at k
    exact k
theorem ok__law_low (B : Bi mg) (F : Fun K "_law_low" "_law_low" s__law_low f fd) :
    FnOk P w K mg base CX0 1 f fd ["top", "bottom"] (spD K C tLow) := by
  refine fn_e F sc__law_low (fun ds Q h => by obtain ⟨t, b, rfl, hb, hz, k⟩ := h; rfl) (fun cdv A outer s H E hr => ⟨_, (dss_cons (ds_set (i := 2) sc__law_low.nd rfl (Or.inl rfl) (de_callB call_abs l_abs rfl B.b_abs boot_abs (da_cons (de_of_var (pv 0)) da_nil)))
        (dss_cons (ds_set (i := 3) sc__law_low.nd rfl (Or.inl rfl) (de_of_var (pv 1)))
        (dss_cons (ds_while PassesOwn.never (db_cmp op_gt l_gt (de_of_var (pv 3)) de_int (nomark _)) (dss_cons (ds_set (i := 4) sc__law_low.nd rfl (Or.inl rfl) (de_mod (de_of_var (pv 2)) (de_of_var (pv 3))))
        (dss_cons (ds_set (i := 2) sc__law_low.nd rfl (Or.inl rfl) (de_of_var (pv 3)))
        (dss_one (ds_set (i := 3) sc__law_low.nd rfl (Or.inl rfl) (de_of_var (pv 4)))))))
        (dss_one (ds_ret (de_tup (da_cons (de_divB (de_of_var (pv 0)) (de_of_var (pv 2))) (da_cons (de_divB (de_of_var (pv 1)) (de_of_var (pv 2))) da_nil)))))))), fun ds Q h => ?_⟩)
  obtain ⟨t, b, rfl, hb, hz, k⟩ := h
  obtain ⟨y0, rfl⟩ : ∃ y0 : Nat, b = y0 := ⟨b.toNat, by omega⟩
  have eg : Nat.gcd t.natAbs y0 = Int.gcd t (y0 : Int) := by show _ = Nat.gcd t.natAbs (y0 : Int).natAbs; rw [Int.natAbs_natCast]
  have hg : 0 < Int.gcd t (y0 : Int) := Int.gcd_pos_of_ne_zero_right _ (by omega)
  have hgz : intBits (Int.gcd t (y0 : Int) : Int) ≤ 8000 := by
    refine intBits_le_of_natAbs ?_ hz
    rw [Int.natAbs_natCast]
    exact Nat.gcd_le_right _ (by omega)
  walk_at "rd"
  refine ⟨fun m env => ∃ (x y : Nat) (r : Option SV), env = [some (.sh (.int t)), some (.sh (.int y0)), some (.sh (.int x)), some (.sh (.int y)), r] ∧ Nat.gcd x y = Nat.gcd t.natAbs y0 ∧ m = y, ⟨y0, t.natAbs, y0, none, rfl, rfl, rfl⟩, ?_⟩
  rintro m env ⟨x, y, r, rfl, g, rfl⟩
  walk_at "rd"
  refine ite2 (fun c => ?_) (fun c => ?_)
  · have c' : (0 : Int) < (m : Int) := of_decide_eq_true c
    walk_at "rd"
    refine ⟨c', x % m, Nat.mod_lt _ (by omega), m, x % m, _, rfl, gcd_step.trans g, rfl⟩
  · have c' : ¬ (0 : Int) < (m : Int) := of_decide_eq_false (Bool.eq_false_iff.mpr c)
    obtain rfl : m = 0 := by omega
    rw [Nat.gcd_zero_right, eg] at g
    subst g
    walk_at "rd"
    obtain ⟨e1, e2⟩ := low_eq (t := t) (b := y0) (by omega)
    refine ⟨⟨by omega, hgz⟩, ⟨by omega, hgz⟩, by decide, ?_⟩
    rw [e1, e2]
    exact k
theorem ok__law_sum (B : Bi mg) (d__law_low : Dn P w K mg base "_law_low" ["top", "bottom"] 1 (spD K C tLow)) (F : Fun K "_law_sum" "_law_sum" s__law_sum f fd) :
    FnOk P w K mg base CX0 2 f fd ["one", "other"] (spD K C tPlus) := by
  refine fn_e F sc__law_sum (fun ds Q h => by obtain ⟨p, q, rfl, hp, hq, k⟩ := h; rfl) (fun cdv A outer s H E hr => ⟨_, (dss_one (ds_ret (de_dn d__law_low hr rfl (da_cons (de_add (de_mul (de_ix (de_of_var (pv 0)) de_int (fun _ _ => rfl)) (de_ix (de_of_var (pv 1)) de_int (fun _ _ => rfl))) (de_mul (de_ix (de_of_var (pv 1)) de_int (fun _ _ => rfl)) (de_ix (de_of_var (pv 0)) de_int (fun _ _ => rfl)))) (da_cons (de_mul (de_ix (de_of_var (pv 0)) de_int (fun _ _ => rfl)) (de_ix (de_of_var (pv 1)) de_int (fun _ _ => rfl))) da_nil))))), fun ds Q h => ?_⟩)
  obtain ⟨p, q, rfl, hp, hq, k⟩ := h
  walk_at "rd"
  refine ⟨mulB hp.top hq.bot, mulB hq.top hp.bot, mulB hp.bot hq.bot, _, _, rfl, Int.mul_pos (by have := p.den_pos; omega) (by have := q.den_pos; omega), Nat.le_trans (intBits_mul_le hp.bot hq.bot) (by decide), ?_⟩
  rw [add_eq]
  exact k
theorem ok__law_less (B : Bi mg) (F : Fun K "_law_less" "_law_less" s__law_less f fd) :
    FnOk P w K mg base CX0 1 f fd ["one", "other"] (spD K C tLess) := by
  refine fn_e F sc__law_less (fun ds Q h => by obtain ⟨p, q, rfl, hp, hq, k⟩ := h; rfl) (fun cdv A outer s H E hr => ⟨_, (dss_one (ds_ret (de_cmp op_lt l_lt (de_mul (de_ix (de_of_var (pv 0)) de_int (fun _ _ => rfl)) (de_ix (de_of_var (pv 1)) de_int (fun _ _ => rfl))) (de_mul (de_ix (de_of_var (pv 1)) de_int (fun _ _ => rfl)) (de_ix (de_of_var (pv 0)) de_int (fun _ _ => rfl))) (nomark _)))), fun ds Q h => ?_⟩)
  obtain ⟨p, q, rfl, hp, hq, k⟩ := h
  walk_at "rd"
  refine ⟨mulB hp.top hq.bot, mulB hq.top hp.bot, ?_⟩
  rw [lt_eq]
  exact k
theorem ok__law_whole (B : Bi mg) (F : Fun K "_law_whole" "_law_whole" s__law_whole f fd) :
    FnOk P w K mg base CX0 1 f fd ["found"] (spD K C tIsWhole) := by
  refine fn_e F sc__law_whole (fun ds Q h => by obtain ⟨i, rfl, k⟩ := h; rfl) (fun cdv A outer s H E hr => ⟨_, (dss_one (ds_ret (de_and (de_callB call_inst l_inst rfl B.b_isinstance boot_isinstance (da_cons (de_of_var (pv 0)) (da_cons (de_ty rfl B.b_int boot_int) da_nil))) (de_one (de_not (de_callB call_inst l_inst rfl B.b_isinstance boot_isinstance (da_cons (de_of_var (pv 0)) (da_cons (de_ty rfl B.b_bool boot_bool) da_nil)))))))), fun ds Q h => ?_⟩)
  obtain ⟨i, rfl, k⟩ := h
  walk_at "rd"
  exact k
theorem ok__law_fraction (B : Bi mg) (d__law_whole : Dn P w K mg base "_law_whole" ["found"] 1 (spD K C tIsWhole)) (F : Fun K "_law_fraction" "_law_fraction" s__law_fraction f fd) :
    FnOk P w K mg base CX0 2 f fd ["found", "due"] (spD K C tFrac) := by
  refine fn_e F sc__law_fraction (fun ds Q h => by obtain ⟨p, rfl, k⟩ := h; rfl) (fun cdv A outer s H E hr => ⟨_, (dss_cons (ds_if (DW.db (dw_or (db_not (db_val (de_callB call_inst l_inst rfl B.b_isinstance boot_isinstance (da_cons (de_of_var (pv 0)) (da_cons (de_ty rfl B.b_tuple boot_tuple) da_nil))))) (dw_or (db_cmp op_ne l_ne (de_callB call_len_seq l_len rfl B.b_len PySem.boot_len (da_cons (de_of_var (pv 0)) da_nil)) de_int (nomark _)) (dw_or (db_not (db_val (de_dn d__law_whole hr rfl (da_cons (de_ix (de_of_var (pv 0)) de_int (fun _ _ => rfl)) da_nil)))) (dw_or1 (db_not (db_val (de_dn d__law_whole hr rfl (da_cons (de_ix (de_of_var (pv 0)) de_int (fun _ _ => rfl)) da_nil))))))))) (dss_one (ds_ret de_bl)) dss_nil)
        (dss_one (ds_ret (de_cmp (op_eqD hr.units) l_eqD (de_of_var (pv 0)) (de_of_var (pv 1)) (nomark _))))), fun ds Q h => ?_⟩)
  obtain ⟨p, rfl, k⟩ := h
  walk_at "rd"
  refine ⟨_, rfl, _, rfl, ok_Q _, ok_Q _, ?_⟩
  rw [eqD_refl 1 _ (ok_Q _)]
  exact k
theorem ok__law_bits (B : Bi mg) (F : Fun K "_law_bits" "_law_bits" s__law_bits f fd) :
    FnOk P w K mg base CX0 1 f fd ["number", "streams"] (spD K C tBits) := by
  refine fn_e F sc__law_bits (fun ds Q h => by obtain ⟨n, kk, rfl, hk, k⟩ := h; rfl) (fun cdv A outer s H E hr => ⟨_, (dss_cons (ds_setO (i := 2) sc__law_bits.nd rfl (Or.inl rfl) (df_lst da_nil))
        (dss_cons (ds_for PassesOwn.never rfl (di_range1 rfl B.b_range (da_cons (de_of_var (pv 1)) da_nil)) (dg_name (i := 3) sc__law_bits.nd rfl (Or.inl rfl)) (dss_cons (ds_if (db_cmp op_eq l_eq (de_mod (de_of_var (pv 0)) de_int) de_int (nomark _)) (dss_one (ds_append (ps_expr (pe_bm PySem.F.plainAttrs_list PySem.F.slot_list_append PySem.F.type_list_append mt_append (pv 2) (da_cons (de_of_var (pv 3)) da_nil))))) dss_nil)
        (dss_one (ds_set (i := 0) sc__law_bits.nd rfl (Or.inl rfl) (de_div (de_of_var (pv 0)) de_int)))))
        (dss_share 2 (dss_one (ds_ret (de_callTy call_tuple_of l_tuple rfl B.b_tuple boot_tuple (da_cons (de_of_var (pv 2)) da_nil))))))), fun ds Q h => ?_⟩)
  obtain ⟨n, kk, rfl, hk, k⟩ := h
  walk_at "rd"
  refine ⟨by decide, by omega, by omega, ?_⟩
  refine ⟨Nat, List.range kk, fun i => .int (0 + (i : Nat)), fun pre env => ∃ r : Option SV, env = [some (.sh (.int (n / 2 ^ pre.length))), some (.sh (.int kk)), some (.ow ((bitsOf n pre.length).map D.int)), r], rfl, ⟨none, by simp [bitsOf]⟩, ?_, ?_⟩
  · rintro pre x post env e ⟨r, rfl⟩
    obtain ⟨rfl, hx, _⟩ := range_split e
    have e1 := bits_succ n pre.length
    have e2 := half_succ n pre.length
    walk_at "rd"
    rw [List.length_append, List.length_singleton]
    refine ⟨by decide, ?_⟩
    refine ite2 (fun c => ?_) (fun c => ?_)
    · have c' : n / 2 ^ pre.length % 2 = 1 := of_decide_eq_true c
      rw [if_pos c'] at e1
      refine ⟨?_, ⟨by decide, by decide⟩, ?_⟩
      · rw [List.length_map]
        unfold bitsOf
        rw [List.length_map]
        have h1 := List.length_filter_le (fun (i : Nat) => n / 2 ^ i % 2 == 1) (List.range pre.length)
        rw [List.length_range] at h1
        have : (64 : Nat) ≤ sizeLine := by decide
        omega
      · rw [e1, ← e2, List.map_append]
        exact ⟨_, rfl⟩
    · have c' : ¬ n / 2 ^ pre.length % 2 = 1 := of_decide_eq_false (Bool.eq_false_iff.mpr c)
      rw [if_neg c', List.append_nil] at e1
      refine ⟨⟨by decide, by decide⟩, ?_⟩
      rw [e1, ← e2]
      exact ⟨_, rfl⟩
  · rintro env ⟨r, rfl⟩
    walk_at "rd"
    rw [List.length_range]
    exact k
theorem ok__law_plan (B : Bi mg) (d__law_cell_at : Dn P w K mg base "_law_cell_at" ["script", "k"] 1 (spD K C tCell)) (d__law_low : Dn P w K mg base "_law_low" ["top", "bottom"] 1 (spD K C tLow)) (d__law_bits : Dn P w K mg base "_law_bits" ["number", "streams"] 1 (spD K C tBits)) (F : Fun K "_law_plan" "_law_plan" s__law_plan f fd) :
    FnOk P w K mg base CX0 2 f fd ["script", "start", "streams", "phases"] (spF K C tLawPlan) := by
  refine fn_ef F sc__law_plan (fun ds Q h => by obtain ⟨ns, st, kk, ph, rfl, h0, hk, hp, k⟩ := h; rfl) (fun cdv A outer s H E hr => ⟨_, (dss_cons (ds_setO (i := 4) sc__law_plan.nd rfl (Or.inl rfl) (df_lst da_nil))
        (dss_cons (ds_for PassesOwn.never rfl (di_range1 rfl B.b_range (da_cons (de_of_var (pv 3)) da_nil)) (dg_name (i := 5) sc__law_plan.nd rfl (Or.inl rfl)) (dss_cons (ds_set (i := 6) sc__law_plan.nd rfl (Or.inl rfl) (de_dn d__law_cell_at hr rfl (da_cons (de_of_var (pv 0)) (da_cons (de_add (de_add (de_of_var (pv 1)) (de_mul de_int (de_of_var (pv 5)))) de_int) da_nil))))
        (dss_cons (ds_set (i := 7) sc__law_plan.nd rfl (Or.inl rfl) (de_dn d__law_low hr rfl (da_cons (de_add de_int (de_mod (de_of_var (pv 6)) de_int)) (da_cons (de_add de_int (de_mod (de_div (de_of_var (pv 6)) de_int) de_int)) da_nil))))
        (dss_one (ds_append (ps_expr (pe_bm PySem.F.plainAttrs_list PySem.F.slot_list_append PySem.F.type_list_append mt_append (pv 4) (da_cons (de_tup (da_cons (de_dn d__law_bits hr rfl (da_cons (de_dn d__law_cell_at hr rfl (da_cons (de_of_var (pv 0)) (da_cons (de_add (de_of_var (pv 1)) (de_mul de_int (de_of_var (pv 5)))) da_nil))) (da_cons (de_of_var (pv 2)) da_nil))) (da_cons (de_of_var (pv 7)) da_nil))) da_nil))))))))
        (dss_one (ds_retO (pv 4))))), fun ds Q h => ?_⟩)
  obtain ⟨ns, st, kk, ph, rfl, h0, hk, hp, k⟩ := h
  walk_at "rd"
  refine ⟨by decide, by omega, by omega, ?_⟩
  refine ⟨Nat, List.range ph, fun i => .int (0 + (i : Nat)), fun pre env => ∃ r1 r2 r3 : Option SV, env = [some (.sh (.scr ns)), some (.sh (.int st)), some (.sh (.int kk)), some (.sh (.int ph)), some (.ow ((planOf ns st kk pre.length).map dPh)), r1, r2, r3], rfl, ⟨none, none, none, rfl⟩, ?_, ?_⟩
  · rintro pre x post env e ⟨r1, r2, r3, rfl⟩
    obtain ⟨rfl, hx, _⟩ := range_split e
    have b2 : CMulB 2 (pre.length : Int) := mulB (m := 64) (n := 64) (by decide) (bits_le (by rw [Int.natAbs_natCast]; exact Nat.lt_of_lt_of_le (show pre.length < 2 ^ 6 by omega) (by decide)))
    walk_at "rd"
    refine ⟨b2, ns, _, rfl, by omega, ?_⟩
    walk_at "rd"
    refine ⟨by decide, ⟨by decide, by decide⟩, by decide, _, _, rfl, by omega, ?_, ?_⟩
    · refine Nat.le_trans (bits_le (n := 64) ?_) (by decide)
      omega
    · refine ⟨b2, ns, _, rfl, by omega, _, kk, rfl, hk, by decide, ?_, ?_⟩
      · rw [List.length_map]
        unfold planOf
        rw [List.length_map, List.length_range]
        have : (64 : Nat) ≤ sizeLine := by decide
        omega
      · rw [List.length_append, List.length_singleton, plan_succ, List.map_append]
        exact ⟨_, _, _, rfl⟩
  · rintro env ⟨r1, r2, r3, rfl⟩
    walk_at "rd"
    rw [List.length_range]
    exact k
theorem ok__law_wait (B : Bi mg) (d__law_sum : Dn P w K mg base "_law_sum" ["one", "other"] 2 (spD K C tPlus)) (d__law_less : Dn P w K mg base "_law_less" ["one", "other"] 1 (spD K C tLess)) (F : Fun K "_law_wait" "_law_wait" s__law_wait f fd) :
    FnOk P w K mg base CX0 3 f fd ["plan", "stream"] (spD K C tLawWait) := by
  refine fn_e F sc__law_wait (fun ds Q h => by obtain ⟨pl, st, rfl, hp, hs, k⟩ := h; rfl) (fun cdv A outer s H E hr => ⟨_, (dss_cons (ds_set (i := 2) sc__law_wait.nd rfl (Or.inl rfl) (de_tup (da_cons de_int (da_cons de_int da_nil))))
        (dss_cons (ds_set (i := 3) sc__law_wait.nd rfl (Or.inl rfl) de_non)
        (dss_cons (ds_for PassesOwn.never rfl (di_list (DE.of (df_cat (DE.of (df_cat (de_of_var (pv 0)) (de_of_var (pv 0)))) (de_of_var (pv 0))))) (dg_name (i := 4) sc__law_wait.nd rfl (Or.inl rfl)) (dss_one (ds_if (db_cmp op_in_seq l_in (de_of_var (pv 1)) (de_ix (de_of_var (pv 4)) de_int (fun _ _ => rfl)) (by with_unfolding_all rfl)) (dss_cons (ds_if (DW.db (dw_and (db_cmp op_notN l_isnot (de_of_var (pv 3)) de_non (nomark _)) (dw_and1 (db_val (de_dn d__law_less hr rfl (da_cons (de_of_var (pv 2)) (da_cons (de_of_var (pv 3)) da_nil))))))) (dss_one (ds_set (i := 2) sc__law_wait.nd rfl (Or.inl rfl) (de_of_var (pv 3)))) dss_nil)
        (dss_one (ds_set (i := 3) sc__law_wait.nd rfl (Or.inl rfl) (de_tup (da_cons de_int (da_cons de_int da_nil)))))) (dss_one (ds_if (db_cmp op_notN l_isnot (de_of_var (pv 3)) de_non (nomark _)) (dss_one (ds_set (i := 3) sc__law_wait.nd rfl (Or.inl rfl) (de_dn d__law_sum hr rfl (da_cons (de_of_var (pv 3)) (da_cons (de_ix (de_of_var (pv 4)) de_int (fun _ _ => rfl)) da_nil))))) dss_nil)))))
        (dss_cons (ds_if (db_cmp op_isN l_is (de_of_var (pv 3)) de_non (nomark _)) (dss_one (ds_ret de_non)) dss_nil)
        (dss_one (ds_ret (de_of_var (pv 2)))))))), fun ds Q h => ?_⟩)
  obtain ⟨pl, st, rfl, hp, hs, k⟩ := h
  have hz : (60 : Nat) ≤ sizeLine := by decide
  have hl0 := hs.1
  walk_at "rd"
  refine ⟨by decide, by rw [List.length_map]; omega, by rw [List.length_append, List.length_map]; omega, ?_⟩
  refine ⟨_, pl ++ pl ++ pl, dPh, fun pre env => ∃ r : Option SV, env = [some (.sh (dPlan pl)), some (.sh (.int st)), some (.sh (dQ (lRun st (0, none) pre).1)), some (.sh (dO (lRun st (0, none) pre).2)), r] ∧ Sz (1 + 9 * pre.length) (lRun st (0, none) pre).1 ∧ ∀ y, (lRun st (0, none) pre).2 = some y → Sz (1 + 9 * pre.length) y, by simp, ⟨none, rfl, Sz.zero, fun y h => by cases h⟩, ?_, ?_⟩
  · rintro pre x post env e' ⟨r, rfl, z1, z2⟩
    have hl : pre.length ≤ 60 := by have h3 := congrArg List.length e'; simp at h3; omega
    have zx : Sz 8 x.2 := hs.2 x (by have : x ∈ pl ++ pl ++ pl := by rw [e']; simp
                                     simpa using this)
    have es : lRun st (0, none) (pre ++ [x]) = lStep st (lRun st (0, none) pre) x := by rw [lRun_app]; rfl
    have el : (pre ++ [x]).length = pre.length + 1 := by simp
    walk_at "rd"
    rw [es, el]
    generalize lRun st (0, none) pre = q at *
    obtain ⟨L, o⟩ := q
    unfold lStep
    refine ite2 (fun c => ?_) (fun c => ?_)
    · have c' : st ∈ x.1 := of_decide_eq_true c
      rw [if_pos c']
      cases o with
      | none =>
        refine iteF ?_
        refine ⟨by decide, _, rfl, z1.mono (by omega), fun y h => by cases h; exact Sz.zero.mono (by omega)⟩
      | some y =>
        refine iteT ?_
        have zy := z2 y rfl
        refine ⟨_, _, rfl, z1.mono (by omega), zy.mono (by omega), ?_⟩
        show if _ then _ else _
        unfold mx
        refine ite2 (fun c2 => ?_) (fun c2 => ?_)
        · have c3 : L < y := of_decide_eq_true c2
          simp only [if_pos c3]
          refine ⟨by decide, _, rfl, zy.mono (by omega), fun y h => by cases h; exact Sz.zero.mono (by omega)⟩
        · have c3 : ¬ L < y := of_decide_eq_false (Bool.eq_false_iff.mpr c2)
          simp only [if_neg c3]
          refine ⟨by decide, _, rfl, z1.mono (by omega), fun y h => by cases h; exact Sz.zero.mono (by omega)⟩
    · have c' : ¬ st ∈ x.1 := of_decide_eq_false (Bool.eq_false_iff.mpr c)
      rw [if_neg c']
      cases o with
      | none =>
        refine iteF ?_
        exact ⟨_, rfl, z1.mono (by omega), fun y h => by cases h⟩
      | some y =>
        refine iteT ?_
        have zy := z2 y rfl
        refine ⟨_, _, rfl, zy.mono (by omega), zx.mono (by decide), _, rfl, z1.mono (by omega), fun y' h => by cases h; exact (zy.add zx).mono (by omega)⟩
  · rintro env ⟨r, rfl, z1, z2⟩
    walk_at "rd"
    generalize lRun st (0, none) (pl ++ pl ++ pl) = q at *
    obtain ⟨L, o⟩ := q
    cases o with
    | none => exact iteT k
    | some y => exact iteF k
theorem ok_law (B : Bi mg) (d_longest_wait : Dn P w K mg base "longest_wait" ["plan", "stream"] 4 (spD K C tLongest)) (d__law_cell_at : Dn P w K mg base "_law_cell_at" ["script", "k"] 1 (spD K C tCell)) (d__law_fraction : Dn P w K mg base "_law_fraction" ["found", "due"] 2 (spD K C tFrac)) (d__law_plan : Dn P w K mg base "_law_plan" ["script", "start", "streams", "phases"] 2 (spF K C tLawPlan)) (d__law_wait : Dn P w K mg base "_law_wait" ["plan", "stream"] 3 (spD K C tLawWait)) (F : Fun K "law" "law" s_law f fd) :
    FnOk P w K mg base CX0 5 f fd ["script"] (spD K C tLaw) := by
  refine fn_e F sc_law (fun ds Q h => by obtain ⟨ns, rfl, hl, k⟩ := h; rfl) (fun cdv A outer s H E hr => ⟨_, (dss_cons (ds_setO (i := 1) sc_law.nd rfl (Or.inl rfl) (df_dn d__law_plan hr rfl (da_cons (de_of_var (pv 0)) (da_cons de_int (da_cons de_int (da_cons (de_add de_int (de_mod (de_dn d__law_cell_at hr rfl (da_cons (de_of_var (pv 0)) (da_cons de_int da_nil))) de_int)) da_nil))))))
        (dss_cons (ds_if (db_cmp op_eq l_eq (de_mod (de_dn d__law_cell_at hr rfl (da_cons (de_of_var (pv 0)) (da_cons de_int da_nil))) de_int) de_int (nomark _)) (dss_one (ds_put (ps_asg (de_tup (da_cons (de_tup (da_cons de_int (da_cons de_int (da_cons de_int (da_cons de_int (da_cons de_int (da_cons de_int da_nil))))))) (da_cons (de_ix (de_ixO (pv 1) de_int (fun _ _ => rfl)) de_int (fun _ _ => rfl)) da_nil))) (pg_sub (pv 1) de_int set_list)))) dss_nil)
        (dss_share 1 (dss_cons (ds_set (i := 2) sc_law.nd rfl (Or.inl rfl) (DE.of (df_callTy call_list_of l_list rfl B.b_list boot_list (da_cons (de_of_var (pv 1)) da_nil))))
        (dss_cons (ds_for PassesOwn.never rfl (di_range1 rfl B.b_range (da_cons de_int da_nil)) (dg_name (i := 3) sc_law.nd rfl (Or.inl rfl)) (dss_cons (ds_set (i := 4) sc_law.nd rfl (Or.inl rfl) (de_dn d__law_wait hr rfl (da_cons (de_of_var (pv 1)) (da_cons (de_of_var (pv 3)) da_nil))))
        (dss_cons (ds_set (i := 5) sc_law.nd rfl (Or.inl rfl) (de_dn d_longest_wait hr rfl (da_cons (de_of_var (pv 2)) (da_cons (de_of_var (pv 3)) da_nil))))
        (dss_cons (ds_if (DW.db (dw_and (db_cmp op_isN l_is (de_of_var (pv 4)) de_non (nomark _)) (dw_and1 (db_cmp op_notN l_isnot (de_of_var (pv 5)) de_non (nomark _))))) (dss_one (ds_ret de_bl)) dss_nil)
        (dss_one (ds_if (DW.db (dw_and (db_cmp op_notN l_isnot (de_of_var (pv 4)) de_non (nomark _)) (dw_and1 (db_not (db_val (de_dn d__law_fraction hr rfl (da_cons (de_of_var (pv 5)) (da_cons (de_of_var (pv 4)) da_nil)))))))) (dss_one (ds_ret de_bl)) dss_nil))))))
        (dss_one (ds_ret (de_cmp (op_eqD hr.units) l_eqD (de_of_var (pv 2)) (de_of_var (pv 1)) (nomark _))))))))), fun ds Q h => ?_⟩)
  obtain ⟨ns, rfl, hl, k⟩ := h
  walk_at "rd"
  refine ⟨ns, 0, rfl, by decide, by decide, ?_⟩
  obtain ⟨ph, hph⟩ : ∃ ph : Nat, 1 + cellAt ns 0 % 7 = ph := ⟨(1 + cellAt ns 0 % 7).toNat, by omega⟩
  have hp7 : 1 ≤ ph ∧ ph ≤ 7 := by omega
  rw [hph]
  refine ⟨ns, 2, 6, ph, rfl, by decide, by decide, by omega, ?_⟩
  have hlen := plan_len ns 2 6 ph
  have hn : planOf ns 2 6 ph ≠ [] := fun z => by rw [z] at hlen; simp at hlen; omega
  have hp := plan_pos ns 2 6 ph
  have hs := plan_small (ns := ns) (st := 2) (k := 6) (show ph ≤ 20 by omega)
  generalize planOf ns 2 6 ph = pl at *
  walk_at "rd"
  refine ⟨ns, 1, rfl, by decide, by decide, ?_⟩
  refine ite2 (fun c => ?g1) (fun c => ?g2)
  case' g1 =>
    rcases pl with _ | ⟨p0, pl⟩
    · exact absurd rfl hn
    have hp' : AllPos (([0, 1, 2, 3, 4, 5], p0.2) :: pl) := fun x hx => by
      rcases List.mem_cons.mp hx with rfl | h
      · exact hp p0 List.mem_cons_self
      · exact hp x (List.mem_cons_of_mem _ h)
    have hs' : Small (([0, 1, 2, 3, 4, 5], p0.2) :: pl) := ⟨hs.1, fun x hx => by
      rcases List.mem_cons.mp hx with rfl | h
      · exact hs.2 p0 List.mem_cons_self
      · exact hs.2 x (List.mem_cons_of_mem _ h)⟩
    simp only [List.map_cons, atI0, rdIx_P1, List.length_cons, ixN0]
    refine ⟨by decide, by decide, 0, rfl, ?_⟩
    change dFor _ _ _ _ [some (SV.sh (D.scr ns)), some (SV.sh (D.lst (List.map dPh (([0, 1, 2, 3, 4, 5], p0.2) :: pl)))), some (SV.sh (D.lst (List.map dPh (([0, 1, 2, 3, 4, 5], p0.2) :: pl)))), none, none, none]
    clear hp hs hlen hn
    generalize (([0, 1, 2, 3, 4, 5], p0.2) :: pl : Plan) = pl at hp' hs' ⊢
    rename AllPos _ => hp
    rename Small _ => hs
  all_goals
    refine ⟨by decide, by decide, ?_⟩
    refine ⟨Nat, List.range 6, fun i => .int (0 + (i : Nat)), fun _ env => ∃ r1 r2 r3 : Option SV, env = [some (.sh (.scr ns)), some (.sh (dPlan pl)), some (.sh (dPlan pl)), r1, r2, r3], rfl, ⟨_, _, _, rfl⟩, ?_, ?_⟩
    · rintro pre x post env e ⟨r1, r2, r3, rfl⟩
      walk_at "rd"
      refine ⟨pl, (x : Int), rfl, hp, hs, ?_⟩
      walk_at "rd"
      refine ⟨pl, (x : Int), rfl, hp, hs, fun a ph b e' ha hon => ?_, fun hoff => ?_⟩
      · obtain ⟨y, ey⟩ := law_wait (e' ▸ hp) ha hon
        rw [← e'] at ey
        rw [ey]
        refine iteF ?_
        refine iteT ?_
        refine ⟨_, rfl, ?_⟩
        walk_at "rd"
        exact ⟨_, _, _, rfl⟩
      · rw [law_never hoff]
        refine iteT ?_
        refine iteF ?_
        refine iteF ?_
        exact ⟨_, _, _, rfl⟩
    · rintro env ⟨r1, r2, r3, rfl⟩
      walk_at "rd"
      refine ⟨ok_Plan pl, ok_Plan pl, ?_⟩
      have er := eqD_refl 3 _ (ok_Plan (n := 0) pl)
      unfold dPlan at er
      rw [er]
      exact k
end
theorem all_mk {l : PySem.W.OpenLaw} {w : World} {K : PySem.W.Frag} {h : Heap} {mg : Str → Option Value} {fa f0 f1 f2 f3 f4 f5 f6 f7 f8 f9 f10 f11 f12 f13 f14 f15 n_NOUGHT : Addr} (X : K.In h) (G : h.Ns mainGlobals mg) (hfa : mg "law" = some (.ref fa))
    {od0 an0 od1 an1 od2 an2 od3 an3 od4 an4 od5 an5 od6 an6 od7 an7 od8 an8 od9 an9 od10 an10 od11 an11 od12 an12 od13 an13 od14 an14 od15 an15 : Option Addr} {sl0 sl1 sl2 sl3 sl4 sl5 sl6 sl7 sl8 sl9 sl10 sl11 sl12 sl13 sl14 sl15 : Array (Option Value)} {oc0 kV0 dc0 pm0 cd0 ct0 oc1 kV1 dc1 pm1 cd1 ct1 oc2 kV2 dc2 pm2 cd2 ct2 oc3 kV3 dc3 pm3 cd3 ct3 oc4 kV4 dc4 pm4 cd4 ct4 oc5 kV5 dc5 pm5 cd5 ct5 oc6 kV6 dc6 pm6 cd6 ct6 oc7 kV7 dc7 pm7 cd7 ct7 oc8 kV8 dc8 pm8 cd8 ct8 oc9 kV9 dc9 pm9 cd9 ct9 oc10 kV10 dc10 pm10 cd10 ct10 oc11 kV11 dc11 pm11 cd11 ct11 oc12 kV12 dc12 pm12 cd12 ct12 oc13 kV13 dc13 pm13 cd13 ct13 oc14 kV14 dc14 pm14 cd14 ct14 oc15 kV15 dc15 pm15 cd15 ct15 : Value}
    {t_NOUGHT_0 t_NOUGHT_1 : Tok} {nn_NOUGHT : Nat} {on_NOUGHT : Option Addr} {sn_NOUGHT : Array (Option Value)} (aN_NOUGHT : PySem.W.nsIn K mainGlobals "NOUGHT" = some (some (.ref n_NOUGHT))) (lN_NOUGHT : K.lookup n_NOUGHT = some ⟨.type "tuple", on_NOUGHT, .seq #[.int 0 t_NOUGHT_0, .int 1 t_NOUGHT_1] nn_NOUGHT, sn_NOUGHT⟩)
    (a0 : PySem.W.nsIn K mainGlobals "common_divisor" = some (some (.ref f0))) (l0 : K.lookup f0 = some ⟨oc0, od0, .func (PySem.W.fnOf "common_divisor" "common_divisor" (defArgs s_common_divisor) (defBody s_common_divisor) (defScope s_common_divisor) .none kV0 dc0 pm0 an0 cd0 ct0), sl0⟩) (c0 : PySem.W.codeIn K cd0 "common_divisor" = true) (k0 : PySem.W.keepIn K (.ref f0) = true)
    (a1 : PySem.W.nsIn K mainGlobals "lowest" = some (some (.ref f1))) (l1 : K.lookup f1 = some ⟨oc1, od1, .func (PySem.W.fnOf "lowest" "lowest" (defArgs s_lowest) (defBody s_lowest) (defScope s_lowest) .none kV1 dc1 pm1 an1 cd1 ct1), sl1⟩) (c1 : PySem.W.codeIn K cd1 "lowest" = true) (k1 : PySem.W.keepIn K (.ref f1) = true)
    (a2 : PySem.W.nsIn K mainGlobals "plus" = some (some (.ref f2))) (l2 : K.lookup f2 = some ⟨oc2, od2, .func (PySem.W.fnOf "plus" "plus" (defArgs s_plus) (defBody s_plus) (defScope s_plus) .none kV2 dc2 pm2 an2 cd2 ct2), sl2⟩) (c2 : PySem.W.codeIn K cd2 "plus" = true) (k2 : PySem.W.keepIn K (.ref f2) = true)
    (a3 : PySem.W.nsIn K mainGlobals "less" = some (some (.ref f3))) (l3 : K.lookup f3 = some ⟨oc3, od3, .func (PySem.W.fnOf "less" "less" (defArgs s_less) (defBody s_less) (defScope s_less) .none kV3 dc3 pm3 an3 cd3 ct3), sl3⟩) (c3 : PySem.W.codeIn K cd3 "less" = true) (k3 : PySem.W.keepIn K (.ref f3) = true)
    (a4 : PySem.W.nsIn K mainGlobals "from_green" = some (some (.ref f4))) (l4 : K.lookup f4 = some ⟨oc4, od4, .func (PySem.W.fnOf "from_green" "from_green" (defArgs s_from_green) (defBody s_from_green) (defScope s_from_green) .none kV4 dc4 pm4 an4 cd4 ct4), sl4⟩) (c4 : PySem.W.codeIn K cd4 "from_green" = true) (k4 : PySem.W.keepIn K (.ref f4) = true)
    (a5 : PySem.W.nsIn K mainGlobals "longest_wait" = some (some (.ref f5))) (l5 : K.lookup f5 = some ⟨oc5, od5, .func (PySem.W.fnOf "longest_wait" "longest_wait" (defArgs s_longest_wait) (defBody s_longest_wait) (defScope s_longest_wait) .none kV5 dc5 pm5 an5 cd5 ct5), sl5⟩) (c5 : PySem.W.codeIn K cd5 "longest_wait" = true) (k5 : PySem.W.keepIn K (.ref f5) = true)
    (a6 : PySem.W.nsIn K mainGlobals "_law_cell_at" = some (some (.ref f6))) (l6 : K.lookup f6 = some ⟨oc6, od6, .func (PySem.W.fnOf "_law_cell_at" "_law_cell_at" (defArgs s__law_cell_at) (defBody s__law_cell_at) (defScope s__law_cell_at) .none kV6 dc6 pm6 an6 cd6 ct6), sl6⟩) (c6 : PySem.W.codeIn K cd6 "_law_cell_at" = true) (k6 : PySem.W.keepIn K (.ref f6) = true)
    (a7 : PySem.W.nsIn K mainGlobals "_law_low" = some (some (.ref f7))) (l7 : K.lookup f7 = some ⟨oc7, od7, .func (PySem.W.fnOf "_law_low" "_law_low" (defArgs s__law_low) (defBody s__law_low) (defScope s__law_low) .none kV7 dc7 pm7 an7 cd7 ct7), sl7⟩) (c7 : PySem.W.codeIn K cd7 "_law_low" = true) (k7 : PySem.W.keepIn K (.ref f7) = true)
    (a8 : PySem.W.nsIn K mainGlobals "_law_sum" = some (some (.ref f8))) (l8 : K.lookup f8 = some ⟨oc8, od8, .func (PySem.W.fnOf "_law_sum" "_law_sum" (defArgs s__law_sum) (defBody s__law_sum) (defScope s__law_sum) .none kV8 dc8 pm8 an8 cd8 ct8), sl8⟩) (c8 : PySem.W.codeIn K cd8 "_law_sum" = true) (k8 : PySem.W.keepIn K (.ref f8) = true)
    (a9 : PySem.W.nsIn K mainGlobals "_law_less" = some (some (.ref f9))) (l9 : K.lookup f9 = some ⟨oc9, od9, .func (PySem.W.fnOf "_law_less" "_law_less" (defArgs s__law_less) (defBody s__law_less) (defScope s__law_less) .none kV9 dc9 pm9 an9 cd9 ct9), sl9⟩) (c9 : PySem.W.codeIn K cd9 "_law_less" = true) (k9 : PySem.W.keepIn K (.ref f9) = true)
    (a10 : PySem.W.nsIn K mainGlobals "_law_whole" = some (some (.ref f10))) (l10 : K.lookup f10 = some ⟨oc10, od10, .func (PySem.W.fnOf "_law_whole" "_law_whole" (defArgs s__law_whole) (defBody s__law_whole) (defScope s__law_whole) .none kV10 dc10 pm10 an10 cd10 ct10), sl10⟩) (c10 : PySem.W.codeIn K cd10 "_law_whole" = true) (k10 : PySem.W.keepIn K (.ref f10) = true)
    (a11 : PySem.W.nsIn K mainGlobals "_law_fraction" = some (some (.ref f11))) (l11 : K.lookup f11 = some ⟨oc11, od11, .func (PySem.W.fnOf "_law_fraction" "_law_fraction" (defArgs s__law_fraction) (defBody s__law_fraction) (defScope s__law_fraction) .none kV11 dc11 pm11 an11 cd11 ct11), sl11⟩) (c11 : PySem.W.codeIn K cd11 "_law_fraction" = true) (k11 : PySem.W.keepIn K (.ref f11) = true)
    (a12 : PySem.W.nsIn K mainGlobals "_law_bits" = some (some (.ref f12))) (l12 : K.lookup f12 = some ⟨oc12, od12, .func (PySem.W.fnOf "_law_bits" "_law_bits" (defArgs s__law_bits) (defBody s__law_bits) (defScope s__law_bits) .none kV12 dc12 pm12 an12 cd12 ct12), sl12⟩) (c12 : PySem.W.codeIn K cd12 "_law_bits" = true) (k12 : PySem.W.keepIn K (.ref f12) = true)
    (a13 : PySem.W.nsIn K mainGlobals "_law_plan" = some (some (.ref f13))) (l13 : K.lookup f13 = some ⟨oc13, od13, .func (PySem.W.fnOf "_law_plan" "_law_plan" (defArgs s__law_plan) (defBody s__law_plan) (defScope s__law_plan) .none kV13 dc13 pm13 an13 cd13 ct13), sl13⟩) (c13 : PySem.W.codeIn K cd13 "_law_plan" = true) (k13 : PySem.W.keepIn K (.ref f13) = true)
    (a14 : PySem.W.nsIn K mainGlobals "_law_wait" = some (some (.ref f14))) (l14 : K.lookup f14 = some ⟨oc14, od14, .func (PySem.W.fnOf "_law_wait" "_law_wait" (defArgs s__law_wait) (defBody s__law_wait) (defScope s__law_wait) .none kV14 dc14 pm14 an14 cd14 ct14), sl14⟩) (c14 : PySem.W.codeIn K cd14 "_law_wait" = true) (k14 : PySem.W.keepIn K (.ref f14) = true)
    (a15 : PySem.W.nsIn K mainGlobals "law" = some (some (.ref f15))) (l15 : K.lookup f15 = some ⟨oc15, od15, .func (PySem.W.fnOf "law" "law" (defArgs s_law) (defBody s_law) (defScope s_law) .none kV15 dc15 pm15 an15 cd15 ct15), sl15⟩) (c15 : PySem.W.codeIn K cd15 "law" = true) (k15 : PySem.W.keepIn K (.ref f15) = true)
    (z_abs : PySem.W.nsIn K mainGlobals "abs" = some none)
    (z_bool : PySem.W.nsIn K mainGlobals "bool" = some none)
    (z_enumerate : PySem.W.nsIn K mainGlobals "enumerate" = some none)
    (z_int : PySem.W.nsIn K mainGlobals "int" = some none)
    (z_isinstance : PySem.W.nsIn K mainGlobals "isinstance" = some none)
    (z_len : PySem.W.nsIn K mainGlobals "len" = some none)
    (z_list : PySem.W.nsIn K mainGlobals "list" = some none)
    (z_range : PySem.W.nsIn K mainGlobals "range" = some none)
    (z_tuple : PySem.W.nsIn K mainGlobals "tuple" = some none)
    : ∃ fd : FuncData, (∀ (s : Shared) (v : Value), BindsTo s fd ⟨[v], []⟩ [("script", v)]) ∧ ∀ base : Heap, K.In base → base.Ns mainGlobals mg → FnOk l.prog w K mg base CX0 5 fa fd ["script"] (spLaw K) := by
  have e := hfa.symm.trans (PySem.W.mg_of X G a15)
  cases e
  have B : Bi mg := ⟨PySem.W.mg_none_of X G z_abs, PySem.W.mg_none_of X G z_bool, PySem.W.mg_none_of X G z_enumerate, PySem.W.mg_none_of X G z_int, PySem.W.mg_none_of X G z_isinstance, PySem.W.mg_none_of X G z_len, PySem.W.mg_none_of X G z_list, PySem.W.mg_none_of X G z_range, PySem.W.mg_none_of X G z_tuple⟩
  have g_NOUGHT : GTup K mg "NOUGHT" [0, 1] := ⟨n_NOUGHT, PySem.W.mg_of X G aN_NOUGHT, fun H => .inr ⟨_, _, _, lN_NOUGHT, rfl, rfl, (by show 2 ≤ sizeLine; decide), .cons ⟨_, rfl⟩ (.cons ⟨_, rfl⟩ .nil)⟩⟩
  have F0 := fun_mk (st := s_common_divisor) l0 c0 k0
  have b0 := F0.binds (ps := ["one", "other"]) fun _ _ _ _ _ _ us hl => match us, hl with | [_, _], _ => rfl
  have F1 := fun_mk (st := s_lowest) l1 c1 k1
  have b1 := F1.binds (ps := ["top", "bottom"]) fun _ _ _ _ _ _ us hl => match us, hl with | [_, _], _ => rfl
  have F2 := fun_mk (st := s_plus) l2 c2 k2
  have b2 := F2.binds (ps := ["one", "other"]) fun _ _ _ _ _ _ us hl => match us, hl with | [_, _], _ => rfl
  have F3 := fun_mk (st := s_less) l3 c3 k3
  have b3 := F3.binds (ps := ["one", "other"]) fun _ _ _ _ _ _ us hl => match us, hl with | [_, _], _ => rfl
  have F4 := fun_mk (st := s_from_green) l4 c4 k4
  have b4 := F4.binds (ps := ["plan", "stream"]) fun _ _ _ _ _ _ us hl => match us, hl with | [_, _], _ => rfl
  have F5 := fun_mk (st := s_longest_wait) l5 c5 k5
  have b5 := F5.binds (ps := ["plan", "stream"]) fun _ _ _ _ _ _ us hl => match us, hl with | [_, _], _ => rfl
  have F6 := fun_mk (st := s__law_cell_at) l6 c6 k6
  have b6 := F6.binds (ps := ["script", "k"]) fun _ _ _ _ _ _ us hl => match us, hl with | [_, _], _ => rfl
  have F7 := fun_mk (st := s__law_low) l7 c7 k7
  have b7 := F7.binds (ps := ["top", "bottom"]) fun _ _ _ _ _ _ us hl => match us, hl with | [_, _], _ => rfl
  have F8 := fun_mk (st := s__law_sum) l8 c8 k8
  have b8 := F8.binds (ps := ["one", "other"]) fun _ _ _ _ _ _ us hl => match us, hl with | [_, _], _ => rfl
  have F9 := fun_mk (st := s__law_less) l9 c9 k9
  have b9 := F9.binds (ps := ["one", "other"]) fun _ _ _ _ _ _ us hl => match us, hl with | [_, _], _ => rfl
  have F10 := fun_mk (st := s__law_whole) l10 c10 k10
  have b10 := F10.binds (ps := ["found"]) fun _ _ _ _ _ _ us hl => match us, hl with | [_], _ => rfl
  have F11 := fun_mk (st := s__law_fraction) l11 c11 k11
  have b11 := F11.binds (ps := ["found", "due"]) fun _ _ _ _ _ _ us hl => match us, hl with | [_, _], _ => rfl
  have F12 := fun_mk (st := s__law_bits) l12 c12 k12
  have b12 := F12.binds (ps := ["number", "streams"]) fun _ _ _ _ _ _ us hl => match us, hl with | [_, _], _ => rfl
  have F13 := fun_mk (st := s__law_plan) l13 c13 k13
  have b13 := F13.binds (ps := ["script", "start", "streams", "phases"]) fun _ _ _ _ _ _ us hl => match us, hl with | [_, _, _, _], _ => rfl
  have F14 := fun_mk (st := s__law_wait) l14 c14 k14
  have b14 := F14.binds (ps := ["plan", "stream"]) fun _ _ _ _ _ _ us hl => match us, hl with | [_, _], _ => rfl
  have F15 := fun_mk (st := s_law) l15 c15 k15
  have b15 := F15.binds (ps := ["script"]) fun _ _ _ _ _ _ us hl => match us, hl with | [_], _ => rfl
  refine ⟨PySem.W.fnOf "law" "law" (defArgs s_law) (defBody s_law) (defScope s_law) .none kV15 dc15 pm15 an15 cd15 ct15, fun s v => .of_eq rfl, fun base _ _ => ?_⟩
  have d_common_divisor : Dn l.prog w K mg base "common_divisor" ["one", "other"] 1 (spD K 0 tCd) := ⟨_, _, ok_common_divisor (C := 0) B F0, PySem.W.mg_of X G a0, k0, b0⟩
  have d_lowest : Dn l.prog w K mg base "lowest" ["top", "bottom"] 2 (spD K 0 tLowest) := ⟨_, _, ok_lowest (C := 0) B d_common_divisor F1, PySem.W.mg_of X G a1, k1, b1⟩
  have d_plus : Dn l.prog w K mg base "plus" ["one", "other"] 3 (spD K 0 tPlus) := ⟨_, _, ok_plus (C := 0) B d_lowest F2, PySem.W.mg_of X G a2, k2, b2⟩
  have d_less : Dn l.prog w K mg base "less" ["one", "other"] 1 (spD K 0 tLess) := ⟨_, _, ok_less (C := 0) B F3, PySem.W.mg_of X G a3, k3, b3⟩
  have d_from_green : Dn l.prog w K mg base "from_green" ["plan", "stream"] 1 (spD K 0 tFromGreen) := ⟨_, _, ok_from_green (C := 0) B F4, PySem.W.mg_of X G a4, k4, b4⟩
  have d_longest_wait : Dn l.prog w K mg base "longest_wait" ["plan", "stream"] 4 (spD K 0 tLongest) := ⟨_, _, ok_longest_wait (C := 0) B g_NOUGHT d_plus d_less d_from_green F5, PySem.W.mg_of X G a5, k5, b5⟩
  have d__law_cell_at : Dn l.prog w K mg base "_law_cell_at" ["script", "k"] 1 (spD K 0 tCell) := ⟨_, _, ok__law_cell_at (C := 0) B F6, PySem.W.mg_of X G a6, k6, b6⟩
  have d__law_low : Dn l.prog w K mg base "_law_low" ["top", "bottom"] 1 (spD K 0 tLow) := ⟨_, _, ok__law_low (C := 0) B F7, PySem.W.mg_of X G a7, k7, b7⟩
  have d__law_sum : Dn l.prog w K mg base "_law_sum" ["one", "other"] 2 (spD K 0 tPlus) := ⟨_, _, ok__law_sum (C := 0) B d__law_low F8, PySem.W.mg_of X G a8, k8, b8⟩
  have d__law_less : Dn l.prog w K mg base "_law_less" ["one", "other"] 1 (spD K 0 tLess) := ⟨_, _, ok__law_less (C := 0) B F9, PySem.W.mg_of X G a9, k9, b9⟩
  have d__law_whole : Dn l.prog w K mg base "_law_whole" ["found"] 1 (spD K 0 tIsWhole) := ⟨_, _, ok__law_whole (C := 0) B F10, PySem.W.mg_of X G a10, k10, b10⟩
  have d__law_fraction : Dn l.prog w K mg base "_law_fraction" ["found", "due"] 2 (spD K 0 tFrac) := ⟨_, _, ok__law_fraction (C := 0) B d__law_whole F11, PySem.W.mg_of X G a11, k11, b11⟩
  have d__law_bits : Dn l.prog w K mg base "_law_bits" ["number", "streams"] 1 (spD K 0 tBits) := ⟨_, _, ok__law_bits (C := 0) B F12, PySem.W.mg_of X G a12, k12, b12⟩
  have d__law_plan : Dn l.prog w K mg base "_law_plan" ["script", "start", "streams", "phases"] 2 (spF K 0 tLawPlan) := ⟨_, _, ok__law_plan (C := 0) B d__law_cell_at d__law_low d__law_bits F13, PySem.W.mg_of X G a13, k13, b13⟩
  have d__law_wait : Dn l.prog w K mg base "_law_wait" ["plan", "stream"] 3 (spD K 0 tLawWait) := ⟨_, _, ok__law_wait (C := 0) B d__law_sum d__law_less F14, PySem.W.mg_of X G a14, k14, b14⟩
  exact law_imp (ok_law (C := 0) B d_longest_wait d__law_cell_at d__law_fraction d__law_plan d__law_wait F15)
theorem walk {l : PySem.W.OpenLaw} {q : Program} {loose : List Str} {XP : (Str → Option Value) → Heap → Prop} {YP : World → Heap → Prop} {d : DefRec} {K : Params → PySem.W.Frag} (hn : l.most = some 63) (hdf : d.params.defaults = [])
    (hY : ∀ (w : World) (h : Heap), YP w h → (K w.params).In h)
    (F : ∀ (w : World) (mg : Str → Option Value) (fa : Addr) (h : Heap), (K w.params).In h → h.Ns mainGlobals mg → mg d.name = some (.ref fa) →
      ∃ fd : FuncData, (∀ (s : Shared) (u : Value), BindsTo s fd ⟨[u], []⟩ [("script", u)]) ∧ ∀ base : Heap, (K w.params).In base → base.Ns mainGlobals mg → FnOk l.prog w (K w.params) mg base CX0 5 fa fd ["script"] (spLaw (K w.params))) :
    PySem.W.WalkO q loose XP YP l.row.toRowW d [] (fun f vs => PySem.call f vs) :=
  L2.walk_of (n := 63) (k := 5) (x := "script") (CX := fun _ => CX0) (sp := fun w => spLaw (K w.params)) hn (by decide) hdf ⟨rfl, by decide, by decide⟩ hY F (fun _ _ a ns hl _ hS => law_start hl hS) fun _ _ _ _ _ z => z
end K05
open PySem PySem.W PyProof.Rows
set_option maxRecDepth 100000 in
set_option maxHeartbeats 0 in
theorem PySem.Challenge.cw_greenturns_k05_the_longest_wait_holds : PySem.Challenge.rw_greenturns_k05_the_longest_wait.Holds := by
  w_on; o_law; k_head; (case hw => w_witness2)
  k_fill
  refine K05.walk (l := PySem.Challenge.rw_greenturns_k05_the_longest_wait) rfl rfl (fun w h Y => PySem.W.kIn_of Y) ?F
  case F =>
    intro w mg fa h KX G hmg
    refine' K05.all_mk KX G hmg ?aN_NOUGHT ?lN_NOUGHT ?a0 ?l0 ?c0 ?k0 ?a1 ?l1 ?c1 ?k1 ?a2 ?l2 ?c2 ?k2 ?a3 ?l3 ?c3 ?k3 ?a4 ?l4 ?c4 ?k4 ?a5 ?l5 ?c5 ?k5 ?a6 ?l6 ?c6 ?k6 ?a7 ?l7 ?c7 ?k7 ?a8 ?l8 ?c8 ?k8 ?a9 ?l9 ?c9 ?k9 ?a10 ?l10 ?c10 ?k10 ?a11 ?l11 ?c11 ?k11 ?a12 ?l12 ?c12 ?k12 ?a13 ?l13 ?c13 ?k13 ?a14 ?l14 ?c14 ?k14 ?a15 ?l15 ?c15 ?k15 ?z_abs ?z_bool ?z_enumerate ?z_int ?z_isinstance ?z_len ?z_list ?z_range ?z_tuple
    (case aN_NOUGHT => k_is)
    (case lN_NOUGHT => k_is)
    (case a0 => k_is)
    (case l0 => k_is)
    (case c0 => k_is)
    (case k0 => k_is)
    (case a1 => k_is)
    (case l1 => k_is)
    (case c1 => k_is)
    (case k1 => k_is)
    (case a2 => k_is)
    (case l2 => k_is)
    (case c2 => k_is)
    (case k2 => k_is)
    (case a3 => k_is)
    (case l3 => k_is)
    (case c3 => k_is)
    (case k3 => k_is)
    (case a4 => k_is)
    (case l4 => k_is)
    (case c4 => k_is)
    (case k4 => k_is)
    (case a5 => k_is)
    (case l5 => k_is)
    (case c5 => k_is)
    (case k5 => k_is)
    (case a6 => k_is)
    (case l6 => k_is)
    (case c6 => k_is)
    (case k6 => k_is)
    (case a7 => k_is)
    (case l7 => k_is)
    (case c7 => k_is)
    (case k7 => k_is)
    (case a8 => k_is)
    (case l8 => k_is)
    (case c8 => k_is)
    (case k8 => k_is)
    (case a9 => k_is)
    (case l9 => k_is)
    (case c9 => k_is)
    (case k9 => k_is)
    (case a10 => k_is)
    (case l10 => k_is)
    (case c10 => k_is)
    (case k10 => k_is)
    (case a11 => k_is)
    (case l11 => k_is)
    (case c11 => k_is)
    (case k11 => k_is)
    (case a12 => k_is)
    (case l12 => k_is)
    (case c12 => k_is)
    (case k12 => k_is)
    (case a13 => k_is)
    (case l13 => k_is)
    (case c13 => k_is)
    (case k13 => k_is)
    (case a14 => k_is)
    (case l14 => k_is)
    (case c14 => k_is)
    (case k14 => k_is)
    (case a15 => k_is)
    (case l15 => k_is)
    (case c15 => k_is)
    (case k15 => k_is)
    (case z_abs => k_is)
    (case z_bool => k_is)
    (case z_enumerate => k_is)
    (case z_int => k_is)
    (case z_isinstance => k_is)
    (case z_len => k_is)
    (case z_list => k_is)
    (case z_range => k_is)
    (case z_tuple => k_is)
