import PyProof.Rows.All
import Wide.All
import OpenK.AllK
import Wide.FinOn
import Lean
import PyProof.EqAt
import PyProof.EqKinds
import PyProof.TupleCall
import PyProof.SetKind
import PyProof.TupleKey
import PyProof.DictKinds
import PyProof.SetRoads
import PyProof.WalksS
import PyProof.Walks
import PyProof.CollectIter
import PyProof.Rows.SetFrom
import KE.KTurns
import PyProof.ListRange
import KE.KRevIter
import KE.KTryMore
import PyProof.Rows.MatchSeqLen
import PyProof.StrCalls2
import PyProof.StrCalls3
import PyProof.SliceStr2
import PyProof.Rows.Range3
import PyProof.Rows.StrJoin2
import PySem.Challenge.RW_greenturns_k10_texts_read
-- CHANGE: your row's module here, as the last of these rows
set_option Elab.async false
set_option linter.all false
set_option maxRecDepth 100000
/-! THE HAND LAYER, for ints, bools, texts, own classes, LISTS and tuples (index, slices, in, append, pop ..), calls, loops. Paste it whole ahead of your own text; what your proof does not reach may be deleted. -/
namespace L2
open PySem PySem.Spec PyProof.Rows

/-- a key: an int or a str -/
abbrev Key := Sum Int Str
def keyIs : Key → Value → Bool
  | .inl k, v => Value.isInt k v
  | .inr x, v => Value.isStrOf x v
def keyH (w : World) : Key → Int
  | .inl k => hashInt k
  | .inr x => hashStr w x
theorem keyIs_shape : ∀ {k : Key} {v : Value}, keyIs k v = true → (∃ i t, k = Sum.inl i ∧ v = Value.int i t) ∨ (∃ x t, k = Sum.inr x ∧ v = Value.str x t)
  | .inl i, v, h => by
    obtain ⟨t, e⟩ := Value.isInt_shape (k := i) (v := v) h
    exact .inl ⟨i, t, rfl, e⟩
  | .inr x, v, h => by
    obtain ⟨t, e⟩ := Value.isStrOf_shape (x := x) (v := v) h
    exact .inr ⟨x, t, rfl, e⟩
theorem key_ll (a b : Int) : decide ((Sum.inl a : Key) = Sum.inl b) = (a == b) := by
  by_cases e : a = b
  · subst e; simp
  · have h : ¬ (Sum.inl a : Key) = Sum.inl b := fun q => e (Sum.inl.inj q)
    rw [decide_eq_false h]
    exact (beq_eq_false_iff_ne.mpr e).symm
theorem key_rr (a b : Str) : decide ((Sum.inr a : Key) = Sum.inr b) = decide (a = b) := by
  by_cases e : a = b
  · subst e; simp
  · have h : ¬ (Sum.inr a : Key) = Sum.inr b := fun q => e (Sum.inr.inj q)
    rw [decide_eq_false h, decide_eq_false e]
theorem key_lr (a : Int) (b : Str) : decide ((Sum.inl a : Key) = Sum.inr b) = false := decide_eq_false (fun q => nomatch q)
theorem key_rl (a : Str) (b : Int) : decide ((Sum.inr a : Key) = Sum.inl b) = false := decide_eq_false (fun q => nomatch q)

def mixKind (prog : Program) (w : World) : PySem.KeyKind prog w Key where
  is := keyIs
  hash := keyH w
  inj := fun v a b ha hb => by
    rcases keyIs_shape ha with ⟨i, t, rfl, rfl⟩ | ⟨x, t, rfl, rfl⟩
    · rcases keyIs_shape hb with ⟨j, u, rfl, e⟩ | ⟨y, u, rfl, e⟩
      · injection e with e1 _; rw [e1]
      · exact nomatch e
    · rcases keyIs_shape hb with ⟨j, u, rfl, e⟩ | ⟨y, u, rfl, e⟩
      · exact nomatch e
      · injection e with e1 _; rw [e1]
  byValue := fun k v h => by
    rcases keyIs_shape h with ⟨i, t, rfl, rfl⟩ | ⟨x, t, rfl, rfl⟩ <;> rfl
  pyHash := fun hv h => by
    rcases keyIs_shape hv with ⟨i, t, rfl, rfl⟩ | ⟨x, t, rfl, rfl⟩
    · exact wpAny_pyHash_int h
    · exact wpAny_pyHash_str h
  eqBool := fun hu hv h => by
    rcases keyIs_shape hu with ⟨i, t, rfl, rfl⟩ | ⟨x, t, rfl, rfl⟩
    · rcases keyIs_shape hv with ⟨j, u, rfl, rfl⟩ | ⟨y, u, rfl, rfl⟩
      · rw [key_ll] at h; exact wpAny_eqBool_int h
      · rw [key_lr] at h; exact SeqAt.EqAt.int_str i t y u _ _ _ _ h
    · rcases keyIs_shape hv with ⟨j, u, rfl, rfl⟩ | ⟨y, u, rfl, rfl⟩
      · rw [key_rl] at h; exact SeqAt.EqAt.str_int x t j u _ _ _ _ h
      · rw [key_rr] at h; exact wpAny_eqBool_str h
  «strs» := fun k x t v h => by
    rcases keyIs_shape h with ⟨i, u, rfl, e⟩ | ⟨y, u, rfl, e⟩
    · exact nomatch e
    · injection e with e1 _
      subst e1
      cases v <;> rfl

end L2

namespace L2
open PySem PySem.Spec PyProof.Rows

/-- a value, without the heap -/
inductive V where
  | non | bl (b : Bool) | int (i : Int) | str (x : Str) | byt (b : Array UInt8) | flt (b : UInt64) | ref (a : Addr) | ty (n : String)
  deriving DecidableEq

def RelV : V → Value → Prop
  | .non, u => u = Value.none
  | .bl b, u => u = Value.bool b
  | .int i, u => ∃ t, u = Value.int i t
  | .str x, u => ∃ t, u = Value.str x t
  | .byt b, u => ∃ t, u = Value.bytes b t
  | .flt b, u => ∃ t, u = Value.float b t
  | .ref a, u => u = Value.ref a
  | .ty n, u => u = Value.type n

abbrev Vals : List V → List Value → Prop := Paired RelV
theorem Vals.length {xs : List V} {us : List Value} (r : Vals xs us) : xs.length = us.length := Paired.length r
theorem Vals.get : ∀ {xs : List V} {us : List Value} {i : Nat} {x : V}, Vals xs us → xs[i]? = some x → ∃ u, us[i]? = some u ∧ RelV x u
  | _, _, _, _, .nil, e => by simp at e
  | _, _, 0, _, .cons r _, e => by simp at e; subst e; exact ⟨_, rfl, r⟩
  | _, _, i + 1, x, .cons _ t, e => by
    obtain ⟨u, h1, h2⟩ := Vals.get (i := i) (x := x) t (by simpa using e)
    exact ⟨u, by simpa using h1, h2⟩
theorem Vals.set {x : V} {u : Value} (r : RelV x u) : ∀ {xs : List V} {us : List Value} (i : Nat), Vals xs us → Vals (xs.set i x) (us.set i u)
  | _, _, _, .nil => .nil
  | _, _, 0, .cons _ t => .cons r t
  | _, _, i + 1, .cons q t => .cons q (Vals.set r i t)
theorem Vals.append : ∀ {xs ys : List V} {us ws : List Value}, Vals xs us → Vals ys ws → Vals (xs ++ ys) (us ++ ws)
  | _, _, _, _, .nil, s => s
  | _, _, _, _, .cons r t, s => .cons r (Vals.append t s)
theorem Vals.take : ∀ {xs : List V} {us : List Value} (n : Nat), Vals xs us → Vals (xs.take n) (us.take n)
  | _, _, 0, _ => .nil
  | _, _, _ + 1, .nil => .nil
  | _, _, n + 1, .cons r t => .cons r (Vals.take n t)
theorem Vals.drop : ∀ {xs : List V} {us : List Value} (n : Nat), Vals xs us → Vals (xs.drop n) (us.drop n)
  | _, _, 0, r => r
  | _, _, _ + 1, .nil => .nil
  | _, _, n + 1, .cons _ t => Vals.drop n t
theorem Vals.none_of : ∀ {xs : List V} {us : List Value} {i : Nat}, Vals xs us → xs[i]? = none → us[i]? = none := fun {xs us i} r e => by
  have h1 := r.length
  have h2 : xs.length ≤ i := List.getElem?_eq_none_iff.mp e
  exact List.getElem?_eq_none_iff.mpr (by omega)

def RelO : Option V → Option Value → Prop
  | some v, some u => RelV v u
  | none, none => True
  | _, _ => False
def KV {κ : Type} : List (κ × V) → List (κ × Value) → Prop := Paired fun (p : κ × V) (q : κ × Value) => p.1 = q.1 ∧ RelV p.2 q.2

/-- a key of a dict (00_mix): an int or a text -/
def kV : Key → V
  | .inl i => .int i
  | .inr x => .str x

/-- what stands at a tracked address -/
inductive HO where
  /-- a list -/
  | lst (xs : List V)
  /-- a tuple (never changes) -/
  | tup (xs : List V)
  /-- a dict whose keys are ints and texts; one whose keys are tuples of ints and texts (the empty one is both) -/
  | dK (kvs : List (Key × V)) | dT (kvs : List (List Key × V))
  /-- a set of ints: its members, its size -/
  | set (S : Int → Bool) (n : Nat)
  /-- an instance of the class at C, its dict at dx, its attributes -/
  | ins (C dx : Addr) (fs : List (Str × V))
  /-- the dict of the instance at x -/
  | own (x : Addr)
  /-- the dict of an exception -/
  | xd (fs : List (Str × V))
  /-- a bound method, f of x -/
  | met (f x : Addr)
  /-- a range object lo, lo + 1, .. below hi -/
  | rng (lo hi : Int)
  /-- a thing that is known to the object (the script; a dict while a loop walks it): read, never written while it is so -/
  | frz (o : Obj) (u : HO)
  /-- a code object's table -/
  | tbl (ps : Array Value)
  /-- any other thing, by what is true of its one object (a def of one's own: SetO a S n := HO.ext fun h => ..) -/
  | ext (φ : Heap → Prop)

abbrev Hp := Addr → Option HO
def upd (H : Hp) (a : Addr) (o : HO) : Hp := fun b => if b = a then some o else H b
theorem upd_same {H : Hp} {a : Addr} {o : HO} : upd H a o a = some o := by unfold upd; rw [if_pos rfl]
theorem upd_ne {H : Hp} {a b : Addr} {o : HO} (h : b ≠ a) : upd H a o b = H b := by unfold upd; rw [if_neg h]
theorem ne_of_none {H : Hp} {a b : Addr} {o : HO} (h : H a = some o) (h' : H b = none) : a ≠ b := by
  intro e; subst e; rw [h] at h'; cases h'

section
variable (P : Program) (w : World)
def ObjOk (H : Hp) (h : Heap) (a : Addr) : HO → Prop
  | .lst xs => xs.length ≤ sizeLine ∧ ∃ (its : List Value) (n : Nat), Vals xs its ∧ h.get? a = some { cls := .type "list", data := .seq its.toArray n }
  | .tup xs => xs.length ≤ sizeLine ∧ ∃ its : List Value, Vals xs its ∧ IsTup h a its.toArray
  | .dK kvs => kvs.length ≤ sizeLine ∧ (a == sysModules) = false ∧ ∃ vs, KV kvs vs ∧ h.DictOf (mixKind P w) a vs
  | .dT kvs => kvs.length ≤ sizeLine ∧ (a == sysModules) = false ∧ ∃ xs : List (List Key × Addr × Value),
      Paired (fun (p : List Key × V) (q : List Key × Addr × Value) => p.1 = q.1 ∧ H q.2.1 = some (.tup (p.1.map kV)) ∧ RelV p.2 q.2.2) kvs xs ∧
      ∃ o es ep, h.get? a = some o ∧ o.ExactDict ∧ o.data = .dict es ep ∧ es.toList = xs.map (entryOfKey (tupleKind (mixKind P w))) ∧ (xs.map (·.1)).Nodup
  | .set S n => h.SetOf (intKind P w) a S n
  | .ins C dx fs => H dx = some (.own a) ∧ fs.length ≤ 1000 ∧ dx ≠ a ∧ h.get? a = some (PySem.W.instObj C dx) ∧
      ∃ mA, h.Ns1 dx mA ∧ (∀ f, RelO (fs.lookup f) (mA f)) ∧ PySem.Within mA (fs.map (·.1))
  | .own _ => ∃ o, h.get? a = some o
  | .xd fs => ∃ mA, h.Ns1 a mA ∧ ∀ f, RelO (fs.lookup f) (mA f)
  | .rng lo hi => ∃ t u v, h.get? a = some { cls := .type "range", data := .fields #[.int lo t, .int hi u, .int 1 v] }
  | .frz o u => h.get? a = some o ∧ ObjOk H h a u
  | .tbl ps => h.get? a = some { cls := .none, data := .fields ps }
  | .met f x => h.get? a = some (PySem.W.methodObj (.ref f) (.ref x))
  | .ext φ => φ h ∧ (∃ o, h.get? a = some o) ∧ ∀ h1 h2 : Heap, φ h1 → (∀ o, h1.get? a = some o → h2.get? a = some o) → φ h2
/-- the abstract heap is held -/
def HOk (H : Hp) (h : Heap) : Prop := ∀ a o, H a = some o → ObjOk P w H h a o
end

section
variable {P : Program} {w : World} {H H' : Hp} {h h' : Heap} {a : Addr} {o : HO}
theorem ObjOk.lt (x : ObjOk P w H h a o) : a < h.objs.size := by
  cases o with
  | lst xs => obtain ⟨_, _, _, _, e⟩ := x; exact Heap.lt_size e
  | tup xs => obtain ⟨_, _, _, p⟩ := x; exact p.lt
  | dK kvs => obtain ⟨_, _, _, _, o, _, _, e, _⟩ := x; exact Heap.lt_size e
  | dT kvs => obtain ⟨_, _, _, _, o, _, _, e, _⟩ := x; exact Heap.lt_size e
  | set S n => obtain ⟨o, _, _, _, e, _⟩ := x; exact Heap.lt_size e
  | ins C dx fs => obtain ⟨_, _, _, e, _⟩ := x; exact Heap.lt_size e
  | own y => obtain ⟨_, e⟩ := x; exact Heap.lt_size e
  | xd fs => obtain ⟨_, ⟨_, _, _, e, _⟩, _⟩ := x; exact Heap.lt_size e
  | rng lo hi => obtain ⟨_, _, _, e⟩ := x; exact Heap.lt_size e
  | frz ob u => obtain ⟨e, _⟩ := x; exact Heap.lt_size e
  | tbl ps => exact Heap.lt_size (show h.get? a = some _ from x)
  | met f y => exact Heap.lt_size (show h.get? a = some _ from x)
  | ext φ => obtain ⟨_, ⟨_, e⟩, _⟩ := x; exact Heap.lt_size e
theorem Paired.mapP {α β : Type} {F G : α → β → Prop} : ∀ {l₁ : List α} {l₂ : List β}, Paired F l₁ l₂ → (∀ a b, F a b → G a b) → Paired G l₁ l₂
  | _, _, .nil, _ => .nil
  | _, _, .cons r t, f => .cons (f _ _ r) (Paired.mapP t f)
/-- what an object's description leans on: its own object, its own dict, the tuples -/
theorem ObjOk.stay (x : ObjOk P w H h a o) (k : ∀ b u, (b = a ∨ H b = some (.own a)) → h.get? b = some u → h'.get? b = some u)
    (ho : ∀ b, H b = some (.own a) → H' b = some (.own a)) (ht : ∀ b xs, H b = some (.tup xs) → H' b = some (.tup xs)) : ObjOk P w H' h' a o := by
  induction o with
  | lst xs => obtain ⟨z, its, n, r, e⟩ := x; exact ⟨z, its, n, r, k _ _ (.inl rfl) e⟩
  | tup xs => obtain ⟨z, its, r, ob, e, c⟩ := x; exact ⟨z, its, r, ob, k _ _ (.inl rfl) e, c⟩
  | dK kvs => obtain ⟨z, y, vs, r, ob, es, ep, e, c⟩ := x; exact ⟨z, y, vs, r, ob, es, ep, k _ _ (.inl rfl) e, c⟩
  | dT kvs =>
    obtain ⟨z, y, xs, r, ob, es, ep, e, c⟩ := x
    exact ⟨z, y, xs, Paired.mapP r fun p q z => ⟨z.1, ht _ _ z.2.1, z.2.2⟩, ob, es, ep, k _ _ (.inl rfl) e, c⟩
  | set S n => obtain ⟨ob, es, ep, t, e, c⟩ := x; exact ⟨ob, es, ep, t, k _ _ (.inl rfl) e, c⟩
  | ins C dx fs =>
    obtain ⟨d, z, ne, e, mA, ⟨od, es, ep, e2, c⟩, r⟩ := x
    exact ⟨ho _ d, z, ne, k _ _ (.inl rfl) e, mA, ⟨od, es, ep, k _ _ (.inr d) e2, c⟩, r⟩
  | own y => obtain ⟨ob, e⟩ := x; exact ⟨ob, k _ _ (.inl rfl) e⟩
  | xd fs => obtain ⟨mA, ⟨od, es, ep, e, c⟩, r⟩ := x; exact ⟨mA, ⟨od, es, ep, k _ _ (.inl rfl) e, c⟩, r⟩
  | rng lo hi => obtain ⟨t, u, v, e⟩ := x; exact ⟨t, u, v, k _ _ (.inl rfl) e⟩
  | frz ob u ih => obtain ⟨e, q⟩ := x; exact ⟨k _ _ (.inl rfl) e, ih q⟩
  | tbl ps =>
    have e : h.get? a = some { cls := .none, data := .fields ps } := x
    show h'.get? a = some { cls := .none, data := .fields ps }
    exact k a _ (.inl rfl) e
  | met f y =>
    have e : h.get? a = some (PySem.W.methodObj (.ref f) (.ref y)) := x
    show h'.get? a = some (PySem.W.methodObj (.ref f) (.ref y))
    exact k a _ (.inl rfl) e
  | ext φ => obtain ⟨p, ⟨o, e⟩, st⟩ := x; exact ⟨st _ _ p fun o q => k _ _ (.inl rfl) q, ⟨o, k _ _ (.inl rfl) e⟩, st⟩
theorem HOk.lt (x : HOk P w H h) (e : H a = some o) : a < h.objs.size := (x a o e).lt
theorem HOk.fresh (x : HOk P w H h) (e : h.objs.size ≤ a) : H a = none := by
  cases q : H a with
  | none => rfl
  | some u => exact absurd (Nat.lt_of_lt_of_le (x.lt q) e) (Nat.lt_irrefl _)
/-- every object of the heap is kept -/
theorem HOk.kept (x : HOk P w H h) (k : ∀ b u, h.get? b = some u → h'.get? b = some u) : HOk P w H h' := fun a o e =>
  (x a o e).stay (fun b u _ q => k b u q) (fun _ q => q) fun _ _ q => q
/-- a new object is laid and tracked -/
theorem HOk.laid (x : HOk P w H h) (k : ∀ b u, h.get? b = some u → h'.get? b = some u) (hp : h.objs.size ≤ a) (new : ObjOk P w (upd H a o) h' a o) : HOk P w (upd H a o) h' := fun b u e => by
  have hn := x.fresh hp
  by_cases hb : b = a
  · subst hb; rw [upd_same] at e; cases e; exact new
  · rw [upd_ne hb] at e
    exact (x b u e).stay (fun c v _ q => k c v q) (fun c q => by rw [upd_ne (ne_of_none q hn)]; exact q) fun c xs q => by rw [upd_ne (ne_of_none q hn)]; exact q
end

/-- what may be read as u: it is u, or a known u -/
def Rd (H : Hp) (a : Addr) (u : HO) : Prop := H a = some u ∨ ∃ o, H a = some (.frz o u)
theorem Rd.of {H : Hp} {a : Addr} {u : HO} (h : H a = some u) : Rd H a u := .inl h
theorem Rd.ok {P : Program} {w : World} {H : Hp} {h : Heap} {a : Addr} {u : HO} (r : Rd H a u) (x : HOk P w H h) : ObjOk P w H h a u := by
  rcases r with r | ⟨o, r⟩
  · exact x a u r
  · obtain ⟨_, q⟩ := x a _ r
    exact q
/-- what may be written -/
def Mut : Option HO → Prop
  | some (.lst _) => True
  | some (.dK _) => True
  | some (.dT _) => True
  | some (.set _ _) => True
  | some (.ins _ _ _) => True
  | some (.ext _) => True
  | _ => False
section
variable {P : Program} {w : World} {H : Hp} {h h' : Heap} {x e : Addr} {o' : HO}
/-- the object at e is changed: x itself, or the dict of the instance x -/
theorem HOk.write (ok : HOk P w H h) (mu : Mut (H x)) (he : e = x ∨ H e = some (.own x)) (k : ∀ b u, b ≠ e → h.get? b = some u → h'.get? b = some u) (heo : ∃ u, h'.get? e = some u)
    (new : ObjOk P w (upd H x o') h' x o') : HOk P w (upd H x o') h' := fun b u q => by
  have nown : ∀ c y, H c = some (.own y) → c ≠ x := fun c y r z => by subst z; rw [r] at mu; exact mu
  have ntup : ∀ c xs, H c = some (.tup xs) → c ≠ x := fun c xs r z => by subst z; rw [r] at mu; exact mu
  by_cases hb : b = x
  · subst hb; rw [upd_same] at q; cases q; exact new
  · rw [upd_ne hb] at q
    by_cases hbe : b = e
    · have q' : H b = some (.own x) := by
        rcases he with z | z
        · exact absurd (hbe.trans z) hb
        · rw [hbe]; exact z
      rw [q] at q'; cases q'
      obtain ⟨v, hv⟩ := heo
      exact ⟨v, by rw [hbe]; exact hv⟩
    · refine (ok b u q).stay (fun c v hc r => k c v ?_ r) (fun c r => by rw [upd_ne (nown c b r)]; exact r) fun c xs r => by rw [upd_ne (ntup c xs r)]; exact r
      rcases hc with rfl | hc
      · exact hbe
      · rintro rfl
        rcases he with z | z
        · exact nown c b hc z
        · rw [hc] at z; cases z; exact hb rfl
end

/-! ### kept unless tracked; of the frames at fs (the callers') the slots may change (an exception that passes writes there); of the records at ex (iterators) nothing is said -/
structure Un (fs ex : List Addr) (H H' : Hp) (h h' : Heap) : Prop where
  keep : ∀ b o, h.get? b = some o → H b = none → b ∉ fs → b ∉ ex → h'.get? b = some o
  slot : ∀ b o, h.get? b = some o → H b = none → b ∈ fs → b ∉ ex → ∃ sl, h'.get? b = some { o with slots := sl }
  free : ∀ b o, h.get? b = some o → H b = none → b ∉ ex → H' b = none
  there : ∀ b o, h.get? b = some o → b ∉ ex → ∃ o', h'.get? b = some o'
  tups : ∀ b xs, H b = some (.tup xs) → H' b = some (.tup xs)
  frzs : ∀ b o u, H b = some (.frz o u) → H' b = some (.frz o u)
  tbls : ∀ b ps, H b = some (.tbl ps) → ∃ more, H' b = some (.tbl (ps ++ more))
section
variable {fs fs' ex ex' : List Addr} {H H1 H2 : Hp} {h h1 h2 h' : Heap} {a x e : Addr} {o : HO}
theorem Un.any (u : Un fs ex H H1 h h1) {b : Addr} {ob : Obj} (q : h.get? b = some ob) (n : H b = none) (hx : b ∉ ex) : ∃ sl, h1.get? b = some { ob with slots := sl } := by
  by_cases hb : b ∈ fs
  · exact u.slot b ob q n hb hx
  · exact ⟨ob.slots, u.keep b ob q n hb hx⟩
theorem Un.trans (a : Un fs ex H H1 h h1) (b : Un fs ex H1 H2 h1 h2) : Un fs ex H H2 h h2 where
  keep := fun c ob q n hc hx => b.keep c ob (a.keep c ob q n hc hx) (a.free c ob q n hx) hc hx
  slot := fun c ob q n hc hx => by
    obtain ⟨sl, e1⟩ := a.slot c ob q n hc hx
    obtain ⟨sl', e2⟩ := b.slot c _ e1 (a.free c ob q n hx) hc hx
    exact ⟨sl', e2⟩
  free := fun c ob q n hx => by
    obtain ⟨o', e1⟩ := a.there c ob q hx
    exact b.free c o' e1 (a.free c ob q n hx) hx
  there := fun c ob q hx => by
    obtain ⟨o', e1⟩ := a.there c ob q hx
    exact b.there c o' e1 hx
  tups := fun c xs q => b.tups c xs (a.tups c xs q)
  frzs := fun c ob xs q => b.frzs c ob xs (a.frzs c ob xs q)
  tbls := fun c ps q => by
    obtain ⟨m1, e1⟩ := a.tbls c ps q
    obtain ⟨m2, e2⟩ := b.tbls c _ e1
    exact ⟨m1 ++ m2, by rw [e2, Array.append_assoc]⟩
theorem Un.kept (k : ∀ b u, h.get? b = some u → h'.get? b = some u) : Un fs ex H H h h' :=
  ⟨fun b ob q _ _ _ => k b ob q, fun b ob q _ _ _ => ⟨ob.slots, k b ob q⟩, fun _ _ _ n _ => n, fun b ob q _ => ⟨ob, k b ob q⟩, fun _ _ q => q, fun _ _ _ q => q, fun _ ps q => ⟨#[], by rw [q]; simp⟩⟩
theorem Un.refl : Un fs ex H H h h := Un.kept fun _ _ q => q
theorem Un.laid (k : ∀ b u, h.get? b = some u → h'.get? b = some u) (hp : h.objs.size ≤ a) (hn : H a = none) : Un fs ex H (upd H a o) h h' where
  keep := fun b u q _ _ _ => k b u q
  slot := fun b u q _ _ _ => ⟨u.slots, k b u q⟩
  free := fun b u q n _ => by rw [upd_ne (Nat.ne_of_lt (Nat.lt_of_lt_of_le (Heap.lt_size q) hp))]; exact n
  there := fun b u q _ => ⟨u, k b u q⟩
  tups := fun b xs q => by rw [upd_ne (ne_of_none q hn)]; exact q
  frzs := fun b u xs q => by rw [upd_ne (ne_of_none q hn)]; exact q
  tbls := fun b ps q => ⟨#[], by rw [upd_ne (ne_of_none q hn), q]; simp⟩
theorem Un.write (mu : Mut (H x)) (he : e = x ∨ H e = some (.own x)) (k : ∀ b u, b ≠ e → h.get? b = some u → h'.get? b = some u) (heo : ∃ u, h'.get? e = some u) : Un fs ex H (upd H x o) h h' := by
  have hx : ∀ b, H b = none → b ≠ x := fun b n z => by subst z; rw [n] at mu; exact mu
  have hb : ∀ b, H b = none → b ≠ e := fun b n z => by
    subst z
    rcases he with r | r
    · exact hx b n r
    · rw [n] at r; cases r
  have hm : ∀ b u, H b = some u → ¬ Mut (some u) → b ≠ x := fun b u q nm z => by subst z; rw [q] at mu; exact nm mu
  refine ⟨fun b u q n _ _ => k b u (hb b n) q, fun b u q n _ _ => ⟨u.slots, k b u (hb b n) q⟩, fun b u q n _ => by rw [upd_ne (hx b n)]; exact n, fun b u q _ => ?_,
    fun b xs q => by rw [upd_ne (hm b _ q fun z => z)]; exact q, fun b u xs q => by rw [upd_ne (hm b _ q fun z => z)]; exact q, fun b ps q => ⟨#[], by rw [upd_ne (hm b _ q fun z => z), q]; simp⟩⟩
  by_cases hbe : b = e
  · subst hbe; exact heo
  · exact ⟨u, k b u hbe q⟩
theorem Un.mono (u : Un fs ex H H1 h h1) (hs : ∀ b ∈ fs, b ∈ fs') (hx : ∀ b ∈ ex, b ∈ ex') : Un fs' ex' H H1 h h1 :=
  ⟨fun b ob q n hb he => u.keep b ob q n (fun z => hb (hs b z)) fun z => he (hx b z), fun _ _ q n _ he => u.any q n fun z => he (hx _ z), fun b ob q n he => u.free b ob q n fun z => he (hx b z), fun b ob q he => u.there b ob q fun z => he (hx b z), u.tups, u.frzs, u.tbls⟩
end

/-! ### the heap without what is tracked -/
def trk (h : Heap) (H : Hp) : List Addr := (List.range h.objs.size).filter fun a => (H a).isSome
def hidT (h : Heap) (H : Hp) : Heap := PySem.W.hideAll h (trk h H)
theorem hidT_size (h : Heap) (H : Hp) : (hidT h H).objs.size = h.objs.size := PySem.W.hideAll_size _ _
theorem hidT_get {h : Heap} {H : Hp} {b : Addr} {o : Obj} (e : h.get? b = some o) (n : H b = none) : (hidT h H).get? b = some o :=
  PySem.W.hideAll_get _ e fun hm => by
    have q : (H b).isSome = true := (List.mem_filter.mp hm).2
    rw [n] at q; simp at q
theorem of_hidT {h : Heap} {H : Hp} {b : Addr} {o : Obj} (e : (hidT h H).get? b = some o) : h.get? b = some o ∧ H b = none := by
  have e' : h.get? b = some o := PySem.W.of_hideAll (trk h H) e
  refine ⟨e', ?_⟩
  cases q : H b with
  | none => rfl
  | some x =>
    have hm : b ∈ trk h H := List.mem_filter.mpr ⟨List.mem_range.mpr (Heap.lt_size e'), by simp [q]⟩
    have z : (hidT h H).get? b = none := PySem.W.hideAll_none (trk h H) hm
    rw [z] at e; cases e

/-! ### OpenK's ledger, filled with every new object but one -/
def allNews (g h : Heap) (L : Addr) : List (Addr × Obj) := (List.range h.objs.size).filterMap fun a => if a = L ∨ (g.get? a).isSome = true then none else (h.get? a).map fun o => (a, o)
def rest (g h : Heap) (L d : Addr) : List (Addr × Obj) := (allNews g h L).filter fun p => decide (p.1 ≠ d)
end L2

namespace L2
open PySem PySem.Spec PyProof.Rows

/-- the module's facts, over the base: the heap at the law's entry without what is tracked there -/
structure Mod (K : PySem.W.Frag) (mg : Str → Option Value) (base : Heap) : Prop where
  kin : K.In base
  glob : base.Ns mainGlobals mg
  blt : ∃ mb, base.Ns builtinsNs mb ∧ ∀ x : Str, x ≠ "__name__" → mb x = bootBuiltins x
  nolimit : base.NoLimit

/-- the context: a def's body (or a comprehension's block) running. base: fixed through the whole law; s₀, H₀: the entry; outer: the frames whose slots others may change (a def's callers); stack: all frames that run;
   ex: iterators that were made ahead of the entry and are walked here (a comprehension's); fn: the names whose cells were made at the entry (a def: all; a comprehension's block: its own); calm: not within an except suite; pn: pins that every state bears; xe: what is wanted of an exception that leaves the code -/
structure Cx where
  prog : Program
  w : World
  K : PySem.W.Frag
  mg : Str → Option Value
  base : Heap
  A : Around
  N : List Str
  s₀ : Shared
  H₀ : Hp
  env : Env
  outer : List Env
  stack : List Env
  ex : List Addr
  fn : Str → Bool
  calm : Bool
  pn : List (Addr × Obj)
  xe : Value → Shared → Prop
/-- the callers' frames -/
def frs (l : List Env) : List Addr := l.filterMap (·.frame)
abbrev Cx.fs (X : Cx) : List Addr := frs X.outer

def Vis (sc : Scope) (x : Str) : Prop := sc.names.lookup x = some .local ∨ sc.names.lookup x = some .cell ∨ sc.names.lookup x = some .free
def Loc (sc : Scope) (x : Str) : Prop := sc.names.lookup x = some .local ∨ sc.names.lookup x = some .cell
def Look (env : Env) (h : Heap) (m : Str → Option Value) (x : Str) (u : Value) : Prop :=
  (env.kindOf x = some .local ∧ m x = some u) ∨ ((env.kindOf x = some .cell ∨ env.kindOf x = some .free) ∧ ∃ c, env.cells.lookup x = some c ∧ h.IsCell c (some u))

structure Cx.Ok (X : Cx) : Prop where
  mod : Mod X.K X.mg X.base
  kind : X.env.scope.kind = .function
  glob : X.env.globals = mainGlobals
  blt : X.env.builtins = builtinsNs
  above : X.s₀.heap.objs.size ≤ X.env.locals
  inj : ∀ x y c, X.env.cells.lookup x = some c → X.env.cells.lookup y = some c → x = y
  has : ∀ x, (X.env.kindOf x = some .cell ∨ X.env.kindOf x = some .free) → ∃ c, X.env.cells.lookup x = some c
  cab : ∀ x c, X.fn x = true → X.env.cells.lookup x = some c → X.s₀.heap.objs.size ≤ c
  hd : X.calm = true → X.A.handled = none
  frames : X.A.frames = some X.stack
  stk : X.stack = X.outer ∨ (X.stack = X.env :: X.outer ∧ X.env.frame = some X.env.locals)
  exf : ∀ b ∈ X.ex, b ≠ X.env.locals ∧ ∀ x c, X.env.cells.lookup x = some c → c ≠ b
  bs : ∀ b o, X.base.get? b = some o → X.s₀.heap.get? b = some o ∧ X.H₀ b = none
  bsz : X.base.objs.size ≤ X.s₀.heap.objs.size
  noex : ∀ b o, X.base.get? b = some o → b ∉ X.ex
  exfs : ∀ b ∈ X.ex, b ∉ X.fs
  funs : X.s₀.heap.FunFrames X.base X.outer
  frf : ∀ b ∈ X.fs, X.H₀ b = none

structure Inv (X : Cx) (pins : List (Addr × Obj)) (σ : List (Option V)) (H : Hp) (s : Shared) : Prop where
  ok : X.Ok
  os : s.os = X.s₀.os
  bare : AllBare s.gens
  base : Un X.fs X.ex X.H₀ H X.s₀.heap s.heap
  loc : ∃ m, s.heap.Ns X.env.locals m ∧ ∀ (i : Nat) (x : Str) (v : V), X.N[i]? = some x → σ[i]? = some (some v) → Vis X.env.scope x → ∃ u, RelV v u ∧ Look X.env s.heap m x u
  cell : ∀ x c, X.env.cells.lookup x = some c → ∃ v, s.heap.IsCell c v
  free : H X.env.locals = none
  freeC : ∀ x c, X.env.cells.lookup x = some c → H c = none
  pin : ∀ p ∈ X.pn ++ pins, s.heap.get? p.1 = some p.2 ∧ H p.1 = none ∧ p.1 ≠ X.env.locals ∧ p.1 ∉ X.fs ∧ ∀ v, p.2.data ≠ .cell v
  hok : HOk X.prog X.w H s.heap
  len : σ.length = X.N.length

section
variable {X : Cx} {pins : List (Addr × Obj)} {σ : List (Option V)} {H H' : Hp} {s : Shared} {h' : Heap}

theorem Cx.Ok.nofr (ok : X.Ok) {b : Addr} {o : Obj} (e : X.base.get? b = some o) : b ∉ X.fs := fun hb => by
  have := (ok.funs.mem hb).1
  rw [e] at this; cases this
theorem Inv.bs (I : Inv X pins σ H s) : ∀ b o, X.base.get? b = some o → s.heap.get? b = some o ∧ H b = none := fun b o e =>
  ⟨I.base.keep b o (I.ok.bs b o e).1 (I.ok.bs b o e).2 (I.ok.nofr e) (I.ok.noex b o e), I.base.free b o (I.ok.bs b o e).1 (I.ok.bs b o e).2 (I.ok.noex b o e)⟩
theorem Inv.bk (I : Inv X pins σ H s) : ∀ b o, X.base.get? b = some o → s.heap.get? b = some o := fun b o e => (I.bs b o e).1
theorem Inv.mod (I : Inv X pins σ H s) : Mod X.K X.mg X.base := I.ok.mod
theorem Inv.kIn (I : Inv X pins σ H s) : X.K.In s.heap := I.ok.mod.kin.keeps I.bk
theorem Inv.nolimit (I : Inv X pins σ H s) : s.heap.NoLimit := I.ok.mod.nolimit.keeps I.bk
/-- the frame over the base: for OpenK's rules (K.In X.base is I.mod.kin) -/
theorem Inv.fr (I : Inv X pins σ H s) : ∃ m, Fr X.base X.env.locals s.heap m :=
  let ⟨m, hn, _⟩ := I.loc
  ⟨m, hn, I.bk, Nat.le_trans I.ok.bsz I.ok.above⟩
theorem Inv.lt (I : Inv X pins σ H s) : X.env.locals < s.heap.objs.size := let ⟨_, hn, _⟩ := I.loc; hn.lt
theorem Inv.sz (I : Inv X pins σ H s) : X.s₀.heap.objs.size ≤ s.heap.objs.size := Nat.le_trans I.ok.above (Nat.le_of_lt I.lt)
theorem Inv.nofs (I : Inv X pins σ H s) {a : Addr} (h : s.heap.objs.size ≤ a) : a ∉ X.fs := fun hb => by
  obtain ⟨_, o, ho, _⟩ := I.ok.funs.mem hb
  exact absurd (Nat.lt_of_lt_of_le (Heap.lt_size ho) (Nat.le_trans I.sz h)) (Nat.lt_irrefl _)
theorem Inv.cne (I : Inv X pins σ H s) : ∀ x c, X.env.cells.lookup x = some c → c ≠ X.env.locals := fun x c e z => by
  obtain ⟨v, o, ho, hd⟩ := I.cell x c e
  obtain ⟨m, ⟨o', es, ep, ho', hd', _⟩, _⟩ := I.loc
  rw [z, ho'] at ho; cases ho; rw [hd'] at hd; cases hd
theorem Inv.funs (I : Inv X pins σ H s) : s.heap.FunFrames X.base X.outer := by
  have all : ∀ (l : List Env), (∀ b ∈ frs l, b ∈ X.fs) → X.s₀.heap.FunFrames X.base l → s.heap.FunFrames X.base l := by
    intro l
    induction l with
    | nil => intro _ _; trivial
    | cons env r ih =>
      intro hs hl
      obtain ⟨hk, ⟨L, o, hf, hn, ho, hd⟩, hr⟩ := hl
      have hL : L ∈ X.fs := hs L (by unfold frs; rw [List.filterMap_cons, hf]; exact List.mem_cons_self)
      obtain ⟨sl, e⟩ := I.base.slot L o ho (I.ok.frf L hL) hL fun z => I.ok.exfs L z hL
      exact ⟨hk, ⟨L, _, hf, hn, e, hd⟩, ih (fun b hb => hs b (by unfold frs; rw [List.filterMap_cons, hf]; exact List.mem_cons_of_mem _ hb)) hr⟩
  exact all X.outer (fun _ hb => hb) I.ok.funs

/-- the frames that run, for a call -/
theorem Inv.stack (I : Inv X pins σ H s) : s.heap.FunFrames X.base X.stack := by
  rcases I.ok.stk with e | ⟨e, hf⟩
  · rw [e]; exact I.funs
  · rw [e]
    obtain ⟨m, hn, _⟩ := I.loc
    refine .cons (by rw [I.ok.kind]; decide) hf hn ?_ I.funs
    exact Heap.get?_none_of_le (Nat.le_trans I.ok.bsz I.ok.above)
theorem Inv.stkSub (I : Inv X pins σ H s) : ∀ b ∈ frs X.stack, b ∈ X.env.locals :: X.fs := fun b hb => by
  rcases I.ok.stk with e | ⟨e, hf⟩
  · rw [e] at hb; exact List.mem_cons_of_mem _ hb
  · rw [e] at hb
    unfold frs at hb
    rw [List.filterMap_cons, hf] at hb
    exact hb
theorem Inv.stkFree (I : Inv X pins σ H s) : ∀ b ∈ frs X.stack, H b = none := fun b hb => by
  rcases List.mem_cons.mp (I.stkSub b hb) with e | hb
  · rw [e]; exact I.free
  · obtain ⟨_, o, ho, _⟩ := I.ok.funs.mem hb
    exact I.base.free b o ho (I.ok.frf b hb) fun z => I.ok.exfs b z hb

/-- THE STEP: the untracked objects but the frame and the records at ch are kept (the callers' frames up to slots), the frame's map is kept, the new abstract heap is held -/
theorem Inv.step {g' : Array GenState} {t' : Nat} {d' : Drawn} {ch : List Addr} (I : Inv X pins σ H s)
    (hch : ∀ b ∈ ch, (b ∈ X.ex ∨ X.s₀.heap.objs.size ≤ b) ∧ b ≠ X.env.locals ∧ (∀ x c, X.env.cells.lookup x = some c → c ≠ b) ∧ ∀ p ∈ X.pn ++ pins, p.1 ≠ b)
    (keep : ∀ b o, b ≠ X.env.locals → b ∉ X.fs → b ∉ ch → s.heap.get? b = some o → H b = none → h'.get? b = some o)
    (slot : ∀ b o, b ≠ X.env.locals → b ∈ X.fs → b ∉ ch → s.heap.get? b = some o → H b = none → ∃ sl, h'.get? b = some { o with slots := sl }) (free : ∀ b o, b ∉ ch → s.heap.get? b = some o → H b = none → H' b = none)
    (there : ∀ b o, b ∉ ch → s.heap.get? b = some o → ∃ o', h'.get? b = some o')
    (tups : ∀ b xs, H b = some (.tup xs) → H' b = some (.tup xs)) (frzs : ∀ b o u, H b = some (.frz o u) → H' b = some (.frz o u)) (tbls : ∀ b ps, H b = some (.tbl ps) → ∃ more, H' b = some (.tbl (ps ++ more)))
    (ns : ∀ m, s.heap.Ns X.env.locals m → h'.Ns X.env.locals m) (hok : HOk X.prog X.w H' h') (hg : AllBare g') :
    Inv X pins σ H' { s with heap := h', gens := g', drawn := d', toks := t' } := by
  have neL : ∀ b o, X.s₀.heap.get? b = some o → b ≠ X.env.locals := fun b o e => Nat.ne_of_lt (Nat.lt_of_lt_of_le (Heap.lt_size e) I.ok.above)
  have neC : ∀ b o, X.s₀.heap.get? b = some o → b ∉ X.ex → b ∉ ch := fun b o e hx hb => by
    rcases (hch b hb).1 with z | z
    · exact hx z
    · exact absurd (Nat.lt_of_lt_of_le (Heap.lt_size e) z) (Nat.lt_irrefl _)
  have cellK : ∀ x c, X.env.cells.lookup x = some c → ∀ v, s.heap.IsCell c v → h'.IsCell c v := fun x c e v ⟨o, ho, hd⟩ => by
    have nch : c ∉ ch := fun z => (hch c z).2.2.1 x c e rfl
    by_cases hc : c ∈ X.fs
    · obtain ⟨sl, q⟩ := slot c o (I.cne x c e) hc nch ho (I.freeC x c e)
      exact ⟨_, q, hd⟩
    · exact ⟨o, keep c o (I.cne x c e) hc nch ho (I.freeC x c e), hd⟩
  refine ⟨I.ok, I.os, hg, ⟨fun b o e n hb hx => ?_, fun b o e n hb hx => ?_, fun b o e n hx => ?_, fun b o e hx => ?_, fun b xs e => tups b xs (I.base.tups b xs e), fun b o xs e => frzs b o xs (I.base.frzs b o xs e), fun b ps e => ?_⟩, ?_, fun x c e => ?_, ?_, fun x c e => ?_, fun p hp => ?_, hok, I.len⟩
  · exact keep b o (neL b o e) hb (neC b o e hx) (I.base.keep b o e n hb hx) (I.base.free b o e n hx)
  · obtain ⟨sl, e1⟩ := I.base.slot b o e n hb hx
    obtain ⟨sl', e2⟩ := slot b _ (neL b o e) hb (neC b o e hx) e1 (I.base.free b o e n hx)
    exact ⟨sl', e2⟩
  · obtain ⟨o', e1⟩ := I.base.there b o e hx
    exact free b o' (neC b o e hx) e1 (I.base.free b o e n hx)
  · obtain ⟨o', e1⟩ := I.base.there b o e hx
    exact there b o' (neC b o e hx) e1
  · obtain ⟨m1, e1⟩ := I.base.tbls b ps e
    obtain ⟨m2, e2⟩ := tbls b _ e1
    exact ⟨m1 ++ m2, by rw [e2, Array.append_assoc]⟩
  · obtain ⟨m, hn, hl⟩ := I.loc
    refine ⟨m, ns m hn, fun i x v e1 e2 e3 => ?_⟩
    obtain ⟨u, r, l⟩ := hl i x v e1 e2 e3
    refine ⟨u, r, ?_⟩
    rcases l with l | ⟨k, c, e, z⟩
    · exact .inl l
    · exact .inr ⟨k, c, e, cellK x c e _ z⟩
  · obtain ⟨v, z⟩ := I.cell x c e
    exact ⟨v, cellK x c e v z⟩
  · obtain ⟨m, ⟨o, _, _, ho, _⟩, _⟩ := I.loc
    exact free _ o (fun z => (hch _ z).2.1 rfl) ho I.free
  · obtain ⟨v, o, ho, hd⟩ := I.cell x c e
    exact free c o (fun z => (hch c z).2.2.1 x c e rfl) ho (I.freeC x c e)
  · obtain ⟨e, n, ne, nf, d⟩ := I.pin p hp
    have nch : p.1 ∉ ch := fun z => (hch p.1 z).2.2.2 p hp rfl
    exact ⟨keep p.1 p.2 ne nf nch e n, free p.1 p.2 nch e n, ne, nf, d⟩
/-- .. where the frame's own object is kept too -/
theorem Inv.un {t' : Nat} (I : Inv X pins σ H s) (u : Un X.fs [] H H' s.heap h') (hok : HOk X.prog X.w H' h') : Inv X pins σ H' { s with heap := h', toks := t' } := by
  obtain ⟨m, ⟨o, es, ep, ho, r⟩, _⟩ := id I.loc
  obtain ⟨sl, hL⟩ := u.any ho I.free (by simp)
  exact I.step (g' := s.gens) (d' := s.drawn) (ch := []) (fun _ z => nomatch z) (fun b o _ hb _ e n => u.keep b o e n hb (by simp)) (fun b o _ hb _ e n => u.slot b o e n hb (by simp)) (fun b o _ e n => u.free b o e n (by simp)) (fun b o _ e => u.there b o e (by simp)) u.tups u.frzs u.tbls (fun m' hm => by
    obtain ⟨o', es', ep', ho', r'⟩ := hm
    rw [ho] at ho'; cases ho'
    exact ⟨_, es', ep', hL, r'⟩) hok I.bare
/-- behind a call (or a comprehension's block): the slots of this frame may have changed too, the records at ch may have turned -/
theorem Inv.call {g' : Array GenState} {t' : Nat} {d' : Drawn} {ch : List Addr} (I : Inv X pins σ H s) (u : Un (frs X.stack) ch H H' s.heap h') (hok : HOk X.prog X.w H' h') (hg : AllBare g')
    (hch : ∀ b ∈ ch, (b ∈ X.ex ∨ X.s₀.heap.objs.size ≤ b) ∧ b ≠ X.env.locals ∧ (∀ x c, X.env.cells.lookup x = some c → c ≠ b) ∧ ∀ p ∈ X.pn ++ pins, p.1 ≠ b) :
    Inv X pins σ H' { s with heap := h', gens := g', drawn := d', toks := t' } := by
  obtain ⟨m, ⟨o, es, ep, ho, r⟩, _⟩ := id I.loc
  obtain ⟨sl, hL⟩ := u.any ho I.free fun z => (hch _ z).2.1 rfl
  exact I.step (ch := ch) hch (fun b o hL hb hc e n => u.keep b o e n (fun z => (List.mem_cons.mp (I.stkSub b z)).elim hL hb) hc) (fun b o _ _ hc e n => u.any e n hc) (fun b o hc e n => u.free b o e n hc) (fun b o hc e => u.there b o e hc) u.tups u.frzs u.tbls (fun m' hm => by
    obtain ⟨o', es', ep', ho', r'⟩ := hm
    rw [ho] at ho'; cases ho'
    exact ⟨_, es', ep', hL, r'⟩) hok hg
/-- an untracked record of ours (an iterator) has turned -/
theorem Inv.turned {t' : Nat} {it : Addr} (I : Inv X pins σ H s) (k : ∀ b o, b ≠ it → s.heap.get? b = some o → h'.get? b = some o) (hn : H it = none) (hL : it ≠ X.env.locals)
    (h1 : it ∈ X.ex ∨ X.s₀.heap.objs.size ≤ it) (h2 : ∀ x c, X.env.cells.lookup x = some c → c ≠ it) (h3 : ∀ p ∈ X.pn ++ pins, p.1 ≠ it) : Inv X pins σ H { s with heap := h', toks := t' } := by
  have nit : ∀ b u, H b = some u → b ≠ it := fun b u e z => by rw [z, hn] at e; cases e
  refine I.step (g' := s.gens) (d' := s.drawn) (ch := [it]) (fun b hb => ?_) (fun b o _ _ hc e _ => k b o (fun z => hc (by simp [z])) e) (fun b o _ _ hc e _ => ⟨o.slots, k b o (fun z => hc (by simp [z])) e⟩) (fun _ _ _ _ n => n)
    (fun b o hc e => ⟨o, k b o (fun z => hc (by simp [z])) e⟩) (fun _ _ e => e) (fun _ _ _ e => e) (fun b ps e => ⟨#[], by rw [e]; simp⟩) (fun m hm => ?_) (fun b u e => ?_) I.bare
  · have e : b = it := by simpa using hb
    subst e
    exact ⟨h1, hL, h2, h3⟩
  · obtain ⟨o, es, ep, ho, r⟩ := hm
    exact ⟨o, es, ep, k _ o (Ne.symm hL) ho, r⟩
  · refine (I.hok b u e).stay (fun c v hc q => k c v ?_ q) (fun _ q => q) fun _ _ q => q
    rcases hc with z | z
    · rw [z]; exact nit b u e
    · exact nit c _ z
theorem Inv.tok (I : Inv X pins σ H s) (t : Nat) : Inv X pins σ H { s with toks := t } := I.un (h' := s.heap) (t' := t) Un.refl I.hok
/-- all objects kept -/
theorem Inv.kept {t' : Nat} (I : Inv X pins σ H s) (k : ∀ b u, s.heap.get? b = some u → h'.get? b = some u) : Inv X pins σ H { s with heap := h', toks := t' } := I.un (Un.kept k) (I.hok.kept k)
/-- a new object laid and tracked -/
theorem Inv.laid {a : Addr} {o : HO} {t' : Nat} (I : Inv X pins σ H s) (k : ∀ b u, s.heap.get? b = some u → h'.get? b = some u) (hp : s.heap.objs.size ≤ a) (new : ObjOk X.prog X.w (upd H a o) h' a o) :
    Inv X pins σ (upd H a o) { s with heap := h', toks := t' } := I.un (Un.laid k hp (I.hok.fresh hp)) (I.hok.laid k hp new)
/-- an object written -/
theorem Inv.write {x e : Addr} {o : HO} {t' : Nat} (I : Inv X pins σ H s) (mu : Mut (H x)) (he : e = x ∨ H e = some (.own x)) (k : ∀ b u, b ≠ e → s.heap.get? b = some u → h'.get? b = some u) (heo : ∃ u, h'.get? e = some u)
    (new : ObjOk X.prog X.w (upd H x o) h' x o) : Inv X pins σ (upd H x o) { s with heap := h', toks := t' } := I.un (Un.write mu he k heo) (I.hok.write mu he k heo new)
theorem Inv.pins_of {pins' : List (Addr × Obj)} (I : Inv X pins σ H s) (h : ∀ p ∈ pins', s.heap.get? p.1 = some p.2 ∧ H p.1 = none ∧ p.1 ≠ X.env.locals ∧ p.1 ∉ X.fs ∧ ∀ v, p.2.data ≠ .cell v) : Inv X pins' σ H s :=
  ⟨I.ok, I.os, I.bare, I.base, I.loc, I.cell, I.free, I.freeC, fun p hp => (List.mem_append.mp hp).elim (fun z => I.pin p (List.mem_append_left _ z)) (h p), I.hok, I.len⟩

theorem nodup_ix {N : List Str} (hN : N.Nodup) {i j : Nat} {x : Str} (a : N[i]? = some x) (b : N[j]? = some x) : i = j := by
  obtain ⟨h1, e1⟩ := List.getElem?_eq_some_iff.mp a
  obtain ⟨h2, e2⟩ := List.getElem?_eq_some_iff.mp b
  exact (List.getElem_inj hN).mp (e1.trans e2.symm)

/-- a name is stored; what changed -/
theorem store_ok2 {M : Model} {A : Around} {E : Value → Shared → Prop} {i : Nat} {x : Str} {v : V} {u : Value} {Q : Unit → Shared → Prop} (I : Inv X pins σ H s) (hN : X.N.Nodup) (hi : X.N[i]? = some x) (hx : Loc X.env.scope x) (r : RelV v u)
    (h : ∀ s', Inv X pins (σ.set i (some v)) H s' → (∃ a, Heap.SameBut a s.heap s'.heap ∧ (a = X.env.locals ∨ X.env.cells.lookup x = some a)) → Q () s') (hf : X.fn x = true ∨ X.env.scope.names.lookup x = some .local := by first | exact .inl rfl | exact .inr rfl | assumption) : wpAny M A (storeName X.env x u) Q E s := by
  obtain ⟨m, hn, hl⟩ := id I.loc
  have hcls : (X.env.scope.kind == .class || (X.env.scope.kind == .module && X.env.locals != X.env.globals)) = false := by rw [I.ok.kind]; rfl
  have hiσ : i < σ.length := by rw [I.len]; exact (List.getElem?_eq_some_iff.mp hi).1
  have cne := I.cne
  have tracked : ∀ {a : Addr} {h' : Heap}, (∃ o, s.heap.get? a = some o ∧ H a = none) → Heap.SameBut a s.heap h' → HOk X.prog X.w H h' := fun {a h'} ha hs b ob e => by
    obtain ⟨_, _, hfree⟩ := ha
    refine (I.hok b ob e).stay (fun c w' hc q => (hs.2 c ?_).trans q) (fun _ q => q) fun _ _ q => q
    rintro rfl
    rcases hc with rfl | hc
    · rw [hfree] at e; cases e
    · rw [hfree] at hc; cases hc
  rcases hx with hk | hk
  · refine wpAny_storeName_local hk hn (fun h' hn' hs => ?_) hcls
    obtain ⟨oL, _, _, hoL, _⟩ := id hn
    refine h _ ⟨I.ok, I.os, I.bare, ⟨fun b o e n hb hx => ?_, fun b o e n hb hx => ?_, I.base.free, fun b o e hx => ?_, I.base.tups, I.base.frzs, I.base.tbls⟩, ⟨_, hn', fun j y v' e1 e2 e3 => ?_⟩, fun y c e => ?_, I.free, I.freeC, fun p hp => ?_, tracked ⟨oL, hoL, I.free⟩ hs, by simpa using I.len⟩ ⟨_, hs, .inl rfl⟩
    · exact (hs.2 b (Nat.ne_of_lt (Nat.lt_of_lt_of_le (Heap.lt_size e) I.ok.above))).trans (I.base.keep b o e n hb hx)
    · obtain ⟨sl, e1⟩ := I.base.slot b o e n hb hx
      exact ⟨sl, (hs.2 b (Nat.ne_of_lt (Nat.lt_of_lt_of_le (Heap.lt_size e) I.ok.above))).trans e1⟩
    · obtain ⟨o', e1⟩ := I.base.there b o e hx
      exact ⟨o', (hs.2 b (Nat.ne_of_lt (Nat.lt_of_lt_of_le (Heap.lt_size e) I.ok.above))).trans e1⟩
    · by_cases hj : j = i
      · subst hj
        rw [hi] at e1; cases e1
        rw [List.getElem?_set_self hiσ] at e2
        cases e2
        exact ⟨u, r, .inl ⟨hk, by simp⟩⟩
      · rw [List.getElem?_set_ne (Ne.symm hj)] at e2
        obtain ⟨u', r', q⟩ := hl j y v' e1 e2 e3
        refine ⟨u', r', ?_⟩
        rcases q with ⟨k, e⟩ | ⟨k, c, e, z⟩
        · refine .inl ⟨k, ?_⟩
          have : y ≠ x := fun e => hj (nodup_ix hN e1 (e ▸ hi))
          simp [this, e]
        · exact .inr ⟨k, c, e, z.sameBut hs (cne y c e)⟩
    · obtain ⟨w', z⟩ := I.cell y c e
      exact ⟨w', z.sameBut hs (cne y c e)⟩
    · obtain ⟨e, n, ne, nf, d⟩ := I.pin p hp
      exact ⟨(hs.2 p.1 ne).trans e, n, ne, nf, d⟩
  · have hfn : X.fn x = true := by
      rcases hf with z | z
      · exact z
      · rw [z] at hk; cases hk
    obtain ⟨c, hc⟩ := I.ok.has x (.inl hk)
    obtain ⟨w', z⟩ := I.cell x c hc
    refine wpAny_storeName_cell I.ok.kind hk hc z (fun h' hc' hs => ?_)
    obtain ⟨oc, hoc, hocd⟩ := id z
    refine h { s with heap := h' } ⟨I.ok, I.os, I.bare, ⟨fun b o e n hb hx => ?_, fun b o e n hb hx => ?_, I.base.free, fun b o e hx => ?_, I.base.tups, I.base.frzs, I.base.tbls⟩, ⟨m, hn.sameBut hs (Ne.symm (cne x c hc)), fun j y v' e1 e2 e3 => ?_⟩, fun y c' e => ?_, I.free, I.freeC, fun p hp => ?_, tracked ⟨oc, hoc, I.freeC x c hc⟩ hs, by simpa using I.len⟩ ⟨c, hs, .inr hc⟩
    · exact (hs.2 b (Nat.ne_of_lt (Nat.lt_of_lt_of_le (Heap.lt_size e) (I.ok.cab x c hfn hc)))).trans (I.base.keep b o e n hb hx)
    · obtain ⟨sl, e1⟩ := I.base.slot b o e n hb hx
      exact ⟨sl, (hs.2 b (Nat.ne_of_lt (Nat.lt_of_lt_of_le (Heap.lt_size e) (I.ok.cab x c hfn hc)))).trans e1⟩
    · obtain ⟨o', e1⟩ := I.base.there b o e hx
      exact ⟨o', (hs.2 b (Nat.ne_of_lt (Nat.lt_of_lt_of_le (Heap.lt_size e) (I.ok.cab x c hfn hc)))).trans e1⟩
    · by_cases hj : j = i
      · subst hj
        rw [hi] at e1; cases e1
        rw [List.getElem?_set_self hiσ] at e2
        cases e2
        exact ⟨u, r, .inr ⟨.inl hk, c, hc, hc'⟩⟩
      · rw [List.getElem?_set_ne (Ne.symm hj)] at e2
        obtain ⟨u', r', q⟩ := hl j y v' e1 e2 e3
        refine ⟨u', r', ?_⟩
        rcases q with q | ⟨k, c', e, z'⟩
        · exact .inl q
        · refine .inr ⟨k, c', e, z'.sameBut hs ?_⟩
          rintro rfl
          exact hj (nodup_ix hN e1 (I.ok.inj _ _ _ e hc ▸ hi))
    · by_cases hcc : c' = c
      · subst hcc; exact ⟨_, hc'⟩
      · obtain ⟨w2, z2⟩ := I.cell y c' e
        exact ⟨w2, z2.sameBut hs hcc⟩
    · obtain ⟨e, n, ne, nf, d⟩ := I.pin p hp
      refine ⟨(hs.2 p.1 ?_).trans e, n, ne, nf, d⟩
      intro q
      rw [q, hoc] at e
      have q' : oc = p.2 := Option.some.inj e
      exact d w' (by rw [← q']; exact hocd)
theorem store_ok {M : Model} {A : Around} {E : Value → Shared → Prop} {i : Nat} {x : Str} {v : V} {u : Value} {Q : Unit → Shared → Prop} (I : Inv X pins σ H s) (hN : X.N.Nodup) (hi : X.N[i]? = some x) (hx : Loc X.env.scope x) (r : RelV v u)
    (h : ∀ s', Inv X pins (σ.set i (some v)) H s' → Q () s') (hf : X.fn x = true ∨ X.env.scope.names.lookup x = some .local := by first | exact .inl rfl | exact .inr rfl | assumption) : wpAny M A (storeName X.env x u) Q E s :=
  store_ok2 I hN hi hx r (fun s' I' _ => h s' I') hf
/-- behind a call or a block, the state as it is -/
theorem Inv.call' {s' : Shared} {ch : List Addr} (I : Inv X pins σ H s) (ho : s'.os = s.os) (u : Un (frs X.stack) ch H H' s.heap s'.heap) (hok : HOk X.prog X.w H' s'.heap) (hg : AllBare s'.gens)
    (hch : ∀ b ∈ ch, (b ∈ X.ex ∨ X.s₀.heap.objs.size ≤ b) ∧ b ≠ X.env.locals ∧ (∀ x c, X.env.cells.lookup x = some c → c ≠ b) ∧ ∀ p ∈ X.pn ++ pins, p.1 ≠ b) : Inv X pins σ H' s' := by
  obtain ⟨h', g', d', t', o'⟩ := s'
  have e : o' = s.os := ho
  subst e
  exact I.call (g' := g') (t' := t') (d' := d') u hok hg hch
end

/-! ### the judgements -/
/-- an exception: its class, its own dict's address (where it has one), the abstract heap behind it -/
abbrev XK := Value → Option Addr → Hp → Prop
abbrev St := List (Option V)
abbrev VK := V → Hp → Prop
/-- an expression's reading; a test's; an argument list's -/
abbrev TE := St → Hp → VK → Prop
abbrev TT := St → Hp → (Bool → Hp → Prop) → Prop
abbrev TA := St → Hp → (List V → Hp → Prop) → Prop
/-- what is wanted behind a statement -/
structure Ends where
  nx : St → Hp → Prop
  rt : VK
  bk : St → Hp → Prop := fun _ _ => False
  ct : St → Hp → Prop := fun _ _ => False
abbrev TS := Ends → St → Hp → Prop

def EP (X : Cx) (pins : List (Addr × Obj)) (σ : St) (Q : VK) (u : Value) (s' : Shared) : Prop := ∃ v H', Inv X pins σ H' s' ∧ RelV v u ∧ Q v H'
def TP (X : Cx) (pins : List (Addr × Obj)) (σ : St) (Q : Bool → Hp → Prop) (b : Bool) (s' : Shared) : Prop := ∃ H', Inv X pins σ H' s' ∧ Q b H'
def AP (X : Cx) (pins : List (Addr × Obj)) (σ : St) (Q : List V → Hp → Prop) (us : List Value) (s' : Shared) : Prop := ∃ vs H', Inv X pins σ H' s' ∧ Vals vs us ∧ Q vs H'
def SP (X : Cx) (pins : List (Addr × Obj)) (D : Ends) (f : Flow) (s' : Shared) : Prop :=
  match f with
  | .next => ∃ σ' H', Inv X pins σ' H' s' ∧ D.nx σ' H'
  | .brk => ∃ σ' H', Inv X pins σ' H' s' ∧ D.bk σ' H'
  | .cont => ∃ σ' H', Inv X pins σ' H' s' ∧ D.ct σ' H'
  | .ret u => ∃ v σ' H', Inv X pins σ' H' s' ∧ RelV v u ∧ D.rt v H'

def PE (X : Cx) (e : Expr) (t : TE) : Prop :=
  ∀ (pins : List (Addr × Obj)) (s : Shared) (σ : St) (H : Hp) (Q : VK), Inv X pins σ H s → t σ H Q → wpAny (model X.prog X.w) X.A (eval e X.env) (EP X pins σ Q) X.xe s
def PT (X : Cx) (e : Expr) (t : TT) : Prop :=
  ∀ (pins : List (Addr × Obj)) (s : Shared) (σ : St) (H : Hp) (Q : Bool → Hp → Prop), Inv X pins σ H s → t σ H Q → wpAny (model X.prog X.w) X.A (isTrue e X.env (eval e X.env)) (TP X pins σ Q) X.xe s
/-- a test whatever its 'whole' is (and, or) -/
def PW (X : Cx) (e : Expr) (t : TT) : Prop :=
  ∀ (whole : Sem Value) (pins : List (Addr × Obj)) (s : Shared) (σ : St) (H : Hp) (Q : Bool → Hp → Prop), Inv X pins σ H s → t σ H Q → wpAny (model X.prog X.w) X.A (isTrue e X.env whole) (TP X pins σ Q) X.xe s
theorem PW.pt {X : Cx} {e : Expr} {t : TT} (h : PW X e t) : PT X e t := h _
/-- an argument list (no star), from the left -/
def PA (X : Cx) (es : List Expr) (t : TA) : Prop :=
  ∀ (pos : Pos) (pins : List (Addr × Obj)) (s : Shared) (σ : St) (H : Hp) (Q : List V → Hp → Prop), Inv X pins σ H s → t σ H Q → wpAny (model X.prog X.w) X.A (spliced (backTo pos (starEach es X.env))) (AP X pins σ Q) X.xe s
def PS (X : Cx) (st : Stmt) (t : TS) : Prop :=
  ∀ (pins : List (Addr × Obj)) (s : Shared) (σ : St) (H : Hp) (D : Ends), Inv X pins σ H s → t D σ H → wpAny (model X.prog X.w) X.A (exec st X.env) (SP X pins D) X.xe s
def PSs (X : Cx) (st : List Stmt) (t : TS) : Prop :=
  ∀ (pins : List (Addr × Obj)) (s : Shared) (σ : St) (H : Hp) (D : Ends), Inv X pins σ H s → t D σ H → wpAny (model X.prog X.w) X.A (execs st X.env) (SP X pins D) X.xe s
/-- weaken the end -/
theorem thn {α : Type} {t : Sem α} {Q Q' : α → Shared → Prop} {M : Model} {A : Around} {E : Value → Shared → Prop} {s : Shared} (h : wpAny M A t Q E s) (hQ : ∀ a s, Q a s → Q' a s) : wpAny M A t Q' E s := wpAny_mono h hQ fun _ _ x => x
end L2

namespace L2
open PySem PySem.Spec PyProof.Rows
section
variable {X : Cx}

/-! ### names and constants -/
def tVar (i : Nat) : TE := fun σ H Q => ∃ v, σ[i]? = some (some v) ∧ Q v H
def tC (v : V) : TE := fun _ H Q => Q v H
theorem pe_var {i : Nat} {x : Str} {pos : Pos} (hN : X.N[i]? = some x) (hv : Vis X.env.scope x) (hd : (x == ("__debug__" : Str)) = false := by decide) (hcd : (x == ("__classdict__" : Str)) = false := by decide) : PE X (.Name x pos) (tVar i) := by
  intro pins s σ H Q I h
  obtain ⟨v, e, h⟩ := h
  obtain ⟨m, hn, hl⟩ := I.loc
  obtain ⟨u, r, l⟩ := hl i x v hN e hv
  have fin : EP X pins σ Q u s := ⟨v, H, I, r, h⟩
  rcases l with ⟨hk, hm⟩ | ⟨hk, c, hc, hcell⟩
  · exact wpAny_Name (wpAny_loadName_local I.ok.kind hk hn hm fin) hd
  · rcases hk with hk | hk
    · exact wpAny_Name (wpAny_loadName_cell I.ok.kind hk hc hcell fin) hd
    · exact wpAny_Name (wpAny_loadName_free I.ok.kind hk hc hcell fin hcd) hd
theorem pe_int {i j pos} : PE X (.Constant (.int i) j pos) (tC (.int i)) := fun _ _ _ H _ I h => wpAny_Constant_int ⟨.int i, H, I.tok _, ⟨_, rfl⟩, h⟩
theorem pe_bl {b j pos} : PE X (.Constant (.bool b) j pos) (tC (.bl b)) := fun _ _ _ H _ I h => Constant_bool ⟨.bl b, H, I, rfl, h⟩
theorem pe_non {j pos} : PE X (.Constant .none j pos) (tC .non) := fun _ _ _ H _ I h => Constant_none ⟨.non, H, I, rfl, h⟩
theorem pe_str {x j pos} : PE X (.Constant (.str x) j pos) (tC (.str x)) := fun _ _ _ H _ I h => Calls.Constant_str ⟨.str x, H, I.tok _, ⟨_, rfl⟩, h⟩

/-- a global name of the def -/
def Gl (X : Cx) (x : Str) : Prop := X.env.kindOf x = some .globalImplicit
theorem ld_glob {E : Value → Shared → Prop} {pins : List (Addr × Obj)} {s : Shared} {σ : St} {H : Hp} {x : Str} {u : Value} {pos : Pos} {Q : Value → Shared → Prop} (I : Inv X pins σ H s) (hg : Gl X x) (hm : X.mg x = some u) (h : Q u s)
    (hd : (x == ("__debug__" : Str)) = false := by decide) : wpAny (model X.prog X.w) X.A (eval (.Name x pos) X.env) Q E s :=
  Calls.Name_function_global I.ok.kind hg (Calls.loadGlobal_global (by rw [I.ok.glob]; exact I.mod.glob.keeps I.bk) hm h) hd
theorem ld_blt {E : Value → Shared → Prop} {pins : List (Addr × Obj)} {s : Shared} {σ : St} {H : Hp} {x : Str} {u : Value} {pos : Pos} {Q : Value → Shared → Prop} (I : Inv X pins σ H s) (hg : Gl X x) (hm : X.mg x = none) (hv : bootBuiltins x = some u) (h : Q u s)
    (hn : x ≠ "__name__" := by decide) (hd : (x == ("__debug__" : Str)) = false := by decide) : wpAny (model X.prog X.w) X.A (eval (.Name x pos) X.env) Q E s := by
  obtain ⟨mb, h1, h2⟩ := I.mod.blt
  exact Calls.Name_function_global I.ok.kind hg (Calls.loadGlobal_builtin (by rw [I.ok.glob]; exact I.mod.glob.keeps I.bk) hm (by rw [I.ok.blt]; exact h1.keeps I.bk) ((h2 x hn).trans hv) h) hd
/-- a module's constant, a class, a function, as a value -/
theorem pe_glob {x : Str} {v : V} {u : Value} {pos : Pos} (hg : Gl X x) (hm : X.mg x = some u) (r : RelV v u) (hd : (x == ("__debug__" : Str)) = false := by decide) : PE X (.Name x pos) (tC v) :=
  fun _ _ _ H _ I h => ld_glob I hg hm ⟨v, H, I, r, h⟩ hd
theorem pe_bltn {x : Str} {v : V} {u : Value} {pos : Pos} (hg : Gl X x) (hm : X.mg x = none) (hv : bootBuiltins x = some u) (r : RelV v u) (hn : x ≠ "__name__" := by decide) (hd : (x == ("__debug__" : Str)) = false := by decide) : PE X (.Name x pos) (tC v) :=
  fun _ _ _ H _ I h => ld_blt I hg hm hv ⟨v, H, I, r, h⟩ hn hd

/-! ### arithmetic -/
variable {a b : Expr} {ta tb : TE} {pos : Pos}
/-! ### comparisons -/
/-- a comparison as a value, as a test -/
def tB (t : TE) : TT := fun σ H Q => t σ H fun x H1 => ∃ c, x = .bl c ∧ Q c H1
/-- an expression whose value is a bool, as a test -/
theorem pt_val {e : Expr} {t : TE} (h : PE X e t) (he : ∀ whole, isTrue e X.env whole = (do let v ← whole; standAt e.pos; holding [v] (truthy v)) := by intro _; rfl) : PT X e (tB t) := by
  intro pins s σ H Q I hw
  refine isTrue_plain (thn (h pins s σ H _ I hw) fun v s1 ⟨x, H1, I1, r1, q1⟩ => ?_) (he _)
  obtain ⟨d, rfl, q⟩ := q1
  cases r1
  exact wpAny_truthy_bool ⟨H1, I1, q⟩

/-! ### and, or, not -/
variable {tA tB' : TT} {rest : List Expr}
def tAnd (t u : TT) : TT := fun σ H Q => t σ H fun c H1 => if c = true then u σ H1 Q else Q false H1
def tOr (t u : TT) : TT := fun σ H Q => t σ H fun c H1 => if c = true then Q true H1 else u σ H1 Q
def tNot (t : TT) : TT := fun σ H Q => t σ H fun c H1 => Q (!c) H1
theorem pw_and1 (ha : PT X a tA) : PW X (.BoolOp .And [a] pos) tA := by
  intro wh pins s σ H Q I h
  refine isTrue_and (thn (ha pins s σ H Q I h) fun c s1 e => ?_)
  cases c with
  | true => exact isTrue_and_nil e
  | false => exact e
theorem pw_or1 (ha : PT X a tA) : PW X (.BoolOp .Or [a] pos) tA := by
  intro wh pins s σ H Q I h
  refine isTrue_or (thn (ha pins s σ H Q I h) fun c s1 e => ?_)
  cases c with
  | false => exact isTrue_or_nil e
  | true => exact e
theorem pw_and (ha : PT X a tA) (hb : PW X (.BoolOp .And (b :: rest) pos) tB') : PW X (.BoolOp .And (a :: b :: rest) pos) (tAnd tA tB') := by
  intro wh pins s σ H Q I h
  refine isTrue_and (thn (ha pins s σ H _ I h) fun c s1 ⟨H1, I1, q1⟩ => ?_)
  cases c with
  | true => exact hb wh pins s1 σ H1 Q I1 q1
  | false => exact ⟨H1, I1, q1⟩
theorem pw_or (ha : PT X a tA) (hb : PW X (.BoolOp .Or (b :: rest) pos) tB') : PW X (.BoolOp .Or (a :: b :: rest) pos) (tOr tA tB') := by
  intro wh pins s σ H Q I h
  refine isTrue_or (thn (ha pins s σ H _ I h) fun c s1 ⟨H1, I1, q1⟩ => ?_)
  cases c with
  | true => exact ⟨H1, I1, q1⟩
  | false => exact hb wh pins s1 σ H1 Q I1 q1
theorem pt_not (ha : PT X a tA) : PT X (.UnaryOp .Not a pos) (tNot tA) := by
  intro pins s σ H Q I h
  exact isTrue_not (ha pins s σ H (fun c H1 => Q (!c) H1) I h)
/-- .. as values (bools) -/
def tAndV (ta tb : TE) : TE := fun σ H Q => ta σ H fun x H1 => ∃ c, x = .bl c ∧ if c = true then tb σ H1 Q else Q (.bl false) H1
theorem pe_one {op} {t : TE} (h : PE X a t) : PE X (.BoolOp op [a] pos) t := fun pins s σ H Q I hw => BoolOp_one (h pins s σ H Q I hw)
theorem pe_and (ha : PE X a ta) (hb : PE X (.BoolOp .And (b :: rest) pos) tb) : PE X (.BoolOp .And (a :: b :: rest) pos) (tAndV ta tb) := by
  intro pins s σ H Q I h
  refine BoolOp_and (thn (ha pins s σ H _ I h) fun v s1 ⟨x, H1, I1, r1, q1⟩ => ?_)
  obtain ⟨c, rfl, q1⟩ := q1
  cases r1
  refine wpAny_truthy_bool ?_
  cases c with
  | true => exact hb pins s1 σ H1 Q I1 q1
  | false => exact ⟨.bl false, H1, I1, rfl, q1⟩
end
end L2

namespace L2
open PySem PySem.Spec PyProof.Rows

/-! ### a list, a tuple that is read: tracked, frozen, or an object of the module -/
def SqL (K : PySem.W.Frag) (H : Hp) (a : Addr) (xs : List V) : Prop :=
  Rd H a (.lst xs) ∨
    ∃ (o : Obj) (its : Array Value) (n : Nat), K.lookup a = some o ∧ o.cls = .type "list" ∧ o.dict = none ∧ o.data = .seq its n ∧ its.size ≤ sizeLine ∧ Vals xs its.toList
def SqT (K : PySem.W.Frag) (H : Hp) (a : Addr) (xs : List V) : Prop :=
  Rd H a (.tup xs) ∨
    ∃ (o : Obj) (its : Array Value) (n : Nat), K.lookup a = some o ∧ o.cls = .type "tuple" ∧ o.data = .seq its n ∧ its.size ≤ sizeLine ∧ Vals xs its.toList
def absV : Value → Option V
  | .none => some .non
  | .bool b => some (.bl b)
  | .int i _ => some (.int i)
  | .str x _ => some (.str x)
  | .bytes b _ => some (.byt b)
  | .float b _ => some (.flt b)
  | .ref a => some (.ref a)
  | .type n => some (.ty n)
  | _ => none
theorem RelV.abs {x : V} {u : Value} (r : RelV x u) : absV u = some x := by
  cases x with
  | non => cases r; rfl
  | bl _ => cases r; rfl
  | int _ => obtain ⟨t, rfl⟩ := r; rfl
  | str _ => obtain ⟨t, rfl⟩ := r; rfl
  | byt _ => obtain ⟨t, rfl⟩ := r; rfl
  | flt _ => obtain ⟨t, rfl⟩ := r; rfl
  | ref _ => cases r; rfl
  | ty _ => cases r; rfl
theorem RelV.inj {x y : V} {u : Value} (r : RelV x u) (q : RelV y u) : x = y := Option.some.inj (r.abs.symm.trans q.abs)
theorem Vals.inj : ∀ {xs ys : List V} {us : List Value}, Vals xs us → Vals ys us → xs = ys
  | _, _, _, .nil, .nil => rfl
  | _, _, _, .cons r t, .cons r' t' => by rw [r.inj r', Vals.inj t t']
section
variable {X : Cx} {pins : List (Addr × Obj)} {σ : St} {H : Hp} {s : Shared} {a : Addr} {xs ys : List V}
theorem SqL.of {K : PySem.W.Frag} (h : H a = some (.lst xs)) : SqL K H a xs := .inl (.inl h)
theorem SqT.of {K : PySem.W.Frag} (h : H a = some (.tup xs)) : SqT K H a xs := .inl (.inl h)
theorem Inv.list (I : Inv X pins σ H s) (h : SqL X.K H a xs) : ∃ its : List Value, Vals xs its ∧ PlainL s.heap a its.toArray ∧ xs.length ≤ sizeLine := by
  rcases h with h | ⟨o, its, n, hk, hc, hd, hs, hz, r⟩
  · obtain ⟨z, its, n, r, e⟩ := h.ok I.hok
    exact ⟨its, r, ⟨_, n, e, rfl, rfl, rfl⟩, z⟩
  · refine ⟨its.toList, r, ⟨o, n, I.kIn a o hk, hc, hd, by simpa using hs⟩, ?_⟩
    have e := r.length
    simp only [Array.length_toList] at e
    omega
theorem Inv.tuple (I : Inv X pins σ H s) (h : SqT X.K H a xs) : ∃ its : List Value, Vals xs its ∧ IsTup s.heap a its.toArray ∧ xs.length ≤ sizeLine := by
  rcases h with h | ⟨o, its, n, hk, hc, hs, hz, r⟩
  · obtain ⟨z, its, r, p⟩ := h.ok I.hok
    exact ⟨its, r, p, z⟩
  · refine ⟨its.toList, r, ⟨o, I.kIn a o hk, hc, n, by simpa using hs⟩, ?_⟩
    have e := r.length
    simp only [Array.length_toList] at e
    omega
theorem Inv.list_inj (I : Inv X pins σ H s) (h : SqL X.K H a xs) (h' : SqL X.K H a ys) : xs = ys := by
  obtain ⟨its, r, ⟨o, n, e, _, _, d⟩, _⟩ := I.list h
  obtain ⟨its', r', ⟨o', n', e', _, _, d'⟩, _⟩ := I.list h'
  rw [e] at e'; cases e'
  rw [d] at d'
  injection d' with d1 _
  have : its = its' := by simpa using congrArg Array.toList d1
  subst this
  exact r.inj r'
end

/-! ### another wish about exceptions -/
abbrev Cx.wish (X : Cx) (E : Value → Shared → Prop) : Cx := { X with xe := E }
/-- no exception leaves -/
abbrev Cx.nox (X : Cx) : Cx := X.wish fun _ _ => False
theorem Cx.Ok.wish {X : Cx} (ok : X.Ok) (E : Value → Shared → Prop) : (X.wish E).Ok :=
  ⟨ok.mod, ok.kind, ok.glob, ok.blt, ok.above, ok.inj, ok.has, ok.cab, ok.hd, ok.frames, ok.stk, ok.exf, ok.bs, ok.bsz, ok.noex, ok.exfs, ok.funs, ok.frf⟩
theorem Cx.Ok.unwish {X : Cx} {E : Value → Shared → Prop} (ok : (X.wish E).Ok) : X.Ok :=
  ⟨ok.mod, ok.kind, ok.glob, ok.blt, ok.above, ok.inj, ok.has, ok.cab, ok.hd, ok.frames, ok.stk, ok.exf, ok.bs, ok.bsz, ok.noex, ok.exfs, ok.funs, ok.frf⟩
section
variable {X : Cx} {pins : List (Addr × Obj)} {σ : St} {H : Hp} {s : Shared} {E : Value → Shared → Prop}
theorem Inv.wish (I : Inv X pins σ H s) (E : Value → Shared → Prop) : Inv (X.wish E) pins σ H s := ⟨I.ok.wish E, I.os, I.bare, I.base, I.loc, I.cell, I.free, I.freeC, I.pin, I.hok, I.len⟩
theorem Inv.unwish (I : Inv (X.wish E) pins σ H s) : Inv X pins σ H s := ⟨I.ok.unwish, I.os, I.bare, I.base, I.loc, I.cell, I.free, I.freeC, I.pin, I.hok, I.len⟩
theorem SP.unwish {D : Ends} {f : Flow} {s' : Shared} (h : SP (X.wish E) pins D f s') : SP X pins D f s' := by
  cases f with
  | next => obtain ⟨σ', H', I, q⟩ := h; exact ⟨σ', H', I.unwish, q⟩
  | brk => obtain ⟨σ', H', I, q⟩ := h; exact ⟨σ', H', I.unwish, q⟩
  | cont => obtain ⟨σ', H', I, q⟩ := h; exact ⟨σ', H', I.unwish, q⟩
  | ret u => obtain ⟨v, σ', H', I, r, q⟩ := h; exact ⟨v, σ', H', I.unwish, r, q⟩
theorem PE.nox {e : Expr} {t : TE} (h : PE X.nox e t) : PE X e t := fun pins s σ H Q I hw =>
  wpAny_mono (h pins s σ H Q (I.wish _) hw) (fun _ _ ⟨v, H', I', r, q⟩ => ⟨v, H', I'.unwish, r, q⟩) fun _ _ z => False.elim z
theorem PT.nox {e : Expr} {t : TT} (h : PT X.nox e t) : PT X e t := fun pins s σ H Q I hw =>
  wpAny_mono (h pins s σ H Q (I.wish _) hw) (fun _ _ ⟨H', I', q⟩ => ⟨H', I'.unwish, q⟩) fun _ _ z => False.elim z
theorem PSs.nox {st : List Stmt} {t : TS} (h : PSs X.nox st t) : PSs X st t := fun pins s σ H D I hw =>
  wpAny_mono (h pins s σ H D (I.wish _) hw) (fun _ _ q => q.unwish) fun _ _ z => False.elim z
end

/-! ### blocks and small statements -/
section
variable {X : Cx} {st : Stmt} {rest : List Stmt} {t u : TS} {e : Expr} {te : TE} {pos : Pos}
def tNext : TS := fun D σ H => D.nx σ H
def tSeq (t u : TS) : TS := fun D σ H => t { D with nx := u D } σ H
theorem pss_nil : PSs X [] tNext := fun _ _ σ H _ I h => wpAny_execs_nil ⟨σ, H, I, h⟩
theorem pss_cons (h1 : PS X st t) (h2 : PSs X rest u) : PSs X (st :: rest) (tSeq t u) := by
  intro pins s σ H D I h
  refine wpAny_execs_cons (thn (h1 pins s σ H { D with nx := u D } I h) fun f s1 q => ?_)
  cases f with
  | next =>
    obtain ⟨σ', H', I', q⟩ := q
    exact h2 pins s1 σ' H' D I' q
  | ret v => exact q
  | brk => exact q
  | cont => exact q
theorem pss_one (h1 : PS X st t) : PSs X [st] t := by
  intro pins s σ H D I h
  refine wpAny_execs_cons (thn (h1 pins s σ H D I h) fun f s1 q => ?_)
  cases f with
  | next => exact wpAny_execs_nil q
  | ret v => exact q
  | brk => exact q
  | cont => exact q
/-- in a def's body nothing is shown -/
theorem Inv.quiet {pins : List (Addr × Obj)} {σ : St} {H : Hp} {s : Shared} (I : Inv X pins σ H s) : interactive X.env = false := by simp [interactive, I.ok.kind]
/-- an expression whose value is dropped -/
def tDrop (te : TE) : TS := fun D σ H => te σ H fun _ H1 => D.nx σ H1
theorem ps_expr (he : PE X e te) (hs : swapsWith e none pos.line X.env = pure false := by rfl) : PS X (.Expr e pos) (tDrop te) := by
  intro pins s σ H D I h
  exact wpAny_Expr_any (thn (he pins s σ H _ I h) fun v s1 ⟨x, H1, I1, r1, q1⟩ => ⟨σ, H1, I1, q1⟩) I.quiet hs
def tRet (te : TE) : TS := fun D σ H => te σ H D.rt
theorem ps_ret (he : PE X e te) : PS X (.Return (some e) pos) (tRet te) := by
  intro pins s σ H D I h
  exact wpAny_Return_some (thn (he pins s σ H _ I h) fun v s1 ⟨x, H1, I1, r1, q1⟩ => ⟨x, σ, H1, I1, r1, q1⟩)
def tIfS (c : TT) (t u : TS) : TS := fun D σ H => c σ H fun b H1 => if b = true then t D σ H1 else u D σ H1
theorem ps_if {c : Expr} {a b : List Stmt} {tc : TT} (hc : PT X c tc) (ha : PSs X a t) (hb : PSs X b u) : PS X (.If c a b pos) (tIfS tc t u) := by
  intro pins s σ H D I h
  refine wpAny_If (thn (hc pins s σ H _ I h) fun d s1 ⟨H1, I1, q1⟩ => ?_)
  cases d with
  | true => exact ha pins s1 σ H1 D I1 q1
  | false => exact hb pins s1 σ H1 D I1 q1
/-- code that the proof never comes to -/
def tNever : TS := fun _ _ _ => False
theorem ps_never : PS X st tNever := fun _ _ _ _ _ _ h => h.elim
theorem pss_never {sts : List Stmt} : PSs X sts tNever := fun _ _ _ _ _ _ h => h.elim
end

/-! ### targets -/
abbrev TG := V → St → Hp → (St → Hp → Prop) → Prop
def PG (X : Cx) (target : Expr) (t : TG) : Prop :=
  ∀ (pins : List (Addr × Obj)) (s : Shared) (σ : St) (H : Hp) (v : V) (u : Value) (Q : St → Hp → Prop), Inv X pins σ H s → RelV v u → t v σ H Q →
    wpAny (model X.prog X.w) X.A (assign target X.env u) (fun _ s' => ∃ σ' H', Inv X pins σ' H' s' ∧ Q σ' H') X.xe s
/-- o[i] = v, by values -/
abbrev TSet := V → V → V → Hp → (Hp → Prop) → Prop
def PSet (X : Cx) (t : TSet) : Prop :=
  ∀ (pins : List (Addr × Obj)) (s : Shared) (σ : St) (H : Hp) (o i v : V) (ov iv u : Value) (Q : Hp → Prop), Inv X pins σ H s → RelV o ov → RelV i iv → RelV v u → t o i v H Q →
    wpAny (model X.prog X.w) X.A (setItem ov iv u) (fun _ s' => ∃ H', Inv X pins σ H' s' ∧ Q H') X.xe s
section
variable {X : Cx} {pos : Pos}
def gName (i : Nat) : TG := fun v σ H Q => Q (σ.set i (some v)) H
theorem pg_name {i : Nat} {x : Str} (hN : X.N.Nodup) (hi : X.N[i]? = some x) (hx : Loc X.env.scope x) (hf : X.fn x = true ∨ X.env.scope.names.lookup x = some .local := by first | exact .inl rfl | exact .inr rfl | assumption) : PG X (.Name x pos) (gName i) := by
  intro pins s σ H v u Q I r h
  exact wpAny_assign_Name (store_ok I hN hi hx r (fun s' I' => ⟨_, H, I', h⟩) hf)
/-- o[i] = .. -/
def gSub (to ti : TE) (t : TSet) : TG := fun v σ H Q => to σ H fun o H1 => ti σ H1 fun i H2 => t o i v H2 fun H3 => Q σ H3
theorem pg_sub {o i : Expr} {to ti : TE} {t : TSet} (ho : PE X o to) (hi : PE X i ti) (hs : PSet X t)
    (ha : ∀ v, assign (.Subscript o i pos) X.env v = (do
      let ov ← holding [v] (eval o X.env)
      let iv ← holding [v, ov] (eval i X.env)
      standAt pos
      holding [v, ov, iv] (setItem ov iv v)
      release [v, ov, iv] []) := by intro _; rfl) : PG X (.Subscript o i pos) (gSub to ti t) := by
  intro pins s σ H v u Q I r h
  rw [ha]
  refine wpAny_bind (wpAny_holding (thn (ho pins s σ H _ I h) fun ov s1 ⟨x, H1, I1, r1, q1⟩ => ?_))
  refine wpAny_bind (wpAny_holding (thn (hi pins s1 σ H1 _ I1 q1) fun iv s2 ⟨y, H2, I2, r2, q2⟩ => ?_))
  refine wpAny_bind (wpAny_standAt (wpAny_bind (wpAny_holding (thn (hs pins s2 σ H2 x y v ov iv u _ I2 r1 r2 r q2) fun _ s3 ⟨H3, I3, q3⟩ => ?_))))
  exact wpAny_release ⟨σ, H3, I3, q3⟩
/-- target = value -/
def tAsg (te : TE) (g : TG) : TS := fun D σ H => te σ H fun x H1 => g x σ H1 D.nx
theorem ps_asg {tg e : Expr} {te : TE} {g : TG} (he : PE X e te) (hg : PG X tg g) (hs : swapsWithSole [tg] e pos.line X.env = pure false := by rfl) (hw : swappedStores [tg] e X.env = pure none := by rfl)
    (h1 : (assignEach [tg] X.env).map (·.2) = [assign tg X.env] := by rfl) : PS X (.Assign [tg] e pos) (tAsg te g) := by
  intro pins s σ H D I h
  refine wpAny_Assign_stores (thn (he pins s σ H _ I h) fun v s1 ⟨x, H1, I1, r1, q1⟩ => ?_) hs hw
  rw [h1]
  exact thn (hg pins s1 σ H1 x v _ I1 r1 q1) fun _ s2 q => q
/-- name = value -/
theorem ps_set {i : Nat} {x : Str} {e : Expr} {te : TE} {pos' : Pos} (hN : X.N.Nodup) (hi : X.N[i]? = some x) (hx : Loc X.env.scope x) (he : PE X e te) (hs : swapsWith e (some (.Name x pos')) pos.line X.env = pure false := by rfl) (hf : X.fn x = true ∨ X.env.scope.names.lookup x = some .local := by first | exact .inl rfl | exact .inr rfl | assumption) :
    PS X (.Assign [.Name x pos'] e pos) (tAsg te (gName i)) := by
  intro pins s σ H D I h
  refine wpAny_Assign_Name (thn (he pins s σ H _ I h) fun v s1 ⟨y, H1, I1, r1, q1⟩ => ?_) hs
  exact store_ok I1 hN hi hx r1 (fun s2 I2 => ⟨_, H1, I2, q1⟩) hf
end

/-! ### while -/
section
variable {X : Cx} {pos : Pos}
end

/-! ### what a loop or a comprehension walks -/
/-- at turn i: it yields x (the heap may grow), or it stops -/
structure It where
  go : Nat → Hp → Prop
  yld : Nat → Hp → V → Hp → Prop
  stop : Nat → Hp → Prop
/-- the iterator's own objects may turn: they are not the frame's, not pinned, younger than the entry (or a comprehension's own) -/
def FpOk (X : Cx) (pins : List (Addr × Obj)) (H : Hp) (b : Addr) : Prop :=
  H b = none ∧ b ≠ X.env.locals ∧ b ∉ X.fs ∧ (b ∈ X.ex ∨ X.s₀.heap.objs.size ≤ b) ∧ (∀ x c, X.env.cells.lookup x = some c → c ≠ b) ∧ ∀ p ∈ X.pn ++ pins, p.1 ≠ b
theorem Inv.fpOk {X : Cx} {pins : List (Addr × Obj)} {σ : St} {H H' : Hp} {s : Shared} {b : Addr} (I : Inv X pins σ H s) (hb : s.heap.objs.size ≤ b) (hn : H' b = none) : FpOk X pins H' b := by
  refine ⟨hn, Nat.ne_of_gt (Nat.lt_of_lt_of_le I.lt hb), I.nofs hb, .inr (Nat.le_trans I.sz hb), fun x c e z => ?_, fun p hp z => ?_⟩
  · obtain ⟨v, q⟩ := I.cell x c e
    exact absurd (Nat.lt_of_lt_of_le q.lt (by rw [z]; exact hb)) (Nat.lt_irrefl _)
  · exact absurd (Nat.lt_of_lt_of_le (Heap.lt_size (I.pin p hp).1) (by rw [z]; exact hb)) (Nat.lt_irrefl _)
structure Turn (P : Program) (w : World) (K : PySem.W.Frag) (tg : Expr) (J : It) (fp : List Addr) (it : Addr) (tn : Nat → Heap → Prop) : Prop where
  mem : it ∈ fp
  obj : ∀ i h, tn i h → ∀ b ∈ fp, ∃ o, h.get? b = some o ∧ ∀ v, o.data ≠ .cell v
  keep : ∀ i h h', tn i h → (∀ b ∈ fp, ∀ o, h.get? b = some o → h'.get? b = some o) → tn i h'
  item : ∀ (X : Cx), X.prog = P → X.w = w → X.K = K → X.calm = true → ∀ (i : Nat) (pins : List (Addr × Obj)) (s : Shared) (σ : St) (H : Hp) (E : Value → Shared → Prop), Inv X pins σ H s → (∀ b ∈ fp, FpOk X pins H b) → tn i s.heap → J.go i H →
    wpAny (model P w) X.A (pyNext (.ref it)) (fun r s1 => ∃ u, r = some u ∧
      wpAny (model P w) X.A (letOwnedTupleGo tg (.ref it) u) (fun _ s2 => ∃ x H', Inv X pins σ H' s2 ∧ RelV x u ∧ J.yld i H x H' ∧ tn (i + 1) s2.heap ∧ ∀ b ∈ fp, H' b = none) E s1) E s
  done : ∀ (X : Cx), X.prog = P → X.w = w → X.K = K → X.calm = true → ∀ (i : Nat) (pins : List (Addr × Obj)) (s : Shared) (σ : St) (H : Hp) (E : Value → Shared → Prop), Inv X pins σ H s → (∀ b ∈ fp, FpOk X pins H b) → tn i s.heap → J.stop i H →
    wpAny (model P w) X.A (pyNext (.ref it)) (fun r s1 => r = none ∧ Inv X pins σ H s1) E s
  self : ∀ (A : Around) (i : Nat) (s : Shared) (Q : Value → Shared → Prop) (E : Value → Shared → Prop), tn i s.heap → Q (.ref it) s → wpAny (model P w) A (pyIter (.ref it)) Q E s
abbrev TI := St → Hp → (It → Hp → Prop) → Prop
/-- an iterator has come -/
def PIE (X : Cx) (pins : List (Addr × Obj)) (σ : St) (tg : Expr) (R : It → Hp → Prop) (itv : Value) (s2 : Shared) : Prop :=
  ∃ (it : Addr) (fp : List Addr) (tn : Nat → Heap → Prop) (J : It) (H' : Hp), itv = .ref it ∧ Inv X pins σ H' s2 ∧ Turn X.prog X.w X.K tg J fp it tn ∧ tn 0 s2.heap ∧ (∀ b ∈ fp, FpOk X pins H' b) ∧ R J H'
def PI (X : Cx) (tg iter : Expr) (wi : TI) : Prop :=
  ∀ (pins : List (Addr × Obj)) (s : Shared) (σ : St) (H : Hp) (R : It → Hp → Prop), Inv X pins σ H s → wi σ H R →
    wpAny (model X.prog X.w) X.A (eval iter X.env) (fun v s1 => wpAny (model X.prog X.w) X.A (pyIter v) (PIE X pins σ tg R) X.xe s1) X.xe s

/-- the step ahead of the store is nothing for an iterator that keeps no tuple -/
theorem go_of {M : Model} {A : Around} {E : Value → Shared → Prop} {s : Shared} {tg : Expr} {it : Addr} {u : Value} {o : Obj} {n : String} {vs : Array Value} {Q : Unit → Shared → Prop} (ho : s.heap.get? it = some o) (hc : o.cls = .type n) (hd : o.data = .fields vs)
    (hn : ["enumerate", "zip", "dict_itemiterator", "dict_reverseitemiterator", "odict_iterator", "itertools.zip_longest", "itertools.pairwise"].contains n = false) (hQ : Q () s) : wpAny M A (letOwnedTupleGo tg (.ref it) u) Q E s := by
  unfold letOwnedTupleGo
  cases tg <;> first
    | exact wpAny_pure hQ
    | (cases u <;> first
        | exact wpAny_pure hQ
        | (refine wpAny_bind (wpAny_load ho ?_)
           rw [hc, hd]
           show wpAny M A (if (["enumerate", "zip", "dict_itemiterator", "dict_reverseitemiterator", "odict_iterator", "itertools.zip_longest", "itertools.pairwise"].contains n && vs[0]? == some (rawInt _)) = true then _ else _) Q E s
           rw [if_neg (by intro h; rw [hn, Bool.false_and] at h; cases h)]
           exact wpAny_pure hQ))

/-- the list at a, as it stands at each turn (a loop may append to it) -/
def Itl (K : PySem.W.Frag) (a : Addr) : It :=
  ⟨fun i H => ∃ xs x, SqL K H a xs ∧ xs[i]? = some x, fun i H x H' => H' = H ∧ ∀ xs, SqL K H a xs → xs[i]? = some x, fun i H => ∃ xs, SqL K H a xs ∧ xs.length ≤ i⟩
/-- lo, lo + 1, .. (n of them) -/
def Itr (lo : Int) (n : Nat) : It := ⟨fun i _ => i < n, fun i H x H' => H' = H ∧ x = .int (lo + i), fun i _ => n ≤ i⟩
theorem turn_list {P : Program} {w : World} {K : PySem.W.Frag} {tg : Expr} (a it : Addr) : Turn P w K tg (Itl K a) [it] it (fun i h => h.IsListIter it a i) where
  mem := by simp
  obj := fun i h st b hb => by
    have e : b = it := by simpa using hb
    subst e
    obtain ⟨o, e, c, d⟩ := st
    exact ⟨o, e, fun v z => by rw [d] at z; cases z⟩
  keep := fun i h h' st k => st.at fun o e => k it (by simp) o e
  item := by
    intro X hP hw hK hc i pins s σ H E I hf st hg
    subst hP hw hK
    obtain ⟨xs, x, hq, hx⟩ := hg
    obtain ⟨its, rv, p, hz⟩ := I.list hq
    obtain ⟨u, hu, ru⟩ := rv.get hx
    obtain ⟨f0, f1, f2, f3, f4, f5⟩ := hf it (by simp)
    refine wpAny_pyNext_list_item st p.isList (x := u) (by simpa using hu) fun h' st' sb => ?_
    have I1 : Inv X pins σ H { s with heap := h' } := I.turned (t' := s.toks) (fun b o hb e => (sb.2 b hb).trans e) f0 f1 f3 f4 f5
    obtain ⟨o, e, c, d⟩ := id st'
    exact ⟨u, rfl, go_of (s := { s with heap := h' }) e c d (by decide) ⟨x, H, I1, ru, ⟨rfl, fun ys hy => by rw [I.list_inj hy hq]; exact hx⟩, st', fun b hb => (hf b hb).1⟩⟩
  done := by
    intro X hP hw hK hc i pins s σ H E I hf st hg
    subst hP hw hK
    obtain ⟨xs, hq, hx⟩ := hg
    obtain ⟨its, rv, p, hz⟩ := I.list hq
    obtain ⟨f0, f1, f2, f3, f4, f5⟩ := hf it (by simp)
    have hl := rv.length
    exact wpAny_pyNext_list_end (I.ok.hd hc) st p.isList (by simp; omega) fun h' eb => ⟨rfl, I.turned (t' := s.toks) (fun b o hb e => eb b o hb e) f0 f1 f3 f4 f5⟩
  self := fun _ _ _ _ _ st h => wpAny_pyIter_listiter st h
theorem turn_range {P : Program} {w : World} {K : PySem.W.Frag} {tg : Expr} (it : Addr) (lo : Int) (n : Nat) : Turn P w K tg (Itr lo n) [it] it (fun i h => IsRangeIter h it (lo + (i : Nat) * 1) ((n : Int) - (i : Nat)) 1) where
  mem := by simp
  obj := fun i h st b hb => by
    have e : b = it := by simpa using hb
    subst e
    exact ⟨_, st, fun v z => by
      have z' : Data.fields _ = Data.cell v := z
      cases z'⟩
  keep := fun i h h' st k => k it (by simp) _ st
  item := by
    intro X hP hw hK hc i pins s σ H E I hf st hg
    subst hP hw hK
    obtain ⟨f0, f1, f2, f3, f4, f5⟩ := hf it (by simp)
    have W := Walks.range (prog := X.prog) (w := X.w) (I.ok.hd hc) it lo 1 n
    refine W.item i s _ _ hg st fun v h' tk hv st' kk => ?_
    obtain ⟨t, rfl⟩ := hv
    have I1 : Inv X pins σ H { s with heap := h', toks := tk } := I.turned (fun b o hb e => kk b o (by simpa using hb) e) f0 f1 f3 f4 f5
    refine ⟨_, rfl, go_of (s := { s with heap := h', toks := tk }) (n := "range_iterator") st' rfl rfl (by decide) ⟨.int (lo + i), H, I1, ⟨t, ?_⟩, ⟨rfl, rfl⟩, st', fun b hb => (hf b hb).1⟩⟩
    rw [Int.mul_one]
  done := by
    intro X hP hw hK hc i pins s σ H E I hf st hg
    subst hP hw hK
    obtain ⟨f0, f1, f2, f3, f4, f5⟩ := hf it (by simp)
    exact wpAny_pyNext_range_end (I.ok.hd hc) st (by have : n ≤ i := hg; omega) fun h' eb => ⟨rfl, I.turned (t' := s.toks) (fun b o hb e => eb b o hb e) f0 f1 f3 f4 f5⟩
  self := fun _ _ _ _ _ st h => wpAny_pyIter_rangeiter st h
end L2

namespace L2
open PySem PySem.Spec PyProof.Rows
section
variable {X : Cx} {tg : Expr}
def iList (K : PySem.W.Frag) (tl : TE) : TI := fun σ H R => tl σ H fun x H1 => ∃ a, x = .ref a ∧ (∃ xs, SqL K H1 a xs) ∧ R (Itl K a) H1
theorem pi_list {l : Expr} {tl : TE} (hl : PE X l tl) : PI X tg l (iList X.K tl) := by
  intro pins s σ H R I h
  refine thn (hl pins s σ H _ I h) fun v s1 ⟨x, H1, I1, r1, q1⟩ => ?_
  obtain ⟨a, e, ⟨xs, hq⟩, q⟩ := q1
  subst e
  cases r1
  obtain ⟨its, rv, p, hz⟩ := I1.list hq
  refine wpAny_pyIter_list p.isList ?_
  refine ⟨s1.heap.objs.size, [s1.heap.objs.size], _, _, H1, rfl, I1.kept (t' := s1.toks) fun b o e => Heap.get?_push_of_some _ e, turn_list a _, ⟨_, Heap.get?_push_size _ rfl, rfl, rfl⟩, fun b hb => ?_, q⟩
  have e : b = s1.heap.objs.size := by simpa using hb
  subst e
  exact I1.fpOk (Nat.le_refl _) (I1.hok.fresh (Nat.le_refl _))
/-- a range object just made, walked -/
theorem range_it {pins : List (Addr × Obj)} {σ : St} {H : Hp} {s : Shared} {R : It → Hp → Prop} {E : Value → Shared → Prop} {lo hi : Int} {t u v : Tok} {tk : Nat} (I : Inv X pins σ H s) (h1 : -(2 ^ 62) ≤ lo) (h2 : lo < 2 ^ 62) (h3 : -(2 ^ 62) ≤ hi) (h4 : hi < 2 ^ 62)
    (q : R (Itr lo (hi - lo).toNat) H) : wpAny (model X.prog X.w) X.A (pyIter (.ref s.heap.objs.size)) (PIE X pins σ tg R) E { s with heap := s.heap.push { cls := .type "range", data := .fields #[.int lo t, .int hi u, .int 1 v] }, toks := tk } := by
  refine wpAny_pyIter_range (IsRange.new ..) (small_one h1 h2 h3 h4) ?_
  have I1 : Inv X pins σ H { s with heap := s.heap.push { cls := .type "range", data := .fields #[.int lo t, .int hi u, .int 1 v] }, toks := tk } := I.kept fun b o e => Heap.get?_push_of_some _ e
  refine ⟨(s.heap.push { cls := .type "range", data := .fields #[.int lo t, .int hi u, .int 1 v] }).objs.size, [(s.heap.push { cls := .type "range", data := .fields #[.int lo t, .int hi u, .int 1 v] }).objs.size], _, _, H, rfl,
    I1.kept (t' := tk) fun b o e => Heap.get?_push_of_some _ e, turn_range _ lo (hi - lo).toNat, ?_, fun b hb => ?_, q⟩
  · have e1 : lo + ((0 : Nat) : Int) * 1 = lo := by simp
    have e2 : (((hi - lo).toNat : Nat) : Int) - ((0 : Nat) : Int) = Builtin.Range.rangeSize lo hi 1 := by rw [rangeSize_one]; split <;> omega
    show IsRangeIter _ _ (lo + ((0 : Nat) : Int) * 1) ((((hi - lo).toNat : Nat) : Int) - ((0 : Nat) : Int)) 1
    rw [e1, e2]
    exact Heap.get?_push_size _ rfl
  · have e : b = (s.heap.push { cls := .type "range", data := .fields #[.int lo t, .int hi u, .int 1 v] }).objs.size := by simpa using hb
    subst e
    exact I1.fpOk (Nat.le_refl _) (I1.hok.fresh (Nat.le_refl _))
def iRng1 (ta : TA) : TI := fun σ H R => ta σ H fun vs H1 => ∃ j : Int, vs = [.int j] ∧ -(2 ^ 62) ≤ j ∧ j < 2 ^ 62 ∧ R (Itr 0 j.toNat) H1
def iRng2 (ta : TA) : TI := fun σ H R => ta σ H fun vs H1 => ∃ i j : Int, vs = [.int i, .int j] ∧ (-(2 ^ 62) ≤ i ∧ i < 2 ^ 62 ∧ -(2 ^ 62) ≤ j ∧ j < 2 ^ 62) ∧ R (Itr i (j - i).toNat) H1
theorem pi_range1 {a : Expr} {ta : TA} {p pos : Pos} (hg : Gl X "range") (hm : X.mg "range" = none) (ha : PA X [a] ta) (hs : starEach [a] X.env = [(false, eval a X.env)] := by rfl) : PI X tg (.Call (.Name "range" p) [a] [] pos) (iRng1 ta) := by
  intro pins s σ H R I h
  refine Call_ (ld_blt I hg hm boot_range (PyProof.Rows.callWith_type1 (thn (ha pos pins s σ H _ I h) fun us s1 ⟨vs, H1, I1, r1, q1⟩ => ?_) hs rfl))
  obtain ⟨j, e, q1, q2, q⟩ := q1
  subst e
  cases r1 with
  | cons r rr =>
    cases rr
    obtain ⟨t, rfl⟩ := r
    exact call_range_1 (range_it I1 (by omega) (by omega) q1 q2 (by simpa using q))
theorem pi_range2 {a b : Expr} {ta : TA} {p pos : Pos} (hg : Gl X "range") (hm : X.mg "range" = none) (ha : PA X [a, b] ta) (hs : starEach [a, b] X.env = [(false, eval a X.env), (false, eval b X.env)] := by rfl) (hs2 : starEach [b] X.env = [(false, eval b X.env)] := by rfl) :
    PI X tg (.Call (.Name "range" p) [a, b] [] pos) (iRng2 ta) := by
  intro pins s σ H R I h
  refine Call_ (ld_blt I hg hm boot_range (PyProof.Rows.callWith_type1 (thn (ha pos pins s σ H _ I h) fun us s1 ⟨vs, H1, I1, r1, q1⟩ => ?_) (by rw [hs, hs2]) (by rw [hs2]; rfl)))
  obtain ⟨i, j, e, ⟨q1, q2, q3, q4⟩, q⟩ := q1
  subst e
  cases r1 with
  | cons r rr =>
    cases rr with
    | cons r' rr =>
      cases rr
      obtain ⟨t, rfl⟩ := r
      obtain ⟨t', rfl⟩ := r'
      exact call_range_2 (range_it I1 q1 q2 q3 q4 q)

/-! ### for -/
/-- W: the invariant by the turn and a measure; N: what the body is to reach -/
def tFor (wi : TI) (g : TG) (tb : TS) : TS := fun D σ H => wi σ H fun J H1 => ∃ W : Nat → Nat → St → Hp → Prop, (∃ m, W 0 m σ H1) ∧ ∀ i m σ H, W i m σ H →
  (J.stop i H ∧ D.nx σ H) ∨ (J.go i H ∧ ∃ N : St → Hp → Prop, (∀ σ' H', N σ' H' → ∃ m', m' < m ∧ W (i + 1) m' σ' H') ∧ ∀ x H', J.yld i H x H' → g x σ H' fun σ2 H2 => tb { D with nx := N, ct := N, bk := D.nx } σ2 H2)
/-- the records at fp as they stand -/
def pinsAt (fp : List Addr) (h : Heap) : List (Addr × Obj) := fp.filterMap fun b => (h.get? b).map fun o => (b, o)
theorem mem_pinsAt {fp : List Addr} {h : Heap} {b : Addr} {o : Obj} (hb : b ∈ fp) (e : h.get? b = some o) : (b, o) ∈ pinsAt fp h := List.mem_filterMap.mpr ⟨b, hb, by rw [e]; rfl⟩
theorem of_pinsAt {fp : List Addr} {h : Heap} {p : Addr × Obj} (hp : p ∈ pinsAt fp h) : p.1 ∈ fp ∧ h.get? p.1 = some p.2 := by
  obtain ⟨b, hb, e⟩ := List.mem_filterMap.mp hp
  cases q : h.get? b with
  | none => rw [q] at e; cases e
  | some o =>
    rw [q] at e
    have e' : (b, o) = p := Option.some.inj e
    subst e'
    exact ⟨hb, q⟩
theorem Inv.pinned {pins : List (Addr × Obj)} {σ : St} {H : Hp} {s : Shared} {fp : List Addr} (I : Inv X pins σ H s) (hf : ∀ b ∈ fp, FpOk X pins H b) (ho : ∀ b ∈ fp, ∃ o, s.heap.get? b = some o ∧ ∀ v, o.data ≠ .cell v) : Inv X (pins ++ pinsAt fp s.heap) σ H s :=
  I.pins_of fun p hp => (List.mem_append.mp hp).elim (fun z => I.pin p (List.mem_append_right _ z)) fun z => by
    obtain ⟨hb, e⟩ := of_pinsAt z
    obtain ⟨f0, f1, f2, _⟩ := hf p.1 hb
    obtain ⟨o, e', d⟩ := ho p.1 hb
    rw [e] at e'; cases e'
    exact ⟨e, f0, f1, f2, d⟩
theorem Inv.unpinned {pins pl : List (Addr × Obj)} {σ : St} {H : Hp} {s : Shared} (I : Inv X (pins ++ pl) σ H s) : Inv X pins σ H s := I.pins_of fun p hp => I.pin p (List.mem_append_right _ (List.mem_append_left _ hp))
theorem ps_for {iter : Expr} {body : List Stmt} {wi : TI} {g : TG} {tb : TS} {pos : Pos} (hp : PassesOwn (model X.prog X.w) X.A X.env X.xe) (hc : X.calm = true) (hi : PI X tg iter wi) (hg : PG X tg g) (hb : PSs X body tb)
    (hs : ∀ x, foldedSetIterable iter X.env x = pure x := by intro _; rfl) : PS X (.For tg iter body [] pos) (tFor wi g tb) := by
  intro pins s σ H D I h
  refine wpAny_For (thn (hi pins s σ H _ I h) fun v s1 h1 => thn h1 fun itv s2 h2 => ?_) hs
  obtain ⟨it, fp, tn, J, H2, e, I2, T, st2, f2, W, ⟨m0, w0⟩, turn⟩ := h2
  subst e
  -- what stays true of the iterator's objects through the loop
  have stat : ∀ {H' : Hp}, (∀ b ∈ fp, H' b = none) → ∀ b ∈ fp, FpOk X pins H' b := fun hn b hb => ⟨hn b hb, (f2 b hb).2⟩
  refine codeAny_forLoop_any (fun n s' => ∃ i σ' H', Inv X pins σ' H' s' ∧ tn i s'.heap ∧ (∀ b ∈ fp, H' b = none) ∧ W i n σ' H') ?_ m0 ⟨0, σ, H2, I2, st2, fun b hb => (f2 b hb).1, w0⟩
  rintro n s3 ⟨i, σ3, H3, I3, st3, fr3, w3⟩
  rcases turn i n σ3 H3 w3 with ⟨stop, qn⟩ | ⟨go, N, hN, step⟩
  · refine wpAny_passesOwn hp (thn (T.done X rfl rfl rfl hc i pins s3 σ3 H3 X.xe I3 (stat fr3) st3 stop) fun r s4 ⟨hr, I4⟩ => ?_)
    subst hr
    exact wpAny_execs_nil ⟨σ3, H3, I4, qn⟩
  · refine wpAny_passesOwn hp (thn (T.item X rfl rfl rfl hc i pins s3 σ3 H3 X.xe I3 (stat fr3) st3 go) fun r s4 ⟨u, hr, h4⟩ => ?_)
    subst hr
    refine wpAny_passesOwn hp (thn h4 fun _ s5 ⟨x, H5, I5, r5, y5, st5, fr5⟩ => ?_)
    have I5' := I5.pinned (stat fr5) (T.obj _ _ st5)
    refine wpAny_passesOwn hp (thn (hg _ s5 σ3 H5 x u _ I5' r5 (step x H5 y5)) fun _ s6 ⟨σ6, H6, I6, q6⟩ => ?_)
    refine wpAny_passesOwn hp (thn (hb _ s6 σ6 H6 _ I6 q6) fun f s7 q7 => ?_)
    have again : ∀ {σ7 : St} {H7 : Hp}, Inv X (pins ++ pinsAt fp s5.heap) σ7 H7 s7 → N σ7 H7 → ∃ m, m < n ∧ ∃ i σ' H', Inv X pins σ' H' s7 ∧ tn i s7.heap ∧ (∀ b ∈ fp, H' b = none) ∧ W i m σ' H' := fun {σ7 H7} I7 n7 => by
      obtain ⟨m', hm, w7⟩ := hN σ7 H7 n7
      refine ⟨m', hm, i + 1, σ7, H7, I7.unpinned, T.keep _ _ _ st5 fun b hb o e => (I7.pin (b, o) (List.mem_append_right _ (List.mem_append_right _ (mem_pinsAt hb e)))).1, fun b hb => ?_, w7⟩
      obtain ⟨o, e, d⟩ := T.obj _ _ st5 b hb
      exact (I7.pin (b, o) (List.mem_append_right _ (List.mem_append_right _ (mem_pinsAt hb e)))).2.1
    cases f with
    | next => obtain ⟨σ7, H7, I7, n7⟩ := q7; exact again I7 n7
    | cont => obtain ⟨σ7, H7, I7, n7⟩ := q7; exact again I7 n7
    | brk => obtain ⟨σ7, H7, I7, q7⟩ := q7; exact ⟨σ7, H7, I7.unpinned, q7⟩
    | ret v => obtain ⟨x7, σ7, H7, I7, r7, q7⟩ := q7; exact ⟨x7, σ7, H7, I7.unpinned, r7, q7⟩
end

/-! ### the forms one uses -/
end L2

namespace L2
open PySem PySem.Spec PyProof.Rows

abbrev R2 := V → V → Hp → VK → Prop
/-- a two-place operation on values: f is binaryOp op, inplaceOp op or compareOp op -/
def OpR (X : Cx) (f : Value → Value → Sem Value) (r : R2) : Prop :=
  ∀ (pins : List (Addr × Obj)) (s : Shared) (σ : St) (H : Hp) (x y : V) (v u : Value) (Q : VK), Inv X pins σ H s → RelV x v → RelV y u → r x y H Q →
    wpAny (model X.prog X.w) X.A (f v u) (EP X pins σ Q) X.xe s
/-- a call of a value that is known (a builtin, a type) with values -/
def CallR (X : Cx) (f : Value) (r : List V → Hp → VK → Prop) : Prop :=
  ∀ (pins : List (Addr × Obj)) (s : Shared) (σ : St) (H : Hp) (xs : List V) (us : List Value) (Q : VK), Inv X pins σ H s → Vals xs us → r xs H Q →
    wpAny (model X.prog X.w) X.A (call f us) (EP X pins σ Q) X.xe s
def tOp (r : R2) (ta tb : TE) : TE := fun σ H Q => ta σ H fun x H1 => tb σ H1 fun y H2 => r x y H2 Q
/-- ints in, under C, and a value out -/
def rI (C : Int → Int → Prop) (g : Int → Int → V) : R2 := fun x y H Q => ∃ i j, x = .int i ∧ y = .int j ∧ C i j ∧ Q (g i j) H
def rI0 (g : Int → Int → V) : R2 := fun x y H Q => ∃ i j, x = .int i ∧ y = .int j ∧ Q (g i j) H
section
variable {X : Cx} {a b c : Expr} {ta tb tc : TE} {pos : Pos}

theorem binT (ha : PE X a ta) (hb : PE X b tb) {pins : List (Addr × Obj)} {s : Shared} {σ : St} {H : Hp} {R : V → V → Hp → Prop} (I : Inv X pins σ H s)
    (h : ta σ H fun x H1 => tb σ H1 fun y H2 => R x y H2) {Q : Value → Shared → Prop} {f : Value → Value → Sem Value}
    (hf : ∀ v u s2 x y H2, Inv X pins σ H2 s2 → RelV x v → RelV y u → R x y H2 → wpAny (model X.prog X.w) X.A (f v u) Q X.xe s2) :
    wpAny (model X.prog X.w) X.A (eval a X.env) (fun v s₁ => wpAny (model X.prog X.w) X.A (eval b X.env) (fun u s₂ => wpAny (model X.prog X.w) X.A (f v u) Q X.xe s₂) X.xe s₁) X.xe s := by
  refine thn (ha pins s σ H _ I h) fun v s1 ⟨x, H1, I1, r1, q1⟩ => ?_
  refine thn (hb pins s1 σ H1 _ I1 q1) fun u s2 ⟨y, H2, I2, r2, q2⟩ => ?_
  exact hf v u s2 x y H2 I2 r1 r2 q2

theorem pe_op {op : Operator} {r : R2} (ho : OpR X (binaryOp op) r) (ha : PE X a ta) (hb : PE X b tb) : PE X (.BinOp a op b pos) (tOp r ta tb) := by
  intro pins s σ H Q I h
  exact wpAny_BinOp (binT ha hb I h fun v u s2 x y H2 I2 rx ry q => ho pins s2 σ H2 x y v u Q I2 rx ry q)
/-! ### ints -/
theorem opI {f : Value → Value → Sem Value} {C : Int → Int → Prop} {g : Int → Int → Int}
    (rule : ∀ (i j : Int) (t u : Tok) (s : Shared) (Q : Value → Shared → Prop) (E : Value → Shared → Prop), C i j → Q (.int (g i j) s.toks) { s with toks := s.toks + 1 } → wpAny (model X.prog X.w) X.A (f (.int i t) (.int j u)) Q E s) :
    OpR X f (rI C fun i j => .int (g i j)) := by
  intro pins s σ H x y v u Q I rx ry h
  obtain ⟨i, j, rfl, rfl, hc, q⟩ := h
  obtain ⟨t, rfl⟩ := rx
  obtain ⟨t', rfl⟩ := ry
  exact rule i j t t' s _ _ hc ⟨.int (g i j), H, I.tok _, ⟨_, rfl⟩, q⟩
theorem opI0 {f : Value → Value → Sem Value} {g : Int → Int → Int}
    (rule : ∀ (i j : Int) (t u : Tok) (s : Shared) (Q : Value → Shared → Prop) (E : Value → Shared → Prop), Q (.int (g i j) s.toks) { s with toks := s.toks + 1 } → wpAny (model X.prog X.w) X.A (f (.int i t) (.int j u)) Q E s) :
    OpR X f (rI0 fun i j => .int (g i j)) := by
  intro pins s σ H x y v u Q I rx ry h
  obtain ⟨i, j, rfl, rfl, q⟩ := h
  obtain ⟨t, rfl⟩ := rx
  obtain ⟨t', rfl⟩ := ry
  exact rule i j t t' s _ _ ⟨.int (g i j), H, I.tok _, ⟨_, rfl⟩, q⟩
theorem opB0 {f : Value → Value → Sem Value} {g : Int → Int → Bool}
    (rule : ∀ (i j : Int) (t u : Tok) (s : Shared) (Q : Value → Shared → Prop) (E : Value → Shared → Prop), Q (.bool (g i j)) s → wpAny (model X.prog X.w) X.A (f (.int i t) (.int j u)) Q E s) :
    OpR X f (rI0 fun i j => .bl (g i j)) := by
  intro pins s σ H x y v u Q I rx ry h
  obtain ⟨i, j, rfl, rfl, q⟩ := h
  obtain ⟨t, rfl⟩ := rx
  obtain ⟨t', rfl⟩ := ry
  exact rule i j t t' s _ _ ⟨.bl (g i j), H, I, rfl, q⟩

def CDiv (i j : Int) : Prop := 0 < j ∧ j < 1073741824
def CPow (i j : Int) : Prop := 0 ≤ j ∧ j ≤ 1000000 ∧ i.natAbs < 2 ^ 64
def CMul (i j : Int) : Prop := (-(2 ^ 64) < i ∧ i < 2 ^ 64) ∨ (-(2 ^ 64) < j ∧ j < 2 ^ 64)
theorem CMul.ok {i j : Int} (h : CMul i j) : IntMulOk i j := by
  rcases h with ⟨h1, h2⟩ | ⟨h1, h2⟩
  · exact .of_left (intBits_le_64 h1 h2)
  · exact .of_right (intBits_le_64 h1 h2)
theorem op_add : OpR X (binaryOp .Add) (rI0 fun i j => .int (i + j)) := opI0 fun _ _ _ _ _ _ _ q => add_int q
theorem op_sub : OpR X (binaryOp .Sub) (rI0 fun i j => .int (i - j)) := opI0 fun _ _ _ _ _ _ _ q => sub_int q
/-- // by a positive divisor -/
theorem op_fdiv : OpR X (binaryOp .FloorDiv) (rI CDiv fun i j => .int (i / j)) := opI fun i j _ _ _ _ _ hc q => by
  have h1 : (0 : Int) < j := hc.1
  have h2 : j < 1073741824 := hc.2
  exact floordiv_int (by omega) (by rw [Int.fdiv_eq_ediv_of_nonneg i (by omega)]; exact q) (.inl (PyProof.noPylong_small (by omega)))
/-- % by a positive divisor of any size -/
theorem op_mod : OpR X (binaryOp .Mod) (rI (fun _ j => 0 < j) fun i j => .int (i % j)) := opI fun i j _ _ _ _ _ hc q => by
  have h1 : (0 : Int) < j := hc
  exact mod_int' (by omega) (by rw [Int.fmod_eq_emod_of_nonneg i (by omega)]; exact q)
/-! ### bools among ints: n += (a < b) -/
end

/-! ### comparisons -/
/-- the scalars that == tells apart as data does -/
def scal : V → V → Bool
  | .non, .non => true | .non, .int _ => true | .int _, .non => true | .non, .bl _ => true | .bl _, .non => true | .non, .str _ => true | .str _, .non => true
  | .int _, .int _ => true | .bl _, .bl _ => true | .str _, .str _ => true | .byt _, .byt _ => true
  | .int _, .str _ => true | .str _, .int _ => true | .bl _, .str _ => true | .str _, .bl _ => true
  | _, _ => false
def rEq : R2 := fun x y H Q => scal x y = true ∧ Q (.bl (decide (x = y))) H
def rNe : R2 := fun x y H Q => scal x y = true ∧ Q (.bl (!decide (x = y))) H

theorem dec_int {i j : Int} : decide (V.int i = V.int j) = (i == j) := by
  rw [Bool.eq_iff_iff]
  simp
theorem dec_bl {i j : Bool} : decide (V.bl i = V.bl j) = (i == j) := by
  rw [Bool.eq_iff_iff]
  simp
theorem dec_str {i j : Str} : decide (V.str i = V.str j) = (i == j) := by
  rw [Bool.eq_iff_iff]
  simp
theorem dec_byt {i j : Array UInt8} : decide (V.byt i = V.byt j) = (i.toList == j.toList) := by
  rw [Bool.eq_iff_iff]
  cases i
  cases j
  simp

section
variable {X : Cx} {a b c : Expr} {ta tb tc : TE} {pos : Pos}
theorem fin_bl {pins : List (Addr × Obj)} {σ : St} {H : Hp} {s : Shared} {Q : VK} {k k' : Bool} (I : Inv X pins σ H s) (q : Q (.bl k) H) (e : k = k') : EP X pins σ Q (.bool k') s := by
  subst e
  exact ⟨.bl k, H, I, rfl, q⟩
theorem op_eq : OpR X (compareOp .Eq) rEq := by
  intro pins s σ H x y v u Q I rx ry h
  obtain ⟨hs, q⟩ := h
  cases x with
  | non =>
    cases rx
    cases y with
    | non => cases ry; exact PySem.EqNone.eq_none_none (fin_bl I q (by simp))
    | bl j => cases ry; exact PySem.EqNone.eq_none_bool (fin_bl I q (by simp))
    | int j => obtain ⟨t', rfl⟩ := ry; exact PySem.EqNone.eq_none_int (fin_bl I q (by simp))
    | str j => obtain ⟨t', rfl⟩ := ry; exact PySem.EqNone.eq_none_str (fin_bl I q (by simp))
    | _ => exact absurd (show false = true from hs) Bool.false_ne_true
  | bl i =>
    cases rx
    cases y with
    | non => cases ry; exact PySem.EqNone.eq_bool_none (fin_bl I q (by simp))
    | bl j => cases ry; exact eq_bool (fin_bl I q dec_bl)
    | str j => obtain ⟨t', rfl⟩ := ry; exact PySem.EqMixed.eq_bool_str (fin_bl I q (by simp))
    | _ => exact absurd (show false = true from hs) Bool.false_ne_true
  | int i =>
    obtain ⟨t, rfl⟩ := rx
    cases y with
    | non => cases ry; exact PySem.EqNone.eq_int_none (fin_bl I q (by simp))
    | int j => obtain ⟨t', rfl⟩ := ry; exact eq_int (fin_bl I q dec_int)
    | str j => obtain ⟨t', rfl⟩ := ry; exact PySem.EqMixed.eq_int_str (fin_bl I q (by simp))
    | _ => exact absurd (show false = true from hs) Bool.false_ne_true
  | str i =>
    obtain ⟨t, rfl⟩ := rx
    cases y with
    | non => cases ry; exact PySem.EqNone.eq_str_none (fin_bl I q (by simp))
    | bl j => cases ry; exact PySem.EqMixed.eq_str_bool (fin_bl I q (by simp))
    | int j => obtain ⟨t', rfl⟩ := ry; exact PySem.EqMixed.eq_str_int (fin_bl I q (by simp))
    | str j => obtain ⟨t', rfl⟩ := ry; exact eq_str (fin_bl I q dec_str)
    | _ => exact absurd (show false = true from hs) Bool.false_ne_true
  | byt i =>
    obtain ⟨t, rfl⟩ := rx
    cases y with
    | byt j => obtain ⟨t', rfl⟩ := ry; exact PySem.W.eq_bytes (fin_bl I q dec_byt)
    | _ => exact absurd (show false = true from hs) Bool.false_ne_true
  | _ => cases y <;> exact absurd (show false = true from hs) Bool.false_ne_true
theorem op_ne : OpR X (compareOp .NotEq) rNe := by
  intro pins s σ H x y v u Q I rx ry h
  obtain ⟨hs, q⟩ := h
  cases x with
  | non =>
    cases rx
    cases y with
    | non => cases ry; exact PySem.EqNone.ne_none_none (fin_bl I q (by simp))
    | bl j => cases ry; exact PySem.EqNone.ne_none_bool (fin_bl I q (by simp))
    | int j => obtain ⟨t', rfl⟩ := ry; exact PySem.EqNone.ne_none_int (fin_bl I q (by simp))
    | str j => obtain ⟨t', rfl⟩ := ry; exact PySem.EqNone.ne_none_str (fin_bl I q (by simp))
    | _ => exact absurd (show false = true from hs) Bool.false_ne_true
  | bl i =>
    cases rx
    cases y with
    | non => cases ry; exact PySem.EqNone.ne_bool_none (fin_bl I q (by simp))
    | bl j => cases ry; exact ne_bool (fin_bl I q (congrArg not dec_bl))
    | str j => obtain ⟨t', rfl⟩ := ry; exact PySem.EqMixed.ne_bool_str (fin_bl I q (by simp))
    | _ => exact absurd (show false = true from hs) Bool.false_ne_true
  | int i =>
    obtain ⟨t, rfl⟩ := rx
    cases y with
    | non => cases ry; exact PySem.EqNone.ne_int_none (fin_bl I q (by simp))
    | int j => obtain ⟨t', rfl⟩ := ry; exact ne_int (fin_bl I q (congrArg not dec_int))
    | str j => obtain ⟨t', rfl⟩ := ry; exact PySem.EqMixed.ne_int_str (fin_bl I q (by simp))
    | _ => exact absurd (show false = true from hs) Bool.false_ne_true
  | str i =>
    obtain ⟨t, rfl⟩ := rx
    cases y with
    | non => cases ry; exact PySem.EqNone.ne_str_none (fin_bl I q (by simp))
    | bl j => cases ry; exact PySem.EqMixed.ne_str_bool (fin_bl I q (by simp))
    | int j => obtain ⟨t', rfl⟩ := ry; exact PySem.EqMixed.ne_str_int (fin_bl I q (by simp))
    | str j => obtain ⟨t', rfl⟩ := ry; exact ne_str (fin_bl I q (congrArg not dec_str))
    | _ => exact absurd (show false = true from hs) Bool.false_ne_true
  | byt i =>
    obtain ⟨t, rfl⟩ := rx
    cases y with
    | byt j => obtain ⟨t', rfl⟩ := ry; exact PySem.W.ne_bytes (fin_bl I q (congrArg not dec_byt))
    | _ => exact absurd (show false = true from hs) Bool.false_ne_true
  | _ => cases y <;> exact absurd (show false = true from hs) Bool.false_ne_true

theorem op_lt : OpR X (compareOp .Lt) (rI0 fun i j => .bl (decide (i < j))) := opB0 fun _ _ _ _ _ _ _ q => lt_int q
theorem op_le : OpR X (compareOp .LtE) (rI0 fun i j => .bl (decide (i ≤ j))) := opB0 fun _ _ _ _ _ _ _ q => le_int q
theorem op_gt : OpR X (compareOp .Gt) (rI0 fun i j => .bl (decide (j < i))) := opB0 fun _ _ _ _ _ _ _ q => gt_int q
theorem op_ge : OpR X (compareOp .GtE) (rI0 fun i j => .bl (decide (j ≤ i))) := opB0 fun _ _ _ _ _ _ _ q => ge_int q
/-- is None, is not None: the right side a value none -/
theorem op_isN : OpR X (compareOp .Is) (fun x y H Q => y = .non ∧ Q (.bl (decide (x = .non))) H) := by
  intro pins s σ H x y v u Q I rx ry h
  obtain ⟨rfl, q⟩ := h
  cases ry
  refine is_none_gen (fin_bl I q ?_)
  cases x <;> first
    | (cases rx; rfl)
    | (obtain ⟨t, rfl⟩ := rx; rfl)
/-- two rules for one operation: by cases -/
theorem OpR.or {f : Value → Value → Sem Value} {r r' : R2} (h : OpR X f r) (h' : OpR X f r') : OpR X f (fun x y H Q => r x y H Q ∨ r' x y H Q) := by
  intro pins s σ H x y v u Q I rx ry q
  rcases q with q | q
  · exact h pins s σ H x y v u Q I rx ry q
  · exact h' pins s σ H x y v u Q I rx ry q

theorem nomark (b : Expr) {op : CmpOp} (h : op ≠ .In := by decide) (h2 : op ≠ .NotIn := by decide) : behindInMarks op b = false := by
  have e1 : (op == CmpOp.In) = false := by cases op <;> first | rfl | exact absurd rfl h
  have e2 : (op == CmpOp.NotIn) = false := by cases op <;> first | rfl | exact absurd rfl h2
  cases b <;> simp [behindInMarks, e1, e2]
/-- a comparison as a value; hm: nomark b, or (for in, not in) by with_unfolding_all rfl -/
theorem pe_cmpR {op : CmpOp} {r : R2} (ho : OpR X (compareOp op) r) (ha : PE X a ta) (hb : PE X b tb) (hm : behindInMarks op b = false) : PE X (.Compare a [op] [b] pos) (tOp r ta tb) := by
  intro pins s σ H Q I h
  exact wpAny_Compare1 (binT ha hb I h fun v u s2 x y H2 I2 rx ry q => ho pins s2 σ H2 x y v u Q I2 rx ry q) hm
/-- a reading of a value as a test -/
def tTest (t : TE) : TT := fun σ H Q => t σ H fun x H' => ∃ k, x = .bl k ∧ Q k H'
theorem pt_cmpR {op : CmpOp} {r : R2} (ho : OpR X (compareOp op) r) (ha : PE X a ta) (hb : PE X b tb) (hm : behindInMarks op b = false) : PT X (.Compare a [op] [b] pos) (tTest (tOp r ta tb)) := by
  intro pins s σ H Q I h
  refine wpAny_isTrue_Compare1 (thn (ha pins s σ H _ I h) fun v s1 ⟨x, H1, I1, r1, q1⟩ => thn (hb pins s1 σ H1 _ I1 q1) fun u s2 ⟨y, H2, I2, r2, q2⟩ =>
    thn (ho pins s2 σ H2 x y v u _ I2 r1 r2 q2) fun c s3 ⟨z, H3, I3, r3, k, e, q3⟩ => ?_) hm
  subst e
  cases r3
  exact wpAny_truthy_bool ⟨H3, I3, q3⟩
/-! ### truth -/
theorem line63 : (sizeLine : Nat) < 2 ^ 63 := by rw [sizeLine_eq]; decide
/-! ### strs and bytes -/
theorem op_add_str : OpR X (binaryOp .Add) (fun x y H Q => ∃ i j, x = .str i ∧ y = .str j ∧ i.length + j.length ≤ sizeLine ∧ Q (.str (i ++ j)) H) := by
  intro pins s σ H x y v u Q I rx ry h
  obtain ⟨i, j, rfl, rfl, hz, q⟩ := h
  obtain ⟨t, rfl⟩ := rx
  obtain ⟨t', rfl⟩ := ry
  exact add_str (fun t' tk => ⟨.str (i ++ j), H, I.tok _, ⟨_, rfl⟩, q⟩) hz
/-! ### scalar builtins, by CallR -/
theorem vals1 {x : V} {us : List Value} (r : Vals [x] us) : ∃ u, us = [u] ∧ RelV x u := by
  cases r with
  | cons r1 r2 => cases r2; exact ⟨_, rfl, r1⟩
theorem vals2 {x y : V} {us : List Value} (r : Vals [x, y] us) : ∃ u w', us = [u, w'] ∧ RelV x u ∧ RelV y w' := by
  cases r with
  | cons r1 r2 =>
    cases r2 with
    | cons r3 r4 => cases r4; exact ⟨_, _, rfl, r1, r3⟩
theorem call_max2 (hc : X.calm = true) : CallR X (.builtin "max") (fun xs H Q => ∃ i j, xs = [.int i, .int j] ∧ Q (.int (if j > i then j else i)) H) := by
  intro pins s σ H xs us Q I r h
  obtain ⟨i, j, rfl, q⟩ := h
  obtain ⟨u, w', rfl, ⟨t, rfl⟩, ⟨t', rfl⟩⟩ := vals2 r
  refine max_two_ints (I.ok.hd hc) fun h' tk k => ⟨_, H, I.kept k, ?_, q⟩
  by_cases hj : j > i
  · rw [if_pos hj, if_pos hj]; exact ⟨_, rfl⟩
  · rw [if_neg hj, if_neg hj]; exact ⟨_, rfl⟩
theorem call_min2 (hc : X.calm = true) : CallR X (.builtin "min") (fun xs H Q => ∃ i j, xs = [.int i, .int j] ∧ Q (.int (if j < i then j else i)) H) := by
  intro pins s σ H xs us Q I r h
  obtain ⟨i, j, rfl, q⟩ := h
  obtain ⟨u, w', rfl, ⟨t, rfl⟩, ⟨t', rfl⟩⟩ := vals2 r
  refine min_two_ints (I.ok.hd hc) fun h' tk k => ⟨_, H, I.kept k, ?_, q⟩
  by_cases hj : j < i
  · rw [if_pos hj, if_pos hj]; exact ⟨_, rfl⟩
  · rw [if_neg hj, if_neg hj]; exact ⟨_, rfl⟩
theorem call_str_int : CallR X (.type "str") (fun xs H Q => ∃ i, xs = [.int i] ∧ i.natAbs.log2 < 1920 ∧ Q (.str (toString i)) H) := by
  intro pins s σ H xs us Q I r h
  obtain ⟨i, rfl, hz, q⟩ := h
  obtain ⟨u, rfl, t, rfl⟩ := vals1 r
  exact PySem.P.str_of_int hz ⟨.str _, H, I.tok _, ⟨_, rfl⟩, q⟩
end
end L2

namespace L2
open PySem PySem.Spec PyProof.Rows

/-! ### an instance, its attributes a map -/
structure ObjM (h : Heap) (x dx C : Addr) (mA : Str → Option Value) : Prop where
  obj : h.get? x = some (PySem.W.instObj C dx)
  ns : h.Ns1 dx mA
  ne : dx ≠ x

theorem lookIn_ns {h : Heap} {dx : Addr} {mA : Str → Option Value} (n : h.Ns1 dx mA) : ∃ od, h.get? dx = some od ∧ ∀ name, PySem.W.lookIn name od = some (mA name) := by
  obtain ⟨o, es, ep, ho, hd, hk, _, hm⟩ := n
  refine ⟨o, ho, fun name => ?_⟩
  have e := hm name
  unfold nsFind findBy at e
  rw [← Array.find?_toList] at e
  unfold PySem.W.lookIn
  rw [hd]
  dsimp only
  split
  · rename_i y q
    rw [q] at e
    exact congrArg some e
  · rename_i q
    rw [q] at e
    have a : es.toList.any (·.refKey) = false := by
      rw [List.any_eq_false]
      intro y hy
      obtain ⟨z, t, hkey⟩ := hk y (Array.mem_toList_iff.mp hy)
      simp [DictEntry.refKey, hkey]
    have a' : ¬ es.toList.any (·.refKey) = true := by rw [a]; exact Bool.false_ne_true
    rw [if_neg a']
    exact congrArg some e

theorem ObjM.look {h : Heap} {x dx C : Addr} {mA : Str → Option Value} (I : ObjM h x dx C mA) : ∃ od, PySem.W.InstAt h x (PySem.W.instObj C dx) C (some od) ∧ ∀ name, PySem.W.lookIn name od = some (mA name) :=
  let ⟨od, ho, hl⟩ := lookIn_ns I.ns
  ⟨od, ⟨I.obj, rfl, rfl, ho⟩, hl⟩

section
variable {prog : Program} {w : World} {A : Around} {E : Value → Shared → Prop} {s : Shared} {K : PySem.W.Frag} {x dx C f : Addr} {mA : Str → Option Value} {name : Str} {v : Value}

theorem get_map {expr : Bool} {Q : Value → Shared → Prop} (X : K.In s.heap) (I : ObjM s.heap x dx C mA) (hg : PySem.W.plainGet K C name = true) (hh : PySem.W.hasDictIn K C = true)
    (ha : PySem.W.findIn K (.ref C) name = some none) (hv : mA name = some v) (hv' : PySem.W.handedIn v = true) (h : Q v { s with toks := s.toks + 1 }) :
    wpAny (model prog w) A (getAttr (.ref x) name expr) Q E s := by
  obtain ⟨od, J, hl⟩ := I.look
  exact PySem.W.get_value X J (PySem.W.plainGet_of hg).1 (PySem.W.findObj_own hh ha rfl (by rw [hl, hv])) hv' h

theorem get_meth {pl : Sem Bool} {Q : Value × List Value → Shared → Prop} (X : K.In s.heap) (I : ObjM s.heap x dx C mA) (hg : PySem.W.plainGet K C name = true)
    (hf : PySem.W.findIn K (.ref C) name = some (some (.ref f))) (ht : PySem.W.isFn K (.ref f) = true) (hv : mA name = none) (h : Q (.ref f, [.ref x]) s) :
    wpAny (model prog w) A (getMethod (.ref x) name pl) Q E s := by
  obtain ⟨od, J, hl⟩ := I.look
  exact PySem.W.method_fn X J (PySem.W.plainGet_of hg).1 (PySem.W.plainGet_of hg).2 hf (beq_iff_eq.mp ht) (by show (PySem.W.lookIn name od).map (·.isSome) = some false; rw [hl, hv]; rfl) h

theorem set_map {ns : List Str} {Q : Unit → Shared → Prop} (X : K.In s.heap) (I : ObjM s.heap x dx C mA)
    (hs : PySem.W.findIn K (.ref C) "__setattr__" = some (some (.builtin "object.__setattr__"))) (hp : PySem.W.plainOver K C = true) (ht : PySem.W.takerIn K C name = some none) (hh : PySem.W.hasDictIn K C = true)
    (hw : PySem.Within mA ns) (hsz : ns.length ≤ sizeLine)
    (h : ∀ h', ObjM h' x dx C (fun y => if y = name then some v else mA y) → Heap.SameBut dx s.heap h' → Q () { s with heap := h', toks := s.toks + 2 }) :
    wpAny (model prog w) A (setAttr (.ref x) name v) Q E s := by
  obtain ⟨od, J, hl⟩ := I.look
  refine PySem.W.set_plain X J hs (PySem.W.osa_open (s := { s with toks := s.toks + 1 }) (r := none) X J hp ht fun b => ?_)
  obtain ⟨cd, hc, hd'⟩ := PySem.W.any_some hh
  have hx : s.heap.get? x = some ⟨.ref C, some dx, .plain, #[]⟩ := I.obj
  refine wpAny_bind (wpAny_pure (wpAny_bind (wpAny_bind (wpAny_loadPart hx (wpAny_bind (PySem.W.Looks.here (s := { s with toks := s.toks + 1 }) (PySem.W.looks_clsIn X hc) ?_))))))
  rw [hd']
  refine wpAny_pure (a := some dx) (wpAny_bind (wpAny_pure (wpAny_bind ?_)))
  refine wpAny_nsSet1 (s := { s with toks := s.toks + 1 }) I.ns fun h' hn2 hs2 => ?_
  obtain ⟨oD, esD, epD, hoD, hdD, hcD⟩ := hn2.count (PySem.Within.cons name v hw)
  refine wpAny_bind (wpAny_lookBehind hoD (by rw [hdD]; exact pastItsLine_dict (Nat.le_trans hcD (by rw [List.length_cons]; omega))) ?_)
  exact wpAny_pure (h _ ⟨(hs2.2 _ (Ne.symm I.ne)).trans I.obj, hn2, I.ne⟩ hs2)

/-- C(..): the dict at the heap's end, the instance behind it; then its __init__ -/
theorem make_map {R : Result → Shared → Prop} {vs : List Value} {kw : List (Str × Value)} (X : K.In s.heap) (hm : PySem.W.makesIn K C = true)
    (hi : PySem.W.findIn K (.ref C) "__init__" = some (some (.ref f))) (hf : PySem.W.typeIn K (.ref f) = some (.type "function"))
    (h : codeAny (model prog w) (A.under (.builtin "type.__call__" ⟨.ref C :: vs, kw⟩)) (.call (.ref f) ⟨.ref (s.heap.objs.size + 1) :: vs, kw⟩) (PySem.W.InitBack (s.heap.objs.size + 1) R)
      { s with heap := (s.heap.push PySem.W.emptyDict).push (PySem.W.instObj C s.heap.objs.size) }) :
    codeAny (model prog w) A (.call (.ref C) ⟨vs, kw⟩) R s := by
  obtain ⟨hh, g, d, t, os⟩ := s
  exact PySem.W.make_core (PySem.W.makes_of X hm) (PySem.W.looks_findIn X hi) (fun self => PySem.W.bind_fn X self hf) (.inl rfl) h
end

/-! ### the attributes as a list of pairs -/
def putF (f : Str) (v : V) : List (Str × V) → List (Str × V)
  | [] => [(f, v)]
  | (g, x) :: r => if g = f then (g, v) :: r else (g, x) :: putF f v r
theorem lookup_putF (f g : Str) (v : V) : ∀ fs : List (Str × V), (putF f v fs).lookup g = if g = f then some v else fs.lookup g
  | [] => by
    show List.lookup g [(f, v)] = _
    by_cases h : g = f
    · have hb : (g == f) = true := beq_iff_eq.mpr h
      simp only [List.lookup, hb, if_pos h]
    · have hb : (g == f) = false := beq_eq_false_iff_ne.mpr h
      simp only [List.lookup, hb, if_neg h]
  | (k, x) :: r => by
    have ih := lookup_putF f g v r
    rw [show putF f v ((k, x) :: r) = (if k = f then (k, v) :: r else (k, x) :: putF f v r) from rfl]
    by_cases hk : k = f
    · rw [if_pos hk]
      by_cases h : g = k
      · have hb : (g == k) = true := beq_iff_eq.mpr h
        simp only [List.lookup, hb, if_pos (h.trans hk)]
      · have hb : (g == k) = false := beq_eq_false_iff_ne.mpr h
        simp only [List.lookup, hb, if_neg (fun e : g = f => h (e.trans hk.symm))]
    · rw [if_neg hk]
      by_cases h : g = k
      · have hb : (g == k) = true := beq_iff_eq.mpr h
        simp only [List.lookup, hb, if_neg (fun e : g = f => hk (h.symm.trans e))]
      · have hb : (g == k) = false := beq_eq_false_iff_ne.mpr h
        simp only [List.lookup, hb]
        exact ih
theorem keys_putF (f : Str) (v : V) : ∀ fs : List (Str × V), f ∈ (putF f v fs).map (·.1) ∧ ∀ g, g ∈ fs.map (·.1) → g ∈ (putF f v fs).map (·.1)
  | [] => ⟨by simp [putF], fun g h => by simp at h⟩
  | (k, x) :: r => by
    obtain ⟨i1, i2⟩ := keys_putF f v r
    rw [show putF f v ((k, x) :: r) = (if k = f then (k, v) :: r else (k, x) :: putF f v r) from rfl]
    by_cases hk : k = f
    · rw [if_pos hk]
      subst hk
      exact ⟨by simp, fun g h => by simpa using h⟩
    · rw [if_neg hk]
      refine ⟨?_, fun g h => ?_⟩
      · rw [List.map_cons]
        exact List.mem_cons_of_mem _ i1
      · rw [List.map_cons] at h ⊢
        rcases List.mem_cons.mp h with e | e
        · exact List.mem_cons.mpr (.inl e)
        · exact List.mem_cons_of_mem _ (i2 g e)
theorem length_putF (f : Str) (v : V) : ∀ fs : List (Str × V), (putF f v fs).length ≤ fs.length + 1
  | [] => by simp [putF]
  | (k, x) :: r => by
    have ih := length_putF f v r
    rw [show putF f v ((k, x) :: r) = (if k = f then (k, v) :: r else (k, x) :: putF f v r) from rfl]
    by_cases hk : k = f
    · rw [if_pos hk, List.length_cons, List.length_cons]; omega
    · rw [if_neg hk, List.length_cons, List.length_cons]; omega

theorem RelO.some_of {v : V} {o : Option Value} (r : RelO (some v) o) : ∃ u, o = some u ∧ RelV v u := by
  cases o with
  | none => exact (show False from r).elim
  | some u => exact ⟨u, rfl, r⟩
theorem RelO.none_of {o : Option Value} (r : RelO none o) : o = none := by
  cases o with
  | none => rfl
  | some u => exact (show False from r).elim
theorem handed_of {v : V} {u : Value} (r : RelV v u) : PySem.W.handedIn u = true := by
  cases v with
  | non => cases (show u = Value.none from r); rfl
  | bl b => cases (show u = Value.bool b from r); rfl
  | int i => obtain ⟨t, e⟩ := (show ∃ t, u = Value.int i t from r); cases e; rfl
  | str x => obtain ⟨t, e⟩ := (show ∃ t, u = Value.str x t from r); cases e; rfl
  | byt b => obtain ⟨t, e⟩ := (show ∃ t, u = Value.bytes b t from r); cases e; rfl
  | flt b => obtain ⟨t, e⟩ := (show ∃ t, u = Value.float b t from r); cases e; rfl
  | ref a => cases (show u = Value.ref a from r); rfl
  | ty n => cases (show u = Value.type n from r); rfl

section
variable {P : Program} {w : World} {H H' : Hp} {h h' : Heap} {a C dx : Addr} {fs fs' : List (Str × V)}
theorem ins_get (hok : HOk P w H h) (e : H a = some (.ins C dx fs)) : ∃ mA, ObjM h a dx C mA ∧ (∀ f, RelO (fs.lookup f) (mA f)) ∧ PySem.Within mA (fs.map (·.1)) ∧ fs.length ≤ 1000 ∧ H dx = some (.own a) := by
  obtain ⟨d, z, ne, ob, mA, n, r, q⟩ := (show ObjOk P w H h a (.ins C dx fs) from hok a _ e)
  exact ⟨mA, ⟨ob, n, ne⟩, r, q, z, d⟩
end

/-! ### what of the text a class must have -/
structure Cls (K : PySem.W.Frag) (C : Addr) : Prop where
  pg : PySem.W.plainGet K C Str.empty = true
  hd : PySem.W.hasDictIn K C = true
  po : PySem.W.plainOver K C = true
  sa : PySem.W.findIn K (.ref C) "__setattr__" = some (some (.builtin "object.__setattr__"))
theorem Cls.get {K : PySem.W.Frag} {C : Addr} (c : Cls K C) (f : Str) : PySem.W.plainGet K C f = true := c.pg
/-- no class of it has the name -/
def NoAttr (K : PySem.W.Frag) (C : Addr) (f : Str) : Prop := PySem.W.findIn K (.ref C) f = some none
theorem NoAttr.taker {K : PySem.W.Frag} {C : Addr} {f : Str} (n : NoAttr K C f) : PySem.W.takerIn K C f = some none := by
  unfold PySem.W.takerIn
  rw [show PySem.W.findIn K (.ref C) f = some none from n]
  rfl
/-- a constant of the class -/
structure Con (K : PySem.W.Frag) (C : Addr) (f : Str) (v : V) (u : Value) : Prop where
  at_ : PySem.W.findIn K (.ref C) f = some (some u)
  rel : RelV v u
  get : PySem.W.specialIn K u "__get__" = some none
  cp : PySem.W.copiedNames.contains f = false
/-- a method: a plain def of the class or of one above it -/
structure Meth (K : PySem.W.Frag) (C : Addr) (m : Str) (f : Addr) : Prop where
  at_ : PySem.W.findIn K (.ref C) m = some (some (.ref f))
  fn : PySem.W.isFn K (.ref f) = true
  kp : PySem.W.keepIn K (.ref f) = true

section
variable {X : Cx} {pins : List (Addr × Obj)} {σ : St} {H : Hp} {s : Shared} {a C dx : Addr} {fs : List (Str × V)} {f : Str} {v : V} {A : Around} {E : Value → Shared → Prop}

theorem getattr_ok {b : Bool} {Q : Value → Shared → Prop} (I : Inv X pins σ H s) (e : H a = some (.ins C dx fs)) (c : Cls X.K C) (n : NoAttr X.K C f) (l : fs.lookup f = some v)
    (h : ∀ u s', Inv X pins σ H s' → RelV v u → Q u s') : wpAny (model X.prog X.w) A (getAttr (.ref a) f b) Q E s := by
  obtain ⟨mA, O, r, _, _, _⟩ := ins_get I.hok e
  obtain ⟨u, hu, ru⟩ := RelO.some_of (v := v) (o := mA f) (by rw [← l]; exact r f)
  exact get_map I.kIn O (c.get f) c.hd n hu (handed_of ru) (h u _ (I.tok _) ru)

theorem getmeth_ok {m : Str} {g : Addr} {pl : Sem Bool} {Q : Value × List Value → Shared → Prop} (I : Inv X pins σ H s) (e : H a = some (.ins C dx fs)) (c : Cls X.K C) (k : Meth X.K C m g) (l : fs.lookup m = none)
    (h : Q (.ref g, [.ref a]) s) : wpAny (model X.prog X.w) A (getMethod (.ref a) m pl) Q E s := by
  obtain ⟨mA, O, r, _, _, _⟩ := ins_get I.hok e
  have hn : mA m = none := RelO.none_of (by rw [← l]; exact r m)
  exact get_meth I.kIn O (c.get m) k.at_ k.fn hn h

theorem setattr_ok {y : V} {u : Value} {Q : Unit → Shared → Prop} (I : Inv X pins σ H s) (e : H a = some (.ins C dx fs)) (c : Cls X.K C) (n : NoAttr X.K C f) (hl : fs.length < 1000) (ry : RelV y u)
    (h : ∀ s', Inv X pins σ (upd H a (.ins C dx (putF f y fs))) s' → Q () s') : wpAny (model X.prog X.w) A (setAttr (.ref a) f u) Q E s := by
  obtain ⟨mA, O, r, wi, _, ho⟩ := ins_get I.hok e
  have hz : (fs.map (·.1)).length ≤ sizeLine := by rw [List.length_map, sizeLine_eq]; omega
  refine set_map I.kIn O c.sa c.po n.taker c.hd wi hz fun h' O' sb => h _ ?_
  have hd : ∃ o, h'.get? dx = some o := let ⟨o, _, _, e', _⟩ := O'.ns; ⟨o, e'⟩
  refine I.write (x := a) (e := dx) (by rw [e]; exact True.intro) (.inr ho) (fun b q hb z => (sb.2 b hb).trans z) hd ?_
  refine ⟨by rw [upd_ne O.ne]; exact ho, ?_, O.ne, O'.obj, _, O'.ns, fun g => ?_, fun g hg => ?_⟩
  · have := length_putF f y fs; omega
  · show RelO ((putF f y fs).lookup g) (if g = f then some u else mA g)
    rw [lookup_putF]
    by_cases q : g = f
    · rw [if_pos q, if_pos q]; exact ry
    · rw [if_neg q, if_neg q]; exact r g
  · by_cases q : g = f
    · rw [q]; exact (keys_putF f y fs).1
    · refine (keys_putF f y fs).2 g (wi g fun z => hg ?_)
      show (if g = f then some u else mA g) = none
      rw [if_neg q]; exact z

/-- a new instance, tracked, without attributes -/
theorem Inv.made (I : Inv X pins σ H s) : Inv X pins σ (upd (upd H s.heap.objs.size (.own (s.heap.objs.size + 1))) (s.heap.objs.size + 1) (.ins C s.heap.objs.size []))
    { s with heap := (s.heap.push PySem.W.emptyDict).push (PySem.W.instObj C s.heap.objs.size) } := by
  have e1 : (s.heap.push PySem.W.emptyDict).get? s.heap.objs.size = some PySem.W.emptyDict := Heap.get?_push_size s.heap rfl
  have e2 : ((s.heap.push PySem.W.emptyDict).push (PySem.W.instObj C s.heap.objs.size)).get? (s.heap.objs.size + 1) = some (PySem.W.instObj C s.heap.objs.size) := by
    have := Heap.get?_push_size (s.heap.push PySem.W.emptyDict) (o := PySem.W.instObj C s.heap.objs.size) rfl
    rwa [Heap.size_push] at this
  have e3 : (s.heap.push PySem.W.emptyDict).Ns s.heap.objs.size (fun _ => none) := ⟨PySem.W.emptyDict, #[], _, e1, rfl, (fun e he => absurd he (by simp)), fun _ => rfl⟩
  have I1 := I.laid (a := s.heap.objs.size) (o := .own (s.heap.objs.size + 1)) (h' := s.heap.push PySem.W.emptyDict) (t' := s.toks) (fun b u q => Heap.get?_push_of_some _ q) (Nat.le_refl _) ⟨_, e1⟩
  refine I1.laid (a := s.heap.objs.size + 1) (o := .ins C s.heap.objs.size []) (t' := s.toks) (fun b u q => Heap.get?_push_of_some _ q) (Nat.le_of_eq (Heap.size_push _ _)) ?_
  have ne : s.heap.objs.size ≠ s.heap.objs.size + 1 := Nat.ne_of_lt (Nat.lt_succ_self _)
  refine ⟨by rw [upd_ne ne, upd_same], Nat.zero_le _, ne, e2, fun _ => none, (Heap.Ns1.of_empty e3).at fun o q => Heap.get?_push_of_some _ q, fun _ => True.intro, fun y hy => absurd rfl hy⟩

/-- e.f where nothing but the object is asked: through attributeBase (super) and the last hold -/
theorem attr_of {prog : Program} {w : World} {env : Env} {e : Expr} {f : Str} {pos : Pos} {s : Shared} {Q : Value → Shared → Prop} (hb : attributeBase e f env (eval e env) = eval e env)
    (h : wpAny (model prog w) A (eval e env) (fun o s₁ => wpAny (model prog w) A (getAttr o f true) Q E s₁) E s) : wpAny (model prog w) A (eval (.Attribute e f pos) env) Q E s :=
  Attribute_any_ h (by rw [arm_eval_Attribute, hb])
end

/-! ### readings and rules -/
/-- e.f, an attribute of the instance -/
def tFld (K : PySem.W.Frag) (ta : TE) (f : Str) : TE := fun σ H Q => ta σ H fun x H1 => ∃ a C dx fs v, x = .ref a ∧ H1 a = some (.ins C dx fs) ∧ Cls K C ∧ NoAttr K C f ∧ fs.lookup f = some v ∧ Q v H1
/-- e.f = value -/
def sFld (K : PySem.W.Frag) (ta tv : TE) (f : Str) : TS := fun D σ H => tv σ H fun y H1 => ta σ H1 fun x H2 => ∃ a C dx fs, x = .ref a ∧ H2 a = some (.ins C dx fs) ∧ Cls K C ∧ NoAttr K C f ∧ fs.length < 1000 ∧
  D.nx σ (upd H2 a (.ins C dx (putF f y fs)))
section
variable {X : Cx} {o e value : Expr} {f : Str} {pos pos' tpos : Pos} {ta tv : TE}
theorem pe_fld (he : PE X e ta) (hb : attributeBase e f X.env (eval e X.env) = eval e X.env) : PE X (.Attribute e f pos) (tFld X.K ta f) := by
  intro pins s σ H Q I h
  refine attr_of hb (thn (he pins s σ H _ I h) fun u s1 ⟨x, H1, I1, rx, a, C, dx, fs, v, ex, ea, c, n, l, q⟩ => ?_)
  subst ex
  obtain rfl : u = Value.ref a := rx
  exact getattr_ok I1 ea c n l fun u' s2 I2 ru => ⟨v, H1, I2, ru, q⟩
theorem ps_fld (ha : PE X o ta) (hv : PE X value tv) (hs : swapsWith value (some (.Attribute o f pos')) pos.line X.env = pure false) : PS X (.Assign [.Attribute o f pos'] value pos) (sFld X.K ta tv f) := by
  intro pins s σ H D I h
  refine plainObj_wpAny_Assign_Attribute (thn (hv pins s σ H _ I h) fun u s1 ⟨y, H1, I1, ry, q⟩ => thn (ha pins s1 σ H1 _ I1 q) fun ov s2 ⟨x, H2, I2, rx, a, C, dx, fs, ex, ea, c, n, l, q2⟩ => ?_) hs
  subst ex
  obtain rfl : ov = Value.ref a := rx
  exact setattr_ok I2 ea c n l ry fun s3 I3 => ⟨σ, _, I3, q2⟩
end

/-! ### isinstance -/
section
variable {X : Cx} {pins : List (Addr × Obj)} {σ : St} {H : Hp} {s : Shared} {A : Around} {E : Value → Shared → Prop} {Q : Value → Shared → Prop} {c : Value} {b : Bool}
/-- the type of a value, as the fragment's deciders take it; for an instance its class -/
inductive TyOf (K : PySem.W.Frag) (H : Hp) : V → Value → Prop where
  | non : TyOf K H .non (.type "NoneType")
  | bl (x : Bool) : TyOf K H (.bl x) (.type "bool")
  | int (i : Int) : TyOf K H (.int i) (.type "int")
  | str (x : Str) : TyOf K H (.str x) (.type "str")
  | flt (x : UInt64) : TyOf K H (.flt x) (.type "float")
  | lst {a : Addr} {xs : List V} (e : H a = some (.lst xs)) : TyOf K H (.ref a) (.type "list")
  | frz {a : Addr} {o : Obj} {xs : List V} (e : H a = some (.frz o (.lst xs))) : TyOf K H (.ref a) (.type "list")
  | tup {a : Addr} {xs : List V} (e : H a = some (.tup xs)) : TyOf K H (.ref a) (.type "tuple")
  | dK {a : Addr} {kvs : List (Key × V)} (e : H a = some (.dK kvs)) : TyOf K H (.ref a) (.type "dict")
  | dT {a : Addr} {kvs : List (List Key × V)} (e : H a = some (.dT kvs)) : TyOf K H (.ref a) (.type "dict")
  | ins {a C dx : Addr} {fs : List (Str × V)} (e : H a = some (.ins C dx fs)) (cl : Cls K C) (ha : PySem.W.findIn K (.ref C) "__class__" = some (some (.builtin "object.__class__")))
      (hn : PySem.W.specialIn K (.builtin "object.__class__") "__get__" = some (some (.builtin "getset_descriptor.__get__"))) (htk : PySem.W.takesIn K (.builtin "object.__class__") = some true)
      (hm : PySem.W.mroIn K C (.type "object") = some true) : TyOf K H (.ref a) (.ref C)
end
end L2

namespace L2
open PySem PySem.Spec PyProof.Rows

/-! ### room -/
structure Room (k : Nat) (A : Around) : Prop where
  hd : A.handled = none
  dp : A.depth + 3 * k + 5 < recursionLimit
  un : A.units + 16 * k + 200 < cLine
theorem Room.mono {j k : Nat} {A : Around} (r : Room k A) (h : j ≤ k) : Room j A := ⟨r.hd, by have := r.dp; omega, by have := r.un; omega⟩
theorem Room.deeper {k : Nat} {A : Around} (r : Room (k + 1) A) (env : Env) : Room k (A.deeper env) :=
  ⟨r.hd, by have := r.dp; show A.depth + 1 + 3 * k + 5 < _; omega, by have := r.un; show A.units + 3 + 16 * k + 200 < _; omega⟩
theorem Room.in1 {k : Nat} {A : Around} (r : Room (k + 1) A) : Room k A.in1 :=
  ⟨r.hd, by have := r.dp; show A.depth + 3 * k + 5 < _; omega, by have := r.un; show A.units + 1 + 16 * k + 200 < _; omega⟩
theorem make_depth {A : Around} {C : Addr} {us : List Value} {kw : List (Str × Value)} : (A.under (.builtin "type.__call__" ⟨.ref C :: us, kw⟩)).depth = A.depth + 1 := by
  first | rfl | simp [Around.under, Code.weight, Code.isCreation, Code.isGuard, Code.isCaller, Code.frames, Code.isFrame, guardIds]
theorem make_units {A : Around} {C : Addr} {us : List Value} {kw : List (Str × Value)} : (A.under (.builtin "type.__call__" ⟨.ref C :: us, kw⟩)).units = A.units + 1 := by
  first | rfl | simp [Around.under, Code.cUnits, Code.frames, Code.isFrame]
theorem Room.make {k : Nat} {A : Around} (r : Room (k + 1) A) (C : Addr) (us : List Value) (kw : List (Str × Value)) : Room k (A.under (.builtin "type.__call__" ⟨.ref C :: us, kw⟩)) :=
  ⟨r.hd, by have := r.dp; rw [make_depth]; omega, by have := r.un; rw [make_units]; omega⟩
theorem Room.depth {k : Nat} {A : Around} (r : Room k A) : A.depth < recursionLimit := by have := r.dp; omega
theorem Room.units {k : Nat} {A : Around} (r : Room k A) : A.units + 64 < cLine := by have := r.un; omega
/-! ### argument lists and displays -/
def tNil : TA := fun _ H Q => Q [] H
def tCons (ta : TE) (tr : TA) : TA := fun σ H Q => ta σ H fun x H1 => tr σ H1 fun xs H2 => Q (x :: xs) H2
section
variable {X : Cx} {e : Expr} {es : List Expr} {te : TE} {t : TA} {pos : Pos}
theorem pa_nil : PA X [] tNil := fun _ _ _ _ H Q I h => Calls.spliced_nil ⟨[], H, I, .nil, h⟩
theorem pa_cons (ha : PE X e te) (hr : PA X es t) (hs : starEach (e :: es) X.env = (false, eval e X.env) :: starEach es X.env := by rfl) : PA X (e :: es) (tCons te t) := by
  intro pos pins s σ H Q I h
  rw [hs]
  show wpAny _ _ (spliced ((false, eval e X.env) :: backTo pos (starEach es X.env))) _ _ s
  refine Calls.spliced_cons (thn (ha pins s σ H _ I h) fun u s1 ⟨x, H1, I1, r1, q1⟩ => ?_)
  exact thn (hr pos pins s1 σ H1 _ I1 q1) fun us s2 ⟨xs, H2, I2, r2, q2⟩ => ⟨x :: xs, H2, I2, .cons r1 r2, q2⟩

/-- a tuple, a list of written items -/
def tTup (t : TA) : TE := fun σ H Q => t σ H fun xs H1 => xs.length ≤ sizeLine ∧ ∀ p, H1 p = none → Q (.ref p) (upd H1 p (.tup xs))
def tLst (t : TA) : TE := fun σ H Q => t σ H fun xs H1 => xs.length ≤ sizeLine ∧ ∀ p, H1 p = none → Q (.ref p) (upd H1 p (.lst xs))
theorem pe_tup {x1} (h : PA X es t) : PE X (.Tuple es x1 pos) (tTup t) := by
  intro pins s σ H Q I hq
  refine wpAny_Tuple_spliced (thn (h pos pins s σ H _ I hq) fun us s1 ⟨xs, H1, I1, r, z, q⟩ => ⟨by rw [← r.length]; exact z, ?_⟩)
  have hf : H1 s1.heap.objs.size = none := I1.hok.fresh (Nat.le_refl _)
  refine ⟨.ref s1.heap.objs.size, upd H1 s1.heap.objs.size (.tup xs), I1.laid (t' := s1.toks) (fun b u e => Heap.get?_push_of_some _ e) (Nat.le_refl _) ?_, rfl, q _ hf⟩
  exact ⟨z, us, r, ⟨_, Heap.get?_push_size _ rfl, rfl, _, rfl⟩⟩
theorem pe_lst (h : PA X es t) : PE X (.List es pos) (tLst t) := by
  intro pins s σ H Q I hq
  refine wpAny_List_spliced (thn (h pos pins s σ H _ I hq) fun us s1 ⟨xs, H1, I1, r, z, q⟩ => ⟨by rw [← r.length]; exact z, ?_⟩)
  have hf : H1 s1.heap.objs.size = none := I1.hok.fresh (Nat.le_refl _)
  refine ⟨.ref s1.heap.objs.size, upd H1 s1.heap.objs.size (.lst xs), I1.laid (t' := s1.toks) (fun b u e => Heap.get?_push_of_some _ e) (Nat.le_refl _) ?_, rfl, q _ hf⟩
  exact ⟨z, us, 0, r, Heap.get?_push_size _ rfl⟩
end

/-! ### what a def promises -/
/-- a def's promise: the bound arguments in the parameters' order, the heap, the wanted end, the wanted exception -/
abbrev Sp := List V → Hp → VK → XK → Prop
/-- how an exception lies behind a call (file 08 gives it): the callers' frames, abstract heap and state ahead of the call, the wish, the exception, the state -/
abbrev CXT := List Env → Hp → Shared → XK → Value → Shared → Prop

/-- the state at a call -/
structure Env0 (P : Program) (w : World) (K : PySem.W.Frag) (mg : Str → Option Value) (base : Heap) (A : Around) (outer : List Env) (s : Shared) (H : Hp) : Prop where
  frames : A.frames = some outer
  mod : Mod K mg base
  bs : ∀ b o, base.get? b = some o → s.heap.get? b = some o ∧ H b = none
  bsz : base.objs.size ≤ s.heap.objs.size
  funs : s.heap.FunFrames base outer
  frf : ∀ b ∈ frs outer, H b = none
  hok : HOk P w H s.heap
  bare : AllBare s.gens
/-- a call's end -/
def CE (outer : List Env) (P : Program) (w : World) (H : Hp) (s : Shared) (Q : VK) (u : Value) (s' : Shared) : Prop :=
  ∃ v H', s'.os = s.os ∧ AllBare s'.gens ∧ Un (frs outer) [] H H' s.heap s'.heap ∧ HOk P w H' s'.heap ∧ RelV v u ∧ Q v H'
def CR (CX : CXT) (outer : List Env) (P : Program) (w : World) (H : Hp) (s : Shared) (Q : VK) (E : XK) (r : Result) (s' : Shared) : Prop :=
  match r with
  | .ok (.ret u) => CE outer P w H s Q u s'
  | .ok _ => False
  | .error e => CX outer H s E e s'
structure FnOk (P : Program) (w : World) (K : PySem.W.Frag) (mg : Str → Option Value) (base : Heap) (CX : CXT) (k : Nat) (f : Addr) (fd : FuncData) (ps : List Str) (sp : Sp) : Prop where
  len : ∀ vs H Q E, sp vs H Q E → vs.length = ps.length
  run : ∀ (A : Around) (outer : List Env) (s : Shared) (H : Hp) (args : Args) (us : List Value) (vs : List V) (Q : VK) (E : XK), Room k A → Env0 P w K mg base A outer s H → BindsTo s fd args (ps.zip us) → Vals vs us → sp vs H Q E →
    codeAny (model P w) A (.call (.ref f) args) (CR CX outer P w H s Q E) s
theorem FnOk.mono {P : Program} {w : World} {K : PySem.W.Frag} {mg : Str → Option Value} {base : Heap} {CX : CXT} {j k : Nat} {f : Addr} {fd : FuncData} {ps : List Str} {sp : Sp} (F : FnOk P w K mg base CX j f fd ps sp) (h : j ≤ k) :
    FnOk P w K mg base CX k f fd ps sp := ⟨F.len, fun A outer s H args us vs Q E hr => F.run A outer s H args us vs Q E (hr.mono h)⟩
/-- a weaker promise -/
theorem FnOk.imp {P : Program} {w : World} {K : PySem.W.Frag} {mg : Str → Option Value} {base : Heap} {CX : CXT} {k : Nat} {f : Addr} {fd : FuncData} {ps : List Str} {sp sp' : Sp} (F : FnOk P w K mg base CX k f fd ps sp)
    (h : ∀ vs H Q E, sp' vs H Q E → sp vs H Q E) : FnOk P w K mg base CX k f fd ps sp' :=
  ⟨fun vs H Q E q => F.len vs H Q E (h _ _ _ _ q), fun A outer s H args us vs Q E hr he hb hv hs => F.run A outer s H args us vs Q E hr he hb hv (h _ _ _ _ hs)⟩

theorem Env0.make {P : Program} {w : World} {K : PySem.W.Frag} {mg : Str → Option Value} {base : Heap} {A : Around} {outer : List Env} {s : Shared} {H : Hp} (e : Env0 P w K mg base A outer s H) (C : Addr) (us : List Value) (kw : List (Str × Value)) :
    Env0 P w K mg base (A.under (.builtin "type.__call__" ⟨.ref C :: us, kw⟩)) outer s H := ⟨by first | exact e.frames | (simpa [Around.under, Code.envs, Code.isFrame, pushEnvs] using e.frames), e.mod, e.bs, e.bsz, e.funs, e.frf, e.hok, e.bare⟩
theorem Env0.in1 {P : Program} {w : World} {K : PySem.W.Frag} {mg : Str → Option Value} {base : Heap} {A : Around} {outer : List Env} {s : Shared} {H : Hp} (e : Env0 P w K mg base A outer s H) :
    Env0 P w K mg base A.in1 outer s H := ⟨e.frames, e.mod, e.bs, e.bsz, e.funs, e.frf, e.hok, e.bare⟩

section
variable {X : Cx} {pins : List (Addr × Obj)} {σ : St} {H : Hp} {s s' : Shared}
/-- from a body: what a callee wants -/
theorem Inv.env0 (I : Inv X pins σ H s) : Env0 X.prog X.w X.K X.mg X.base X.A X.stack s H :=
  ⟨I.ok.frames, I.ok.mod, I.bs, Nat.le_trans I.ok.bsz I.sz, I.stack, I.stkFree, I.hok, I.bare⟩
/-- behind a call -/
theorem Inv.after {Q : VK} {u : Value} (I : Inv X pins σ H s) (h : CE X.stack X.prog X.w H s Q u s') : EP X pins σ Q u s' := by
  obtain ⟨v, H', os, bare, un, hok, r, q⟩ := h
  obtain ⟨hh, g, d, t, os'⟩ := s'
  obtain rfl : os' = s.os := os
  exact ⟨v, H', I.call (h' := hh) (g' := g) (d' := d) (t' := t) (ch := []) un hok bare (fun b z => absurd z (by simp)), r, q⟩
end

/-! ### calls -/
/-- f(..): the written arguments, then the defaults dvs; E: what is wanted of an exception -/
def tCall (sp : Sp) (dvs : List V) (E : XK) (t : TA) : TE := fun σ H Q => t σ H fun vs H1 => sp (vs ++ dvs) H1 Q E
/-- o.m(..) of an instance of the class at C -/
def tMeth (C : Addr) (m : Str) (sp : Sp) (dvs : List V) (E : XK) (ta : TE) (t : TA) : TE := fun σ H Q => ta σ H fun x H1 => ∃ a dx fs, x = .ref a ∧ H1 a = some (.ins C dx fs) ∧ fs.lookup m = none ∧
  t σ H1 fun vs H2 => sp (x :: (vs ++ dvs)) H2 Q E
/-- C(..): a new instance and its dict, then __init__ -/
def tMake (C : Addr) (sp : Sp) (dvs : List V) (E : XK) (t : TA) : TE := fun σ H Q => t σ H fun vs H1 => ∀ x dx, H1 x = none → H1 dx = none → dx ≠ x →
  sp (.ref x :: (vs ++ dvs)) (upd (upd H1 dx (.own x)) x (.ins C dx [])) (fun v H2 => v = .non ∧ Q (.ref x) H2) E

/-- how the parameters are bound: us the positional arguments, kw the keywords' values by name, ds the defaults that fill up -/
def Binds (K : PySem.W.Frag) (fd : FuncData) (ps : List Str) (ds : List Value) : Prop :=
  ∀ (s : Shared) (us : List Value), K.In s.heap → (us ++ ds).length = ps.length → BindsTo s fd ⟨us, []⟩ (ps.zip (us ++ ds))
/-- every parameter is given -/
theorem Binds.all {K : PySem.W.Frag} {fd : FuncData} {ps : List Str} (h : ∀ us : List Value, us.length = ps.length → bindArgs fd ⟨us, []⟩ = pure (ps.zip us)) : Binds K fd ps [] := fun s us _ hl => by
  rw [List.append_nil] at hl ⊢
  exact .of_eq (h us hl)

/-- an exception of a callee reaches what this body wants of exceptions -/
def Passes (CX : CXT) (X : Cx) (E : XK) : Prop := ∀ (pins : List (Addr × Obj)) (σ : St) (H : Hp) (s : Shared) (e : Value) (s' : Shared), Inv X pins σ H s → CX X.stack H s E e s' → X.xe e s'

section
variable {X : Cx} {CX : CXT} {k : Nat} {f C : Addr} {fd : FuncData} {ps : List Str} {sp : Sp} {dvs : List V} {ds : List Value} {E : XK} {x m : Str} {p pos apos : Pos} {e o : Expr} {es : List Expr} {ta : TE} {t : TA}

/-- the callee runs -/
theorem run_fn {pins : List (Addr × Obj)} {σ : St} {H : Hp} {s : Shared} {Q : VK} {us : List Value} {vs : List V} (F : FnOk X.prog X.w X.K X.mg X.base CX k f fd ps sp) (hr : Room k X.A) (hb : Binds X.K fd ps ds) (hd : Vals dvs ds) (hx : Passes CX X E)
    (I : Inv X pins σ H s) (r : Vals vs us) (h : sp (vs ++ dvs) H Q E) : wpAny (model X.prog X.w) X.A (call (.ref f) us) (EP X pins σ Q) X.xe s := by
  have r2 : Vals (vs ++ dvs) (us ++ ds) := r.append hd
  have hl : (us ++ ds).length = ps.length := by rw [← r2.length]; exact F.len _ _ _ _ h
  refine wpAny_call (codeAny_mono (F.run X.A X.stack s H ⟨us, []⟩ (us ++ ds) (vs ++ dvs) Q E hr I.env0 (hb s us I.kIn hl) r2 h) fun r s' hq => ?_)
  cases r with
  | error e => exact hx pins σ H s e s' I hq
  | ok fl =>
    cases fl with
    | ret u => exact I.after hq
    | next => exact False.elim hq
    | brk => exact False.elim hq
    | cont => exact False.elim hq

theorem pe_call (F : FnOk X.prog X.w X.K X.mg X.base CX k f fd ps sp) (hr : Room k X.A) (hg : Gl X x) (hm : X.mg x = some (.ref f)) (hk : PySem.W.keepIn X.K (.ref f) = true) (hb : Binds X.K fd ps ds) (hd : Vals dvs ds) (hx : Passes CX X E)
    (ha : PA X (e :: es) t) (hdb : (x == ("__debug__" : Str)) = false := by decide) (he : starEach (e :: es) X.env = (false, eval e X.env) :: starEach es X.env := by rfl) (hpl : (backTo pos (starEach es X.env)).any (·.1) = false := by rfl) :
    PE X (.Call (.Name x p) (e :: es) [] pos) (tCall sp dvs E t) := by
  intro pins s σ H Q I h
  refine wpAny_Call_Name_kw (ld_glob I hg hm ?_ hdb)
  refine PySem.W.callWith_K (h₀ := X.base) I.ok.mod.kin hk (thn (ha pos pins s σ H _ I h) fun us s1 ⟨vs, H1, I1, r, q⟩ => ⟨I1.kIn, ?_⟩) he hpl
  exact run_fn F hr hb hd hx I1 r q
/-- o.m() -/
theorem pe_meth0 {pl : Sem Bool} (he : PE X o ta) (c : Cls X.K C) (hm : Meth X.K C m f) (F : FnOk X.prog X.w X.K X.mg X.base CX k f fd ps sp) (hr : Room k X.A) (hb : Binds X.K fd ps ds) (hd : Vals dvs ds) (hx : Passes CX X E)
    (ht : eval (.Call (.Attribute o m apos) [] [] pos) X.env = (do
      let ov ← eval o X.env
      standAt apos.atName
      let (f, first) ← holding [ov] (getMethod ov m pl)
      callWith pos f first (backTo pos (starEach [] X.env)) (backToKw pos (keywordEach [] X.env))) := by rfl) :
    PE X (.Call (.Attribute o m apos) [] [] pos) (tMeth C m sp dvs E ta tNil) := by
  intro pins s σ H Q I h
  refine PySem.W.methodCall_KW (pl := pl) (thn (he pins s σ H _ I h) fun u s1 ⟨x, H1, I1, rx, a, dx, fs, ex, ea, l, q⟩ => ?_) ht
  subst ex
  obtain rfl : u = Value.ref a := rx
  refine getmeth_ok I1 ea c hm l ?_
  exact PySem.W.callWith_K0 (first := [.ref a]) I1.kIn hm.kp (run_fn (us := [.ref a]) (vs := [.ref a]) F hr hb hd hx I1 (.cons rfl .nil) q)

/-- what a class must have to be made -/
structure Mk (K : PySem.W.Frag) (C f : Addr) : Prop where
  makes : PySem.W.makesIn K C = true
  init : PySem.W.findIn K (.ref C) "__init__" = some (some (.ref f))
  fn : PySem.W.isFn K (.ref f) = true
  kp : PySem.W.keepIn K (.ref C) = true

theorem run_make {pins : List (Addr × Obj)} {σ : St} {H : Hp} {s : Shared} {Q : VK} {us : List Value} {vs : List V} (M : Mk X.K C f) (F : FnOk X.prog X.w X.K X.mg X.base CX k f fd ps sp) (hr : Room (k + 1) X.A) (hb : Binds X.K fd ps ds) (hd : Vals dvs ds)
    (hx : Passes CX X E) (I : Inv X pins σ H s) (r : Vals vs us)
    (h : ∀ x dx, H x = none → H dx = none → dx ≠ x → sp (.ref x :: (vs ++ dvs)) (upd (upd H dx (.own x)) x (.ins C dx [])) (fun v H2 => v = .non ∧ Q (.ref x) H2) E) :
    wpAny (model X.prog X.w) X.A (call (.ref C) us) (EP X pins σ Q) X.xe s := by
  have hq := h (s.heap.objs.size + 1) s.heap.objs.size (I.hok.fresh (Nat.le_succ _)) (I.hok.fresh (Nat.le_refl _)) (Nat.ne_of_lt (Nat.lt_succ_self _))
  have I2 := Inv.made (C := C) I
  have r2 : Vals (V.ref (s.heap.objs.size + 1) :: (vs ++ dvs)) (Value.ref (s.heap.objs.size + 1) :: (us ++ ds)) := .cons rfl (r.append hd)
  have hl : (Value.ref (s.heap.objs.size + 1) :: us ++ ds).length = ps.length := by
    have e := r2.length
    rw [F.len _ _ _ _ hq] at e
    exact e.symm
  refine wpAny_call (make_map (f := f) I.kIn M.makes M.init (beq_iff_eq.mp M.fn) (codeAny_mono (F.run _ X.stack _ _ ⟨Value.ref (s.heap.objs.size + 1) :: us, []⟩ (Value.ref (s.heap.objs.size + 1) :: (us ++ ds)) _ _ E (hr.make C us [])
    (I2.env0.make C us []) (hb _ (Value.ref (s.heap.objs.size + 1) :: us) I2.kIn hl) r2 hq) fun r s' hq' => ?_))
  cases r with
  | error e => exact hx pins σ _ _ e s' I2 hq'
  | ok fl =>
    cases fl with
    | ret u =>
      obtain ⟨v, H', I3, rv, ev, q3⟩ := I2.after hq'
      subst ev
      exact ⟨rv, ⟨V.ref (s.heap.objs.size + 1), H', I3, rfl, q3⟩⟩
    | next => exact False.elim hq'
    | brk => exact False.elim hq'
    | cont => exact False.elim hq'
theorem pe_make (M : Mk X.K C f) (F : FnOk X.prog X.w X.K X.mg X.base CX k f fd ps sp) (hr : Room (k + 1) X.A) (hg : Gl X x) (hm : X.mg x = some (.ref C)) (hb : Binds X.K fd ps ds) (hd : Vals dvs ds) (hx : Passes CX X E)
    (ha : PA X (e :: es) t) (hdb : (x == ("__debug__" : Str)) = false := by decide) (he : starEach (e :: es) X.env = (false, eval e X.env) :: starEach es X.env := by rfl) (hpl : (backTo pos (starEach es X.env)).any (·.1) = false := by rfl) :
    PE X (.Call (.Name x p) (e :: es) [] pos) (tMake C sp dvs E t) := by
  intro pins s σ H Q I h
  refine wpAny_Call_Name_kw (ld_glob I hg hm ?_ hdb)
  refine PySem.W.callWith_K (h₀ := X.base) I.ok.mod.kin M.kp (thn (ha pos pins s σ H _ I h) fun us s1 ⟨vs, H1, I1, r, q⟩ => ⟨I1.kIn, ?_⟩) he hpl
  exact run_make M F hr hb hd hx I1 r q
end

/-! ### keywords -/
section
variable {X : Cx} {CX : CXT} {k : Nat} {f C : Addr} {fd : FuncData} {ps ks : List Str} {sp : Sp} {E : XK} {x m : Str} {p pos apos kpos : Pos} {e o : Expr} {es : List Expr} {kws : List Keyword} {te ta : TE} {t tk : TA} {nm : Option Str}
/-- how a call with keywords binds: g puts the positional values us and the keywords' values ws (names ks) in the parameters' order, defaults among them -/
structure KBinds (K : PySem.W.Frag) (fd : FuncData) (ps ks : List Str) (g : List Value → List Value → List Value) (gV : List V → List V → List V) : Prop where
  to : ∀ (s : Shared) (us ws : List Value), K.In s.heap → (g us ws).length = ps.length → BindsTo s fd ⟨us, ks.zip ws⟩ (ps.zip (g us ws))
  rel : ∀ {vs : List V} {us : List Value} {zs : List V} {ws : List Value}, Vals vs us → Vals zs ws → Vals (gV vs zs) (g us ws)
variable {g : List Value → List Value → List Value} {gV : List V → List V → List V}
end

/-! ### a def's body keeps its promise -/
/-- names: the parameters first -/
structure FnScope (N P : List Str) (sc : Scope) : Prop where
  kind : sc.kind = .function
  co : sc.isCoroutine = false
  gen : sc.isGenerator = false
  nd : N.Nodup
  pre : N.take P.length = P
  par : ∀ x ∈ P, sc.names.lookup x = some .local ∨ sc.names.lookup x = some .cell
  nofree : ∀ y ∈ sc.names, y.2 ≠ .free

theorem bindL_out {kindOf : Str → Option NameKind} {x : Str} : ∀ {binds : List (Str × Value)} {m : Str → Option Value}, (∀ v, (x, v) ∉ binds) → bindL kindOf binds m x = m x
  | [], _, _ => rfl
  | (n, v) :: r, m, h => by
    unfold bindL
    rw [bindL_out fun w hw => h w (List.mem_cons_of_mem _ hw)]
    split
    · have : x ≠ n := by rintro rfl; exact h v List.mem_cons_self
      simp [this]
    · rfl
theorem bindC_out {kindOf : Str → Option NameKind} {x : Str} : ∀ {binds : List (Str × Value)} {m : Str → Option Value}, (∀ v, (x, v) ∉ binds) → bindC kindOf binds m x = m x
  | [], _, _ => rfl
  | (n, v) :: r, m, h => by
    unfold bindC
    rw [bindC_out fun w hw => h w (List.mem_cons_of_mem _ hw)]
    split
    · rfl
    · have : x ≠ n := by rintro rfl; exact h v List.mem_cons_self
      simp [this]
theorem bindL_get {kindOf : Str → Option NameKind} {x : Str} {v : Value} : ∀ {P : List Str} {vs : List Value} {i : Nat} {m : Str → Option Value}, P.Nodup → P[i]? = some x → vs[i]? = some v → kindOf x = some .local →
    bindL kindOf (P.zip vs) m x = some v
  | [], _, _, _, _, h, _, _ => by simp at h
  | _ :: _, [], _, _, _, _, h, _ => by simp at h
  | p :: P, w :: vs, 0, m, nd, h1, h2, hk => by
    simp at h1 h2; subst h1; subst h2
    show bindL kindOf ((p, w) :: P.zip vs) m p = _
    unfold bindL
    rw [bindL_out fun v hv => (List.nodup_cons.mp nd).1 (List.of_mem_zip hv).1, if_pos hk]
    simp
  | p :: P, w :: vs, i + 1, m, nd, h1, h2, hk => by
    show bindL kindOf ((p, w) :: P.zip vs) m x = _
    unfold bindL
    exact bindL_get (i := i) (List.nodup_cons.mp nd).2 (by simpa using h1) (by simpa using h2) hk
theorem bindC_get {kindOf : Str → Option NameKind} {x : Str} {v : Value} : ∀ {P : List Str} {vs : List Value} {i : Nat} {m : Str → Option Value}, P.Nodup → P[i]? = some x → vs[i]? = some v → kindOf x ≠ some .local →
    bindC kindOf (P.zip vs) m x = some v
  | [], _, _, _, _, h, _, _ => by simp at h
  | _ :: _, [], _, _, _, _, h, _ => by simp at h
  | p :: P, w :: vs, 0, m, nd, h1, h2, hk => by
    simp at h1 h2; subst h1; subst h2
    show bindC kindOf ((p, w) :: P.zip vs) m p = _
    unfold bindC
    rw [bindC_out fun v hv => (List.nodup_cons.mp nd).1 (List.of_mem_zip hv).1, if_neg hk]
    simp
  | p :: P, w :: vs, i + 1, m, nd, h1, h2, hk => by
    show bindC kindOf ((p, w) :: P.zip vs) m x = _
    unfold bindC
    exact bindC_get (i := i) (List.nodup_cons.mp nd).2 (by simpa using h1) (by simpa using h2) hk

/-- the names' values at the entry -/
def start (N : List Str) (vs : List V) : St := vs.map some ++ List.replicate (N.length - vs.length) none

/-- the context of a def's body, at its entry; an exception leaves the frame, then lies as CX says -/
def cxOf (CX : CXT) (P : Program) (w : World) (K : PySem.W.Frag) (mg : Str → Option Value) (base : Heap) (N : List Str) (qual : Str) (scope : Scope) (f : Addr) (cd : Value) (A : Around) (outer : List Env) (s : Shared) (H : Hp) (E : XK) : Cx where
  prog := P
  w := w
  K := K
  mg := mg
  base := base
  A := A.deeper (envOfC qual scope s.heap.objs.size f cd)
  N := N
  s₀ := s
  H₀ := H
  env := envOfC qual scope s.heap.objs.size f cd
  outer := outer
  stack := envOfC qual scope s.heap.objs.size f cd :: outer
  ex := []
  calm := true
  fn := fun _ => true
  pn := []
  xe := fun e s' => wpAny (model P w) (A.deeper (envOfC qual scope s.heap.objs.size f cd)) (leaving (envOfC qual scope s.heap.objs.size f cd) e) (fun _ s'' => CX outer H s E e s'') (fun e' s'' => CX outer H s E e' s'') s'

theorem cell_has {sc : Scope} {n : Nat} {x : Str} (h : sc.names.lookup x = some .cell) : ∃ c, (cellsFrom n sc.names []).lookup x = some c := by
  have q := PySem.W.cellsFrom_some sc.names n [] (.inl h)
  exact Option.isSome_iff_exists.mp q

theorem inv_start {CX : CXT} {P : Program} {w : World} {K : PySem.W.Frag} {mg : Str → Option Value} {base : Heap} {N ps : List Str} {qual : Str} {scope : Scope} {f : Addr} {cd : Value} {A : Around} {outer : List Env} {s s1 : Shared} {H : Hp} {E : XK} {us : List Value} {vs : List V}
    (S : FnScope N ps scope) (hd : A.handled = none) (e0 : Env0 P w K mg base A outer s H) (hl : vs.length = ps.length) (r : Vals vs us)
    (x : InCallC s s.heap.objs.size (bindL (envOfC qual scope s.heap.objs.size f cd).kindOf (ps.zip us) fun _ => none) (cellsFrom (s.heap.objs.size + 1) scope.names []) (bindC (envOfC qual scope s.heap.objs.size f cd).kindOf (ps.zip us) fun _ => none) s1) :
    Inv (cxOf CX P w K mg base N qual scope f cd A outer s H E) [] (start N vs) H s1 := by
  have hpl : ps.length ≤ N.length := by have := congrArg List.length S.pre; rw [List.length_take] at this; omega
  obtain ⟨h1, tk, rfl, hk⟩ := x.done
  have noA : ∀ b : Addr, b ∉ (cxOf CX P w K mg base N qual scope f cd A outer s H E).ex := fun b z => absurd (show b ∈ ([] : List Addr) from z) (by simp)
  refine ⟨⟨e0.mod, S.kind, rfl, rfl, Nat.le_refl _, fun y z c h1 h2 => ?_, fun y hy => ?_, fun y c _ h => ?_, fun _ => hd, Around.frames_deeper e0.frames, .inr ⟨rfl, rfl⟩, fun b z => absurd z (noA b), e0.bs, e0.bsz, fun b _ _ => noA b, fun b z => absurd z (noA b), e0.funs, e0.frf⟩,
    rfl, e0.bare, Un.kept hk, ⟨_, x.toInCall.ns, fun i y v h1 h2 h3 => ?_⟩, fun y c h => ⟨_, x.cell y c h⟩, e0.hok.fresh (Nat.le_refl _), fun y c h => ?_, fun p hp => absurd (show p ∈ ([] : List (Addr × Obj)) from hp) (by simp), e0.hok.kept hk, ?_⟩
  · exact name_of_addr x.apart (PySem.mem_of_lookup h1) (PySem.mem_of_lookup h2)
  · have hy : scope.names.lookup y = some .cell ∨ scope.names.lookup y = some .free := hy
    rcases hy with hy | hy
    · exact cell_has hy
    · exact absurd rfl (S.nofree _ (PySem.mem_of_lookup hy))
  · exact Nat.le_of_lt (x.above y c (PySem.mem_of_lookup h))
  · have hi : i < vs.length := by
      unfold start at h2
      by_cases hi : i < vs.length
      · exact hi
      · rw [List.getElem?_append_right (by simpa using hi)] at h2
        rw [List.getElem?_replicate] at h2
        split at h2 <;> cases h2
    have ha : vs[i]? = some v := by
      unfold start at h2
      rw [List.getElem?_append_left (by simpa using hi), List.getElem?_map] at h2
      cases e : vs[i]? with
      | none => rw [e] at h2; cases h2
      | some a => rw [e] at h2; cases h2; rfl
    obtain ⟨u, hu, rv⟩ := r.get ha
    have hp : ps[i]? = some y := by
      rw [← S.pre, List.getElem?_take_of_lt (by omega)]; exact h1
    have ndP : ps.Nodup := by rw [← S.pre]; exact S.nd.sublist (List.take_sublist _ _)
    refine ⟨u, rv, ?_⟩
    rcases S.par y (List.mem_of_getElem? hp) with k | k
    · exact .inl ⟨k, bindL_get ndP hp hu k⟩
    · obtain ⟨c, e⟩ := cell_has (n := s.heap.objs.size + 1) k
      refine .inr ⟨.inl k, c, e, ?_⟩
      have q := x.cell y c e
      rw [bindC_get ndP hp hu (by show scope.names.lookup y ≠ _; rw [k]; decide)] at q
      exact q
  · exact e0.hok.fresh (Nat.le_of_lt (x.above y c (PySem.mem_of_lookup h)))
  · unfold start
    show _ = N.length
    rw [List.length_append, List.length_map, List.length_replicate]
    omega

/-- THE RULE: a def (or a method) of the text, by its body. The body's reading t is chosen for each entry; it is run at the parameters' values -/
theorem fn_of {CX : CXT} {P : Program} {w : World} {K : PySem.W.Frag} {mg : Str → Option Value} {base : Heap} {k : Nat} {f : Addr} {name qual : Str} {params : Arguments} {body : List Stmt} {scope : Scope} {dV kV doc pm cdv ct oc : Value} {an od : Option Addr}
    {osl : Array (Option Value)} {N ps : List Str} {sp : Sp} (lk : K.lookup f = some ⟨oc, od, .func (PySem.W.fnOf name qual params body scope dV kV doc pm an cdv ct), osl⟩) (hcd : PySem.W.codeIn K cdv qual = true) (S : FnScope N ps scope)
    (len : ∀ vs H Q E, sp vs H Q E → vs.length = ps.length)
    (hbody : ∀ (A : Around) (outer : List Env) (s : Shared) (H : Hp) (vs : List V) (Q : VK) (E : XK), Room k (A.deeper (envOfC qual scope s.heap.objs.size f cdv)) → sp vs H Q E →
      ∃ t, PSs (cxOf CX P w K mg base N qual scope f cdv A outer s H E) body t ∧ t { nx := fun _ H' => Q .non H', rt := Q } (start N vs) H) :
    FnOk P w K mg base CX (k + 1) f (PySem.W.fnOf name qual params body scope dV kV doc pm an cdv ct) ps sp := by
  refine ⟨len, fun A outer s H args us vs Q E hr e0 hb r hsp => ?_⟩
  have hl := len _ _ _ _ hsp
  have KX : K.In s.heap := e0.mod.kin.keeps fun b o e => (e0.bs b o e).1
  have lim : s.heap.NoLimit := e0.mod.nolimit.keeps fun b o e => (e0.bs b o e).1
  have hkind : ∀ y ∈ ps.zip us, scope.names.lookup y.1 = some .local ∨ (scope.names.lookup y.1 = some .cell ∧ ((cellsFrom (s.heap.objs.size + 1) scope.names []).lookup y.1).isSome = true) := fun ⟨n, v⟩ hy => by
    rcases S.par n (List.of_mem_zip hy).1 with q | q
    · exact .inl q
    · exact .inr ⟨q, PySem.W.cellsFrom_some _ _ _ (.inl q)⟩
  refine codeAny_call_function hr.depth (KX _ _ lk) rfl S.co S.gen rfl (PySem.W.codeRec_of KX hcd) (hb _ _ _ _ ?_)
  refine wpAny_newFunctionEnv_cells S.kind hkind fun env he s1 x => ?_
  subst he
  refine ⟨lim.keeps x.toInCall.keep, codeAny_func ?_⟩
  obtain ⟨t, ht, hq⟩ := hbody A outer s H vs Q E (hr.deeper _) hsp
  have I : Inv (cxOf CX P w K mg base N qual scope f cdv A outer s H E) [] (start N vs) H s1 := inv_start S hr.hd e0 hl r x
  refine wpAny_mono (ht [] s1 (start N vs) H _ I hq) (fun fl s' hs => ?_) fun e s' hs => hs
  have fin : ∀ {σ' : St} {H' : Hp} {v : V} {u : Value}, Inv (cxOf CX P w K mg base N qual scope f cdv A outer s H E) [] σ' H' s' → RelV v u → Q v H' → CE outer P w H s Q u s' :=
    fun {σ' H' v u} J rv q => ⟨v, H', J.os, J.bare, J.base, J.hok, rv, q⟩
  cases fl with
  | ret u =>
    obtain ⟨v, σ', H', J, rv, q⟩ := hs
    exact fin J rv q
  | next =>
    obtain ⟨σ', H', J, q⟩ := hs
    exact fin (v := V.non) (u := Value.none) J rfl q
  | brk =>
    obtain ⟨_, _, _, q⟩ := hs
    exact False.elim q
  | cont =>
    obtain ⟨_, _, _, q⟩ := hs
    exact False.elim q
end L2

namespace L2
open PySem PySem.Spec PyProof.Rows
section
variable {X : Cx} {x : Str} {p pos : Pos} {e : Expr} {es : List Expr} {t : TA} {id T : String} {r : List V → Hp → VK → Prop}

def tCB (r : List V → Hp → VK → Prop) (t : TA) : TE := fun σ H Q => t σ H fun vs H1 => r vs H1 Q
/-- f(e, ..), f a built-in function -/
theorem pe_callB (hc : CallR X (.builtin id) r) (hg : Gl X x) (hm : X.mg x = none) (hv : bootBuiltins x = some (.builtin id)) (ha : PA X (e :: es) t) (hn : x ≠ "__name__" := by decide) (hdb : (x == ("__debug__" : Str)) = false := by decide)
    (he : starEach (e :: es) X.env = (false, eval e X.env) :: starEach es X.env := by rfl) (hpl : (backTo pos (starEach es X.env)).any (·.1) = false := by rfl) : PE X (.Call (.Name x p) (e :: es) [] pos) (tCB r t) := by
  intro pins s σ H Q I h
  refine wpAny_Call_Name_kw (ld_blt I hg hm hv ?_ hn hdb)
  exact PyProof.Rows.callWith_builtin1 (thn (ha pos pins s σ H _ I h) fun us s1 ⟨vs, H1, I1, r1, q1⟩ => hc pins s1 σ H1 vs us Q I1 r1 q1) he hpl
/-- T(e, ..), T a built-in type -/
theorem pe_callTy (hc : CallR X (.type T) r) (hg : Gl X x) (hm : X.mg x = none) (hv : bootBuiltins x = some (.type T)) (ha : PA X (e :: es) t) (hn : x ≠ "__name__" := by decide) (hdb : (x == ("__debug__" : Str)) = false := by decide)
    (he : starEach (e :: es) X.env = (false, eval e X.env) :: starEach es X.env := by rfl) (hpl : (backTo pos (starEach es X.env)).any (·.1) = false := by rfl) : PE X (.Call (.Name x p) (e :: es) [] pos) (tCB r t) := by
  intro pins s σ H Q I h
  refine wpAny_Call_Name_kw (ld_blt I hg hm hv ?_ hn hdb)
  exact PyProof.Rows.callWith_type1 (thn (ha pos pins s σ H _ I h) fun us s1 ⟨vs, H1, I1, r1, q1⟩ => hc pins s1 σ H1 vs us Q I1 r1 q1) he hpl
end
end L2

namespace HT
open PySem PyProof.Rows

section
open PySem.SeqAt
open PySem.AutoSeq1 (wpAny_loadPart')
open PySem.MeetsSeq PySem.MeetsSeq2 PySem.MeetsSeq3

end

section
variable {prog : Program} {w : World} {A : Around} {E : Value → Shared → Prop} {s : Shared}

/-! ### t[a:b], not the whole -/
/-- a slice's bound as a place among n (d where it is left out) -/
def sIx (n d : Nat) : Option Int → Nat
  | none => d
  | some v => if v < 0 then (v + (n : Int)).toNat else min v.toNat n
theorem sIx_nat (n d k : Nat) : sIx n d (some (k : Int)) = min k n := by
  show (if (k : Int) < 0 then ((k : Int) + (n : Int)).toNat else min (k : Int).toNat n) = min k n
  rw [if_neg (by omega), Int.toNat_natCast]
end
end HT

namespace L2
open PySem PySem.Spec PyProof.Rows

/-! ### the parts of a slice -/
abbrev TO := St → Hp → (Option Int → Hp → Prop) → Prop
/-- a slice's part (left out, or an int) -/
def PO (X : Cx) (e : Option Expr) (t : TO) : Prop :=
  ∀ (pins : List (Addr × Obj)) (s : Shared) (σ : St) (H : Hp) (Q : Option Int → Hp → Prop), Inv X pins σ H s → t σ H Q →
    wpAny (model X.prog X.w) X.A (evalPart e X.env) (fun u s' => ∃ o H', Inv X pins σ H' s' ∧ IsPart u o ∧ Q o H') X.xe s
def tNoPart : TO := fun _ H Q => Q none H
def tPart (t : TE) : TO := fun σ H Q => t σ H fun x H1 => ∃ i, x = .int i ∧ Q (some i) H1

section
variable {X : Cx} {e : Expr} {te : TE} {lo hi : Option Expr} {tl th : TO} {pos p2 : Pos}

theorem po_none : PO X none tNoPart := by
  intro pins s σ H Q I h
  rw [evalPart_none]
  exact wpAny_pure ⟨none, H, I, .none, h⟩
theorem po_some (h : PE X e te) : PO X (some e) (tPart te) := by
  intro pins s σ H Q I hw
  rw [evalPart_some]
  refine thn (h pins s σ H _ I hw) fun u s1 ⟨x, H1, I1, r1, q1⟩ => ?_
  obtain ⟨i, rfl, q⟩ := q1
  obtain ⟨t, rfl⟩ := r1
  exact ⟨some i, H1, I1, .int i t, q⟩

/-- what a slice of a value is, by values: the slice object stands at sl -/
def SlR (X : Cx) (r : V → Option Int → Option Int → Hp → VK → Prop) : Prop :=
  ∀ (pins : List (Addr × Obj)) (s : Shared) (σ : St) (H : Hp) (x : V) (v vl vu : Value) (lo hi : Option Int) (sl : Addr) (Q : VK), Inv X pins σ H s → RelV x v → s.heap.IsSliceOf sl vl vu .none → IsPart vl lo → IsPart vu hi → r x lo hi H Q →
    ∃ T id, typeLookup (.type T) "__getitem__" = pure (some (.builtin id)) ∧ s.TypeIs v T ∧ wpAny (model X.prog X.w) X.A (getItem v (.ref sl)) (EP X pins σ Q) X.xe s
theorem SlR.or {r r' : V → Option Int → Option Int → Hp → VK → Prop} (h : SlR X r) (h' : SlR X r') : SlR X (fun x lo hi H Q => r x lo hi H Q ∨ r' x lo hi H Q) := by
  intro pins s σ H x v vl vu lo hi sl Q I rx hs pl pu q
  rcases q with q | q
  · exact h pins s σ H x v vl vu lo hi sl Q I rx hs pl pu q
  · exact h' pins s σ H x v vl vu lo hi sl Q I rx hs pl pu q
def tSl (r : V → Option Int → Option Int → Hp → VK → Prop) (te : TE) (tl th : TO) : TE := fun σ H Q => te σ H fun x H1 => tl σ H1 fun l H2 => th σ H2 fun u H3 => r x l u H3 Q
/-- a[lo:hi], any a -/
theorem pe_slice {r : V → Option Int → Option Int → Hp → VK → Prop} (hr : SlR X r) (he : PE X e te) (hl : PO X lo tl) (hu : PO X hi th) : PE X (.Subscript e (.Slice lo hi none p2) pos) (tSl r te tl th) := by
  intro pins s σ H Q I h
  refine Subscript_ (thn (he pins s σ H _ I h) fun v s1 ⟨x, H1, I1, r1, q1⟩ => ?_)
  refine wpAny_Slice (thn (hl pins s1 σ H1 _ I1 q1) fun vl s2 ⟨l, H2, I2, pl, q2⟩ => thn (hu pins s2 σ H2 _ I2 q2) fun vu s3 ⟨u, H3, I3, pu, q3⟩ => ?_)
  rw [evalPart_none]
  refine wpAny_pure ?_
  have I4 : Inv X pins σ H3 { s3 with heap := s3.heap.push { cls := .type "slice", data := .fields #[vl, vu, .none] } } := I3.kept (t' := s3.toks) fun b ob q => Heap.get?_push_of_some _ q
  obtain ⟨T, id, hT, ht, hg⟩ := hr pins { s3 with heap := s3.heap.push { cls := .type "slice", data := .fields #[vl, vu, .none] } } σ H3 x v vl vu l u s3.heap.objs.size Q I4 r1 (Heap.IsSliceOf.new ..) pl pu q3
  show wpAny (model X.prog X.w) X.A (subscriptTail e (.Slice lo hi none p2) v (.ref s3.heap.objs.size)) (EP X pins σ Q) X.xe { s3 with heap := s3.heap.push { cls := .type "slice", data := .fields #[vl, vu, .none] } }
  exact tail_any (ops := [.ref s3.heap.objs.size, v]) ht hT hg (by with_unfolding_all rfl)

/-- the items of xs[lo:hi] -/
def cutV (xs : List V) (lo hi : Option Int) : List V := (xs.drop (HT.sIx xs.length 0 lo)).take (HT.sIx xs.length xs.length hi - HT.sIx xs.length 0 lo)
theorem cutV_length (xs : List V) (lo hi : Option Int) : (cutV xs lo hi).length ≤ xs.length := by
  unfold cutV
  rw [List.length_take, List.length_drop]
  omega
/-! ### t < u, t + u -/
end
end L2

namespace L2
open PySem PySem.Spec PyProof.Rows

/-! ### places -/
/-- the place that an index of any sign means -/
def ixN (n : Nat) (i : Int) : Option Nat := if 0 ≤ i then (if i < n then some i.toNat else none) else if -(n : Int) ≤ i then some (i + n).toNat else none
def atI {α : Type} (xs : List α) (i : Int) : Option α := (ixN xs.length i).bind fun j => xs[j]?
theorem ixN_seq {n : Nat} {i : Int} {j : Nat} (h : ixN n i = some j) : seqIndex? i n = some j ∧ j < n ∧ -(n : Int) ≤ i ∧ i < n := by
  unfold ixN at h
  by_cases h0 : 0 ≤ i
  · rw [if_pos h0] at h
    by_cases h1 : i < n
    · rw [if_pos h1] at h
      have e : i.toNat = j := Option.some.inj h
      exact ⟨by rw [seqIndex_of h0 h1, e], by omega, by omega, h1⟩
    · rw [if_neg h1] at h; cases h
  · rw [if_neg h0] at h
    by_cases h1 : -(n : Int) ≤ i
    · rw [if_pos h1] at h
      have e : (i + n).toNat = j := Option.some.inj h
      exact ⟨by rw [seqIndex_neg (by omega) h1, e], by omega, h1, by omega⟩
    · rw [if_neg h1] at h; cases h
theorem atI_get {α : Type} {xs : List α} {i : Int} {v : α} (h : atI xs i = some v) : ∃ j, seqIndex? i xs.length = some j ∧ xs[j]? = some v ∧ j < xs.length ∧ -(xs.length : Int) ≤ i ∧ i < xs.length := by
  unfold atI at h
  cases e : ixN xs.length i with
  | none => rw [e] at h; cases h
  | some j =>
    rw [e] at h
    obtain ⟨h1, h2, h3, h4⟩ := ixN_seq e
    exact ⟨j, h1, h, h2, h3, h4⟩
theorem atI_nat {α : Type} {xs : List α} {j : Nat} {v : α} (h : xs[j]? = some v) : atI xs (j : Int) = some v := by
  have hj : j < xs.length := (List.getElem?_eq_some_iff.mp h).1
  have e : ixN xs.length (j : Int) = some j := by
    unfold ixN
    rw [if_pos (by omega), if_pos (by omega)]; simp
  unfold atI; rw [e]; exact h
/-! ### what may be subscripted -/
/-- what stands as an index of a plain subscript -/
def PlainIx (b : Expr) : Prop := ∀ o i, subscripted b false o i = operate [o, i] (getItem o i)
/-- a subscript by values -/
def IxR (X : Cx) (r : R2) : Prop :=
  ∀ (value slice : Expr) (pins : List (Addr × Obj)) (s : Shared) (σ : St) (H : Hp) (x y : V) (v u : Value) (Q : VK), Inv X pins σ H s → RelV x v → RelV y u → r x y H Q →
    subscripted slice false v u = operate [v, u] (getItem v u) → wpAny (model X.prog X.w) X.A (subscriptTail value slice v u) (EP X pins σ Q) X.xe s
/-- a call of a builtin's method by values: the receiver, the arguments -/
def MtR (X : Cx) (id : String) (r : V → List V → Hp → VK → Prop) : Prop :=
  ∀ (pins : List (Addr × Obj)) (s : Shared) (σ : St) (H : Hp) (x : V) (xs : List V) (v : Value) (us : List Value) (Q : VK), Inv X pins σ H s → RelV x v → Vals xs us → r x xs H Q →
    wpAny (model X.prog X.w) X.A (call (.builtin id) (v :: us)) (EP X pins σ Q) X.xe s
section
variable {X : Cx} {a b : Expr} {ta tb : TE} {pos : Pos}
theorem IxR.or {r r' : R2} (h : IxR X r) (h' : IxR X r') : IxR X (fun x y H Q => r x y H Q ∨ r' x y H Q) := by
  intro value slice pins s σ H x y v u Q I rx ry q hs
  rcases q with q | q
  · exact h value slice pins s σ H x y v u Q I rx ry q hs
  · exact h' value slice pins s σ H x y v u Q I rx ry q hs
theorem MtR.or {id : String} {r r' : V → List V → Hp → VK → Prop} (h : MtR X id r) (h' : MtR X id r') : MtR X id (fun x xs H Q => r x xs H Q ∨ r' x xs H Q) := by
  intro pins s σ H x xs v us Q I rx rs q
  rcases q with q | q
  · exact h pins s σ H x xs v us Q I rx rs q
  · exact h' pins s σ H x xs v us Q I rx rs q
/-- a[b] -/
theorem pe_ix {r : R2} (hr : IxR X r) (ha : PE X a ta) (hb : PE X b tb) (hs : PlainIx b) : PE X (.Subscript a b pos) (tOp r ta tb) := by
  intro pins s σ H Q I h
  exact Subscript_ (binT ha hb I h fun v u s2 x y H2 I2 rx ry q => hr a b pins s2 σ H2 x y v u Q I2 rx ry q (hs _ _))

def rIxL (K : PySem.W.Frag) : R2 := fun x y H Q => ∃ p xs i v, x = .ref p ∧ y = .int i ∧ SqL K H p xs ∧ atI xs i = some v ∧ Q v H
def rIxT (K : PySem.W.Frag) : R2 := fun x y H Q => ∃ p xs i v, x = .ref p ∧ y = .int i ∧ SqT K H p xs ∧ atI xs i = some v ∧ Q v H
def rIxS : R2 := fun x y H Q => ∃ z i c, x = .str z ∧ y = .int i ∧ z.length ≤ sizeLine ∧ atI z.cps.toList i = some c ∧ Q (.str ⟨#[c]⟩) H
theorem ix_list : IxR X (rIxL X.K) := by
  intro value slice pins s σ H x y v u Q I rx ry h hs
  obtain ⟨p, xs, i, z, rfl, rfl, hq, he, q⟩ := h
  cases rx
  obtain ⟨t, rfl⟩ := ry
  obtain ⟨its, r, pl, hz⟩ := I.list hq
  obtain ⟨j, h1, h2, h3, h4, h5⟩ := atI_get he
  obtain ⟨w, ew, rw'⟩ := r.get h2
  have hl := r.length
  have hn := line63
  have fin : EP X pins σ Q w s := ⟨z, H, I, rw', q⟩
  by_cases h0 : 0 ≤ i
  · have hj : i.toNat = j := by
      rw [seqIndex_of h0 h5] at h1
      exact Option.some.inj h1
    exact item_listR pl.isList h0 (by omega) (by rw [hj]; simpa using ew) fin hs
  · have hj : (i + (its.toArray.size : Int)).toNat = j := by
      rw [seqIndex_neg (by omega) h4] at h1
      rw [List.size_toArray, ← hl]
      exact Option.some.inj h1
    exact subscriptTail_builtinR (x := w) pl.isList.typeIs slot_list_getitem.lookup
      (wpAny_getItem_list_neg (Q := fun r s' => r = w ∧ EP X pins σ Q r s') pl.isList (by omega) (by rw [List.size_toArray] <;> omega) (by omega) (by rw [hj]; simpa using ew) ⟨rfl, fin⟩) hs
theorem ix_tup : IxR X (rIxT X.K) := by
  intro value slice pins s σ H x y v u Q I rx ry h hs
  obtain ⟨p, xs, i, z, rfl, rfl, hq, he, q⟩ := h
  cases rx
  obtain ⟨t, rfl⟩ := ry
  obtain ⟨its, r, pl, hz⟩ := I.tuple hq
  obtain ⟨j, h1, h2, h3, h4, h5⟩ := atI_get he
  obtain ⟨w, ew, rw'⟩ := r.get h2
  have hl := r.length
  have hn := line63
  have fin : EP X pins σ Q w s := ⟨z, H, I, rw', q⟩
  exact subscriptTail_builtinR (x := w) pl.typeIs slot_tuple_getitem.lookup
    (getItem_tuple (j := j) (Q := fun r s' => r = w ∧ EP X pins σ Q r s') pl (by omega) (by omega) (by rw [List.size_toArray, ← hl]; exact h1) (by simpa using ew) ⟨rfl, fin⟩) hs
theorem ix_str : IxR X rIxS := by
  intro value slice pins s σ H x y v u Q I rx ry h hs
  obtain ⟨z, i, c, rfl, rfl, hz, he, q⟩ := h
  obtain ⟨t, rfl⟩ := rx
  obtain ⟨t', rfl⟩ := ry
  obtain ⟨j, h1, h2, h3, h4, h5⟩ := atI_get he
  have hl : z.cps.toList.length = z.length := by simp [Str.length]
  rw [hl] at h1 h4 h5
  have hn := line63
  exact tail_any (typeIs_str s z t) slot_str_getitem.lookup (getItem_str (c := c) (by
    have e1 : decide (i < -(2 ^ 63 : Int)) = false := decide_eq_false (by omega)
    have e2 : decide (i ≥ 2 ^ 63) = false := decide_eq_false (by omega)
    rw [e1, e2, Bool.or_false]) (by rw [h1]; simpa using h2) ⟨.str ⟨#[c]⟩, H, I.tok _, ⟨_, rfl⟩, q⟩) hs
/-- list, tuple or str -/
def rIx (K : PySem.W.Frag) : R2 := fun x y H Q => rIxL K x y H Q ∨ rIxT K x y H Q ∨ rIxS x y H Q
theorem ix_seq : IxR X (rIx X.K) := ix_list.or (ix_tup.or ix_str)

/-! ### xs[i] = v, any sign -/
/-- the list's object behind a store -/
theorem mapSeq_set (its : List Value) (n j : Nat) (u : Value) : Obj.mapSeq (·.setIfInBounds j u) { cls := .type "list", data := .seq its.toArray n } = { cls := .type "list", data := .seq (its.set j u).toArray n } := by
  simp [Obj.mapSeq]
theorem Inv.lst {pins : List (Addr × Obj)} {σ : St} {H : Hp} {s : Shared} {p : Addr} {xs : List V} (I : Inv X pins σ H s) (h : H p = some (.lst xs)) :
    ∃ (its : List Value) (n : Nat), Vals xs its ∧ s.heap.get? p = some { cls := .type "list", data := .seq its.toArray n } ∧ xs.length ≤ sizeLine := by
  obtain ⟨z, its, n, r, e⟩ := I.hok p _ h
  exact ⟨its, n, r, e, z⟩
/-- the list at p is written by an update of its object -/
theorem Inv.lstUpd {pins : List (Addr × Obj)} {σ : St} {H : Hp} {s : Shared} {p : Addr} {xs ys : List V} {its its' : List Value} {n n' : Nat} {f : Obj → Obj} (I : Inv X pins σ H s) (h : H p = some (.lst xs))
    (ho : s.heap.get? p = some { cls := .type "list", data := .seq its.toArray n }) (hf : f { cls := .type "list", data := .seq its.toArray n } = { cls := .type "list", data := .seq its'.toArray n' }) (r : Vals ys its') (hz : ys.length ≤ sizeLine) (t : Nat) :
    Inv X pins σ (upd H p (.lst ys)) { s with heap := s.heap.update p f, toks := t } := by
  have e : (s.heap.update p f).get? p = some { cls := .type "list", data := .seq its'.toArray n' } := by
    rw [Heap.get?_update_self f ho (by rw [hf] <;> rfl), hf]
  refine I.write (x := p) (e := p) (by rw [h]; trivial) (.inl rfl) (fun b u hb q => (Heap.get?_update_other _ _ (Ne.symm hb)).trans q) ⟨_, e⟩ ?_
  exact ⟨hz, its', n', r, e⟩
def rSetL : V → V → V → Hp → (Hp → Prop) → Prop := fun o i v H Q => ∃ p xs k j, o = .ref p ∧ i = .int k ∧ H p = some (.lst xs) ∧ ixN xs.length k = some j ∧ Q (upd H p (.lst (xs.set j v)))
theorem set_list : PSet X rSetL := by
  intro pins s σ H o i v ov iv u Q I ro ri rv h
  obtain ⟨p, xs, k, j, rfl, rfl, hp, hj, q⟩ := h
  cases ro
  obtain ⟨t, rfl⟩ := ri
  obtain ⟨its, n, r, ho, hz⟩ := I.lst hp
  obtain ⟨h1, h2, h3, h4⟩ := ixN_seq hj
  have hl := r.length
  have hn := line63
  have I' : Inv X pins σ (upd H p (.lst (xs.set j v))) { s with heap := s.heap.update p (Obj.mapSeq (·.setIfInBounds j u)) } :=
    I.lstUpd hp ho (mapSeq_set its n j u) (r.set rv j) (by rw [List.length_set]; exact hz) s.toks
  by_cases h0 : 0 ≤ k
  · have hk : k.toNat = j := by
      rw [seqIndex_of h0 h4] at h1
      exact Option.some.inj h1
    exact PySem.W.ki_setAt ho h0 (by omega) (by rw [List.size_toArray, ← hl]; exact h4) (by rw [hk]; exact ⟨_, I', q⟩)
  · have hk : (k + (its.toArray.size : Int)).toNat = j := by
      rw [seqIndex_neg (by omega) h3] at h1
      rw [List.size_toArray, ← hl]
      exact Option.some.inj h1
    exact PySem.W.ki_setBack ho (by omega) (by rw [List.size_toArray, ← hl]; exact h3) (by omega) (by rw [hk]; exact ⟨_, I', q⟩)

/-! ### slices -/
theorem slice_bounds (lo hi : Option Int) (n : Nat) : (sliceBounds lo hi none n).1 = ((HT.sIx n 0 lo : Nat) : Int) ∧ (sliceBounds lo hi none n).2.1 = ((HT.sIx n n hi : Nat) : Int) ∧ (sliceBounds lo hi none n).2.2 = 1 := by
  refine ⟨?_, ?_, rfl⟩
  · cases lo with
    | none => simp [sliceBounds, HT.sIx]
    | some i =>
      simp only [sliceBounds, HT.sIx, Option.getD_none, show (1 : Int) > 0 by decide, if_true]
      by_cases h : i < 0
      · simp only [h, if_true] <;> omega
      · simp only [h, if_false] <;> omega
  · cases hi with
    | none => simp [sliceBounds, HT.sIx]
    | some i =>
      simp only [sliceBounds, HT.sIx, Option.getD_none, show (1 : Int) > 0 by decide, if_true]
      by_cases h : i < 0
      · simp only [h, if_true] <;> omega
      · simp only [h, if_false] <;> omega
theorem slicePick_cut (its : List Value) (lo hi : Option Int) : slicePick its.toArray lo hi none = ((its.drop (HT.sIx its.length 0 lo)).take (HT.sIx its.length its.length hi - HT.sIx its.length 0 lo)).toArray := by
  obtain ⟨h1, h2, h3⟩ := slice_bounds lo hi its.toArray.size
  unfold slicePick
  rw [h1, h2, h3]
  simp only [sliceRange_one, pick_run, List.size_toArray] <;> rfl
/-- xs[lo:hi] of a list: a new list -/
def rSlL (K : PySem.W.Frag) : V → Option Int → Option Int → Hp → VK → Prop := fun x lo hi H Q => ∃ a xs, x = .ref a ∧ SqL K H a xs ∧ ∀ p, H p = none → Q (.ref p) (upd H p (.lst (cutV xs lo hi)))
theorem sl_list : SlR X (rSlL X.K) := by
  intro pins s σ H x v vl vu lo hi sl Q I rx hs pl pu h
  obtain ⟨a, xs, rfl, hx, q⟩ := h
  cases rx
  obtain ⟨its, r, ht, hz⟩ := I.list hx
  have hlen := r.length
  refine ⟨"list", _, slot_list_getitem.lookup, ht.isList.typeIs, ?_⟩
  refine wpAny_getItem_list_slice ht.isList hs pl pu .none (by simp) ?_ (by rw [List.size_toArray] <;> omega)
  rw [slicePick_cut, ← hlen]
  refine ⟨.ref s.heap.objs.size, _, I.laid (t' := s.toks) (o := .lst (cutV xs lo hi)) (fun b ob q => Heap.get?_push_of_some _ q) (Nat.le_refl _) ?_, rfl, q _ (I.hok.fresh (Nat.le_refl _))⟩
  exact ⟨Nat.le_trans (cutV_length xs lo hi) hz, _, 0, (r.drop (HT.sIx xs.length 0 lo)).take (HT.sIx xs.length xs.length hi - HT.sIx xs.length 0 lo), Heap.get?_push_size _ rfl⟩

/-! ### in, not in: flat items -/
def flatV : V → Bool
  | .non => true
  | .bl _ => true
  | .int _ => true
  | .str _ => true
  | _ => false
/-- == of flat values -/
def eqV : V → V → Bool
  | .non, .non => true
  | .bl a, .bl b => a == b
  | .bl a, .int b => (if a then 1 else 0) == b
  | .int a, .bl b => a == (if b then 1 else 0)
  | .int a, .int b => a == b
  | .str a, .str b => a == b
  | _, _ => false
theorem eqAt_V {A : Around} {s : Shared} {y x : V} {u v : Value} (ry : RelV y u) (rx : RelV x v) (fy : flatV y = true) (fx : flatV x = true) : SeqAt.EqAt A s u v (eqV y x) := by
  cases y with
  | non =>
    cases ry
    cases x with
    | non => cases rx; exact SeqAt.EqAt.same _
    | bl b => cases rx; exact SeqAt.EqAt.none_bool b
    | int b => obtain ⟨t, rfl⟩ := rx; exact SeqAt.EqAt.none_int b t
    | str b => obtain ⟨t, rfl⟩ := rx; exact SeqAt.EqAt.none_str b t
    | _ => exact absurd (show false = true from fx) Bool.false_ne_true
  | bl a =>
    cases ry
    cases x with
    | non => cases rx; exact SeqAt.EqAt.bool_none a
    | bl b => cases rx; exact SeqAt.EqAt.bool_bool a b
    | int b => obtain ⟨t, rfl⟩ := rx; exact SeqAt.EqAt.bool_int a b t
    | str b => obtain ⟨t, rfl⟩ := rx; exact SeqAt.EqAt.bool_str a b t
    | _ => exact absurd (show false = true from fx) Bool.false_ne_true
  | int a =>
    obtain ⟨t', rfl⟩ := ry
    cases x with
    | non => cases rx; exact SeqAt.EqAt.int_none a t'
    | bl b => cases rx; exact SeqAt.EqAt.int_bool a t' b
    | int b => obtain ⟨t, rfl⟩ := rx; exact SeqAt.EqAt.int_int a t' b t
    | str b => obtain ⟨t, rfl⟩ := rx; exact SeqAt.EqAt.int_str a t' b t
    | _ => exact absurd (show false = true from fx) Bool.false_ne_true
  | str a =>
    obtain ⟨t', rfl⟩ := ry
    cases x with
    | non => cases rx; exact SeqAt.EqAt.str_none a t'
    | bl b => cases rx; exact SeqAt.EqAt.str_bool a t' b
    | int b => obtain ⟨t, rfl⟩ := rx; exact SeqAt.EqAt.str_int a t' b t
    | str b => obtain ⟨t, rfl⟩ := rx; exact SeqAt.EqAt.str_str a t' b t
    | _ => exact absurd (show false = true from fx) Bool.false_ne_true
  | _ => exact absurd (show false = true from fy) Bool.false_ne_true
/-- the items' answers, read off the values (a value's own answer does not lean on its token) -/
def eqU (x : V) (u : Value) : Bool := match u with
  | .none => eqV .non x
  | .bool b => eqV (.bl b) x
  | .int i _ => eqV (.int i) x
  | .str z _ => eqV (.str z) x
  | _ => false
theorem eqU_of {x y : V} {u : Value} (r : RelV y u) (f : flatV y = true) : eqU x u = eqV y x := by
  cases y with
  | non => cases r; rfl
  | bl b => cases r; rfl
  | int i => obtain ⟨t, rfl⟩ := r; rfl
  | str z => obtain ⟨t, rfl⟩ := r; rfl
  | _ => exact absurd (show false = true from f) Bool.false_ne_true
theorem any_eqU {x : V} : ∀ {xs : List V} {us : List Value}, Vals xs us → xs.all flatV = true → us.any (eqU x) = xs.any fun y => eqV y x
  | _, _, .nil, _ => rfl
  | y :: xs, u :: us, .cons r t, f => by
    rw [List.all_cons, Bool.and_eq_true] at f
    rw [List.any_cons, List.any_cons, eqU_of r f.1, any_eqU t f.2]
theorem mem_eqAt {A : Around} {s : Shared} {x : V} {v : Value} (rx : RelV x v) (fx : flatV x = true) : ∀ {xs : List V} {us : List Value}, Vals xs us → xs.all flatV = true → ∀ u ∈ us, SeqAt.EqAt A s u v (eqU x u)
  | _, _, .nil, _ => fun u hu => by cases hu
  | y :: xs, u :: us, .cons r t, f => fun u' hu => by
    rw [List.all_cons, Bool.and_eq_true] at f
    rcases List.mem_cons.mp hu with rfl | hu
    · rw [eqU_of r f.1]; exact eqAt_V r rx f.1 fx
    · exact mem_eqAt rx fx t f.2 u' hu
def inV (x : V) (xs : List V) : Bool := xs.any fun y => eqV y x
/-- x in a list or tuple of flat items -/
def rIn (K : PySem.W.Frag) (neg : Bool) : R2 := fun x y H Q => ∃ p xs, y = .ref p ∧ (SqL K H p xs ∨ SqT K H p xs) ∧ flatV x = true ∧ xs.all flatV = true ∧ Q (.bl (if neg then !inV x xs else inV x xs)) H
theorem op_notIn_seq : OpR X (compareOp .NotIn) (rIn X.K true) := by
  intro pins s σ H x y v u Q I rx ry h
  obtain ⟨p, xs, rfl, hq, fx, fs, q⟩ := h
  cases ry
  rcases hq with hq | hq
  · obtain ⟨its, r, pl, hz⟩ := I.list hq
    refine SeqAt.notIn_listAt (eqU x) pl.isList (fun w hw => mem_eqAt rx fx r fs w (by simpa using hw)) ⟨.bl _, H, I, rfl, ?_⟩
    rw [show its.toArray.any (eqU x) = its.any (eqU x) by simp, any_eqU r fs]
    exact q
  · obtain ⟨its, r, pl, hz⟩ := I.tuple hq
    refine SeqAt.notIn_tupleAt (eqU x) pl (fun w hw => mem_eqAt rx fx r fs w (by simpa using hw)) ⟨.bl _, H, I, rfl, ?_⟩
    rw [show its.toArray.any (eqU x) = its.any (eqU x) by simp, any_eqU r fs]
    exact q
theorem op_notIn_str : OpR X (compareOp .NotIn) (fun x y H Q => ∃ i j, x = .str i ∧ y = .str j ∧ Q (.bl (!(!(Builtin.Str.occurrences j i 0 j.length 1).isEmpty))) H) := by
  intro pins s σ H x y v u Q I rx ry h
  obtain ⟨i, j, rfl, rfl, q⟩ := h
  obtain ⟨t, rfl⟩ := rx
  obtain ⟨t', rfl⟩ := ry
  exact notIn_str ⟨.bl _, H, I, rfl, q⟩

/-! ### len, list(x), tuple(x) of any list or tuple that is read -/
theorem call_len_seq : CallR X (.builtin "len") (fun xs H Q => ∃ p ys, xs = [.ref p] ∧ (SqL X.K H p ys ∨ SqT X.K H p ys) ∧ Q (.int ys.length) H) := by
  intro pins s σ H xs us Q I r h
  obtain ⟨p, ys, rfl, hq, q⟩ := h
  obtain ⟨u, rfl, rx⟩ := vals1 r
  cases rx
  have hn := line63
  rcases hq with hq | hq
  · obtain ⟨its, r', pl, hz⟩ := I.list hq
    have hlen := r'.length
    exact Calls.call_len_list pl.isList (by simp only [List.size_toArray] <;> omega) ⟨.int ys.length, H, I.tok _, ⟨s.toks + 1, by rw [List.size_toArray, hlen]⟩, q⟩
  · obtain ⟨its, r', pl, hz⟩ := I.tuple hq
    have hlen := r'.length
    exact len_tuple pl (by simp only [List.size_toArray] <;> omega) ⟨.int ys.length, H, I.tok _, ⟨s.toks + 1, by rw [List.size_toArray, hlen]⟩, q⟩
theorem call_len_str : CallR X (.builtin "len") (fun xs H Q => ∃ z, xs = [.str z] ∧ z.length ≤ sizeLine ∧ Q (.int z.length) H) := by
  intro pins s σ H xs us Q I r h
  obtain ⟨z, rfl, hz, q⟩ := h
  obtain ⟨u, rfl, t, rfl⟩ := vals1 r
  have hn := line63
  exact len_str (by omega) ⟨.int z.length, H, I.tok _, ⟨_, rfl⟩, q⟩
theorem CallR.or {f : Value} {r r' : List V → Hp → VK → Prop} (h : CallR X f r) (h' : CallR X f r') : CallR X f (fun xs H Q => r xs H Q ∨ r' xs H Q) := by
  intro pins s σ H xs us Q I rs q
  rcases q with q | q
  · exact h pins s σ H xs us Q I rs q
  · exact h' pins s σ H xs us Q I rs q
theorem call_list_of : CallR X (.type "list") (fun xs H Q => ∃ p ys, xs = [.ref p] ∧ (SqL X.K H p ys ∨ SqT X.K H p ys) ∧ ∀ l, H l = none → Q (.ref l) (upd H l (.lst ys))) := by
  intro pins s σ H xs us Q I r h
  obtain ⟨p, ys, rfl, hq, q⟩ := h
  obtain ⟨u, rfl, rx⟩ := vals1 r
  cases rx
  have fin : ∀ (its : List Value), Vals ys its → ys.length ≤ sizeLine → ∀ (h' : Heap) (c' : Nat), (∀ b o', s.heap.get? b = some o' → h'.get? b = some o') →
      h'.get? s.heap.objs.size = some { cls := .type "list", dict := none, data := .seq its.toArray c', slots := #[] } → EP X pins σ Q (.ref s.heap.objs.size) { s with heap := h' } := fun its r' hz h' c' kp e =>
    ⟨.ref s.heap.objs.size, _, I.laid (t' := s.toks) kp (Nat.le_refl _) (show ObjOk X.prog X.w _ h' _ (.lst ys) from ⟨hz, its, c', r', e⟩), rfl, q _ (I.hok.fresh (Nat.le_refl _))⟩
  rcases hq with hq | hq
  · obtain ⟨its, r', pl, hz⟩ := I.list hq
    have hlen := r'.length
    obtain ⟨o, ho, hc, n, hd⟩ := pl.isList
    exact call_list_seq p (.inl rfl) ho hc hd (fun h' c' kp e => fin its r' hz h' c' kp e) (by simp only [List.size_toArray] <;> omega)
  · obtain ⟨its, r', pl, hz⟩ := I.tuple hq
    have hlen := r'.length
    obtain ⟨o, ho, hc, n, hd⟩ := pl
    exact call_list_seq p (.inr rfl) ho hc hd (fun h' c' kp e => fin its r' hz h' c' kp e) (by simp only [List.size_toArray] <;> omega)
/-! ### the call of a builtin's method: o.m(..) -/
/-- the value is of that builtin type -/
def tyV (K : PySem.W.Frag) (T : String) (x : V) (H : Hp) : Prop := match x with
  | .str _ => T = "str"
  | .int _ => T = "int"
  | .ref p => (T = "list" ∧ ∃ xs, SqL K H p xs) ∨ (T = "tuple" ∧ ∃ o, K.lookup p = some o ∧ o.cls = .type "tuple" ∧ o.dict = none) ∨
      (T = "dict" ∧ ((∃ kvs, H p = some (.dK kvs)) ∨ ∃ kvs, H p = some (.dT kvs))) ∨ (T = "set" ∧ ∃ S n, H p = some (.set S n))
  | _ => False
theorem tyV_is {pins : List (Addr × Obj)} {σ : St} {H : Hp} {s : Shared} {T : String} {x : V} {v : Value} (I : Inv X pins σ H s) (r : RelV x v) (ty : tyV X.K T x H) :
    s.TypeIs v T ∧ ∀ a, v = .ref a → ∃ ob, s.heap.get? a = some ob ∧ ob.dict = none := by
  cases x with
  | str z =>
    obtain ⟨t, rfl⟩ := r
    cases (show T = "str" from ty)
    exact ⟨typeIs_str s z t, fun _ e => nomatch e⟩
  | int i =>
    obtain ⟨t, rfl⟩ := r
    cases (show T = "int" from ty)
    exact ⟨typeIs_int s i t, fun _ e => nomatch e⟩
  | ref p =>
    cases r
    rcases ty with ⟨rfl, xs, hq⟩ | ⟨rfl, o, hk, hc, hd⟩ | ⟨rfl, hk⟩ | ⟨rfl, S, n, hk⟩
    · obtain ⟨its, _, pl, _⟩ := I.list hq
      refine ⟨pl.isList.typeIs, fun a e => ?_⟩
      cases e
      obtain ⟨o, n, e, c, hd, _⟩ := pl
      exact ⟨o, e, hd⟩
    · refine ⟨⟨o, I.kIn p o hk, hc⟩, fun a e => ?_⟩
      cases e
      exact ⟨o, I.kIn _ o hk, hd⟩
    · have z : ∃ o, s.heap.get? p = some o ∧ o.ExactDict := by
        rcases hk with ⟨kvs, hk⟩ | ⟨kvs, hk⟩
        · obtain ⟨_, _, _, _, o, _, _, e, ex, _⟩ := I.hok p _ hk
          exact ⟨o, e, ex⟩
        · obtain ⟨_, _, _, _, o, _, _, e, ex, _⟩ := I.hok p _ hk
          exact ⟨o, e, ex⟩
      obtain ⟨o, e, ex⟩ := z
      refine ⟨⟨o, e, ex.1⟩, fun a e2 => ?_⟩
      cases e2
      exact ⟨o, e, ex.2.1⟩
    · obtain ⟨o, _, _, _, e, ex, _⟩ := I.hok p _ hk
      refine ⟨⟨o, e, ex.1⟩, fun a e2 => ?_⟩
      cases e2
      exact ⟨o, e, ex.2.1⟩
  | _ => exact False.elim ty
def tBM (K : PySem.W.Frag) (T : String) (r : V → List V → Hp → VK → Prop) (to : TE) (t : TA) : TE := fun σ H Q => to σ H fun x H1 => tyV K T x H1 ∧ t σ H1 fun xs H2 => r x xs H2 Q
variable {o e : Expr} {es : List Expr} {to : TE} {t : TA} {name : Str} {apos cpos : Pos} {T id : String} {r : V → List V → Hp → VK → Prop}
theorem pe_bm (pa : PlainAttrs T) (slot : Slot T name id) (hty : typeOf (.builtin id) = pure (.type "method_descriptor")) (hm : MtR X id r) (ho : PE X o to) (ha : PA X (e :: es) t)
    (hbase : attributeBase o name X.env (eval o X.env) = eval o X.env := by rfl)
    (hfew : ((backTo cpos (starEach (e :: es) X.env)).all (fun x => !x.1) && (backToKw cpos (keywordEach [] X.env)).all (fun x => x.1.isSome)
      && decide ((e :: es).length + ([] : List Keyword).length + (if ([] : List Keyword).isEmpty then 0 else 1) < 30)) = true := by rfl)
    (hline : (apos.endLine == cpos.line) = true := by rfl) (hs : starEach (e :: es) X.env = (false, eval e X.env) :: starEach es X.env := by rfl) (hplain : (backTo cpos (starEach es X.env)).any (·.1) = false := by rfl) :
    PE X (.Call (.Attribute o name apos) (e :: es) [] cpos) (tBM X.K T r to t) := by
  intro pins s σ H Q I h
  refine wpAny_Call_method_late hbase hfew hline rfl (thn (ho pins s σ H _ I h) fun v s1 ⟨x, H1, I1, r1, ty, q1⟩ => ?_)
  obtain ⟨h1, h2⟩ := tyV_is I1 r1 ty
  refine ⟨T, id, pa, slot, hty, h1, h2, ?_⟩
  have hA := ha cpos pins s1 σ H1 _ I1 q1
  rw [hs] at hA ⊢
  refine Calls.callWith_builtin (by show (false || (backTo cpos (starEach es X.env)).any (·.1)) = false; rw [hplain] <;> rfl) (Calls.evalArgs_plain ?_)
  exact thn hA fun us s2 ⟨vs, H2, I2, r2, q2⟩ => hm pins s2 σ H2 x vs v us Q I2 r1 r2 q2
/- xs.append(e), list.index on a module's tuple .. are MtR facts of 06m -/
end
end L2

namespace L2
open PySem PySem.Spec PyProof.Rows

def MtM (X : Cx) (id : String) (r : V → List V → Hp → VK → Prop) : Prop :=
  ∀ (pins : List (Addr × Obj)) (s : Shared) (σ : St) (H : Hp) (x : V) (xs : List V) (v : Value) (us : List Value) (Q : VK), Inv X pins σ H s → RelV x v → Vals xs us → r x xs H Q →
    wpAny (model X.prog X.w) X.A (call (.builtin id) (v :: us)) (EP X pins σ Q) X.xe s

/-! ### lists of values -/
theorem Vals.one : ∀ {x : V} {us : List Value}, Vals [x] us → ∃ u, us = [u] ∧ RelV x u
  | _, _, .cons r .nil => ⟨_, rfl, r⟩
theorem Vals.zero : ∀ {us : List Value}, Vals [] us → us = []
  | _, .nil => rfl
theorem Vals.eraseIdx : ∀ {xs : List V} {us : List Value} (i : Nat), Vals xs us → Vals (xs.eraseIdx i) (us.eraseIdx i)
  | _, _, _, .nil => .nil
  | _, _, 0, .cons _ t => t
  | _, _, i + 1, .cons r t => .cons r (Vals.eraseIdx i t)
theorem Vals.reverse {xs : List V} {us : List Value} (h : Vals xs us) : Vals xs.reverse us.reverse := by
  induction h with
  | nil => exact .nil
  | cons r t ih => rw [List.reverse_cons, List.reverse_cons]; exact Vals.append ih (.cons r .nil)
section
variable {X : Cx} {pins : List (Addr × Obj)} {σ : St} {H : Hp} {s : Shared} {l b : Addr} {xs ys zs : List V}

/-! ### the two steps: a tracked list is rewritten, a new list is laid -/
theorem Inv.lset {its its' : List Value} {n : Nat} {f : Array Value → Array Value} {t' : Nat} (I : Inv X pins σ H s) (hH : H l = some (.lst xs))
    (e : s.heap.get? l = some { cls := .type "list", data := .seq its.toArray n }) (hf : f its.toArray = its'.toArray) (hv : Vals ys its') (hz : ys.length ≤ sizeLine) :
    Inv X pins σ (upd H l (.lst ys)) { s with heap := s.heap.update l (Obj.mapSeq f), toks := t' } := by
  have q := PySem.IsL.update e f
  rw [hf] at q
  refine I.write (x := l) (e := l) (by rw [hH]; exact trivial) (.inl rfl) (fun b' u hb hu => (Heap.get?_update_other s.heap (Obj.mapSeq f) (Ne.symm hb)).trans hu) ⟨_, q⟩ ?_
  exact ⟨hz, its', _, hv, q⟩
theorem Inv.lnew {its : List Value} {t' : Nat} (I : Inv X pins σ H s) (hv : Vals ys its) (hz : ys.length ≤ sizeLine) :
    Inv X pins σ (upd H s.heap.objs.size (.lst ys)) { s with heap := s.heap.push { cls := .type "list", data := .seq its.toArray }, toks := t' } :=
  I.laid (fun _ _ q => Heap.get?_push_of_some _ q) (Nat.le_refl _) ⟨hz, its, 0, hv, Heap.get?_push_size _ rfl⟩
theorem Inv.fresh (I : Inv X pins σ H s) : H s.heap.objs.size = none := I.hok.fresh (Nat.le_refl _)
theorem Inv.lstM (I : Inv X pins σ H s) (hH : H l = some (.lst xs)) : xs.length ≤ sizeLine ∧ ∃ (its : List Value) (n : Nat), Vals xs its ∧ xs.length = its.length ∧ s.heap.get? l = some { cls := .type "list", data := .seq its.toArray n } := by
  obtain ⟨z, its, n, r, e⟩ := I.hok l _ hH
  exact ⟨z, its, n, r, r.length, e⟩

end

section
variable {X : Cx}

/-! ### methods -/
def rAppend : V → List V → Hp → VK → Prop := fun x vs H Q => ∃ l xs y, x = .ref l ∧ vs = [y] ∧ H l = some (.lst xs) ∧ xs.length < sizeLine ∧ Q .non (upd H l (.lst (xs ++ [y])))
theorem mt_append : MtM X "list.append" rAppend := by
  intro pins s σ H x vs v us Q I rx rv h
  obtain ⟨l, xs, y, rfl, rfl, hH, hz, q⟩ := h
  cases rx
  obtain ⟨u, rfl, ru⟩ := rv.one
  obtain ⟨z, its, n, r, hl, e⟩ := I.lstM hH
  refine call_meets F.slot_list_append ⟨_, e, rfl⟩ F.entry_list_append (F.args_list_append_2 _ _) (PySem.list_append l its.toArray n u (by rw [List.size_toArray]; omega)) ⟨e, ?_⟩
  refine ⟨.non, _, I.lset (its' := its ++ [u]) hH e (by simp) (r.append (.cons ru .nil)) ?_, rfl, q⟩
  rw [List.length_append, List.length_singleton]
  omega

/-! ### list + list, list += list, list * int -/
def rCat : R2 := fun x y H Q => ∃ l b xs zs, x = .ref l ∧ y = .ref b ∧ H l = some (.lst xs) ∧ H b = some (.lst zs) ∧ xs.length + zs.length ≤ sizeLine ∧ ∀ p, H p = none → Q (.ref p) (upd H p (.lst (xs ++ zs)))
theorem op_cat : OpR X (binaryOp .Add) rCat := by
  intro pins s σ H x y v u Q I rx ry h
  obtain ⟨l, b, xs, zs, rfl, rfl, hH, hB, hz, q⟩ := h
  cases rx
  cases ry
  obtain ⟨z, its, n, r, hl, e⟩ := I.lstM hH
  obtain ⟨z2, its2, n2, r2, hl2, e2⟩ := I.lstM hB
  refine PySem.P.add_list e e2 ?_ (by rw [List.size_toArray, List.size_toArray]; omega)
  have ea : its.toArray ++ its2.toArray = (its ++ its2).toArray := by simp
  rw [ea]
  exact ⟨.ref _, _, I.lnew (t' := s.toks) (r.append r2) (by rw [List.length_append]; omega), rfl, q _ I.fresh⟩
/-! ### del xs[i] -/
end

/-! ### xs[a:b] = ys -/
section
variable {prog : Program} {w : World} {A : Around} {E : Value → Shared → Prop} {s : Shared}
end

section
variable {X : Cx}
end
end L2

namespace Att
open PySem PySem.W PySem.Calls PyProof.Rows

/-! ### the script -/
theorem ints_of_wellAll {P : Params} {h : Heap} : ∀ (ns : List Int) (vs : List Value), WellAll P h vs (ns.map WData.int) → IntsAre vs ns := by
  intro ns
  induction ns with
  | nil =>
    intro vs w
    rw [List.map_nil] at w
    cases w
    exact .nil
  | cons n ns ih =>
    intro vs w
    rw [List.map_cons] at w
    cases w with
    | cons a b =>
      cases a
      exact .cons _ _ (ih _ b)

theorem script_of {l : OpenLaw} {n : Nat} (hn : l.most = some n) {P : Params} {h : Heap} {args : List WData} {vals : List Value}
    (hpre : l.row.toRowW.claim.pre args = true) (hwl : WellAll P h vals args) :
    ∃ a vs ns, vals = [Value.ref a] ∧ args = [WData.list (ns.map WData.int)] ∧ h.get? a = some { cls := .type "list", data := .seq vs.toArray } ∧ IntsAre vs ns ∧ ns.length ≤ n := by
  have hsh : WShape.hasAll [] args [.list .int] = true := (pre_splitW hpre).1
  have hc : l.pre.holds [] { args := args } = true := (pre_splitW hpre).2
  obtain ⟨d, r, rfl, h1, h2⟩ := hasAllW_cons hsh
  obtain rfl := hasAllW_nil h2
  obtain ⟨xs, rfl, h3⟩ := hasW_list h1
  obtain ⟨ns, rfl⟩ := items_int h3
  have hlen : ns.length ≤ n := by
    unfold OpenLaw.pre at hc
    have h4 : (WTm.not (.lt (.lit (.int (n : Int))) (.len (.arg 0)))).holds [] { args := [.list (ns.map .int)] } = true := by
      have h4 := (holds_andW hc).1
      rw [hn] at h4
      exact h4
    have h5 := condW_of h4 (w_not (w_lt w_lit (w_len_list (w_arg rfl))))
    rw [List.length_map] at h5
    refine Nat.le_of_not_lt fun q => ?_
    have q' : (n : Int) < ((ns.length : Nat) : Int) := by omega
    first
      | (rw [decide_eq_true q'] at h5; exact absurd h5 (by decide))
      | (simp at h5; omega)
  cases hwl with
  | cons w1 w2 =>
    cases w2
    cases w1 with
    | list ho hall => exact ⟨_, _, ns, rfl, rfl, ho, ints_of_wellAll ns _ hall, hlen⟩

theorem post_true (l : OpenLaw) (args : List WData) : l.row.toRowW.claim.post args (.bool true) args = true :=
  postW_of (r := l.row.toRowW) (X := (true == true))
    (show WShape.has [] (.bool true) .bool = true by first | rfl | decide | simp [WShape.has, WShape.arms, WShape.armsAll])
    (show (WTm.eq .res (.lit (.bool true))).value [] { args := args, res := some (.bool true), after := args } = some (.bool (true == true)) from w_eq_bool (w_res rfl) w_lit) rfl

/-! ### the attachment: holds_open's last premise (the goal 'hc' behind k_head) from a wpAny of the law's body -/
/-- the same from a codeAny of the CALL (for a layer whose function contracts speak of calls) -/
theorem attach_call {l : OpenLaw} {n : Nat} {q : Program} {loose : List Str} {XP : (Str → Option Value) → Heap → Prop} {YP : World → Heap → Prop} {d : DefRec}
    (hn : l.most = some n) (hdf : d.params.defaults = [])
    (call : ∀ (w : World) (s₀ s₁ : Shared) (mg mb : Str → Option Value) (fa : Addr) (o : Obj) (pm cd doc : Value) (a : Addr) (vs : List Value) (ns : List Int),
      Ground q loose [] XP w s₀ mg mb s₁.heap → YP w s₁.heap →
      s₁.heap.get? fa = some o → o.data = .func (docDef d.name d.params d.body d.scope pm cd doc) → s₁.heap.CodeRec cd d.name → mg d.name = some (.ref fa) →
      s₁.heap.get? a = some { cls := .type "list", data := .seq vs.toArray } → IntsAre vs ns → ns.length ≤ n → s₁.gens = #[] →
      codeAny (model l.prog w) callerA (.call (.ref fa) ⟨[.ref a], []⟩) (fun r s' => r = .ok (.ret (.bool true)) ∧ OldK s₁.heap s'.heap ∧ s'.os = s₁.os ∧ AllBare s'.gens) s₁) :
    WalkO q loose XP YP l.row.toRowW d [] (fun f vs => PySem.call f vs) := by
  intro w s₀ s₁ mg mb G Y fa o pm cd doc dV kV ho hd hcd hD hmg hg args vals as hpre hlay hrd hwl hlo
  obtain rfl : dV = .none := Dflts.none hD hdf
  obtain rfl : kV = .none := Dflts.noKw hD
  obtain ⟨a, vs, ns, rfl, rfl, hobj, hints, hlen⟩ := script_of hn hpre hwl
  refine enter_call (codeAny_mono (call w s₀ s₁ mg mb fa o pm cd doc a vs ns G Y ho (fd_plain hd) hcd hmg hobj hints hlen hg) fun r s' hq => ?_)
  obtain ⟨rfl, h2, h3, h4⟩ := hq
  exact ⟨.inl ⟨.bool true, .bool true, [], rfl, fun _ => rfl, .bool true, post_true l _, fun _ => ⟨List.Pairwise.nil, fun _ hm => (nomatch hm)⟩⟩, h2, h3, h4⟩

/-! ### rules over ANY heap (no ledger) from facts about the written part K: the library's own take a ledger (News) for what they write -/
section
variable {prog : Program} {w : World} {A : Around} {E : Value → Shared → Prop} {s : Shared} {K : Frag}

/-! the whole heap as the ledger: makes every rule that writes through a ledger a rule over any heap -/
end
end Att

namespace L2
open PySem PySem.Spec PyProof.Rows

theorem vals_ints : ∀ {vs : List Value} {ns : List Int}, IntsAre vs ns → Vals (ns.map V.int) vs
  | _, _, .nil => .nil
  | _, _, .cons n t h => .cons ⟨t, rfl⟩ (vals_ints h)

/-- nothing is tracked but the script, known to the object (or it is an object of the module) -/
def Only (H : Hp) : Prop := ∀ b, H b = none ∨ ∃ o xs, H b = some (.frz o (.lst xs))

/-- THE HEAD: the law's promise, at the heap behind the top. F, the promise of the law's def, may use that base is part of the heap (so K.In base, base.Ns mainGlobals mg stand in Mod) -/
theorem law_call {P : Program} {w : World} {K : PySem.W.Frag} {mg mb : Str → Option Value} {CX : CXT} {k : Nat} {fa a : Addr} {fd : FuncData} {x : Str} {sp : Sp} {s₁ : Shared} {vs : List Value} {ns : List Int}
    (KX : K.In s₁.heap) (hns : s₁.heap.Ns mainGlobals mg) (hb : s₁.heap.Ns builtinsNs mb) (hbb : ∀ x : Str, x ≠ "__name__" → mb x = bootBuiltins x) (hlim : s₁.heap.NoLimit) (hg : s₁.gens = #[])
    (ha : s₁.heap.get? a = some { cls := .type "list", data := .seq vs.toArray }) (hi : IntsAre vs ns) (hl : ns.length ≤ sizeLine) (hr : Room k callerA)
    (F : ∀ base : Heap, K.In base → base.Ns mainGlobals mg → FnOk P w K mg base CX k fa fd [x] sp) (hbind : ∀ (s : Shared) (u : Value), BindsTo s fd ⟨[u], []⟩ [(x, u)])
    (hsp : ∀ H : Hp, Only H → SqL K H a (ns.map V.int) → sp [.ref a] H (fun v _ => v = .bl true) fun _ _ _ => False)
    (hCX : ∀ H e s', CX [] H s₁ (fun _ _ _ => False) e s' → False) :
    codeAny (model P w) callerA (.call (.ref fa) ⟨[.ref a], []⟩) (fun r s' => r = .ok (.ret (.bool true)) ∧ OldK s₁.heap s'.heap ∧ s'.os = s₁.os ∧ AllBare s'.gens) s₁ := by
  have rv := vals_ints hi
  have lenV := hi.length
  -- from an abstract heap in which nothing but the script may be tracked
  have core : ∀ H : Hp, Only H → SqL K H a (ns.map V.int) → HOk P w H s₁.heap → (∀ b, H b ≠ none → b = a) → (H a ≠ none → K.lookup a = none) →
      codeAny (model P w) callerA (.call (.ref fa) ⟨[.ref a], []⟩) (fun r s' => r = .ok (.ret (.bool true)) ∧ OldK s₁.heap s'.heap ∧ s'.os = s₁.os ∧ AllBare s'.gens) s₁ := by
    intro H hO hS hok hA hK
    have base_of : ∀ {b : Addr} {o : Obj}, s₁.heap.get? b = some o → H b = none → (hidT s₁.heap H).get? b = some o := fun e n => hidT_get e n
    have noA : ∀ {b : Addr} {o : Obj} {es : Array DictEntry} {ep : Nat}, s₁.heap.get? b = some o → o.data = .dict es ep → H b = none := fun {b o es ep} e d => by
      cases q : H b with
      | none => rfl
      | some u =>
        have e' : b = a := hA b (by rw [q]; simp)
        subst e'
        rw [ha] at e; cases e
        have d' : Data.seq vs.toArray _ = Data.dict es ep := d
        cases d'
    have nsK : ∀ {b : Addr} {m : Str → Option Value}, s₁.heap.Ns b m → (hidT s₁.heap H).Ns b m := fun {b m} ⟨o, es, ep, e, d, r⟩ => ⟨o, es, ep, base_of e (noA e d), d, r⟩
    have hKb : K.In (hidT s₁.heap H) := fun b o e => base_of (KX b o e) (by
      cases q : H b with
      | none => rfl
      | some u =>
        have e' : b = a := hA b (by rw [q]; simp)
        subst e'
        rw [hK (by rw [q]; simp)] at e; cases e)
    have hM : Mod K mg (hidT s₁.heap H) := ⟨hKb, nsK hns, ⟨mb, nsK hb, hbb⟩, let ⟨mc, h1, h2⟩ := hlim; ⟨mc, nsK h1, h2⟩⟩
    have e0 : Env0 P w K mg (hidT s₁.heap H) callerA [] s₁ H := ⟨rfl, hM, fun b o e => of_hidT e, Nat.le_of_eq (hidT_size _ _), trivial, fun b hb => absurd (show b ∈ ([] : List Addr) from hb) (by simp), hok, .of_eq hg⟩
    refine codeAny_mono ((F _ hKb (nsK hns)).run callerA [] s₁ H ⟨[.ref a], []⟩ [.ref a] [.ref a] _ _ hr e0 (hbind s₁ (.ref a)) (.cons rfl .nil) (hsp H hO hS)) fun r s' h => ?_
    cases r with
    | error e => exact (hCX H e s' h).elim
    | ok fl =>
      cases fl with
      | next => exact False.elim h
      | brk => exact False.elim h
      | cont => exact False.elim h
      | ret u =>
        obtain ⟨v, H', os, bare, un, hok', r', q⟩ := h
        have q' : v = .bl true := q
        subst q'
        obtain rfl : u = Value.bool true := r'
        refine ⟨rfl, OldK.of_keep fun b o e => ?_, os, bare⟩
        cases q : H b with
        | none => exact un.keep b o e q (by intro z; exact absurd (show b ∈ ([] : List Addr) from z) (by simp)) (by simp)
        | some u =>
          rcases hO b with z | ⟨ob, xs, z⟩
          · rw [q] at z; cases z
          · have z2 := un.frzs b ob _ z
            obtain ⟨e1, _⟩ := hok b _ z
            obtain ⟨e2, _⟩ := hok' b _ z2
            rw [e] at e1; cases e1
            exact e2
  cases hk : K.lookup a with
  | some o =>
    -- the script is one of the module's own objects
    have e := KX a o hk
    rw [ha] at e
    cases e
    refine core (fun _ => none) (fun _ => .inl rfl) (.inr ⟨_, vs.toArray, _, hk, rfl, rfl, rfl, by rw [List.size_toArray, lenV]; exact hl, by simpa using rv⟩) (fun b u z => by have z' : (none : Option HO) = some u := z; cases z') (fun b z => absurd rfl z) fun z => absurd rfl z
  | none =>
    refine core (fun b => if b = a then some (.frz { cls := .type "list", data := .seq vs.toArray } (.lst (ns.map V.int))) else none) (fun b => ?_) (.inl (.inr ⟨{ cls := .type "list", data := .seq vs.toArray }, if_pos rfl⟩)) (fun b u z => ?_) (fun b z => ?_) fun _ => hk
    · by_cases hb : b = a
      · exact .inr ⟨_, _, if_pos hb⟩
      · exact .inl (if_neg hb)
    · by_cases hb : b = a
      · have z' := (if_pos hb).symm.trans z
        cases z'
        subst hb
        exact ⟨ha, by rw [List.length_map]; exact hl, vs, _, rv, ha⟩
      · have z' := (if_neg hb).symm.trans z
        cases z'
    · by_cases hb : b = a
      · exact hb
      · exact absurd (if_neg hb) z
end L2

namespace L2
open PySem PySem.Spec PyProof.Rows

/-- the goal that k_head leaves (case hc), from the law's promise. F gives the function object fd (K's own) once, then the promise over every base -/
theorem walk_of {l : PySem.W.OpenLaw} {n k : Nat} {q : Program} {loose : List Str} {XP : (Str → Option Value) → Heap → Prop} {YP : World → Heap → Prop} {d : DefRec} {K : Params → PySem.W.Frag} {CX : World → CXT} {sp : World → Sp} {x : Str}
    (hn : l.most = some n) (hn2 : n ≤ sizeLine) (hdf : d.params.defaults = []) (hr : Room k callerA)
    (hY : ∀ (w : World) (h : Heap), YP w h → (K w.params).In h)
    (F : ∀ (w : World) (mg : Str → Option Value) (fa : Addr) (h : Heap), (K w.params).In h → h.Ns mainGlobals mg → mg d.name = some (.ref fa) →
      ∃ fd : FuncData, (∀ (s : Shared) (u : Value), BindsTo s fd ⟨[u], []⟩ [(x, u)]) ∧
        ∀ base : Heap, (K w.params).In base → base.Ns mainGlobals mg → FnOk l.prog w (K w.params) mg base (CX w) k fa fd [x] (sp w))
    (hsp : ∀ (w : World) (H : Hp) (a : Addr) (ns : List Int), ns.length ≤ n → Only H → SqL (K w.params) H a (ns.map V.int) → sp w [.ref a] H (fun v _ => v = .bl true) fun _ _ _ => False)
    (hCX : ∀ (w : World) (H : Hp) (s : Shared) (e : Value) (s' : Shared), CX w [] H s (fun _ _ _ => False) e s' → False) :
    PySem.W.WalkO q loose XP YP l.row.toRowW d [] (fun f vs => PySem.call f vs) := by
  refine Att.attach_call hn hdf fun w s₀ s₁ mg mb fa o pm cd doc a vs ns G Y ho hd hcd hmg hobj hints hlen hg => ?_
  have KX := hY w _ Y
  obtain ⟨fd, hb, hF⟩ := F w mg fa _ KX G.T.g hmg
  exact law_call KX G.T.g G.T.b G.T.builtins G.T.nolimit hg hobj hints (Nat.le_trans hlen hn2) hr hF hb (fun H hO hS => hsp w H a ns hlen hO hS) fun H e s' => hCX w H s₁ e s'
end L2

/- THE LAST THEOREM (shape; LID, My.* are yours):
   My.Adr: a structure of the addresses that your layer names (classes, functions); My.Txt K t: a structure (Prop) of the equations over K;
   My.txt_mk : {K} {implicit addresses ..} (e1 : nsIn K mainGlobals "law" = some (some (.ref f))) (e2 : K.lookup f = some ⟨oc, od, .func (fnOf "law" "law" params body scope dV kV doc pm an cdv ct), sl⟩) (e3 : codeIn K cdv "law" = true) .. : ∃ t, My.Txt K t

set_option maxRecDepth 100000 in
set_option maxHeartbeats 0 in
theorem PySem.Challenge.cw_LID_holds : PySem.Challenge.rw_LID.Holds := by
  w_on; o_law; k_head; (case hw => w_witness2)
  k_fill
  refine L2.walk_of (l := PySem.Challenge.rw_LID) (n := 63) (k := 40) (x := "script") (CX := fun w => ..) (sp := fun _ => My.sp_law) rfl (by decide) rfl ⟨rfl, by decide, by decide⟩ (fun w h Y => PySem.W.kIn_of Y) ?F ?S ?C
  case F =>
    intro w mg fa h KX G hmg
    have T : ∃ t, My.Txt (L2.KOf KX) t := by
      dsimp only [L2.KOf]                          -- K must stand as «<heap const> w.params» for k_is
      refine' My.txt_mk ?e1 ?e2 ?e3 ..
      (case e1 => PySem.W.k_is)                    -- in the order: a name -> its address -> its object -> its parts
      (case e2 => PySem.W.k_is)
      ..
    obtain ⟨t, T⟩ := T
    have e0 := hmg.symm.trans (PySem.W.mg_of KX G T.law)
    cases e0                                       -- fa is the law's own address
    exact ⟨_, fun s u => .of_eq rfl, fun base kb nb => My.law_fn T kb nb⟩     -- if «.of_eq rfl» comes too early: refine' ⟨_, ?b, fun base kb nb => My.law_fn T kb nb⟩; exact fun s u => .of_eq rfl
  case S => exact fun w H a ns hl hO hS => ..
  case C => exact ..
(the tactic k_is has no namespace: write k_is) -/

/-! SHORT WORDS over the layer: a def of the text, its body, what a loop and a test want. -/
namespace L2
open PySem PySem.Spec PyProof.Rows

/-! ### the text by places -/
/-- the j-th statement of a class's body -/
def inClass (s : Stmt) (j : Nat) : Stmt := match s with
  | .ClassDef _ _ _ body _ _ _ _ _ _ _ => body.getD j (.Pass ⟨0, 0, 0, 0⟩)
  | _ => .Pass ⟨0, 0, 0, 0⟩
def defArgs (s : Stmt) : Arguments := match s with
  | .FunctionDef _ a _ _ _ _ _ _ _ _ => a
  | _ => { posonlyargs := [], args := [], vararg := none, kwonlyargs := [], kw_defaults := [], kwarg := none, defaults := [] }
def defBody (s : Stmt) : List Stmt := match s with
  | .FunctionDef _ _ b _ _ _ _ _ _ _ => b
  | _ => []
def defScope (s : Stmt) : Scope := match s with
  | .FunctionDef _ _ _ _ _ _ sc _ _ _ => sc
  | _ => { kind := .function, names := [], isGenerator := false, isCoroutine := false }

/-! ### no exception leaves a def -/
abbrev CX0 : CXT := fun _ _ _ _ _ _ => False
abbrev E0 : XK := fun _ _ _ => False
theorem pass0 {X : Cx} : Passes CX0 X E0 := fun _ _ _ _ _ _ _ h => h.elim

/-! ### a def (or method) of the text as it stands behind the top -/
structure Fun (K : PySem.W.Frag) (x qual : Str) (st : Stmt) (f : Addr) (fd : FuncData) : Prop where
  ex : ∃ (oc : Value) (od : Option Addr) (kV doc pm : Value) (an : Option Addr) (cdv ct : Value) (osl : Array (Option Value)),
    fd = PySem.W.fnOf x qual (defArgs st) (defBody st) (defScope st) .none kV doc pm an cdv ct ∧ K.lookup f = some ⟨oc, od, .func fd, osl⟩ ∧ PySem.W.codeIn K cdv qual = true
  kp : PySem.W.keepIn K (.ref f) = true
section
variable {P : Program} {w : World} {K : PySem.W.Frag} {mg : Str → Option Value} {base : Heap}
/-- THE RULE for a def: its body as a term of rules, and the reading of that term -/
theorem Fun.ok {x qual : Str} {st : Stmt} {f : Addr} {fd : FuncData} {N ps : List Str} {k : Nat} {sp : Sp} (F : Fun K x qual st f fd) (S : FnScope N ps (defScope st)) (len : ∀ vs H Q E, sp vs H Q E → vs.length = ps.length)
    (hbody : ∀ (cdv : Value) (A : Around) (outer : List Env) (s : Shared) (H : Hp) (vs : List V) (Q : VK) (E : XK), Room k (A.deeper (envOfC qual (defScope st) s.heap.objs.size f cdv)) → sp vs H Q E →
      ∃ t, PSs (cxOf CX0 P w K mg base N qual (defScope st) f cdv A outer s H E).nox (defBody st) t ∧ t { nx := fun _ H' => Q .non H', rt := Q } (start N vs) H) : FnOk P w K mg base CX0 (k + 1) f fd ps sp := by
  obtain ⟨oc, od, kV, doc, pm, an, cdv, ct, osl, rfl, lk, hcd⟩ := F.ex
  refine fn_of lk hcd S len fun A outer s H vs Q E hr hsp => ?_
  obtain ⟨t, h, q⟩ := hbody cdv A outer s H vs Q E hr hsp
  exact ⟨t, h.nox, q⟩
/-- how its arguments bind (no defaults): h is «fun _ _ _ _ _ _ us hl => match us, hl with | [_, _], _ => rfl», one _ a parameter -/
theorem Fun.binds {x qual : Str} {st : Stmt} {f : Addr} {fd : FuncData} {ps : List Str} (F : Fun K x qual st f fd)
    (h : ∀ (kV doc pm : Value) (an : Option Addr) (cdv ct : Value) (us : List Value), us.length = ps.length → bindArgs (PySem.W.fnOf x qual (defArgs st) (defBody st) (defScope st) .none kV doc pm an cdv ct) ⟨us, []⟩ = pure (ps.zip us)) : Binds K fd ps [] := by
  obtain ⟨oc, od, kV, doc, pm, an, cdv, ct, osl, rfl, lk, hcd⟩ := F.ex
  exact .all (h kV doc pm an cdv ct)
theorem fun_mk {x qual : Str} {st : Stmt} {f : Addr} {oc : Value} {od an : Option Addr} {osl : Array (Option Value)} {kV doc pm cdv ct : Value} (l : K.lookup f = some ⟨oc, od, .func (PySem.W.fnOf x qual (defArgs st) (defBody st) (defScope st) .none kV doc pm an cdv ct), osl⟩)
    (c : PySem.W.codeIn K cdv qual = true) (k : PySem.W.keepIn K (.ref f) = true) : Fun K x qual st f (PySem.W.fnOf x qual (defArgs st) (defBody st) (defScope st) .none kV doc pm an cdv ct) := ⟨⟨oc, od, kV, doc, pm, an, cdv, ct, osl, rfl, l, c⟩, k⟩
end
/-! ### expressions in short: the name that stands in the i-th slot -/
section
variable {X : Cx}
theorem pv (i : Nat) {x : Str} {pos : Pos} (hN : X.N[i]? = some x := by rfl) (hv : Vis X.env.scope x := by first | exact Or.inl rfl | exact Or.inr (Or.inl rfl) | exact Or.inr (Or.inr rfl)) (hd : (x == ("__debug__" : Str)) = false := by decide)
    (hcd : (x == ("__classdict__" : Str)) = false := by decide) : PE X (.Name x pos) (tVar i) := pe_var hN hv hd hcd
end

/-! ### tests -/
theorem iteF {A B : Prop} (h : B) : if false = true then A else B := by
  rw [if_neg Bool.false_ne_true]
  exact h
theorem iteT {A B : Prop} (h : A) : if true = true then A else B := by
  rw [if_pos rfl]
  exact h
theorem ite2 {c A B : Prop} [Decidable c] (h1 : c → A) (h2 : ¬ c → B) : if c then A else B := by
  by_cases h : c
  · rw [if_pos h]
    exact h1 h
  · rw [if_neg h]
    exact h2 h
/-! ### heaps -/
/-- all that was tracked is as it was -/
def Same (H H' : Hp) : Prop := ∀ b o, H b = some o → H' b = some o
theorem Same.refl (H : Hp) : Same H H := fun _ _ h => h
theorem Same.trans {H H1 H2 : Hp} (a : Same H H1) (b : Same H1 H2) : Same H H2 := fun c o h => b c o (a c o h)
theorem Same.free {H H' : Hp} (e : Same H H') {l : Addr} (h : H' l = Option.none) : H l = Option.none := by
  cases q : H l with
  | none => rfl
  | some o =>
    rw [e l o q] at h
    cases h
theorem Same.seq {K : PySem.W.Frag} {H H' : Hp} {a : Addr} {xs : List V} (e : Same H H') (h : SqL K H a xs) : SqL K H' a xs := by
  rcases h with (h | ⟨o, h⟩) | h
  · exact .inl (.inl (e _ _ h))
  · exact .inl (.inr ⟨o, e _ _ h⟩)
  · exact .inr h

end L2

set_option Elab.async false
set_option linter.all false
set_option maxRecDepth 100000
set_option maxHeartbeats 4000000
/-! What the tree of questions of a sort ends with, where no two are alike. -/
namespace GO
open PySem PySem.W PyProof.Rows
def Go {α : Type} (lt : Nat → Nat → Bool) (n : Nat) : KasT α → (α → Prop) → Prop
  | .ret a, Q => Q a
  | .ask i j k, Q => i < n ∧ j < n ∧ Go lt n (k (lt i j)) Q
section
variable {lt : Nat → Nat → Bool} {n : Nat}
theorem Go.bind {α β : Type} {f : α → KasT β} {Q : β → Prop} : ∀ {t : KasT α}, Go lt n t (fun a => Go lt n (f a) Q) → Go lt n (t.bind f) Q
  | .ret _, h => h
  | .ask _ _ _, ⟨h1, h2, h3⟩ => ⟨h1, h2, h3.bind⟩
theorem Go.wp {α : Type} {cmp : Nat → Nat → (Bool → Shared → Prop) → Shared → Prop} {s : Shared} {Q : α → Prop} {R : α → Shared → Prop} (hc : ∀ i j C, i < n → j < n → C (lt i j) s → cmp i j C s) (hR : ∀ a, Q a → R a s) :
    ∀ {t : KasT α}, Go lt n t Q → t.kasWp cmp R s
  | .ret _, h => hR _ h
  | .ask _ _ _, ⟨h1, h2, h3⟩ => hc _ _ _ h1 h2 (h3.wp hc hR)
structure Ord (lt : Nat → Nat → Bool) (n : Nat) : Prop where
  trans : ∀ i j k, i < n → j < n → k < n → lt i j = true → lt j k = true → lt i k = true
  tot : ∀ i j, i < n → j < n → i ≠ j → lt i j = false → lt j i = true
  asym : ∀ i j, i < n → j < n → lt i j = true → lt j i = false
structure Pm (n : Nat) (p : Array Nat) : Prop where
  size : p.size = n
  perm : p.toList.Perm (List.range n)
theorem Pm.bd {p : Array Nat} (h : Pm n p) {i : Nat} (hi : i < n) : p.getD i 0 < n := by
  have hs : i < p.size := by rw [h.size]; exact hi
  have e : p.getD i 0 = p[i] := by simp [Array.getD, hs]
  rw [e]
  have hm : p[i] ∈ p.toList := by rw [← Array.getElem_toList]; exact List.getElem_mem _
  exact List.mem_range.mp (h.perm.mem_iff.mp hm)
theorem Pm.ne {p : Array Nat} (h : Pm n p) {i j : Nat} (hi : i < n) (hj : j < n) (hne : i ≠ j) : p.getD i 0 ≠ p.getD j 0 := by
  have hs : i < p.size := by rw [h.size]; exact hi
  have ht : j < p.size := by rw [h.size]; exact hj
  have e : p.getD i 0 = p[i] := by simp [Array.getD, hs]
  have e' : p.getD j 0 = p[j] := by simp [Array.getD, ht]
  have nd : p.toList.Nodup := h.perm.nodup_iff.mpr List.nodup_range
  rw [e, e']
  intro q
  rw [← Array.getElem_toList, ← Array.getElem_toList] at q
  exact hne ((List.getElem_inj nd).mp q)
theorem Pm.start : Pm n (List.toArray (List.range n)) := ⟨by simp, by simp⟩
theorem Pm.of {p q : Array Nat} (h : Pm n p) (hq : q.Perm p) : Pm n q := ⟨by rw [hq.size_eq, h.size], (Array.perm_iff_toList_perm.mp hq).trans h.perm⟩
def Up (lt : Nat → Nat → Bool) (p : Array Nat) (k : Nat) : Prop := ∀ i j, i < j → j < k → lt (p.getD i 0) (p.getD j 0) = true
def Down (lt : Nat → Nat → Bool) (p : Array Nat) (k : Nat) : Prop := ∀ i j, i < j → j < k → lt (p.getD j 0) (p.getD i 0) = true
theorem getD_of {p q : Array Nat} {i j : Nat} (h : p[i]? = q[j]?) : p.getD i 0 = q.getD j 0 := by
  rw [Array.getD_eq_getD_getElem?, Array.getD_eq_getD_getElem?, h]
theorem asc_go {p : Array Nat} {Q : Nat → Prop} (O : Ord lt n) (hp : Pm n p) : ∀ (f m : Nat), 1 ≤ m → m + f ≤ n → Up lt p m →
    (∀ r, m ≤ r → r ≤ m + f → Up lt p r → (r < m + f → lt (p.getD r 0) (p.getD (r - 1) 0) = true) → Q r) → Go lt n (kas_asc p f m) Q
  | 0, m, _, _, hu, h => h m (Nat.le_refl _) (Nat.le_refl _) hu fun q => absurd q (by omega)
  | f + 1, m, h1, h2, hu, h => by
    refine ⟨hp.bd (by omega), hp.bd (by omega), ?_⟩
    cases c : lt (p.getD m 0) (p.getD (m - 1) 0) with
    | true => exact h m (Nat.le_refl _) (by omega) hu fun _ => c
    | false =>
      have c' := O.tot _ _ (hp.bd (by omega)) (hp.bd (by omega)) (hp.ne (i := m) (j := m - 1) (by omega) (by omega) (by omega)) c
      have hu' : Up lt p (m + 1) := fun i j hij hj => by
        by_cases hjm : j < m
        · exact hu i j hij hjm
        · have : j = m := by omega
          subst this
          by_cases hi : i = j - 1
          · rw [hi]; exact c'
          · exact O.trans _ _ _ (hp.bd (by omega)) (hp.bd (by omega)) (hp.bd (by omega)) (hu i (j - 1) (by omega) (by omega)) c'
      exact asc_go O hp f (m + 1) (by omega) (by omega) hu' fun r a b c d => h r (by omega) (by omega) c fun q => d (by omega)
theorem desc_go {p : Array Nat} {Q : Array Nat × Nat × Nat → Prop} (O : Ord lt n) (hp : Pm n p) : ∀ (f m : Nat), 1 ≤ m → m + f ≤ n → Down lt p m →
    (∀ r, m ≤ r → r ≤ m + f → Down lt p r → Q (p, r, 0)) → Go lt n (kas_desc f p m 0) Q
  | 0, m, _, _, hu, h => h m (Nat.le_refl _) (Nat.le_refl _) hu
  | f + 1, m, h1, h2, hu, h => by
    refine ⟨hp.bd (by omega), hp.bd (by omega), ?_⟩
    cases c : lt (p.getD m 0) (p.getD (m - 1) 0) with
    | true =>
      have hu' : Down lt p (m + 1) := fun i j hij hj => by
        by_cases hjm : j < m
        · exact hu i j hij hjm
        · have : j = m := by omega
          subst this
          by_cases hi : i = j - 1
          · rw [hi]; exact c
          · exact O.trans _ _ _ (hp.bd (by omega)) (hp.bd (by omega)) (hp.bd (by omega)) c (hu i (j - 1) (by omega) (by omega))
      exact desc_go O hp f (m + 1) (by omega) (by omega) hu' fun r a b c => h r (by omega) (by omega) c
    | false =>
      have c' := O.tot _ _ (hp.bd (by omega)) (hp.bd (by omega)) (hp.ne (i := m) (j := m - 1) (by omega) (by omega) (by omega)) c
      refine ⟨hp.bd (by omega), hp.bd (by omega), ?_⟩
      rw [c']
      exact h m (Nat.le_refl _) (by omega) hu
theorem tail3_go {p : Array Nat} {m : Nat} {Q : Nat × Array Nat → Prop} (O : Ord lt n) (hp : Pm n p) (h1 : 1 ≤ m) (hm : m ≤ n) (hd : Down lt p m) (h : ∀ r q, Pm n q → 1 ≤ r → r ≤ n → Up lt q r → Q (r, q)) : Go lt n (kas_tail3 m n p) Q := by
  have hq : Pm n (kas_rev p 0 m) := hp.of (mirror_perm _ _ _ _)
  have hu : Up lt (kas_rev p 0 m) m := fun i j hij hj => by
    have e : ∀ k, k < m → (kas_rev p 0 m).getD k 0 = p.getD (m - 1 - k) 0 := fun k hk => by
      refine getD_of ?_
      unfold kas_rev
      rw [getElem?_mirror_all (by rw [hp.size]; exact hm), if_pos ⟨by omega, hk⟩, Nat.zero_add]
    rw [e i (by omega), e j hj]
    exact hd _ _ (by omega) (by omega)
  exact Go.bind (asc_go O hq (n - m) m h1 (by omega) hu fun r a b c _ => h r _ hq (by omega) (by omega) c)
theorem count_go {p : Array Nat} {Q : Nat × Array Nat → Prop} (O : Ord lt n) (hp : Pm n p) (h2 : 2 ≤ n) (h : ∀ r q, Pm n q → 1 ≤ r → r ≤ n → Up lt q r → Q (r, q)) : Go lt n (kas_count n p) Q := by
  refine Go.bind (asc_go O hp (n - 1) 1 (Nat.le_refl _) (by omega) (fun i j a b => absurd b (by omega)) fun r a b hu hs => ?_)
  by_cases hr : r = n
  · subst hr
    rw [if_pos (by simp)]
    exact h r p hp (by omega) (Nat.le_refl _) hu
  · rw [if_neg (by simpa using hr)]
    by_cases h1 : r > 1
    · rw [if_pos h1]
      refine ⟨hp.bd (by omega), hp.bd (by omega), ?_⟩
      rw [hu 0 (r - 1) (by omega) (by omega)]
      exact h r p hp (by omega) (by omega) hu
    · rw [if_neg h1]
      have e1 : r = 1 := by omega
      subst e1
      have c := hs (by omega)
      have hd : Down lt p 2 := fun i j hij hj => by
        have e1 : j = 1 := by omega
        have e2 : i = 0 := by omega
        subst e1; subst e2
        exact c
      refine Go.bind (desc_go O hp (n - (1 + 1)) (1 + 1) (by omega) (by omega) hd fun m a b hd' => ?_)
      show Go lt n (if (0 : Nat) > 0 then _ else _) Q
      rw [if_neg (by omega)]
      exact tail3_go O hp (m := m) (by omega) (by omega) hd' h
theorem place_go {p : Array Nat} {k : Nat} {Q : Nat → Prop} (O : Ord lt n) (hp : Pm n p) (hk : k < n) : ∀ (f l r : Nat), l ≤ r → r ≤ k → r - l ≤ f → (∀ i, i < l → lt (p.getD i 0) (p.getD k 0) = true) → (∀ i, r ≤ i → i < k → lt (p.getD k 0) (p.getD i 0) = true) → Up lt p k →
    (∀ m, m ≤ k → (∀ i, i < m → lt (p.getD i 0) (p.getD k 0) = true) → (∀ i, m ≤ i → i < k → lt (p.getD k 0) (p.getD i 0) = true) → Q m) → Go lt n (kas_place p k f l r) Q
  | 0, l, r, h1, h2, h3, ha, hb, _, h => h l (by omega) ha fun i q => hb i (by omega)
  | f + 1, l, r, h1, h2, h3, ha, hb, hu, h => by
    show Go lt n (if l ≥ r then _ else _) Q
    by_cases hlr : l ≥ r
    · rw [if_pos hlr]; exact h l (by omega) ha fun i q => hb i (by omega)
    · rw [if_neg hlr]
      refine ⟨hp.bd hk, hp.bd (by omega), ?_⟩
      cases c : lt (p.getD k 0) (p.getD ((l + r) / 2) 0) with
      | true =>
        refine place_go O hp hk f l ((l + r) / 2) (by omega) (by omega) (by omega) ha (fun i hi hik => ?_) hu h
        by_cases e : i = (l + r) / 2
        · rw [e]; exact c
        · exact O.trans _ _ _ (hp.bd hk) (hp.bd (i := (l + r) / 2) (by omega)) (hp.bd (by omega)) c (hu _ _ (by omega) hik)
      | false =>
        have c' := O.tot _ _ (hp.bd hk) (hp.bd (by omega)) (hp.ne (i := k) (j := (l + r) / 2) hk (by omega) (by omega)) c
        refine place_go O hp hk f ((l + r) / 2 + 1) r (by omega) (by omega) (by omega) (fun i hi => ?_) hb hu h
        by_cases e : i = (l + r) / 2
        · rw [e]; exact c'
        · exact O.trans _ _ _ (hp.bd (by omega)) (hp.bd (i := (l + r) / 2) (by omega)) (hp.bd hk) (hu _ _ (by omega) (by omega)) c'
theorem bubble_up {p : Array Nat} {k m : Nat} (O : Ord lt n) (hp : Pm n p) (hk : k < n) (hm : m ≤ k) (hu : Up lt p k) (ha : ∀ i, i < m → lt (p.getD i 0) (p.getD k 0) = true) (hb : ∀ i, m ≤ i → i < k → lt (p.getD k 0) (p.getD i 0) = true) :
    Up lt (bubble p k (k - m)) (k + 1) := by
  have e : ∀ i, (bubble p k (k - m)).getD i 0 = if i = m then p.getD k 0 else if m < i ∧ i ≤ k then p.getD (i - 1) 0 else p.getD i 0 := fun i => by
    have q := getElem?_bubble (xs := p) (src := k) (by rw [hp.size]; exact hk) (k - m) (by omega) i
    rw [show k - (k - m) = m by omega] at q
    by_cases h1 : i = m
    · rw [if_pos h1] at q ⊢; exact getD_of q
    · rw [if_neg h1] at q ⊢
      by_cases h2 : m < i ∧ i ≤ k
      · rw [if_pos h2] at q ⊢; exact getD_of q
      · rw [if_neg h2] at q ⊢; exact getD_of q
  intro i j hij hj
  rw [e i, e j]
  by_cases h1 : i = m
  · rw [if_pos h1, if_neg (by omega), if_pos (by omega)]
    exact hb _ (by omega) (by omega)
  · rw [if_neg h1]
    by_cases h2 : m < i ∧ i ≤ k
    · rw [if_pos h2, if_neg (by omega), if_pos (by omega)]
      exact hu _ _ (by omega) (by omega)
    · rw [if_neg h2]
      by_cases h3 : j = m
      · rw [if_pos h3]; exact ha _ (by omega)
      · rw [if_neg h3]
        by_cases h4 : m < j ∧ j ≤ k
        · rw [if_pos h4]
          exact hu _ _ (by omega) (by omega)
        · rw [if_neg h4]
          exact hu _ _ hij (by omega)
theorem bin_go {Q : Array Nat → Prop} (O : Ord lt n) : ∀ (f k : Nat) (p : Array Nat), Pm n p → 1 ≤ k → k + f = n → Up lt p k → (∀ q, Pm n q → Up lt q n → Q q) → Go lt n (kas_bin f p k) Q
  | 0, k, p, hp, _, e, hu, h => h p hp (by rw [← e]; exact hu)
  | f + 1, k, p, hp, h1, e, hu, h => by
    have hk : k < n := by omega
    refine Go.bind (place_go O hp hk k 0 k (Nat.zero_le _) (Nat.le_refl _) (by omega) (fun i q => absurd q (by omega)) (fun i q r => absurd r (by omega)) hu fun m hm ha hb => ?_)
    exact bin_go O f (k + 1) _ (hp.of (bubble_perm _ _ _)) (by omega) (by omega) (bubble_up O hp hk hm hu ha hb) h
theorem sort_go {Q : Array Nat → Prop} (O : Ord lt n) (h2 : 2 ≤ n) (h : ∀ q, Pm n q → Up lt q n → Q q) : Go lt n (kas_sort n) Q := by
  refine Go.bind (count_go O Pm.start h2 fun r q hq h1 hr hu => ?_)
  dsimp only
  by_cases hlt : r < n
  · rw [if_pos hlt]
    rw [show max r 1 = r by omega]
    exact bin_go O (n - r) r q hq h1 (by omega) hu h
  · rw [if_neg hlt]
    have e : r = n := by omega
    subst e
    exact h q hq hu
end
end GO

set_option Elab.async false
set_option linter.all false
set_option maxRecDepth 100000
set_option maxHeartbeats 4000000
/-! The table of a set whose members are pairs of small ints: where a search ends. -/
namespace GS
open PySem

/-! ### a rising array, and the place below a number -/
def Inc (l : List Nat) : Prop := l.Pairwise (· < ·)
theorem inc_get {l : List Nat} (h : Inc l) {i j : Nat} {x y : Nat} (hi : l[i]? = some x) (hj : l[j]? = some y) (hij : i < j) : x < y := by
  obtain ⟨h1, e1⟩ := List.getElem?_eq_some_iff.mp hi
  obtain ⟨h2, e2⟩ := List.getElem?_eq_some_iff.mp hj
  have := List.pairwise_iff_getElem.mp h i j h1 h2 hij
  rw [e1, e2] at this
  exact this
theorem below_go {xs : Array Nat} {j : Nat} (h : Inc xs.toList) : ∀ (fuel lo hi : Nat), hi ≤ xs.size → lo ≤ hi → hi - lo ≤ fuel → (∀ i x, i < lo → xs.toList[i]? = some x → x < j) → (∀ i x, hi ≤ i → xs.toList[i]? = some x → j ≤ x) →
    ∃ k, SetTable.below.go xs j fuel lo hi = k ∧ k ≤ xs.size ∧ (∀ i x, i < k → xs.toList[i]? = some x → x < j) ∧ (∀ i x, k ≤ i → xs.toList[i]? = some x → j ≤ x)
  | 0, lo, hi, hz, hl, hf, a, b => by
    have e : lo = hi := by omega
    subst e
    exact ⟨lo, rfl, hz, a, b⟩
  | fuel + 1, lo, hi, hz, hl, hf, a, b => by
    unfold SetTable.below.go
    by_cases hlt : lo < hi
    · rw [if_pos hlt]
      have hm : (lo + hi) / 2 < xs.size := by omega
      have hg : xs.toList[(lo + hi) / 2]? = some (xs.getD ((lo + hi) / 2) j) := by
        rw [Array.getElem?_toList, Array.getD_eq_getD_getElem?, Array.getElem?_eq_getElem hm]
        rfl
      dsimp only
      by_cases hc : xs.getD ((lo + hi) / 2) j < j
      · rw [if_pos hc]
        refine below_go h fuel _ hi hz (by omega) (by omega) (fun i x hi' hx => ?_) b
        rcases Nat.lt_or_ge i ((lo + hi) / 2) with q | q
        · exact Nat.lt_trans (inc_get h hx hg q) hc
        · have e : i = (lo + hi) / 2 := by omega
          subst e
          rw [hg] at hx
          cases hx
          exact hc
      · rw [if_neg hc]
        refine below_go h fuel lo _ (by omega) (by omega) (by omega) a (fun i x hi' hx => ?_)
        rcases Nat.eq_or_lt_of_le hi' with q | q
        · subst q
          rw [hg] at hx
          cases hx
          omega
        · have := inc_get h hg hx q
          omega
    · rw [if_neg hlt]
      have e : lo = hi := by omega
      subst e
      exact ⟨lo, rfl, hz, a, b⟩
theorem below_spec {xs : Array Nat} (j : Nat) (h : Inc xs.toList) : SetTable.below xs j ≤ xs.size ∧ (∀ i x, i < SetTable.below xs j → xs.toList[i]? = some x → x < j) ∧ (∀ i x, SetTable.below xs j ≤ i → xs.toList[i]? = some x → j ≤ x) := by
  obtain ⟨k, e, r⟩ := below_go (j := j) h xs.size 0 xs.size (Nat.le_refl _) (Nat.zero_le _) (by omega) (fun i x hi => absurd hi (Nat.not_lt_zero _)) (fun i x hi hx => by
    have := (List.getElem?_eq_some_iff.mp hx).1
    rw [Array.length_toList] at this
    omega)
  have e' : SetTable.below xs j = k := e
  rw [e']
  exact r
/-- a place that is there -/
theorem below_there {xs : Array Nat} {i j : Nat} (h : Inc xs.toList) (hi : xs.toList[i]? = some j) : SetTable.below xs j = i := by
  obtain ⟨h1, h2, h3⟩ := below_spec j h
  rcases Nat.lt_trichotomy (SetTable.below xs j) i with q | q | q
  · -- the item at below is at least j, and less than the one at i
    have hb : SetTable.below xs j < xs.toList.length := Nat.lt_trans q (List.getElem?_eq_some_iff.mp hi).1
    have hx : xs.toList[SetTable.below xs j]? = some xs.toList[SetTable.below xs j] := List.getElem?_eq_getElem hb
    have := h3 _ _ (Nat.le_refl _) hx
    have := inc_get h hx hi q
    omega
  · exact q
  · have := h2 i j q hi
    omega
theorem insertAt_list {α : Type} (xs : Array α) (p : Nat) (x : α) : (SetTable.insertAt xs p x).toList = xs.toList.take p ++ x :: xs.toList.drop p := by
  unfold SetTable.insertAt
  rw [Array.toList_append, Array.toList_push, Array.toList_extract, Array.toList_extract, List.append_assoc]
  simp [List.extract_eq_drop_take]
  exact List.take_of_length_le (by simp)
theorem inc_insert {xs : Array Nat} {j : Nat} (h : Inc xs.toList) (hj : j ∉ xs.toList) : Inc (SetTable.insertAt xs (SetTable.below xs j) j).toList := by
  obtain ⟨h1, h2, h3⟩ := below_spec j h
  rw [insertAt_list]
  unfold Inc at *
  rw [List.pairwise_append]
  refine ⟨h.sublist (List.take_sublist _ _), List.pairwise_cons.mpr ⟨fun y hy => ?_, h.sublist (List.drop_sublist _ _)⟩, fun a ha b hb => ?_⟩
  · obtain ⟨i, hi⟩ := List.getElem?_of_mem hy
    rw [List.getElem?_drop] at hi
    have := h3 _ _ (Nat.le_add_right _ _) hi
    have : j ≠ y := fun e => hj (e ▸ List.mem_of_getElem? hi)
    omega
  · obtain ⟨i, hi⟩ := List.getElem?_of_mem ha
    have hi' : i < SetTable.below xs j := by
      have := (List.getElem?_eq_some_iff.mp hi).1
      rw [List.length_take] at this
      omega
    rw [List.getElem?_take_of_lt hi'] at hi
    have h4 := h2 i a hi' hi
    rcases List.mem_cons.mp hb with e | e
    · rw [e]; exact h4
    · obtain ⟨k, hk⟩ := List.getElem?_of_mem e
      rw [List.getElem?_drop] at hk
      have := h3 _ _ (Nat.le_add_right _ _) hk
      omega

/-! ### the way of a search -/
def adv (mask : Nat) (p : SetTable.Probe) : SetTable.Probe :=
  if p.more > 0 then { p with j := p.j + 1, more := p.more - 1 } else
  { p with j := (SetTable.leap mask p.i p.perturb).1, more := SetTable.runEnd mask (SetTable.leap mask p.i p.perturb).1 - (SetTable.leap mask p.i p.perturb).1, i := (SetTable.leap mask p.i p.perturb).1, perturb := (SetTable.leap mask p.i p.perturb).2 }
theorem advance_eq (t : SetTable) (p : SetTable.Probe) : t.advance p = adv t.mask p := rfl
theorem adv_dummy (mask : Nat) (p : SetTable.Probe) (h : p.dummy = none) : (adv mask p).dummy = none := by
  unfold adv
  split <;> exact h
def ways (mask : Nat) : Nat → SetTable.Probe → List Nat
  | 0, _ => []
  | n + 1, p => p.j :: ways mask n (adv mask p)
def startOf (mask : Nat) (h : Int) : SetTable.Probe :=
  { j := SetTable.bits h % (mask + 1), more := SetTable.runEnd mask (SetTable.bits h % (mask + 1)) - SetTable.bits h % (mask + 1), i := SetTable.bits h % (mask + 1), perturb := SetTable.bits h, dummy := none }
/-- the slots that a search for h looks at, in their order -/
def way (mask : Nat) (h : Int) : List Nat := ways mask (10 * SetTable.turns mask) (startOf mask h)

theorem slot_live {t : SetTable} {i j : Nat} (h : Inc t.place.toList) (hi : t.place.toList[i]? = some j) : t.slot j = .live i := by
  unfold SetTable.slot
  have e := below_there h hi
  have hi' : t.place[i]? = some j := by rw [← Array.getElem?_toList]; exact hi
  simp only [e, hi', beq_self_eq_true, if_true]
theorem slot_empty {t : SetTable} {j : Nat} (hd : t.dummies = #[]) (hj : j ∉ t.place.toList) : t.slot j = .empty := by
  unfold SetTable.slot
  have h1 : ¬ ((t.place[SetTable.below t.place j]? == some j) = true) := by
    intro e
    have e' : t.place[SetTable.below t.place j]? = some j := by simpa using e
    rw [← Array.getElem?_toList] at e'
    exact hj (List.mem_of_getElem? e')
  have h2 : SetTable.has t.dummies j = false := by
    rw [hd]
    unfold SetTable.has
    simp
  simp only [h1, h2, if_false, Bool.false_eq_true]

theorem go_found {t : SetTable} {hashAt : Nat → Int} {h : Int} (hi : Inc t.place.toList) : ∀ (fuel : Nat) (p : SetTable.Probe) (n : Nat) (j0 i0 : Nat), (ways t.mask fuel p)[n]? = some j0 → t.place.toList[i0]? = some j0 → hashAt i0 = h →
    (∀ m q, m < n → (ways t.mask fuel p)[m]? = some q → q ∈ t.place.toList) → ∃ j i next, SetTable.probe.go t hashAt h fuel p = some (.candidate j i next) ∧ t.place.toList[i]? = some j ∧ hashAt i = h
  | 0, p, n, j0, i0, hn, _, _, _ => by
    unfold ways at hn
    simp at hn
  | fuel + 1, p, n, j0, i0, hn, h0, hh, hb => by
    unfold SetTable.probe.go
    cases n with
    | zero =>
      have e : p.j = j0 := by
        unfold ways at hn
        simpa using hn
      rw [e, slot_live hi h0]
      dsimp only
      rw [hh, if_pos (by simp)]
      exact ⟨j0, i0, _, rfl, h0, hh⟩
    | succ n =>
      have hq : p.j ∈ t.place.toList := hb 0 p.j (Nat.succ_pos _) (by unfold ways; rfl)
      obtain ⟨i1, hi1⟩ := List.getElem?_of_mem hq
      rw [slot_live hi hi1]
      dsimp only
      by_cases hc : (hashAt i1 == h) = true
      · rw [if_pos hc]
        exact ⟨p.j, i1, _, rfl, hi1, by simpa using hc⟩
      · rw [if_neg hc, advance_eq]
        refine go_found hi fuel (adv t.mask p) n j0 i0 ?_ h0 hh (fun m q hm hq' => hb (m + 1) q (by omega) ?_)
        · unfold ways at hn
          simpa using hn
        · unfold ways
          simpa using hq'
theorem go_free {t : SetTable} {hashAt : Nat → Int} {h : Int} (hi : Inc t.place.toList) (hd : t.dummies = #[]) (hno : ∀ i j, t.place.toList[i]? = some j → hashAt i ≠ h) : ∀ (fuel : Nat) (p : SetTable.Probe), p.dummy = none → ∀ (n j0 : Nat), (ways t.mask fuel p)[n]? = some j0 → j0 ∉ t.place.toList →
    ∃ (n j : Nat), SetTable.probe.go t hashAt h fuel p = some (.empty j none) ∧ (ways t.mask fuel p)[n]? = some j ∧ j ∉ t.place.toList ∧ ∀ (m q : Nat), m < n → (ways t.mask fuel p)[m]? = some q → q ∈ t.place.toList
  | 0, p, _, n, j0, hn, _ => by
    unfold ways at hn
    simp at hn
  | fuel + 1, p, hp, n, j0, hn, h0 => by
    unfold SetTable.probe.go
    by_cases hq : p.j ∈ t.place.toList
    · obtain ⟨i1, hi1⟩ := List.getElem?_of_mem hq
      rw [slot_live hi hi1]
      dsimp only
      rw [if_neg (by simpa using hno i1 _ hi1), advance_eq]
      cases n with
      | zero =>
        have e : p.j = j0 := by
          unfold ways at hn
          simpa using hn
        exact absurd (e ▸ hq) h0
      | succ n =>
        obtain ⟨n', j', e1, e2, e3, e4⟩ := go_free hi hd hno fuel (adv t.mask p) (adv_dummy _ _ hp) n j0 (by unfold ways at hn; simpa using hn) h0
        refine ⟨n' + 1, j', e1, by unfold ways; simpa using e2, e3, fun m q hm hq' => ?_⟩
        cases m with
        | zero =>
          unfold ways at hq'
          have e : p.j = q := by simpa using hq'
          exact e ▸ hq
        | succ m => exact e4 m q (by omega) (by unfold ways at hq'; simpa using hq')
    · rw [slot_empty hd hq]
      dsimp only
      rw [hp]
      exact ⟨0, p.j, rfl, by unfold ways; rfl, hq, fun m q hm => absurd hm (Nat.not_lt_zero _)⟩

/-! ### the fifteen pairs -/
@[irreducible] def hp (k : Int × Int) : Int := reduceHash (Builtin.Tuple.tupleHashOf [hashInt k.1, hashInt k.2])
def pairs15 : List (Int × Int) := [(0, 1), (0, 2), (0, 3), (0, 4), (0, 5), (1, 2), (1, 3), (1, 4), (1, 5), (2, 3), (2, 4), (2, 5), (3, 4), (3, 5), (4, 5)]
theorem hp_inj : ∀ k ∈ pairs15, ∀ l ∈ pairs15, hp k = hp l → k = l := by decide +kernel
theorem way7 : ∀ k ∈ pairs15, ∀ j ∈ List.range 8, j ∈ way 7 (hp k) := by decide +kernel
theorem way31 : ∀ k ∈ pairs15, ∀ j ∈ List.range 32, j ∈ way 31 (hp k) := by decide +kernel
theorem way_le : ∀ k ∈ pairs15, (∀ j ∈ way 7 (hp k), j ≤ 7) ∧ (∀ j ∈ way 31 (hp k), j ≤ 31) := by decide +kernel
/-- the slots that a clean laying looks at -/
def runs (mask : Nat) : Nat → Nat → Nat → List Nat
  | 0, _, _ => []
  | f + 1, i, p => (List.range (SetTable.runEnd mask i + 1 - i)).map (i + ·) ++ runs mask f (SetTable.leap mask i p).1 (SetTable.leap mask i p).2
theorem runs31 : ∀ k ∈ pairs15, runs 31 (SetTable.turns 31) (SetTable.bits (hp k) % 32) (SetTable.bits (hp k)) <+: way 31 (hp k) ∧ ∀ j ∈ List.range 32, j ∈ runs 31 (SetTable.turns 31) (SetTable.bits (hp k) % 32) (SetTable.bits (hp k)) := by decide +kernel
end GS

set_option Elab.async false
set_option linter.all false
set_option maxRecDepth 100000
set_option maxHeartbeats 4000000
namespace GS
open PySem
/-- an entry: the pair, and where its tuple stands -/
abbrev Ent := (Int × Int) × Addr
def enc (e : Ent) : Int × Value := (hp e.1, .ref e.2)
/-- every slot ahead of j on k's way is taken -/
def Met (mask : Nat) (taken : Nat → Prop) (k : Int × Int) (j : Nat) : Prop := ∃ n : Nat, (way mask (hp k))[n]? = some j ∧ ∀ (m q : Nat), m < n → (way mask (hp k))[m]? = some q → taken q
theorem Met.mono {mask : Nat} {T T' : Nat → Prop} {k : Int × Int} {j : Nat} (h : Met mask T k j) (hT : ∀ q, T q → T' q) : Met mask T' k j :=
  let ⟨n, e, r⟩ := h
  ⟨n, e, fun m q hm hq => hT q (r m q hm hq)⟩
structure Tab (t : SetTable) (ents : List Ent) : Prop where
  dm : t.dummies = #[]
  inc : Inc t.place.toList
  sz : t.place.toList.length = ents.length
  le : ∀ j ∈ t.place.toList, j ≤ t.mask
  msk : t.mask = 7 ∨ t.mask = 31
  in15 : ∀ e ∈ ents, e.1 ∈ pairs15
  nd : (ents.map (·.1)).Nodup
  way : ∀ (i j : Nat) (e : Ent), t.place.toList[i]? = some j → ents[i]? = some e → Met t.mask (· ∈ t.place.toList) e.1 j

theorem hole {l : List Nat} (hi : Inc l) {mask : Nat} (hl : l.length ≤ mask) : ∃ j, j < mask + 1 ∧ j ∉ l := by
  have go : ∀ (n : Nat) (l : List Nat), l.Nodup → (∀ j, j < n → j ∈ l) → n ≤ l.length := by
    intro n
    induction n with
    | zero => intro l _ _; exact Nat.zero_le _
    | succ n ih =>
      intro l hn h
      have hm := h n (Nat.lt_succ_self _)
      have h1 := ih (l.erase n) (hn.sublist (List.erase_sublist ..)) (fun j hj => (List.mem_erase_of_ne (by omega)).mpr (h j (by omega)))
      rw [List.length_erase_of_mem hm] at h1
      have : 0 < l.length := List.length_pos_of_mem hm
      omega
  have hn : l.Nodup := hi.imp (fun h => Nat.ne_of_lt h)
  by_cases hx : ∃ j, j < mask + 1 ∧ j ∉ l
  · exact hx
  · have := go (mask + 1) l hn (fun j hj => by
      by_cases q : j ∈ l
      · exact q
      · exact absurd ⟨j, hj, q⟩ hx)
    omega
theorem way_all {t : SetTable} {k : Int × Int} (hm : t.mask = 7 ∨ t.mask = 31) (hk : k ∈ pairs15) {j : Nat} (hj : j < t.mask + 1) : j ∈ way t.mask (hp k) := by
  rcases hm with e | e
  · rw [e] at hj ⊢; exact way7 k hk j (List.mem_range.mpr hj)
  · rw [e] at hj ⊢; exact way31 k hk j (List.mem_range.mpr hj)

def hashesAt (es : List (Int × Value)) (i : Nat) : Int := (es[i]?.map (·.1)).getD 0
theorem hashesAt_of {es : List (Int × Value)} {i : Nat} {q : Int × Value} (h : es[i]? = some q) : hashesAt es i = q.1 := by
  unfold hashesAt
  rw [h]
  rfl
theorem enc_fst (e : Ent) : (enc e).1 = hp e.1 := by
  unfold enc
  rfl
theorem hashesAt_enc {ents : List Ent} {i : Nat} {e : Ent} (h : ents[i]? = some e) : hashesAt (ents.map enc) i = hp e.1 := by
  have h2 : (ents.map enc)[i]? = some (enc e) := by rw [List.getElem?_map, h]; simp only [Option.map_some]
  rw [hashesAt_of h2]
  exact enc_fst e
section
variable {t : SetTable} {ents : List Ent} {k : Int × Int}
theorem Tab.ent (T : Tab t ents) {i j : Nat} (h : t.place.toList[i]? = some j) : ∃ e, ents[i]? = some e := by
  have := (List.getElem?_eq_some_iff.mp h).1
  rw [T.sz] at this
  exact ⟨ents[i], List.getElem?_eq_getElem this⟩
theorem Tab.slotOf (T : Tab t ents) {i : Nat} {e : Ent} (h : ents[i]? = some e) : ∃ j, t.place.toList[i]? = some j := by
  have := (List.getElem?_eq_some_iff.mp h).1
  rw [← T.sz] at this
  exact ⟨_, List.getElem?_eq_getElem this⟩
/-- a pair that is there is met -/
theorem Tab.found (T : Tab t ents) (hk : k ∈ ents.map (·.1)) : ∃ j i next e, t.probe (hashesAt (ents.map enc)) (hp k) (t.probeStart (hp k)) = some (.candidate j i next) ∧ ents[i]? = some e ∧ e.1 = k := by
  obtain ⟨e, he, rfl⟩ := List.mem_map.mp hk
  obtain ⟨i, hi⟩ := List.getElem?_of_mem he
  obtain ⟨j, hj⟩ := T.slotOf hi
  obtain ⟨n, hn, hb⟩ := T.way i j e hj hi
  obtain ⟨j', i', next, e1, e2, e3⟩ := go_found (hashAt := hashesAt (ents.map enc)) T.inc (10 * SetTable.turns t.mask) (startOf t.mask (hp e.1)) n j i hn hj (hashesAt_enc hi) (fun m q hm hq => hb m q hm hq)
  obtain ⟨e', he'⟩ := T.ent e2
  rw [hashesAt_enc he'] at e3
  refine ⟨j', i', next, e', e1, he', hp_inj _ (T.in15 _ (List.mem_of_getElem? he')) _ (T.in15 _ he) e3⟩
/-- a pair that is not there ends at a free slot -/
theorem Tab.free (T : Tab t ents) (hk : k ∈ pairs15) (hn : k ∉ ents.map (·.1)) (hl : ents.length ≤ t.mask) :
    ∃ j, t.probe (hashesAt (ents.map enc)) (hp k) (t.probeStart (hp k)) = some (.empty j none) ∧ j ∉ t.place.toList ∧ j ≤ t.mask ∧ Met t.mask (· ∈ t.place.toList) k j := by
  obtain ⟨j0, h0, h1⟩ := hole T.inc (mask := t.mask) (by rw [T.sz]; exact hl)
  obtain ⟨n0, hn0⟩ := List.getElem?_of_mem (way_all T.msk hk h0)
  obtain ⟨n, j, e1, e2, e3, e4⟩ := go_free (hashAt := hashesAt (ents.map enc)) (h := hp k) T.inc T.dm (fun i j hj e => by
    obtain ⟨e', he'⟩ := T.ent hj
    rw [hashesAt_enc he'] at e
    have := hp_inj _ (T.in15 _ (List.mem_of_getElem? he')) _ hk e
    exact hn (List.mem_map.mpr ⟨e', List.mem_of_getElem? he', this⟩)) (10 * SetTable.turns t.mask) (startOf t.mask (hp k)) rfl n0 j0 hn0 h1
  refine ⟨j, e1, e3, ?_, n, e2, e4⟩
  have hm : j ∈ GS.way t.mask (hp k) := List.mem_of_getElem? (show (GS.way t.mask (hp k))[n]? = some j from e2)
  rcases T.msk with e | e
  · rw [e] at hm ⊢; exact (way_le k hk).1 j hm
  · rw [e] at hm ⊢; exact (way_le k hk).2 j hm
theorem take_snoc_get {α : Type} (l : List α) (p : Nat) (x : α) (hp : p ≤ l.length) (i : Nat) : (l.take p ++ x :: l.drop p)[i]? = if i < p then l[i]? else if i = p then some x else l[i - 1]? := by
  by_cases h1 : i < p
  · rw [if_pos h1, List.getElem?_append_left (by rw [List.length_take]; omega), List.getElem?_take_of_lt h1]
  · rw [if_neg h1, List.getElem?_append_right (by rw [List.length_take]; omega), List.length_take, Nat.min_eq_left hp]
    by_cases h2 : i = p
    · rw [if_pos h2, h2, Nat.sub_self]; rfl
    · rw [if_neg h2]
      obtain ⟨d, hd⟩ : ∃ d, i - p = d + 1 := ⟨i - p - 1, by omega⟩
      rw [hd, List.getElem?_cons_succ, List.getElem?_drop]
      congr 1
      omega
/-- a new entry is laid into its free slot -/
theorem Tab.put (T : Tab t ents) {j : Nat} {a : Addr} (hk : k ∈ pairs15) (hn : k ∉ ents.map (·.1)) (hj : j ∉ t.place.toList) (hle : j ≤ t.mask) (hm : Met t.mask (· ∈ t.place.toList) k j) :
    Tab (t.put j).1 (ents.take (t.put j).2 ++ (k, a) :: ents.drop (t.put j).2) ∧ (t.put j).1.mask = t.mask ∧ (t.put j).1.led = t.led ∧ (t.put j).1.plain = t.plain := by
  have hhas : SetTable.has t.dummies j = false := by
    rw [T.dm]; unfold SetTable.has; simp
  have e1 : (t.put j).1 = { t with place := SetTable.insertAt t.place (SetTable.below t.place j) j } := by
    unfold SetTable.put
    simp only [hhas, Bool.false_eq_true, if_false]
  have e2 : (t.put j).2 = SetTable.below t.place j := rfl
  rw [e1, e2]
  refine ⟨?_, rfl, rfl, rfl⟩
  generalize hp' : SetTable.below t.place j = p
  have hpl : p ≤ t.place.toList.length := by rw [← hp', Array.length_toList]; exact (below_spec j T.inc).1
  have hpe : p ≤ ents.length := by rw [← T.sz]; exact hpl
  have hlist : (SetTable.insertAt t.place p j).toList = t.place.toList.take p ++ j :: t.place.toList.drop p := insertAt_list _ _ _
  have hmem : ∀ q, q ∈ (SetTable.insertAt t.place p j).toList ↔ q = j ∨ q ∈ t.place.toList := fun q => by
    rw [hlist, List.mem_append, List.mem_cons]
    constructor
    · rintro (z | z | z)
      · exact .inr (List.mem_of_mem_take z)
      · exact .inl z
      · exact .inr (List.mem_of_mem_drop z)
    · rintro (z | z)
      · exact .inr (.inl z)
      · rw [← List.take_append_drop p t.place.toList] at z
        rcases List.mem_append.mp z with z | z
        · exact .inl z
        · exact .inr (.inr z)
  refine ⟨T.dm, by rw [← hp']; exact inc_insert T.inc hj, ?_, fun q hq => ?_, T.msk, fun e he => ?_, ?_, fun i q e hq he => ?_⟩
  · show (SetTable.insertAt t.place p j).toList.length = _
    rw [hlist]
    simp only [List.length_append, List.length_cons, List.length_take, List.length_drop]
    have := T.sz
    omega
  · rcases (hmem q).mp hq with z | z
    · rw [z]; exact hle
    · exact T.le q z
  · rcases List.mem_append.mp he with z | z
    · exact T.in15 e (List.mem_of_mem_take z)
    · rcases List.mem_cons.mp z with z | z
      · rw [z]; exact hk
      · exact T.in15 e (List.mem_of_mem_drop z)
  · rw [List.map_append, List.map_cons]
    have hnd := T.nd
    rw [← List.take_append_drop p ents, List.map_append] at hnd hn
    rw [List.nodup_append] at hnd ⊢
    obtain ⟨n1, n2, n3⟩ := hnd
    refine ⟨n1, List.nodup_cons.mpr ⟨fun z => hn (List.mem_append_right _ z), n2⟩, fun x hx y hy => ?_⟩
    rcases List.mem_cons.mp hy with z | z
    · intro e
      have e' : x = k := e.trans (congrArg id z)
      exact hn (List.mem_append_left _ (e' ▸ hx))
    · exact n3 x hx y z
  · have hq' : (t.place.toList.take p ++ j :: t.place.toList.drop p)[i]? = some q := by rw [← hlist]; exact hq
    rw [take_snoc_get _ _ _ hpl] at hq'
    rw [take_snoc_get _ _ _ hpe] at he
    have up : ∀ q', q' ∈ t.place.toList → q' ∈ (SetTable.insertAt t.place p j).toList := fun q' z => (hmem q').mpr (.inr z)
    by_cases h1 : i < p
    · rw [if_pos h1] at hq' he
      exact (T.way i q e hq' he).mono up
    · rw [if_neg h1] at hq' he
      by_cases h2 : i = p
      · rw [if_pos h2] at hq' he
        cases hq'; cases he
        exact hm.mono up
      · rw [if_neg h2] at hq' he
        exact (T.way _ q e hq' he).mono up
end
end GS

set_option Elab.async false
set_option linter.all false
set_option maxRecDepth 100000
set_option maxHeartbeats 4000000
namespace GS
open PySem
/-! ### a table laid anew, of 32 slots -/
theorem free_eq (mask : Nat) (own : Array (Option Nat)) : ∀ (f i p : Nat), SetTable.layClean.free mask own f i p = (runs mask f i p).find? fun j => (own.getD j (some 0)).isNone
  | 0, _, _ => rfl
  | f + 1, i, p => by
    unfold SetTable.layClean.free runs
    rw [List.find?_append, List.find?_map]
    have e : ((fun j => (own.getD j (some 0)).isNone) ∘ fun k => i + k) = fun k => (own.getD (i + k) (some 0)).isNone := rfl
    rw [e]
    cases q : (List.range (SetTable.runEnd mask i + 1 - i)).find? fun k => (own.getD (i + k) (some 0)).isNone with
    | some k => simp
    | none =>
      simp only [Option.map_none, Option.none_or]
      exact free_eq mask own f _ _
def Taken (own : Array (Option Nat)) (j : Nat) : Prop := ∃ i, own[j]? = some (some i)
structure Own (own : Array (Option Nat)) (ks : List (Int × Int)) (n : Nat) : Prop where
  size : own.size = 32
  lt : ∀ (j i : Nat), own[j]? = some (some i) → i < n
  inj : ∀ (j j' i : Nat), own[j]? = some (some i) → own[j']? = some (some i) → j = j'
  at_ : ∀ (i : Nat) (k : Int × Int), i < n → ks[i]? = some k → ∃ j, own[j]? = some (some i) ∧ Met 31 (Taken own) k j
theorem own_start (ks : List (Int × Int)) : Own (Array.replicate 32 none) ks 0 where
  size := by simp
  lt := fun j i h => by
    rw [Array.getElem?_replicate] at h
    split at h <;> cases h
  inj := fun j j' i h => by
    rw [Array.getElem?_replicate] at h
    split at h <;> cases h
  at_ := fun i k h => absurd h (Nat.not_lt_zero _)
theorem own_hole {own : Array (Option Nat)} {ks : List (Int × Int)} {n : Nat} (O : Own own ks n) (hn : n < 32) : ∃ j, j < 32 ∧ own[j]? = some none := by
  by_cases hx : ∃ j, j < 32 ∧ own[j]? = some none
  · exact hx
  · have all : ∀ j, j < 32 → ∃ i, own[j]? = some (some i) := fun j hj => by
      have hs : j < own.size := by rw [O.size]; exact hj
      cases e : own[j] with
      | none => exact absurd ⟨j, hj, by rw [Array.getElem?_eq_getElem hs, e]⟩ hx
      | some i => exact ⟨i, by rw [Array.getElem?_eq_getElem hs, e]⟩
    have g : ∀ j, ∃ i, j < 32 → own[j]? = some (some i) := fun j => by
      by_cases h : j < 32
      · obtain ⟨i, hi⟩ := all j h
        exact ⟨i, fun _ => hi⟩
      · exact ⟨0, fun h' => absurd h' h⟩
    -- the numbers in the slots are 32 unlike ones below n
    have nd : ((List.range 32).map fun j => Classical.choose (g j)).Nodup := by
      unfold List.Nodup
      rw [List.pairwise_map]
      refine List.pairwise_lt_range.imp_of_mem fun {a b} ha hb hab e => ?_
      have h1 := Classical.choose_spec (g a) (List.mem_range.mp ha)
      have h2 := Classical.choose_spec (g b) (List.mem_range.mp hb)
      rw [← e] at h2
      have := O.inj a b _ h1 h2
      omega
    have sub : ∀ x ∈ (List.range 32).map (fun j => Classical.choose (g j)), x < n := fun x hx => by
      obtain ⟨j, hj, rfl⟩ := List.mem_map.mp hx
      exact O.lt j _ (Classical.choose_spec (g j) (List.mem_range.mp hj))
    have cnt : ∀ (l : List Nat) (m : Nat), l.Nodup → (∀ x ∈ l, x < m) → l.length ≤ m := by
      intro l m
      induction m generalizing l with
      | zero =>
        intro _ h
        cases l with
        | nil => exact Nat.le_refl _
        | cons a r => exact absurd (h a List.mem_cons_self) (Nat.not_lt_zero _)
      | succ m ih =>
        intro hn h
        have h1 := ih (l.erase m) (hn.sublist (List.erase_sublist ..)) (fun x hx => by
          have hx' := (List.Nodup.mem_erase_iff hn).mp hx
          have := h x hx'.2
          have := hx'.1
          omega)
        by_cases hm : m ∈ l
        · rw [List.length_erase_of_mem hm] at h1
          omega
        · rw [List.erase_of_not_mem hm] at h1
          omega
    have := cnt _ n nd sub
    rw [List.length_map, List.length_range] at this
    omega
theorem own_step {own : Array (Option Nat)} {ks : List (Int × Int)} {n : Nat} {k : Int × Int} (O : Own own ks n) (hn : n < 32) (hk : ks[n]? = some k) (h15 : k ∈ pairs15) :
    ∃ j, SetTable.layClean.free 31 own (SetTable.turns 31) (SetTable.bits (hp k) % (31 + 1)) (SetTable.bits (hp k)) = some j ∧ Own (own.setIfInBounds j (some n)) ks (n + 1) := by
  obtain ⟨j0, h0, h1⟩ := own_hole O hn
  obtain ⟨pre, cov⟩ := runs31 k h15
  have hm0 := cov j0 (List.mem_range.mpr h0)
  rw [free_eq]
  have gd : ∀ j, j < 32 → ((own.getD j (some 0)).isNone = true ↔ own[j]? = some none) := fun j hj => by
    have hs : j < own.size := by rw [O.size]; exact hj
    rw [Array.getD_eq_getD_getElem?, Array.getElem?_eq_getElem hs, Option.getD_some]
    constructor
    · intro e
      rw [Option.isNone_iff_eq_none] at e
      rw [e]
    · intro e
      have := Option.some.inj e
      rw [this]
      rfl
  cases q : (runs 31 (SetTable.turns 31) (SetTable.bits (hp k) % (31 + 1)) (SetTable.bits (hp k))).find? fun j => (own.getD j (some 0)).isNone with
  | none =>
    have := List.find?_eq_none.mp q j0 hm0
    exact absurd ((gd j0 h0).mpr h1) this
  | some j =>
    obtain ⟨hj, i, hi, e, hb⟩ := List.find?_eq_some_iff_getElem.mp q
    have hjm : j ∈ runs 31 (SetTable.turns 31) (SetTable.bits (hp k) % (31 + 1)) (SetTable.bits (hp k)) := e ▸ List.getElem_mem hi
    have hle : ∀ x ∈ runs 31 (SetTable.turns 31) (SetTable.bits (hp k) % (31 + 1)) (SetTable.bits (hp k)), x < 32 := fun x hx => by
      have := (way_le k h15).2 x (pre.subset hx)
      omega
    have hj32 := hle j hjm
    have hnone := (gd j hj32).mp hj
    have hs : j < own.size := by rw [O.size]; exact hj32
    have get : ∀ q, (own.setIfInBounds j (some n))[q]? = if q = j then some (some n) else own[q]? := fun q => by
      rw [Array.getElem?_setIfInBounds]
      by_cases h : j = q
      · rw [if_pos h, if_pos h.symm, if_pos (h ▸ hs)]
      · rw [if_neg h, if_neg (Ne.symm h)]
    have up : ∀ q, Taken own q → Taken (own.setIfInBounds j (some n)) q := fun q ⟨i, hi⟩ => by
      unfold Taken
      rw [get]
      by_cases h : q = j
      · exact ⟨n, by rw [if_pos h]⟩
      · exact ⟨i, by rw [if_neg h]; exact hi⟩
    refine ⟨j, rfl, ⟨by rw [Array.size_setIfInBounds]; exact O.size, fun a b h => ?_, fun a b c h1 h2 => ?_, fun a b ha hb' => ?_⟩⟩
    · rw [get] at h
      by_cases z : a = j
      · rw [if_pos z] at h
        cases h
        exact Nat.lt_succ_self _
      · rw [if_neg z] at h
        exact Nat.lt_succ_of_lt (O.lt a b h)
    · rw [get] at h1 h2
      by_cases z1 : a = j
      · by_cases z2 : b = j
        · rw [z1, z2]
        · rw [if_pos z1] at h1
          rw [if_neg z2] at h2
          cases h1
          exact absurd (O.lt b n h2) (Nat.lt_irrefl _)
      · by_cases z2 : b = j
        · rw [if_neg z1] at h1
          rw [if_pos z2] at h2
          cases h2
          exact absurd (O.lt a n h1) (Nat.lt_irrefl _)
        · rw [if_neg z1] at h1
          rw [if_neg z2] at h2
          exact O.inj a b c h1 h2
    · rcases Nat.eq_or_lt_of_le (Nat.le_of_lt_succ ha) with z | z
      · subst z
        rw [hk] at hb'
        cases hb'
        refine ⟨j, by rw [get, if_pos rfl], i, ?_, fun m x hm hx => ?_⟩
        · have := (List.prefix_iff_getElem?.mp pre) i hi
          rw [this, e]
        · have hml : m < (runs 31 (SetTable.turns 31) (SetTable.bits (hp k) % (31 + 1)) (SetTable.bits (hp k))).length := Nat.lt_trans hm hi
          have h2 := (List.prefix_iff_getElem?.mp pre) m hml
          rw [h2] at hx
          cases hx
          have h3 := hb m hm
          refine up _ ?_
          have hx32 := hle _ (List.getElem_mem hml)
          have hs2 : (runs 31 (SetTable.turns 31) (SetTable.bits (hp k) % (31 + 1)) (SetTable.bits (hp k)))[m] < own.size := by rw [O.size]; exact hx32
          cases e4 : own[(runs 31 (SetTable.turns 31) (SetTable.bits (hp k) % (31 + 1)) (SetTable.bits (hp k)))[m]] with
          | none =>
            have := (gd _ hx32).mpr (by rw [Array.getElem?_eq_getElem hs2, e4])
            rw [this] at h3
            cases h3
          | some i' => exact ⟨i', by rw [Array.getElem?_eq_getElem hs2, e4]⟩
      · obtain ⟨j', hj', hm'⟩ := O.at_ a b z hb'
        refine ⟨j', ?_, hm'.mono up⟩
        rw [get]
        by_cases z2 : j' = j
        · rw [z2, hnone] at hj'
          cases hj'
        · rw [if_neg z2]
          exact hj'
end GS

set_option Elab.async false
set_option linter.all false
set_option maxRecDepth 100000
set_option maxHeartbeats 4000000
namespace GS
open PySem
def layStep (mask : Nat) (acc : Option (Array (Option Nat) × Nat)) (h : Int) : Option (Array (Option Nat) × Nat) := do
  let (owner, k) ← acc
  let j ← SetTable.layClean.free mask owner (SetTable.turns mask) (SetTable.bits h % (mask + 1)) (SetTable.bits h)
  pure (owner.setIfInBounds j (some k), k + 1)
theorem layStep_of {mask : Nat} {own : Array (Option Nat)} {n j : Nat} {h : Int} (hj : SetTable.layClean.free mask own (SetTable.turns mask) (SetTable.bits h % (mask + 1)) (SetTable.bits h) = some j) :
    layStep mask (some (own, n)) h = some (own.setIfInBounds j (some n), n + 1) := by
  unfold layStep
  show (SetTable.layClean.free mask own (SetTable.turns mask) (SetTable.bits h % (mask + 1)) (SetTable.bits h)).bind _ = _
  rw [hj]
  rfl
theorem layClean_eq (mask : Nat) (hs : List Int) : SetTable.layClean mask hs.toArray = (hs.foldl (layStep mask) (some (Array.replicate (mask + 1) none, 0))).map (·.1) := by
  unfold SetTable.layClean
  rw [List.foldl_toArray]
  rfl
theorem lay_fold {ks : List (Int × Int)} (h15 : ∀ k ∈ ks, k ∈ pairs15) (hl : ks.length < 32) : ∀ (rest dn : List (Int × Int)) (own : Array (Option Nat)), ks = dn ++ rest → Own own ks dn.length →
    ∃ own', (rest.map hp).foldl (layStep 31) (some (own, dn.length)) = some (own', ks.length) ∧ Own own' ks ks.length
  | [], dn, own, e, O => by
    rw [List.append_nil] at e
    subst e
    exact ⟨own, rfl, O⟩
  | k :: rest, dn, own, e, O => by
    have hk : ks[dn.length]? = some k := by rw [e]; simp
    have hn : dn.length < 32 := by
      have : ks.length = dn.length + (k :: rest).length := by rw [e, List.length_append]
      omega
    obtain ⟨j, hj, O'⟩ := own_step O hn hk (h15 k (List.mem_of_getElem? hk))
    have e' : ks = (dn ++ [k]) ++ rest := by rw [e]; simp
    have l' : (dn ++ [k]).length = dn.length + 1 := by simp
    obtain ⟨own', h1, h2⟩ := lay_fold h15 hl rest (dn ++ [k]) _ e' (by rw [l']; exact O')
    refine ⟨own', ?_, h2⟩
    rw [List.map_cons, List.foldl_cons]
    have es := layStep_of (n := dn.length) hj
    rw [es, ← l']
    exact h1
theorem lay_ok {ks : List (Int × Int)} (h15 : ∀ k ∈ ks, k ∈ pairs15) (hl : ks.length < 32) : ∃ own, SetTable.layClean 31 (ks.map hp).toArray = some own ∧ Own own ks ks.length := by
  obtain ⟨own, h1, h2⟩ := lay_fold h15 hl ks [] _ rfl (own_start ks)
  refine ⟨own, ?_, h2⟩
  rw [layClean_eq]
  have h1' : (ks.map hp).foldl (layStep 31) (some (Array.replicate (31 + 1) none, 0)) = some (own, ks.length) := h1
  rw [h1']
  rfl
/-- the slots that are taken, rising, each with its number -/
def liveOf (own : Array (Option Nat)) : List (Nat × Nat) := (List.range (31 + 1)).filterMap fun j => (own.getD j none).map (j, ·)
theorem mem_live {own : Array (Option Nat)} (hs : own.size = 32) {j i : Nat} : (j, i) ∈ liveOf own ↔ own[j]? = some (some i) := by
  unfold liveOf
  rw [List.mem_filterMap]
  constructor
  · rintro ⟨a, ha, e⟩
    obtain ⟨b, hb, e2⟩ := Option.map_eq_some_iff.mp e
    cases e2
    have : j < own.size := by rw [hs]; exact List.mem_range.mp ha
    rw [Array.getD_eq_getD_getElem?, Array.getElem?_eq_getElem this, Option.getD_some] at hb
    rw [Array.getElem?_eq_getElem this, hb]
  · intro h
    have hj : j < own.size := (Array.getElem?_eq_some_iff.mp h).1
    refine ⟨j, List.mem_range.mpr (by omega), ?_⟩
    rw [Array.getD_eq_getD_getElem?, h]
    rfl
theorem live_inc (own : Array (Option Nat)) : Inc ((liveOf own).map (·.1)) := by
  have e : (liveOf own).map (·.1) = (List.range (31 + 1)).filter fun j => ((own.getD j none).map (j, ·)).isSome := by
    unfold liveOf
    generalize List.range (31 + 1) = l
    induction l with
    | nil => rfl
    | cons a r ih =>
      rw [List.filterMap_cons, List.filter_cons]
      cases q : own.getD a none with
      | none => simpa using ih
      | some i => simpa using ih
  rw [e]
  exact List.pairwise_lt_range.sublist List.filter_sublist
theorem live_nums {own : Array (Option Nat)} {ks : List (Int × Int)} {n : Nat} (O : Own own ks n) (hn : n = ks.length) : ((liveOf own).map (·.2)).Perm (List.range n) := by
  have nd : ((liveOf own).map (·.2)).Nodup := by
    have h1 : (liveOf own).Pairwise (fun a b => a.1 < b.1) := List.pairwise_map.mp (live_inc own)
    unfold List.Nodup
    rw [List.pairwise_map]
    refine h1.imp_of_mem fun {a b} ha hb hab e => ?_
    have h2 := (mem_live O.size (j := a.1) (i := a.2)).mp ha
    have h3 := (mem_live O.size (j := b.1) (i := b.2)).mp hb
    rw [← e] at h3
    have := O.inj _ _ _ h2 h3
    omega
  refine (List.perm_ext_iff_of_nodup nd List.nodup_range).mpr fun x => ?_
  rw [List.mem_range]
  constructor
  · intro h
    obtain ⟨⟨j, i⟩, hm, rfl⟩ := List.mem_map.mp h
    exact O.lt j i ((mem_live O.size).mp hm)
  · intro h
    have hx : x < ks.length := hn ▸ h
    obtain ⟨j, hj, _⟩ := O.at_ x ks[x] h (List.getElem?_eq_getElem hx)
    exact List.mem_map.mpr ⟨(j, x), (mem_live O.size).mpr hj, rfl⟩
theorem pick_all {α : Type} : ∀ (l : List α), (List.range l.length).filterMap (fun i => l[i]?) = l
  | [] => rfl
  | a :: r => by
    have ih := pick_all r
    rw [List.length_cons, List.range_succ_eq_map, List.filterMap_cons, List.getElem?_cons_zero, List.filterMap_map]
    exact congrArg (a :: ·) ih

theorem sizeAbove20 : SetTable.sizeAbove 20 = 32 := by decide +kernel
theorem nodup_perm {α : Type} {l l' : List α} (h : l.Perm l') (hn : l'.Nodup) : l.Nodup := h.nodup_iff.mpr hn
/-- what a laying of all entries anew gives -/
theorem Tab.relaid {t : SetTable} {ents : List Ent} (T : Tab t ents) (hl : ents.length < 32) (hw : ents.length = 5) :
    ∃ (t' : SetTable) (order : Array Nat), t.relaid ((ents.map (·.1)).map hp).toArray 20 = some (t', order) ∧ Tab t' (order.toList.filterMap fun i => ents[i]?) ∧ (order.toList.filterMap fun i => ents[i]?).Perm ents ∧ t'.mask = 31 ∧ t'.led = t.led ∧ t'.plain = t.plain := by
  have h15 : ∀ k ∈ ents.map (·.1), k ∈ pairs15 := fun k hk => by
    obtain ⟨e, he, rfl⟩ := List.mem_map.mp hk
    exact T.in15 e he
  obtain ⟨own, ho, O⟩ := lay_ok h15 (by rw [List.length_map]; exact hl)
  have hlen : (ents.map (·.1)).length = ents.length := List.length_map _
  rw [hlen] at O
  refine ⟨{ mask := 31, place := ((liveOf own).map (·.1)).toArray, dummies := #[], finger := t.finger, led := t.led, moves := t.movedTo 31, plain := t.plain }, ((liveOf own).map (·.2)).toArray, ?_, ?_, ?_, rfl, rfl, rfl⟩
  · unfold SetTable.relaid SetTable.laid
    rw [sizeAbove20]
    show (SetTable.layClean 31 ((ents.map (·.1)).map hp).toArray).bind _ = _
    rw [ho]
    rfl
  · have hp2 := live_nums O hlen.symm
    have pk : ∀ i : Nat, ((liveOf own).map (·.2)).filterMap (fun i => ents[i]?) = ((liveOf own).map (·.2)).filterMap (fun i => ents[i]?) := fun _ => rfl
    have full : ∀ (l : List Nat), (∀ x ∈ l, x < ents.length) → ∀ i : Nat, (l.filterMap fun i => ents[i]?)[i]? = (l[i]?).bind fun x => ents[x]? := by
      intro l
      induction l with
      | nil => intro _ i; simp
      | cons a r ih =>
        intro h i
        have ha := h a List.mem_cons_self
        rw [List.filterMap_cons, List.getElem?_eq_getElem ha]
        cases i with
        | zero => simp [List.getElem?_eq_getElem ha]
        | succ i =>
          rw [List.getElem?_cons_succ, List.getElem?_cons_succ]
          exact ih (fun x hx => h x (List.mem_cons_of_mem _ hx)) i
    have hlt : ∀ x ∈ (liveOf own).map (·.2), x < ents.length := fun x hx => List.mem_range.mp (hp2.mem_iff.mp hx)
    have perm : (((liveOf own).map (·.2)).filterMap fun i => ents[i]?).Perm ents := by
      have := hp2.filterMap (fun i => ents[i]?)
      rw [pick_all] at this
      exact this
    have memp : ∀ q, q ∈ (((liveOf own).map (·.1)).toArray : Array Nat).toList ↔ Taken own q := fun q => by
      show q ∈ (liveOf own).map (·.1) ↔ _
      constructor
      · intro h
        obtain ⟨⟨j, i⟩, hm, rfl⟩ := List.mem_map.mp h
        exact ⟨i, (mem_live O.size).mp hm⟩
      · rintro ⟨i, hi⟩
        exact List.mem_map.mpr ⟨(q, i), (mem_live O.size).mpr hi, rfl⟩
    refine ⟨rfl, live_inc own, ?_, fun j hj => ?_, .inr rfl, fun e he => T.in15 e (perm.mem_iff.mp he), ?_, fun i j e hj he => ?_⟩
    · show ((liveOf own).map (·.1)).length = _
      rw [perm.length_eq, ← List.length_range (n := ents.length), ← hp2.length_eq, List.length_map, List.length_map]
    · obtain ⟨i, hi⟩ := (memp j).mp hj
      have := (Array.getElem?_eq_some_iff.mp hi).1
      rw [O.size] at this
      show j ≤ 31
      omega
    · exact nodup_perm (perm.map (·.1)) T.nd
    · have he' : (((liveOf own).map (·.2)).filterMap fun i => ents[i]?)[i]? = some e := he
      rw [full _ hlt] at he'
      have hj' : ((liveOf own).map (·.1))[i]? = some j := hj
      rw [List.getElem?_map] at he' hj'
      cases q : (liveOf own)[i]? with
      | none => rw [q] at hj'; cases hj'
      | some z =>
        obtain ⟨a, b⟩ := z
        rw [q] at he' hj'
        have hj2 : a = j := Option.some.inj hj'
        have he2 : ents[b]? = some e := he'
        subst hj2
        have hown := (mem_live O.size).mp (List.mem_of_getElem? q)
        have hb : b < ents.length := (List.getElem?_eq_some_iff.mp he2).1
        obtain ⟨j', h1, h2⟩ := O.at_ b e.1 hb (by rw [List.getElem?_map, he2]; rfl)
        have := O.inj _ _ _ hown h1
        subst this
        exact h2.mono fun q hq => (memp q).mpr hq
  · have hp2 := live_nums O hlen.symm
    have := hp2.filterMap (fun i => ents[i]?)
    rw [pick_all] at this
    exact this
end GS

set_option Elab.async false
set_option linter.all false
set_option maxRecDepth 100000
set_option maxHeartbeats 4000000
namespace GS
open PySem
section
variable {prog : Program} {w : World} {A : Around} {E : Value → Shared → Prop} {s : Shared}
/-- the set at S holds the entries -/
structure SetAt (prog : Program) (w : World) (h : Heap) (S : Addr) (t : SetTable) (ents : List Ent) : Prop where
  obj : ∃ es ep, h.get? S = some { cls := .type "set", dict := none, data := .set es ep t, slots := #[] } ∧ es.toList = ents.map enc
  tab : Tab t ents
  keys : ∀ e ∈ ents, IsTupleKey (intKind prog w) h [e.1.1, e.1.2] e.2
  room : t.mask = 7 → ents.length ≤ 4
  plain : t.plain = true
  led : t.led = !(w.params.followText "set-order")
theorem fifteen {ents : List Ent} (h : ∀ e ∈ ents, e.1 ∈ pairs15) (hn : (ents.map (·.1)).Nodup) : ents.length ≤ 15 := by
  have go : ∀ (l m : List (Int × Int)), l.Nodup → (∀ x ∈ l, x ∈ m) → l.length ≤ m.length := by
    intro l
    induction l with
    | nil => intro m _ _; exact Nat.zero_le _
    | cons a r ih =>
      intro m hn hs
      have ha := hs a List.mem_cons_self
      obtain ⟨n1, n2⟩ := List.nodup_cons.mp hn
      have := ih (m.erase a) n2 (fun x hx => (List.mem_erase_of_ne (fun (e : x = a) => n1 (e ▸ hx))).mpr (hs x (List.mem_cons_of_mem _ hx)))
      rw [List.length_erase_of_mem ha] at this
      have : 0 < m.length := List.length_pos_of_mem ha
      rw [List.length_cons]
      omega
  have := go (ents.map (·.1)) pairs15 hn (fun x hx => by
    obtain ⟨e, he, rfl⟩ := List.mem_map.mp hx
    exact h e he)
  rw [List.length_map] at this
  exact this
theorem Tab.small {t : SetTable} {ents : List Ent} (T : Tab t ents) : ents.length ≤ 15 := fifteen T.in15 T.nd
theorem Tab.fits {t : SetTable} {ents : List Ent} (T : Tab t ents) (hl : ents.length ≤ t.mask) {n : Nat} (hn : n = ents.length) : t.fits n = true := by
  have h1 : t.place.size = ents.length := by rw [← Array.length_toList]; exact T.sz
  unfold SetTable.fits SetTable.fill
  rw [h1, T.dm, hn]
  simp only [beq_self_eq_true, Bool.true_and, decide_eq_true_eq]
  simpa using hl
theorem SetAt.le {h : Heap} {S : Addr} {t : SetTable} {ents : List Ent} (X : SetAt prog w h S t ents) : ents.length ≤ t.mask := by
  rcases X.tab.msk with e | e
  · have := X.room e
    omega
  · have := X.tab.small
    omega
theorem hp_eq (k : Int × Int) : tupleKeyHash (intKind prog w) [k.1, k.2] = hp k := by
  unfold hp tupleKeyHash
  rfl
theorem own_quiet {a : Addr} {ks : List Int} {Q : Bool → Shared → Prop} (hk : IsTupleKey (intKind prog w) s.heap ks a) (h : Q false s) : wpAny (model prog w) A (ofAClassStatement 8 (.ref a)) Q E s := by
  have hT := hk.typeIs
  obtain ⟨o, items, n, ho, _, hd, hi⟩ := hk
  unfold ofAClassStatement
  refine wpAny_bind (wpAny_typeOf hT ?_)
  simp only [beq_self_eq_true, if_true]
  refine wpAny_bind (wpAny_pure ?_)
  simp only [Bool.not_true, Bool.false_eq_true, if_false]
  refine wpAny_bind (wpAny_seqItems ho hd ?_)
  refine wpAny_bind ?_
  rw [← Array.forIn_toList]
  refine wpAny_forIn_list _ (fun rest r s' => r.1 = none ∧ s' = s ∧ ∀ v ∈ rest, carriedByValue v = true) _ ?_ ?_ _ _ ⟨rfl, rfl, hi.byValue⟩
  · rintro v rest r s' ⟨hr, rfl, hall⟩
    have hv := hall v List.mem_cons_self
    have e : ofAClassStatement 7 v = pure false := by
      cases v with
      | ref b => simp [carriedByValue] at hv
      | _ => unfold ofAClassStatement; rfl
    rw [e]
    refine wpAny_bind (wpAny_pure ?_)
    simp only [Bool.false_eq_true, if_false]
    exact wpAny_pure ⟨rfl, rfl, fun u hu' => hall u (List.mem_cons_of_mem _ hu')⟩
  · rintro ⟨r1, r2⟩ s' ⟨hr, rfl, _⟩
    simp only at hr
    subst hr
    exact wpAny_pure h
theorem unseen {a : Addr} {k : Int × Int} (ha : IsTupleKey (intKind prog w) s.heap [k.1, k.2] a) : ∀ (l : List Ent) {Q : Bool → Shared → Prop}, (∀ e ∈ l, IsTupleKey (intKind prog w) s.heap [e.1.1, e.1.2] e.2) → Q false s →
    wpAny (model prog w) A (searchCouldBeSeen (.ref a) (l.map fun e => Value.ref e.2)) Q E s := by
  intro l Q hl h
  unfold searchCouldBeSeen
  refine wpAny_bind ?_
  refine wpAny_forIn_list _ (fun rest r s' => r.1 = none ∧ s' = s ∧ ∃ l' : List Ent, rest = (l'.map fun (e : Ent) => Value.ref e.2) ∧ ∀ e ∈ l', IsTupleKey (intKind prog w) s.heap [e.1.1, e.1.2] e.2) _ ?_ ?_ _ _ ⟨rfl, rfl, l, rfl, hl⟩
  · rintro v rest r s' ⟨hr, rfl, l', he, hl'⟩
    cases l' with
    | nil => cases he
    | cons e l'' =>
      rw [List.map_cons] at he
      injection he with he1 he2
      subst he1
      have hk := hl' e List.mem_cons_self
      have fin : r.1 = none ∧ s' = s' ∧ ∃ l' : List Ent, rest = (l'.map fun (e : Ent) => Value.ref e.2) ∧ ∀ e ∈ l', IsTupleKey (intKind prog w) s'.heap [e.1.1, e.1.2] e.2 := ⟨hr, rfl, l'', he2, fun e' h' => hl' e' (List.mem_cons_of_mem _ h')⟩
      dsimp only
      by_cases hv : (a == e.2) = true
      · rw [hv]
        simp only [Bool.true_or, if_true]
        exact wpAny_pure ⟨rfl, fin.2⟩
      · have hv' : (a == e.2) = false := by simpa using hv
        rw [hv']
        have hc : (carriedByValue (.ref a) && carriedByValue (.ref e.2)) = false := rfl
        rw [hc]
        simp only [Bool.or_self, Bool.false_eq_true, if_false]
        refine wpAny_bind (wpAny_eqIsQuiet_tuple ha ?_)
        simp only [Bool.not_true, Bool.false_eq_true, if_false]
        refine wpAny_bind (wpAny_eqIsQuiet_tuple hk ?_)
        simp only [Bool.not_true, Bool.false_eq_true, if_false]
        refine wpAny_bind (own_quiet ha ?_)
        simp only [Bool.false_eq_true, if_false]
        refine wpAny_bind (own_quiet hk ?_)
        simp only [Bool.false_eq_true, if_false]
        exact wpAny_pure ⟨rfl, fin.2⟩
  · rintro ⟨r1, r2⟩ s' ⟨hr, rfl, _⟩
    simp only at hr
    subst hr
    exact wpAny_pure h

theorem probe_fun (es : Array (Int × Value)) : (fun i => (es[i]?.map (·.1)).getD 0) = hashesAt es.toList := by
  funext i
  unfold hashesAt
  rw [Array.getElem?_toList]
theorem odd_mask {t : SetTable} {ents : List Ent} (T : Tab t ents) : t.gaveWay = false := by
  unfold SetTable.gaveWay
  rcases T.msk with e | e <;> rw [e] <;> rfl
theorem filter_ents {ents : List Ent} (h : Int) : ∃ l : List Ent, (∀ e ∈ l, e ∈ ents) ∧ (((ents.map enc).filter (fun x => x.1 == h)).map (·.2)) = l.map fun e => Value.ref e.2 := by
  refine ⟨ents.filter (fun e => (enc e).1 == h), fun e he => (List.mem_filter.mp he).1, ?_⟩
  rw [List.filter_map, List.map_map]
  rfl
/-- a search for a pair among the members, to add it -/
theorem search_add {S a : Addr} {t : SetTable} {ents : List Ent} {k : Int × Int} {Q : SetFound → Shared → Prop} (hu : A.units < cLine) (X : SetAt prog w s.heap S t ents) (hk : k ∈ pairs15) (ha : IsTupleKey (intKind prog w) s.heap [k.1, k.2] a)
    (h1 : k ∈ ents.map (·.1) → Q (.there none) s)
    (h2 : k ∉ ents.map (·.1) → ∀ j, j ∉ t.place.toList → j ≤ t.mask → Met t.mask (· ∈ t.place.toList) k j → Q (.free j false) s) :
    wpAny (model prog w) A (setSearch S (.ref a) (hp k) true) Q E s := by
  obtain ⟨es, ep, ho, hes⟩ := X.obj
  have hz : es.size = ents.length := by rw [← Array.length_toList, hes, List.length_map]
  have hf : t.fits es.size = true := X.tab.fits X.le hz
  unfold setSearch setSearchFrom
  refine wpAny_bind (wpAny_setState_of ho rfl hf ?_)
  dsimp only
  rw [odd_mask X.tab]
  simp only [Bool.false_eq_true, if_false, Option.getD_none]
  generalize hq : t.probe _ (hp k) (t.probeStart (hp k)) = r
  have hq' : t.probe (fun i => (es[i]?.map (·.1)).getD 0) (hp k) (t.probeStart (hp k)) = r := hq
  rw [probe_fun, hes] at hq'
  by_cases hm : k ∈ ents.map (·.1)
  · obtain ⟨j, i, next, e, e1, e2, e3⟩ := X.tab.found hm
    rw [e1] at hq'
    subst hq'
    dsimp only
    have hei : es[i]? = some (enc e) := by rw [← Array.getElem?_toList, hes, List.getElem?_map, e2]; simp only [Option.map_some]
    have hke := X.keys e (List.mem_of_getElem? e2)
    rw [hei]
    unfold enc
    dsimp only
    have ed : decide ([e.1.1, e.1.2] = [k.1, k.2]) = true := by rw [e3]; simp
    cases hl : t.led with
    | true =>
      simp only [Bool.not_true, Bool.false_eq_true, if_false]
      refine wpAny_bind (wpAny_holding (wpAny_eqBool_tuple hu hke ha ?_))
      refine wpAny_bind (wpAny_setState_of ho rfl hf ?_)
      rw [ed]
      simp only [Bool.and_self, if_true]
      exact wpAny_pure (h1 hm)
    | false =>
      simp only [Bool.not_false, if_true]
      obtain ⟨l, hl1, hl2⟩ := filter_ents (ents := ents) (hp k)
      have el : List.map (fun (x : Int × Value) => x.2) (Array.filter (fun x => x.1 == hp k) es).toList = l.map fun e => Value.ref e.2 := by
        rw [Array.toList_filter, hes]
        exact hl2
      rw [el]
      refine wpAny_bind (unseen ha l (fun e' h' => X.keys e' (hl1 e' h')) ?_)
      simp only [Bool.false_eq_true, if_false]
      refine wpAny_bind (wpAny_holding (wpAny_eqBool_tuple hu hke ha ?_))
      refine wpAny_bind (wpAny_setState_of ho rfl hf ?_)
      rw [ed]
      simp only [Bool.and_self, if_true]
      exact wpAny_pure (h1 hm)
  · obtain ⟨j, e1, e2, e3, e4⟩ := X.tab.free hk hm X.le
    rw [e1] at hq'
    subst hq'
    dsimp only
    exact wpAny_pure (h2 hm j e2 e3 e4)

theorem key_keep {h h' : Heap} {S a : Addr} {ks : List Int} {es ep t} (hS : h.get? S = some { cls := .type "set", dict := none, data := .set es ep t, slots := #[] }) (x : IsTupleKey (intKind prog w) h ks a) (hs : Heap.SameBut S h h') :
    IsTupleKey (intKind prog w) h' ks a := by
  obtain ⟨o', items, n, ho', hc, hd', hi⟩ := x
  have hne : a ≠ S := by
    rintro rfl
    obtain rfl : o' = _ := Option.some.inj (ho'.symm.trans hS)
    exact nomatch hd'
  exact ⟨o', items, n, (hs.2 a hne).trans ho', hc, hd', hi⟩
theorem value_hash {a : Addr} {ks : List Int} {Q : Bool → Shared → Prop} (hk : IsTupleKey (intKind prog w) s.heap ks a) (h : Q true s) : wpAny (model prog w) A (hashByValue 8 (.ref a)) Q E s := by
  have hT := hk.typeIs
  obtain ⟨o, items, n, ho, _, hd, hi⟩ := hk
  unfold hashByValue
  refine wpAny_bind (wpAny_specialOf hT F.slot_tuple_hash.lookup ?_)
  dsimp only
  refine wpAny_bind (wpAny_seqItems ho hd ?_)
  refine wpAny_bind ?_
  show wpAny _ _ (forIn items _ _) _ _ s
  rw [← Array.forIn_toList]
  refine wpAny_forIn_list _ (fun rest r s' => r.1 = none ∧ s' = s ∧ ∀ v ∈ rest, carriedByValue v = true ∧ ∃ (i : Int) (u : Tok), v = .int i u) _ ?_ ?_ _ _ ⟨rfl, rfl, ?_⟩
  · rintro v rest r s' ⟨hr, rfl, hall⟩
    obtain ⟨_, i, u, rfl⟩ := hall v List.mem_cons_self
    have e : hashByValue 7 (.int i u) = pure true := by
      unfold hashByValue
      rfl
    rw [e]
    refine wpAny_bind (wpAny_pure ?_)
    simp only [Bool.not_true, Bool.false_eq_true, if_false]
    exact wpAny_pure ⟨rfl, rfl, fun u hu' => hall u (List.mem_cons_of_mem _ hu')⟩
  · rintro ⟨r1, r2⟩ s' ⟨hr, rfl, _⟩
    simp only at hr
    subst hr
    exact wpAny_pure h
  · have go : ∀ (ks : List Int) (vs : List Value), ItemsAre (intKind prog w) ks vs → ∀ v ∈ vs, carriedByValue v = true ∧ ∃ (i : Int) (u : Tok), v = .int i u := by
      intro ks vs hh
      induction hh with
      | nil => intro v hv; cases hv
      | cons h1 _ ih =>
        intro v hv
        rcases List.mem_cons.mp hv with e | e
        · obtain ⟨t', e'⟩ := Value.isInt_shape h1
          rw [e, e']
          exact ⟨rfl, _, _, rfl⟩
        · exact ih v e
    exact go _ _ hi
/-- a pair is added -/
theorem set_add {S a : Addr} {t : SetTable} {ents : List Ent} {k : Int × Int} {Q : Bool → Shared → Prop} (hu : A.units < cLine) (X : SetAt prog w s.heap S t ents) (hk : k ∈ pairs15) (ha : IsTupleKey (intKind prog w) s.heap [k.1, k.2] a)
    (h : ∀ (b : Bool) (h' : Heap) (tk : Nat) (t' : SetTable) (ents' : List Ent), Heap.SameBut S s.heap h' → SetAt prog w h' S t' ents' → ents'.Perm (if k ∈ ents.map (·.1) then ents else (k, a) :: ents) → Q b { s with heap := h', toks := tk }) :
    wpAny (model prog w) A (setAdd S (.ref a)) Q E s := by
  unfold setAdd
  refine wpAny_holding (wpAny_bind (wpAny_pyHash_tuple hu ha ?_))
  rw [hp_eq]
  obtain ⟨es, ep, ho, hes⟩ := X.obj
  have hz : es.size = ents.length := by rw [← Array.length_toList, hes, List.length_map]
  have hf : t.fits es.size = true := X.tab.fits X.le hz
  unfold setAddHashed setAddHashedIn
  refine wpAny_holding (wpAny_bind (wpAny_setState_of ho rfl hf ?_))
  dsimp only
  have hsc : byScan (.ref a) es = false := by
    unfold byScan Value.scannable
    simp
  rw [hsc]
  simp only [Bool.false_eq_true, if_false]
  refine wpAny_bind (search_add (s := { s with toks := s.toks + ([k.1, k.2].length + 1) }) hu X hk ha (fun hm => ?_) (fun hm j j1 j2 j3 => ?_))
  · dsimp only
    refine wpAny_pure ?_
    have := h false s.heap (s.toks + ([k.1, k.2].length + 1)) t ents (Heap.SameBut.refl S s.heap) X (by rw [if_pos hm])
    exact this
  · dsimp only
    refine wpAny_bind (wpAny_setState_of ho rfl hf ?_)
    dsimp only
    obtain ⟨T', m1, m2, m3⟩ := X.tab.put (a := a) hk hm j1 j2 j3
    have hpl : (t.put j).1.plain = true := by rw [m3]; exact X.plain
    rw [if_pos hpl]
    refine wpAny_bind (value_hash (s := { s with toks := s.toks + ([k.1, k.2].length + 1) }) ha ?_)
    simp only [if_true]
    generalize hP : (t.put j).2 = p at *
    generalize hT : (t.put j).1 = t1 at *
    have hpe : p ≤ ents.length := by
      rw [← hP]
      show SetTable.below t.place j ≤ _
      rw [← X.tab.sz, Array.length_toList]
      exact (below_spec j X.tab.inc).1
    have hes1 : (SetTable.insertAt es p (hp k, Value.ref a)).toList = (ents.take p ++ (k, a) :: ents.drop p).map enc := by
      rw [insertAt_list, hes, List.map_append, List.map_cons, List.map_take, List.map_drop]
      rfl
    have hperm : (ents.take p ++ (k, a) :: ents.drop p).Perm ((k, a) :: ents) := by
      have := List.perm_middle (a := (k, a)) (l₁ := ents.take p) (l₂ := ents.drop p)
      rw [List.take_append_drop] at this
      exact this
    have hlen1 : (ents.take p ++ (k, a) :: ents.drop p).length = ents.length + 1 := by rw [hperm.length_eq, List.length_cons]
    have hz1 : (SetTable.insertAt es p (hp k, Value.ref a)).size = ents.length + 1 := by rw [← Array.length_toList, hes1, List.length_map, hlen1]
    have hsm := T'.small
    rw [hlen1] at hsm
    refine wpAny_bind (wpAny_storeSet_of ho rfl ?_ (by rw [hz1, sizeLine_eq]; omega))
    have hg := Heap.get?_update_self (Obj.putSet (SetTable.insertAt es p (hp k, Value.ref a)) t1) ho (by rfl)
    have hsb := Heap.SameBut.update s.heap S (Obj.putSet (SetTable.insertAt es p (hp k, Value.ref a)) t1)
    have hkeys : ∀ e ∈ ents.take p ++ (k, a) :: ents.drop p, IsTupleKey (intKind prog w) (s.heap.update S (Obj.putSet (SetTable.insertAt es p (hp k, Value.ref a)) t1)) [e.1.1, e.1.2] e.2 := fun e he => by
      rcases List.mem_cons.mp (hperm.mem_iff.mp he) with z | z
      · rw [z]; exact key_keep ho ha hsb
      · exact key_keep ho (X.keys e z) hsb
    have hfill : t1.fill = ents.length + 1 := by
      unfold SetTable.fill
      rw [T'.dm, ← Array.length_toList, T'.sz, hlen1]
      rfl
    have h1e : (if k ∈ ents.map (·.1) then ents else (k, a) :: ents) = (k, a) :: ents := if_neg hm
    rw [h1e] at h
    by_cases hfull : t1.tooFull = true
    · rw [hfull]
      simp only [Bool.not_false, Bool.and_self, if_true]
      have n5 : ents.length + 1 = 5 ∧ t1.mask = 7 := by
        unfold SetTable.tooFull at hfull
        rw [hfill] at hfull
        have hd := of_decide_eq_true hfull
        rcases T'.msk with e | e
        · rw [e] at hd
          have := X.room (by rw [← m1]; exact e)
          exact ⟨by omega, e⟩
        · rw [e] at hd
          omega
      have hgr : SetTable.grown (es.size + 1) = 20 := by rw [hz, n5.1]; rfl
      rw [hgr]
      have hlen5 : (ents.take p ++ (k, a) :: ents.drop p).length = 5 := by rw [hlen1]; exact n5.1
      obtain ⟨t2, order, r1, r2, r3, r4, r5, r6⟩ := T'.relaid (by omega) hlen5
      have hho : (s.heap.update S (Obj.putSet (SetTable.insertAt es p (hp k, Value.ref a)) t1)).get? S = some { cls := .type "set", dict := none, data := .set (SetTable.insertAt es p (hp k, Value.ref a)) (ep + 1) t1, slots := #[] } := hg
      have hfit1 : t1.fits (SetTable.insertAt es p (hp k, Value.ref a)).size = true := T'.fits (by rw [hlen5, n5.2]; decide) (by rw [hz1, hlen1])
      unfold setRelay
      refine wpAny_bind (wpAny_bind (wpAny_setState_of hho rfl hfit1 ?_))
      dsimp only
      rw [sizeAbove20, if_neg (by rw [sizeLine_eq]; decide)]
      have hmap : (SetTable.insertAt es p (hp k, Value.ref a)).map (·.1) = (((ents.take p ++ (k, a) :: ents.drop p).map (·.1)).map hp).toArray := by
        apply Array.toList_inj.mp
        rw [Array.toList_map, hes1, List.map_map, List.map_map]
        rfl
      rw [hmap, r1]
      have hpick : (order.filterMap (fun i => (SetTable.insertAt es p (hp k, Value.ref a))[i]?)).toList = (order.toList.filterMap fun i => (ents.take p ++ (k, a) :: ents.drop p)[i]?).map enc := by
        rw [Array.toList_filterMap, List.map_filterMap]
        congr 1
        funext i
        rw [← Array.getElem?_toList, hes1, List.getElem?_map]
      have hpsz : (order.filterMap (fun i => (SetTable.insertAt es p (hp k, Value.ref a))[i]?)).size = 5 := by
        rw [← Array.length_toList, hpick, List.length_map, r3.length_eq, hlen5]
      refine wpAny_bind (wpAny_of_eq (a := (order.filterMap (fun i => (SetTable.insertAt es p (hp k, Value.ref a))[i]?), t2)) ?_ ?_)
      · show (if ((order.filterMap (fun i => (SetTable.insertAt es p (hp k, Value.ref a))[i]?)).size != (SetTable.insertAt es p (hp k, Value.ref a)).size) = true then _ else _) = _
        rw [if_neg (by rw [hpsz, hz1, n5.1]; decide)]
      · dsimp only
        have hsb2 := hsb.trans (Heap.SameBut.update (s.heap.update S (Obj.putSet (SetTable.insertAt es p (hp k, Value.ref a)) t1)) S (Obj.putSet (order.filterMap (fun i => (SetTable.insertAt es p (hp k, Value.ref a))[i]?)) t2))
        have hg2 := Heap.get?_update_self (Obj.putSet (order.filterMap (fun i => (SetTable.insertAt es p (hp k, Value.ref a))[i]?)) t2) hho (by rfl)
        refine wpAny_storeSet_of hho rfl (wpAny_pure ?_) (by rw [hpsz, sizeLine_eq]; decide)
        have r3' := r3.trans hperm
        refine h true _ _ t2 _ hsb2 ⟨⟨_, _, hg2, hpick⟩, r2, fun e he => ?_, fun e7 => ?_, by rw [r6]; exact hpl, by rw [r5, m2]; exact X.led⟩ r3'
        · rcases List.mem_cons.mp (r3'.mem_iff.mp he) with z | z
          · rw [z]; exact key_keep ho ha hsb2
          · exact key_keep ho (X.keys e z) hsb2
        · rw [r4] at e7
          cases e7
    · have hfull' : t1.tooFull = false := by simpa using hfull
      rw [hfull']
      simp only [Bool.and_false, Bool.false_eq_true, if_false]
      refine wpAny_pure (h true _ _ t1 _ hsb ⟨⟨_, _, hg, hes1⟩, T', hkeys, fun e7 => ?_, hpl, by rw [m2]; exact X.led⟩ hperm)
      unfold SetTable.tooFull at hfull'
      rw [hfill, e7] at hfull'
      have := of_decide_eq_false hfull'
      omega
end
end GS

set_option Elab.async false
set_option linter.all false
set_option maxRecDepth 100000
set_option maxHeartbeats 4000000
namespace GS
open PySem
theorem slot_si_next : Slot "set_iterator" "__next__" "set_iterator.__next__" :=
  .of (owner := "set_iterator") (n := "__next__") (by rw [typeLookup_type, builtinLookup_eq_fast]; kernel_rfl) (by decide +kernel) (by decide +kernel) (by decide +kernel)
    (by first | exact .inl (by decide +kernel) | exact .inr (by decide +kernel)) (by rw [isSubtype_type]; kernel_rfl)
theorem entry_si_next : entryFor table "set_iterator.__next__" = some Builtin.«set_iterator.__next__» := entryFor_of_fast (by kernel_rfl)
theorem args_si_next (a : Value) : argsOk "set_iterator.__next__" ⟨[a], []⟩ := by unfold argsOk; kernel_rfl
theorem entry_set_it : entryFor table "set.__iter__" = some Builtin.«frozenset.__iter__» := entryFor_alias (id' := "frozenset.__iter__") (by kernel_rfl) rfl (by decide +kernel) (by kernel_rfl)

theorem erase_perm {α : Type} : ∀ (l : List α) (i : Nat) (x : α), l[i]? = some x → (x :: l.eraseIdx i).Perm l
  | [], i, x, h => by simp at h
  | a :: r, 0, x, h => by
    have : a = x := by simpa using h
    subst this
    exact List.Perm.refl _
  | a :: r, i + 1, x, h => by
    have ih := erase_perm r i x (by simpa using h)
    rw [List.eraseIdx_cons_succ]
    exact (List.Perm.swap a x _).trans (List.Perm.cons a ih)
theorem pick_go {α : Type} (next : Nat → Nat) : ∀ (fuel k : Nat) (left : List α) (out : Array α), left.length ≤ fuel → (pickOrder.go next fuel k left out).toList.Perm (out.toList ++ left)
  | 0, k, left, out, h => by
    have : left = [] := List.eq_nil_of_length_eq_zero (by omega)
    subst this
    unfold pickOrder.go
    simp
  | fuel + 1, k, left, out, h => by
    unfold pickOrder.go
    cases q : left[next k % left.length]? with
    | none =>
      have : left.length = 0 := by
        by_cases hz : left.length = 0
        · exact hz
        · have := Nat.mod_lt (next k) (Nat.pos_of_ne_zero hz)
          rw [List.getElem?_eq_getElem this] at q
          cases q
      have : left = [] := List.eq_nil_of_length_eq_zero this
      subst this
      simp
    | some x =>
      obtain ⟨hlt, e⟩ := List.getElem?_eq_some_iff.mp q
      have ih := pick_go next fuel (k + 1) (left.eraseIdx (next k % left.length)) (out.push x) (by rw [List.length_eraseIdx_of_lt hlt]; omega)
      refine ih.trans ?_
      rw [Array.toList_push, List.append_assoc]
      refine List.Perm.append_left _ ?_
      exact erase_perm left _ x q
theorem pick_perm {α : Type} (next : Nat → Nat) (xs : Array α) : (pickOrder next xs).toList.Perm xs.toList := by
  have := pick_go next xs.size 0 xs.toList #[] (by simp)
  unfold pickOrder
  simpa using this

section
variable {prog : Program} {w : World} {A : Around} {E : Value → Shared → Prop} {s : Shared}
theorem byText {Q : Bool → Shared → Prop} (h : Q (w.params.followText "set-order") s) : wpAny (model prog w) A setsByText Q E s := by
  unfold setsByText
  exact wpAny_bind (wpAny_askSetting (wpAny_pure h))
/-- the order in which the members come -/
def ordOf (w : World) (S : Addr) (ep : Nat) (es : Array (Int × Value)) : Array (Int × Value) := if w.params.followText "set-order" = true then pickOrder (w.params.setOrder S ep) es else es
theorem ord_perm (w : World) (S : Addr) (ep : Nat) (es : Array (Int × Value)) : (ordOf w S ep es).toList.Perm es.toList := by
  unfold ordOf
  split
  · exact pick_perm _ _
  · exact List.Perm.refl _
theorem drawn_no {a : Addr} {o : Obj} {es : Array (Int × Value)} {ep : Nat} {t : SetTable} {Q : Bool → Shared → Prop} (ho : s.heap.get? a = some o) (hd : o.data = .set es ep t) (hf : t.fits es.size = true) (hp : t.plain = true) (h : Q false s) :
    wpAny (model prog w) A (setDrawn a) Q E s := by
  unfold setDrawn
  refine wpAny_bind (wpAny_setState_of ho hd hf ?_)
  dsimp only
  refine wpAny_bind (byText (wpAny_pure ?_))
  have e : (!w.params.followText "set-order" && (!t.plain && decide (es.size > 1))) = false := by rw [hp]; simp
  show Q (!w.params.followText "set-order" && (!t.plain && decide (es.size > 1))) s
  rw [e]
  exact h
/-- the iterator's object -/
def itObj (S : Addr) (n ep slot i : Nat) : Obj := { cls := .type "set_iterator", data := .fields #[rawInt slot, rawInt i, .ref S, rawInt n, rawInt ep] }
theorem iter_set {S : Addr} {es : Array (Int × Value)} {ep : Nat} {t : SetTable} {Q : Value → Shared → Prop} (ho : s.heap.get? S = some { cls := .type "set", dict := none, data := .set es ep t, slots := #[] }) (hf : t.fits es.size = true) (hp : t.plain = true)
    (h : Q (.ref s.heap.objs.size) { s with heap := s.heap.push (itObj S es.size ep 0 0) }) : wpAny (model prog w) A (pyIter (.ref S)) Q E s := by
  have hT : s.TypeIs (.ref S) "set" := ⟨_, ho, rfl⟩
  refine wpAny_pyIter_slot hT F.slot_set_iter (wpAny_call_entry F.slot_set_iter hT entry_set_it ?_ (F.args_set_iter_1 _))
  unfold Builtin.«frozenset.__iter__» Builtin.Frozenset.slot0 slotArgs
  simp only [List.isEmpty_nil, Bool.not_true, Bool.false_eq_true, ↓reduceIte, bind_assoc, List.length_nil, bne_self_eq_false]
  unfold Builtin.Frozenset.addrOf Builtin.Frozenset.sizeOf
  refine wpAny_bind (wpAny_pure ?_)
  try dsimp only
  refine wpAny_bind (wpAny_pure ?_)
  refine wpAny_bind (wpAny_bind (wpAny_setEntries_of ho rfl hf (wpAny_pure ?_)))
  refine wpAny_bind (drawn_no ho rfl hf hp ?_)
  simp only [Bool.false_eq_true, if_false]
  refine wpAny_bind (wpAny_pure ?_)
  refine wpAny_bind (wpAny_setEpoch_of ho rfl hf ?_)
  refine wpAny_bind (wpAny_newObj_type (wpAny_pure ⟨_, rfl, "set_iterator", _, ⟨_, Heap.get?_push_size _ rfl, rfl⟩, slot_si_next.lookup, h⟩))

/-- where the walk stands behind i members -/
def slotAt (w : World) (t : SetTable) (i : Nat) : Nat := if w.params.followText "set-order" = true then 0 else if i = 0 then 0 else t.place.getD (i - 1) 0 + 1
theorem fields_at {a : Addr} {o : Obj} {vs : Array Value} {Q : Array Value → Shared → Prop} (ho : s.heap.get? a = some o) (hd : o.data = .fields vs) (h : Q vs s) : wpAny (model prog w) A (fieldsOf (.ref a)) Q E s := by
  unfold fieldsOf
  dsimp only
  refine wpAny_bind (wpAny_load ho ?_)
  rw [hd]
  exact wpAny_pure h
section
variable {S : Addr} {es : Array (Int × Value)} {ep : Nat} {t : SetTable} {ents : List Ent} {i : Nat} {Q : Option (Value × Nat) → Shared → Prop}
theorem next_at {x : Int × Value} (ho : s.heap.get? S = some { cls := .type "set", dict := none, data := .set es ep t, slots := #[] }) (hes : es.toList = ents.map enc) (T : Tab t ents) (hl : ents.length ≤ t.mask) (hp : t.plain = true) (hled : t.led = !(w.params.followText "set-order"))
    (hx : (ordOf w S ep es)[i]? = some x) (h : Q (some (x.2, slotAt w t (i + 1))) s) : wpAny (model prog w) A (setNext S (slotAt w t i) i ep) Q E s := by
  have hz : es.size = ents.length := by rw [← Array.length_toList, hes, List.length_map]
  have hf : t.fits es.size = true := T.fits hl hz
  unfold setNext
  refine wpAny_bind (wpAny_setState_of ho rfl hf ?_)
  dsimp only
  refine wpAny_bind (byText ?_)
  cases hb : w.params.followText "set-order" with
  | true =>
    simp only [if_true]
    have e : (ep != ep) = false := by simp
    rw [e]
    simp only [Bool.false_eq_true, if_false]
    unfold setWalk
    refine wpAny_bind (wpAny_bind (wpAny_setState_of ho rfl hf ?_))
    dsimp only
    refine wpAny_bind (byText ?_)
    rw [hb]
    simp only [if_true]
    refine wpAny_bind (wpAny_askSetting (wpAny_pure (wpAny_pure ?_)))
    unfold ordOf at hx
    rw [hb, if_pos rfl] at hx
    show Q (((pickOrder (w.params.setOrder S ep) es)[i]?).map fun e => (e.2, slotAt w t i)) s
    rw [hx]
    unfold slotAt at h ⊢
    rw [hb, if_pos rfl] at h
    rw [hb, if_pos rfl]
    exact h
  | false =>
    simp only [Bool.false_eq_true, if_false]
    unfold ordOf at hx
    rw [hb, if_neg Bool.false_ne_true] at hx
    have hd : (!t.plain && decide (es.size > 1)) = false := by rw [hp]; simp
    have hl2 : (!t.led && !es.isEmpty) = false := by rw [hled, hb]; simp
    show wpAny _ _ (if (!t.plain && decide (es.size > 1)) = true then _ else _) _ _ s
    rw [hd]
    simp only [Bool.false_eq_true, if_false]
    refine wpAny_bind (m := (if (!t.led && !es.isEmpty) = true then unsupported "set:maker-not-led" else pure ())) ?_
    rw [hl2]
    simp only [Bool.false_eq_true, if_false]
    refine wpAny_pure ?_
    have hi : i < es.size := (Array.getElem?_eq_some_iff.mp hx).1
    have hpl : i < t.place.toList.length := by rw [T.sz, ← hz]; exact hi
    have hbel : SetTable.below t.place (slotAt w t i) = i := by
      unfold slotAt
      rw [hb, if_neg Bool.false_ne_true]
      obtain ⟨b1, b2, b3⟩ := below_spec (if i = 0 then 0 else t.place.getD (i - 1) 0 + 1) T.inc
      have gi : t.place.toList[i]? = some t.place.toList[i] := List.getElem?_eq_getElem hpl
      rcases Nat.lt_trichotomy (SetTable.below t.place (if i = 0 then 0 else t.place.getD (i - 1) 0 + 1)) i with q | q | q
      · -- then the one ahead of i is at least its own successor
        have i0 : i ≠ 0 := by omega
        have hp1 : i - 1 < t.place.toList.length := by omega
        have g1 : t.place.toList[i - 1]? = some t.place.toList[i - 1] := List.getElem?_eq_getElem hp1
        have gd : t.place.getD (i - 1) 0 = t.place.toList[i - 1] := by
          have hs : i - 1 < t.place.size := by rw [← Array.length_toList]; exact hp1
          rw [Array.getD_eq_getD_getElem?, Array.getElem?_eq_getElem hs]
          simp
        have := b3 (i - 1) _ (by omega) g1
        rw [if_neg i0, gd] at this
        omega
      · exact q
      · have := b2 i _ q gi
        by_cases i0 : i = 0
        · rw [if_pos i0] at this
          omega
        · have hp1 : i - 1 < t.place.toList.length := by omega
          have g1 : t.place.toList[i - 1]? = some t.place.toList[i - 1] := List.getElem?_eq_getElem hp1
          have gd : t.place.getD (i - 1) 0 = t.place.toList[i - 1] := by
            have hs : i - 1 < t.place.size := by rw [← Array.length_toList]; exact hp1
            rw [Array.getD_eq_getD_getElem?, Array.getElem?_eq_getElem hs]
            simp
          have h4 := inc_get T.inc g1 gi (by omega)
          rw [if_neg i0, gd] at this
          omega
    rw [hbel, hx]
    have hs : i < t.place.size := by rw [← Array.length_toList]; exact hpl
    rw [Array.getElem?_eq_getElem hs]
    refine wpAny_pure ?_
    unfold slotAt at h
    rw [hb, if_neg Bool.false_ne_true, if_neg (Nat.succ_ne_zero i)] at h
    have e5 : t.place.getD (i + 1 - 1) 0 = t.place[i] := by
      rw [Nat.add_sub_cancel, Array.getD_eq_getD_getElem?, Array.getElem?_eq_getElem hs]
      rfl
    rw [e5] at h
    exact h
theorem next_none (ho : s.heap.get? S = some { cls := .type "set", dict := none, data := .set es ep t, slots := #[] }) (hes : es.toList = ents.map enc) (T : Tab t ents) (hl : ents.length ≤ t.mask) (hp : t.plain = true) (hled : t.led = !(w.params.followText "set-order"))
    (hx : i = es.size) (h : Q none s) : wpAny (model prog w) A (setNext S (slotAt w t i) i ep) Q E s := by
  have hz : es.size = ents.length := by rw [← Array.length_toList, hes, List.length_map]
  have hf : t.fits es.size = true := T.fits hl hz
  unfold setNext
  refine wpAny_bind (wpAny_setState_of ho rfl hf ?_)
  dsimp only
  refine wpAny_bind (byText ?_)
  cases hb : w.params.followText "set-order" with
  | true =>
    simp only [if_true]
    have e : (ep != ep) = false := by simp
    rw [e]
    simp only [Bool.false_eq_true, if_false]
    unfold setWalk
    refine wpAny_bind (wpAny_bind (wpAny_setState_of ho rfl hf ?_))
    dsimp only
    refine wpAny_bind (byText ?_)
    rw [hb]
    simp only [if_true]
    refine wpAny_bind (wpAny_askSetting (wpAny_pure (wpAny_pure ?_)))
    show Q (((pickOrder (w.params.setOrder S ep) es)[i]?).map fun e => (e.2, slotAt w t i)) s
    have hn : (pickOrder (w.params.setOrder S ep) es)[i]? = none := by
      rw [Array.getElem?_eq_none_iff, ← Array.length_toList, (pick_perm _ _).length_eq, Array.length_toList, hx]
      exact Nat.le_refl _
    rw [hn]
    exact h
  | false =>
    simp only [Bool.false_eq_true, if_false]
    have hd : (!t.plain && decide (es.size > 1)) = false := by rw [hp]; simp
    have hl2 : (!t.led && !es.isEmpty) = false := by rw [hled, hb]; simp
    show wpAny _ _ (if (!t.plain && decide (es.size > 1)) = true then _ else _) _ _ s
    rw [hd]
    simp only [Bool.false_eq_true, if_false]
    refine wpAny_bind (m := (if (!t.led && !es.isEmpty) = true then unsupported "set:maker-not-led" else pure ())) ?_
    rw [hl2]
    simp only [Bool.false_eq_true, if_false]
    refine wpAny_pure ?_
    have hbel : es.size ≤ SetTable.below t.place (slotAt w t i) := by
      unfold slotAt
      rw [hb, if_neg Bool.false_ne_true]
      obtain ⟨b1, b2, b3⟩ := below_spec (if i = 0 then 0 else t.place.getD (i - 1) 0 + 1) T.inc
      rcases Nat.lt_or_ge (SetTable.below t.place (if i = 0 then 0 else t.place.getD (i - 1) 0 + 1)) es.size with q | q
      · have i0 : i ≠ 0 := by omega
        have hp1 : i - 1 < t.place.toList.length := by rw [T.sz, ← hz]; omega
        have g1 : t.place.toList[i - 1]? = some t.place.toList[i - 1] := List.getElem?_eq_getElem hp1
        have gd : t.place.getD (i - 1) 0 = t.place.toList[i - 1] := by
          have hs : i - 1 < t.place.size := by rw [← Array.length_toList]; exact hp1
          rw [Array.getD_eq_getD_getElem?, Array.getElem?_eq_getElem hs]
          simp
        have := b3 (i - 1) _ (by omega) g1
        rw [if_neg i0, gd] at this
        omega
      · exact q
    rw [Array.getElem?_eq_none_iff.mpr hbel]
    exact wpAny_pure h
end
theorem next_item {S I : Addr} {es : Array (Int × Value)} {ep : Nat} {t : SetTable} {ents : List Ent} {i : Nat} {x : Int × Value} {Q : Option Value → Shared → Prop}
    (ho : s.heap.get? S = some { cls := .type "set", dict := none, data := .set es ep t, slots := #[] }) (hes : es.toList = ents.map enc) (T : Tab t ents) (hl : ents.length ≤ t.mask) (hp : t.plain = true) (hled : t.led = !(w.params.followText "set-order"))
    (hI : s.heap.get? I = some (itObj S es.size ep (slotAt w t i) i)) (hx : (ordOf w S ep es)[i]? = some x)
    (h : ∀ h', h'.get? I = some (itObj S es.size ep (slotAt w t (i + 1)) (i + 1)) → Heap.SameBut I s.heap h' → Q (some x.2) { s with heap := h' }) : wpAny (model prog w) A (pyNext (.ref I)) Q E s := by
  have hz : es.size = ents.length := by rw [← Array.length_toList, hes, List.length_map]
  have hf : t.fits es.size = true := T.fits hl hz
  have hT : s.TypeIs (.ref I) "set_iterator" := ⟨_, hI, rfl⟩
  unfold pyNext
  refine wpAny_bind (wpAny_attempt (wpAny_callSpecial?_slot (name := Str.ofString "__next__") hT slot_si_next (wpAny_call_entry slot_si_next hT entry_si_next ?_ (args_si_next _))))
  unfold Builtin.«set_iterator.__next__» slotArgs
  simp only [List.isEmpty_nil, Bool.not_true, Bool.false_eq_true, ↓reduceIte, bind_assoc, List.length_nil, bne_self_eq_false]
  refine wpAny_bind (wpAny_pure ?_)
  refine wpAny_bind (fields_at hI rfl ?_)
  show wpAny _ _ (setEntries S >>= _) _ _ s
  refine wpAny_bind (wpAny_setEntries_of ho rfl hf ?_)
  have e1 : (((es.size : Nat) : Int) != ((es.size : Nat) : Int)) = false := by simp
  show wpAny _ _ (if (((es.size : Nat) : Int) != ((es.size : Nat) : Int)) = true then _ else _) _ _ s
  rw [e1]
  simp only [Bool.false_eq_true, if_false]
  show wpAny _ _ (setNext S ((slotAt w t i : Nat) : Int).toNat ((i : Nat) : Int).toNat ((ep : Nat) : Int).toNat >>= _) _ _ s
  rw [Int.toNat_natCast, Int.toNat_natCast, Int.toNat_natCast]
  refine wpAny_bind (next_at ho hes T hl hp hled hx ?_)
  dsimp only
  refine wpAny_bind (wpAny_setField_rec hI (by simp) fun h1 g1 b1 => ?_)
  refine wpAny_bind (wpAny_setField_rec g1 (by simp) fun h2 g2 b2 => ?_)
  refine wpAny_pure ⟨x.2, rfl, wpAny_pure (h h2 ?_ (b1.trans b2))⟩
  rw [g2]
  rfl
theorem next_end {S I : Addr} {es : Array (Int × Value)} {ep : Nat} {t : SetTable} {ents : List Ent} {i : Nat} {Q : Option Value → Shared → Prop} (hh : A.handled = none)
    (ho : s.heap.get? S = some { cls := .type "set", dict := none, data := .set es ep t, slots := #[] }) (hes : es.toList = ents.map enc) (T : Tab t ents) (hl : ents.length ≤ t.mask) (hp : t.plain = true) (hled : t.led = !(w.params.followText "set-order"))
    (hI : s.heap.get? I = some (itObj S es.size ep (slotAt w t i) i)) (hx : i = es.size)
    (h : ∀ h', Heap.ExtBut I s.heap h' → Q none { s with heap := h' }) : wpAny (model prog w) A (pyNext (.ref I)) Q E s := by
  have hz : es.size = ents.length := by rw [← Array.length_toList, hes, List.length_map]
  have hf : t.fits es.size = true := T.fits hl hz
  have hT : s.TypeIs (.ref I) "set_iterator" := ⟨_, hI, rfl⟩
  unfold pyNext
  refine wpAny_bind (wpAny_attempt (wpAny_callSpecial?_slot (name := Str.ofString "__next__") hT slot_si_next (wpAny_call_entry slot_si_next hT entry_si_next ?_ (args_si_next _))))
  unfold Builtin.«set_iterator.__next__» slotArgs
  simp only [List.isEmpty_nil, Bool.not_true, Bool.false_eq_true, ↓reduceIte, bind_assoc, List.length_nil, bne_self_eq_false]
  refine wpAny_bind (wpAny_pure ?_)
  refine wpAny_bind (fields_at hI rfl ?_)
  show wpAny _ _ (setEntries S >>= _) _ _ s
  refine wpAny_bind (wpAny_setEntries_of ho rfl hf ?_)
  have e1 : (((es.size : Nat) : Int) != ((es.size : Nat) : Int)) = false := by simp
  show wpAny _ _ (if (((es.size : Nat) : Int) != ((es.size : Nat) : Int)) = true then _ else _) _ _ s
  rw [e1]
  simp only [Bool.false_eq_true, if_false]
  show wpAny _ _ (setNext S ((slotAt w t i : Nat) : Int).toNat ((i : Nat) : Int).toNat ((ep : Nat) : Int).toNat >>= _) _ _ s
  rw [Int.toNat_natCast, Int.toNat_natCast, Int.toNat_natCast]
  refine wpAny_bind (next_none ho hes T hl hp hled hx ?_)
  dsimp only
  refine wpAny_bind (wpAny_setField hI rfl (by simp) ?_)
  show wpAny _ _ (newExc (.type "StopIteration") [] >>= _) _ _ _
  refine wpAny_bind ?_
  simp only [newExc, newTuple]
  refine wpAny_bind (wpAny_newObj_type ?_ (by size_fits))
  refine wpAny_bind (m := firstArgMember _ _) (wpAny_of_eq (a := Value.none) (by first | rfl | (simp only [firstArgMember]; rfl)) ?_)
  refine wpAny_newObj_type ?_ (by size_fits)
  simp only [raiseNew]
  refine wpAny_bind (wpAny_handled ?_)
  rw [show A.in1.handled = none from hh]
  refine wpAny_bind (wpAny_pure (wpAny_throw ?_))
  refine wpAny_bind (wpAny_isInstance (T := "StopIteration") (b := true) ⟨_, Heap.get?_push_size _ rfl, rfl⟩ isSubtype_stop ?_)
  exact wpAny_pure (h _ (((Heap.SameBut.update ..).extBut.push _).push _))
end
end GS

set_option Elab.async false
set_option linter.all false
set_option maxRecDepth 100000
set_option maxHeartbeats 4000000
namespace GS
open PySem
theorem slot_si_iter : Slot "set_iterator" "__iter__" "set_iterator.__iter__" :=
  .of (owner := "set_iterator") (n := "__iter__") (by rw [typeLookup_type, builtinLookup_eq_fast]; kernel_rfl) (by decide +kernel) (by decide +kernel) (by decide +kernel)
    (by first | exact .inl (by decide +kernel) | exact .inr (by decide +kernel)) (by rw [isSubtype_type]; kernel_rfl)
theorem entry_si_iter : entryFor table "set_iterator.__iter__" = some Builtin.«dict_keyiterator.__iter__» := entryFor_alias (id' := "dict_keyiterator.__iter__") (by kernel_rfl) rfl (by decide +kernel) (by kernel_rfl)
theorem args_si_iter (a : Value) : argsOk "set_iterator.__iter__" ⟨[a], []⟩ := by unfold argsOk; kernel_rfl
section
variable {prog : Program} {w : World} {A : Around} {E : Value → Shared → Prop} {s : Shared} {S I : Addr} {es : Array (Int × Value)} {ep : Nat} {t : SetTable} {ents : List Ent}
theorem walks_set (hh : A.handled = none) (hes : es.toList = ents.map enc) (T : Tab t ents) (hl : ents.length ≤ t.mask) (hp : t.plain = true) (hled : t.led = !(w.params.followText "set-order")) (hne : S ≠ I) :
    Walks prog w A I [I, S] [I] es.size (fun i v => ∃ x, (ordOf w S ep es)[i]? = some x ∧ v = x.2)
      (fun i h => h.get? I = some (itObj S es.size ep (slotAt w t i) i) ∧ h.get? S = some { cls := .type "set", dict := none, data := .set es ep t, slots := #[] }) where
  sub := fun b hb => by simp at hb; simp [hb]
  frame := fun i h h' st hk => ⟨hk I (by simp) _ st.1, hk S (by simp) _ st.2⟩
  item := fun i s Q E hi st hQ => by
    have hlen : (ordOf w S ep es).size = es.size := by rw [← Array.length_toList, (ord_perm w S ep es).length_eq, Array.length_toList]
    have hx : (ordOf w S ep es)[i]? = some (ordOf w S ep es)[i] := Array.getElem?_eq_getElem (by rw [hlen]; exact hi)
    refine next_item st.2 hes T hl hp hled st.1 hx fun h' g sb => ?_
    exact hQ _ h' s.toks ⟨_, hx, rfl⟩ ⟨g, (sb.2 S hne).trans st.2⟩ fun b o hb e => (sb.2 b (fun h => hb (by simp [h]))).trans e
  done := fun s Q E st hQ => next_end hh st.2 hes T hl hp hled st.1 rfl fun h' he => hQ h' s.toks fun b o hb e => he b o (fun h => hb (by simp [h])) e
  self := fun i s Q E st hQ => by
    have hT : s.TypeIs (.ref I) "set_iterator" := ⟨_, st.1, rfl⟩
    refine wpAny_pyIter_slot hT slot_si_iter (wpAny_call_entry slot_si_iter hT entry_si_iter ?_ (args_si_iter _))
    show wpAny _ _ (ret (.ref I)) _ _ s
    exact wpAny_pure ⟨_, rfl, "set_iterator", _, hT, slot_si_next.lookup, hQ⟩
theorem slot_zero {w : World} {t : SetTable} : slotAt w t 0 = 0 := by unfold slotAt; split <;> rfl
theorem set_len_slot : typeLookup (.type "set") "__len__" = pure (some (.builtin "set.__len__")) := F.slot_set_len.lookup
/-- all members of a set, in the order in which they come -/
theorem collect_set {Q : List Value → Shared → Prop} (hh : A.handled = none) (ho : s.heap.get? S = some { cls := .type "set", dict := none, data := .set es ep t, slots := #[] }) (hes : es.toList = ents.map enc) (T : Tab t ents) (hl : ents.length ≤ t.mask) (hp : t.plain = true)
    (hled : t.led = !(w.params.followText "set-order")) (hn : es.size ≤ sizeLine)
    (h : ∀ h' tk, (∀ b o, s.heap.get? b = some o → h'.get? b = some o) → Q ((ordOf w S ep es).toList.map (·.2)) { s with heap := h', toks := tk }) : wpAny (model prog w) A (collect (.ref S)) Q E s := by
  have hz : es.size = ents.length := by rw [← Array.length_toList, hes, List.length_map]
  have hf : t.fits es.size = true := T.fits hl hz
  have hlt : S < s.heap.objs.size := Heap.lt_size ho
  unfold collect
  refine wpAny_bind (wpAny_runValue (codeAny_builtin F.entry_proto_collect ?_))
  rw [Around.under_plainId F.plain_proto_collect _]
  show wpAny _ A.in1 (newList [] >>= fun l => again (.builtin "list.__iadd__" ⟨[l, .ref S], []⟩)) _ _ s
  refine wpAny_bind (wpAny_newObj_type ?_)
  refine wpAny_pure ⟨plainId_quiet F.plain_list_iadd _, codeAny_builtin F.entry_list_iadd ?_⟩
  rw [Around.under_plainId F.plain_list_iadd _]
  have ho1 : (s.heap.push { cls := .type "list", data := .seq ([] : List Value).toArray }).get? S = some { cls := .type "set", dict := none, data := .set es ep t, slots := #[] } := Heap.get?_push_of_some _ ho
  have hT1 : Shared.TypeIs { s with heap := s.heap.push { cls := .type "list", data := .seq ([] : List Value).toArray } } (.ref S) "set" := ⟨_, ho1, rfl⟩
  have hL1 : (s.heap.push { cls := .type "list", data := .seq ([] : List Value).toArray }).get? s.heap.objs.size = some { cls := .type "list", data := .seq ([] : List Value).toArray } := Heap.get?_push_size _ rfl
  show wpAny _ A.in1 (Builtin.List.listExtendWith (.ref s.heap.objs.size) (.ref S) (.ref s.heap.objs.size)) _ _ _
  unfold Builtin.List.listExtendWith
  refine wpAny_bind (wpAny_typeOf hT1 ?_)
  have h1 : Builtin.List.listSameRef (.ref s.heap.objs.size) (.ref S) = false := by
    have : s.heap.objs.size ≠ S := Nat.ne_of_gt hlt
    simp [Builtin.List.listSameRef, this]
  have h2 : (Value.type "set" == Value.type "list") = false := by decide
  have h3 : (Value.type "set" == Value.type "tuple") = false := by decide
  simp only [h1, h2, h3, Bool.or_false, Bool.false_eq_true, if_false]
  refine wpAny_bind (iter_set ho1 hf hp ?_)
  have hT2 : Shared.TypeIs { s with heap := (s.heap.push { cls := .type "list", data := .seq ([] : List Value).toArray }).push (itObj S es.size ep 0 0) } (.ref S) "set" := ⟨_, Heap.get?_push_of_some _ ho1, rfl⟩
  refine wpAny_bind (wpAny_holding ?_)
  unfold Builtin.List.listLengthHint
  refine wpAny_bind (wpAny_specialOf hT2 set_len_slot ?_)
  dsimp only
  have e1 : splitId "set.__len__" = some ("set", "__len__") := by kernel_rfl
  rw [e1]
  dsimp only
  refine wpAny_bind (wpAny_isInstance (b := true) hT2 (by rw [isSubtype_type]; kernel_rfl) ?_)
  rw [if_neg (by decide)]
  rw [if_pos (by decide +kernel)]
  refine wpAny_bind (wpAny_typeOf hT2 (wpAny_pure ?_))
  rw [if_pos (by decide +kernel)]
  refine wpAny_bind (wpAny_rule ?_)
  have hL2 : ((s.heap.push { cls := .type "list", data := .seq ([] : List Value).toArray }).push (itObj S es.size ep 0 0)).get? s.heap.objs.size = some { cls := .type "list", data := .seq ([] : List Value).toArray } := Heap.get?_push_of_some _ hL1
  refine wpAny_bind ?_
  show wpAny _ A.in1 (updateSeq s.heap.objs.size (·.push .none) >>= fun _ => updateSeq s.heap.objs.size (·.pop)) _ _ _
  refine wpAny_bind (wpAny_updateSeq hL2 rfl ?_)
  have hL3 := Heap.get?_update_self (Obj.mapSeq (·.push Value.none)) hL2 rfl
  refine wpAny_updateSeq hL3 rfl ?_
  have hL4 := Heap.get?_update_self (Obj.mapSeq (·.pop)) hL3 rfl
  have hI : (s.heap.push { cls := .type "list", data := .seq ([] : List Value).toArray }).objs.size = s.heap.objs.size + 1 := Heap.size_push _ _
  generalize hIe : (s.heap.push { cls := .type "list", data := .seq ([] : List Value).toArray }).objs.size = I at *
  have hLI : s.heap.objs.size ≠ I := by rw [hI]; exact Nat.ne_of_lt (Nat.lt_succ_self _)
  have hSL : S ≠ s.heap.objs.size := Nat.ne_of_lt hlt
  have hSI : S ≠ I := by rw [hI]; exact Nat.ne_of_lt (Nat.lt_succ_of_lt hlt)
  have W := (walks_set (prog := prog) (w := w) (A := A.in1) (ep := ep) hh hes T hl hp hled hSI).toS
  have oth : ∀ b o, b ≠ s.heap.objs.size → ((s.heap.push { cls := .type "list", data := .seq ([] : List Value).toArray }).push (itObj S es.size ep 0 0)).get? b = some o →
      ((((s.heap.push { cls := .type "list", data := .seq ([] : List Value).toArray }).push (itObj S es.size ep 0 0)).update s.heap.objs.size (Obj.mapSeq (·.push Value.none))).update s.heap.objs.size (Obj.mapSeq (·.pop))).get? b = some o :=
    fun b o hb e => (Heap.get?_update_other _ _ (Ne.symm hb)).trans ((Heap.get?_update_other _ _ (Ne.symm hb)).trans e)
  have g1 : ((s.heap.push { cls := .type "list", data := .seq ([] : List Value).toArray }).push (itObj S es.size ep 0 0)).get? I = some (itObj S es.size ep (slotAt w t 0) 0) := by rw [← hIe, slot_zero]; exact Heap.get?_push_size _ rfl
  have g2 := Heap.get?_push_of_some (itObj S es.size ep 0 0) ho1
  have hSf : s.heap.objs.size ∉ [I, S] := fun hm => by
    rcases List.mem_cons.mp hm with e | hm
    · exact hLI e
    · exact hSL (List.mem_singleton.mp hm).symm
  refine wpAny_pure ⟨plainId_quiet F.plain_extend_loop _, codeAny_extend_loopS W hn s.heap.objs.size hSf _ es.size 0 _ _ _ rfl (Nat.zero_le _) ⟨oth _ _ (Ne.symm hLI) g1, oth _ _ hSL g2⟩ hL4 (ItemsOf.nil _) fun s' acc' c' hm hS' hacc => ?_⟩
  show wpAny _ A (load s.heap.objs.size >>= _) _ _ s'
  refine wpAny_bind (wpAny_load hS' ?_)
  have es' : s' = { s with heap := s'.heap, toks := s'.toks } := by
    have e1 : s'.gens = s.gens := hm.gens
    have e2 : s'.drawn = s.drawn := hm.drawn
    have e3 : s'.os = s.os := hm.os
    cases s'
    simp only at e1 e2 e3
    rw [e1, e2, e3]
  have hlen : (ordOf w S ep es).size = es.size := by rw [← Array.length_toList, (ord_perm w S ep es).length_eq, Array.length_toList]
  have eacc : acc'.toList = (ordOf w S ep es).toList.map (·.2) := by
    apply List.ext_getElem?
    intro i
    rw [List.getElem?_map, Array.getElem?_toList, Array.getElem?_toList]
    by_cases hi : i < es.size
    · have h1 : acc'[i]? = some (acc'[i]'(by rw [hacc.1]; exact hi)) := Array.getElem?_eq_getElem _
      obtain ⟨x, hx, hv⟩ := hacc.2 i _ h1
      rw [h1, hx, hv]
      rfl
    · rw [Array.getElem?_eq_none (by rw [hacc.1]; omega), Array.getElem?_eq_none (by rw [hlen]; omega)]
      rfl
  refine wpAny_pure ?_
  rw [eacc, es']
  refine h _ _ fun b o e => ?_
  have hb1 : b ≠ s.heap.objs.size := Nat.ne_of_lt (Heap.lt_size e)
  have hb2 : b ≠ I := by rw [hI]; exact Nat.ne_of_lt (Nat.lt_succ_of_lt (Heap.lt_size e))
  exact hm.heap b o (fun z => by
    rcases List.mem_cons.mp z with z | z
    · exact hb1 z
    · exact hb2 (List.mem_singleton.mp z)) (oth b o hb1 (Heap.get?_push_of_some _ (Heap.get?_push_of_some _ e)))
end
end GS

set_option Elab.async false
set_option linter.all false
set_option maxRecDepth 100000
set_option maxHeartbeats 4000000
namespace GS
open PySem
section
variable {prog : Program} {w : World} {A : Around} {E : Value → Shared → Prop} {s : Shared}
theorem tab_fresh {led : Bool} : Tab (.fresh 0 0 led) [] where
  dm := rfl
  inc := by unfold SetTable.fresh; simp [Inc]
  sz := rfl
  le := fun j hj => by simp [SetTable.fresh] at hj
  msk := .inl rfl
  in15 := fun e he => by simp at he
  nd := by simp
  way := fun i j e hi => by simp [SetTable.fresh] at hi
theorem key_kept {h h' : Heap} {a : Addr} {ks : List Int} (k : IsTupleKey (intKind prog w) h ks a) (hk : ∀ o, h.get? a = some o → h'.get? a = some o) : IsTupleKey (intKind prog w) h' ks a := by
  obtain ⟨o, its, n, e, c⟩ := k
  exact ⟨o, its, n, hk o e, c⟩
theorem SetAt.kept {h h' : Heap} {S : Addr} {t : SetTable} {ents : List Ent} (x : SetAt prog w h S t ents) (hS : ∀ o, h.get? S = some o → h'.get? S = some o) (hk : ∀ e ∈ ents, ∀ o, h.get? e.2 = some o → h'.get? e.2 = some o) : SetAt prog w h' S t ents where
  obj := by
    obtain ⟨es, ep, e, c⟩ := x.obj
    exact ⟨es, ep, hS _ e, c⟩
  tab := x.tab
  keys := fun e he => key_kept (x.keys e he) (hk e he)
  room := x.room
  plain := x.plain
  led := x.led
/-- what the set holds when i members were handed in -/
structure Upto (prog : Program) (w : World) (h : Heap) (S : Addr) (val : Nat → Int × Int) (ad : Nat → Addr) (i : Nat) : Prop where
  ex : ∃ t ents, SetAt prog w h S t ents ∧ (∀ k, k ∈ ents.map (·.1) ↔ ∃ j, j < i ∧ val j = k) ∧ ∀ e ∈ ents, ∃ j, j < i ∧ val j = e.1 ∧ ad j = e.2
theorem Upto.kept {h h' : Heap} {S : Addr} {val : Nat → Int × Int} {ad : Nat → Addr} {i n : Nat} (hin : i ≤ n) (x : Upto prog w h S val ad i) (hS : ∀ o, h.get? S = some o → h'.get? S = some o) (hk : ∀ j, j < n → ∀ o, h.get? (ad j) = some o → h'.get? (ad j) = some o) : Upto prog w h' S val ad i := by
  obtain ⟨t, ents, a, b, c⟩ := x.ex
  refine ⟨t, ents, a.kept hS fun e he o q => ?_, b, c⟩
  obtain ⟨j, hj, _, e2⟩ := c e he
  rw [← e2] at q ⊢
  exact hk j (by omega) o q
theorem upto_step {h' : Heap} {S : Addr} {val : Nat → Int × Int} {ad : Nat → Addr} {i : Nat} {t' : SetTable} {ents ents' : List Ent} (x : SetAt prog w h' S t' ents') (b : ∀ k, k ∈ ents.map (·.1) ↔ ∃ j, j < i ∧ val j = k) (c : ∀ e ∈ ents, ∃ j, j < i ∧ val j = e.1 ∧ ad j = e.2)
    (p : ents'.Perm (if val i ∈ ents.map (·.1) then ents else (val i, ad i) :: ents)) : Upto prog w h' S val ad (i + 1) := by
  refine ⟨t', ents', x, fun k => ?_, fun e he => ?_⟩
  · rw [(p.map (·.1)).mem_iff]
    by_cases hm : val i ∈ ents.map (·.1)
    · rw [if_pos hm, b k]
      constructor
      · rintro ⟨j, hj, e⟩; exact ⟨j, by omega, e⟩
      · rintro ⟨j, hj, e⟩
        by_cases hji : j = i
        · subst hji; rw [e] at hm; exact (b k).mp hm
        · exact ⟨j, by omega, e⟩
    · rw [if_neg hm, List.map_cons, List.mem_cons, b k]
      constructor
      · rintro (e | ⟨j, hj, e⟩)
        · exact ⟨i, by omega, e.symm⟩
        · exact ⟨j, by omega, e⟩
      · rintro ⟨j, hj, e⟩
        by_cases hji : j = i
        · subst hji; exact .inl e.symm
        · exact .inr ⟨j, by omega, e⟩
  · have he' := p.mem_iff.mp he
    by_cases hm : val i ∈ ents.map (·.1)
    · rw [if_pos hm] at he'
      obtain ⟨j, hj, e1⟩ := c e he'
      exact ⟨j, by omega, e1⟩
    · rw [if_neg hm] at he'
      rcases List.mem_cons.mp he' with e1 | e1
      · subst e1; exact ⟨i, by omega, rfl, rfl⟩
      · obtain ⟨j, hj, e2⟩ := c e e1
        exact ⟨j, by omega, e2⟩

theorem loop_pairs {R : Result → Shared → Prop} {I : Addr} {fp wr : List Addr} {n : Nat} {P : Nat → Value → Prop} {St : Nat → Heap → Prop} (W : Walks prog w A.in1 I fp wr n P St) (hu : A.in1.units < cLine) (S : Addr) (hSf : S ∉ fp) (val : Nat → Int × Int) (ad : Nat → Addr)
    (hval : ∀ i v, P i v → v = .ref (ad i)) (h15 : ∀ i, i < n → val i ∈ pairs15) (hadS : ∀ i, i < n → ad i ≠ S) (hadw : ∀ i, i < n → ad i ∉ wr) :
    ∀ (k i : Nat) (s : Shared), n - i = k → i ≤ n → St i s.heap → (∀ j, j < n → IsTupleKey (intKind prog w) s.heap [(val j).1, (val j).2] (ad j)) → Upto prog w s.heap S val ad i →
      (∀ h' tk, (∀ b o, b ≠ S → b ∉ wr → s.heap.get? b = some o → h'.get? b = some o) → Upto prog w h' S val ad n → R (.ok (.ret .none)) { s with heap := h', toks := tk }) →
      codeAny (model prog w) A (.builtin "set.update.loop" ⟨[.ref S, .ref I], []⟩) R s := by
  have hSw : S ∉ wr := fun h => hSf (W.sub _ h)
  intro k
  induction k with
  | zero =>
    intro i s hk hi hst hkey hS hR
    obtain rfl : i = n := by omega
    refine codeAny_builtin PyProof.Rows.F.entry_set_update_loop ?_
    rw [Around.under_plainId PyProof.Rows.F.plain_set_update_loop _]
    show wpAny _ A.in1 (pyNext (.ref I) >>= _) _ _ s
    refine wpAny_bind (W.done s _ _ hst fun h' tk hm => ?_)
    refine wpAny_pure (hR h' tk (fun b o _ hb e => hm b o hb e) (hS.kept (Nat.le_refl _) (fun o e => hm S o hSw e) fun j hj o e => hm _ o (hadw j hj) e))
  | succ k ih =>
    intro i s hk hi hst hkey hS hR
    have hlt : i < n := by omega
    refine codeAny_builtin PyProof.Rows.F.entry_set_update_loop ?_
    rw [Around.under_plainId PyProof.Rows.F.plain_set_update_loop _]
    show wpAny _ A.in1 (pyNext (.ref I) >>= _) _ _ s
    refine wpAny_bind (W.item i s _ _ hlt hst fun v h1 tk hP hst1 hm => ?_)
    obtain rfl := hval i v hP
    have hS1 : Upto prog w h1 S val ad i := hS.kept hi (fun o e => hm S o hSw e) fun j hj o e => hm _ o (hadw j hj) e
    have hkey1 : ∀ j, j < n → IsTupleKey (intKind prog w) h1 [(val j).1, (val j).2] (ad j) := fun j hj => key_kept (hkey j hj) fun o e => hm _ o (hadw j hj) e
    show wpAny _ A.in1 (holding [Value.ref (ad i)] (setAdd S (.ref (ad i))) >>= _) _ _ _
    obtain ⟨t, ents, x, b, c⟩ := hS1.ex
    refine wpAny_bind (wpAny_holding (set_add (s := { s with heap := h1, toks := tk }) hu x (h15 i hlt) (hkey1 i hlt) fun bb h2 tk2 t2 ents2 sb x2 p2 => ?_))
    have oth : ∀ b o, b ≠ S → h1.get? b = some o → h2.get? b = some o := fun b o hb e => (sb.2 b hb).trans e
    refine wpAny_pure ⟨plainId_quiet PyProof.Rows.F.plain_set_update_loop _, ih (i + 1) { s with heap := h2, toks := tk2 } (by omega) hlt (W.frame _ h1 h2 hst1 fun b hb o e => oth b o (fun z => hSf (z ▸ hb)) e)
      (fun j hj => key_kept (hkey1 j hj) fun o e => oth _ o (hadS j hj) e) (upto_step x2 b c p2) fun h3 tk3 hm3 hS3 => ?_⟩
    exact hR h3 tk3 (fun b o hb hw e => hm3 b o hb hw (oth b o hb (hm b o hw e))) hS3
end
section
variable {prog : Program} {w : World} {A : Around} {E : Value → Shared → Prop} {s : Shared}
def newSetObj (w : World) : Obj := { cls := .type "set", dict := none, data := .set #[] 0 (.fresh 0 0 !(w.params.followText "set-order")) }
theorem new_set (a : Value) {Q₁ : Value → Shared → Prop} (h : Q₁ (.ref s.heap.objs.size) { s with heap := s.heap.push (newSetObj w) }) :
    codeAny (model prog w) A (.call (.builtin "set.__new__") ⟨[.type "set", a], []⟩) (wants Q₁ E) s := by
  refine codeAny_of_tree ?_
  show wpAny _ A.in1 (checkBuiltinCall "set.__new__" ⟨[.type "set", a], []⟩ >>= fun _ => again (.builtin "set.__new__" ⟨[.type "set", a], []⟩)) _ _ s
  refine wpAny_bind (wpAny_of_eq (F.newCall_set_1 a) (wpAny_pure ⟨plainId_quiet F.plain_set_new _, codeAny_builtin F.entry_set_new ?_⟩))
  rw [Around.under_plainId F.plain_set_new _]
  unfold Builtin.«set.__new__» Builtin.Frozenset.newClass
  have hsub := sub_set_self
  obtain ⟨hp, g, d, tk, os⟩ := s
  dsimp only
  wp_walk
  refine wpAny_askSetting (wpAny_pure ?_)
  dsimp only
  simp only [newObj]
  refine wpAny_bind (wpAny_alloc (wpAny_pure ?_))
  exact wpAny_pure h
theorem call_set {l : Addr} {its : Array Value} {val : Nat → Int × Int} {ad : Nat → Addr} {Q : Value → Shared → Prop} (hh : A.handled = none) (hu : A.units + 8 < cLine) (hl : s.heap.IsList l its) (hval : ∀ (i : Nat) (v : Value), its[i]? = some v → v = .ref (ad i))
    (h15 : ∀ i, i < its.size → val i ∈ pairs15) (hkey : ∀ i, i < its.size → IsTupleKey (intKind prog w) s.heap [(val i).1, (val i).2] (ad i))
    (h : ∀ (h' : Heap) (tk : Nat), Upto prog w h' s.heap.objs.size val ad its.size → (∀ b o, s.heap.get? b = some o → h'.get? b = some o) → Q (.ref s.heap.objs.size) { s with heap := h', toks := tk }) :
    wpAny (model prog w) A (call (.type "set") [.ref l]) Q E s := by
  obtain ⟨c, tl, hmro⟩ := F.called_set.mro
  have hmade := F.called_set.made
  have hsub := F.called_set.sub
  refine wpAny_call (codeAny_of_tree ?_)
  show wpAny _ _ (callAny (.type "set") _) _ _ _
  refine wpAny_pure ⟨Code.quiet_builtin _ (by decide +kernel), codeAny_builtin F.entry_type_call ?_⟩
  rw [Around.under_plain (weight_type_call_type "set" [.ref l] []) rfl]
  have h1 := F.called_set.notType
  have h2 := F.called_set.canCreate
  have hct := F.typeCall_set_1 (.ref l)
  repeat (any_goals (first | assumption | wp_step))
  refine codeAny_mono (new_set (.ref l) (E := E) (Q₁ := fun ob s₁ => ob = .ref s.heap.objs.size ∧ s₁ = { s with heap := s.heap.push (newSetObj w) }) ⟨rfl, rfl⟩) fun r s₁ hr => ?_
  cases r with
  | error e => exact hr
  | ok fl =>
    cases fl with
    | ret ob =>
      obtain ⟨rfl, rfl⟩ := hr
      have hS : (s.heap.push (newSetObj w)).get? s.heap.objs.size = some (newSetObj w) := Heap.get?_push_size _ rfl
      have hT : Shared.TypeIs { s with heap := s.heap.push (newSetObj w) } (.ref s.heap.objs.size) "set" := ⟨_, hS, rfl⟩
      have hli := F.called_set.init.lookup
      have hbi := F.called_set.init.bind (.ref s.heap.objs.size)
      repeat (any_goals (first | assumption | wp_step))
      refine codeAny_mono (codeAny_call_builtin (R := wants (fun r s₂ => r = .none ∧ ∃ h' tk, s₂ = { s with heap := h', toks := tk } ∧ Upto prog w h' s.heap.objs.size val ad its.size ∧ (∀ b o, s.heap.get? b = some o → h'.get? b = some o)) E)
        F.called_set.init.plain F.entry_set_init (check_set_init_1 hT ?_)) fun r₂ s₂ hr₂ => ?_
      · obtain ⟨ol, hol, hcl, nl, hdl⟩ := hl
        obtain ⟨ocls, odict, odata, oslots⟩ := ol
        simp only at hcl hdl
        subst hcl; subst hdl
        have hol' : (s.heap.push (newSetObj w)).get? l = some { cls := .type "list", dict := odict, data := .seq its nl, slots := oslots } := Heap.get?_push_of_some _ hol
        have hsls := F.sub_list_set
        have hslf := F.sub_list_frozenset
        have hne : (Value.type "list" == Value.type "dict") = false := by decide
        have hl1 : (s.heap.push (newSetObj w)).IsList l its := ⟨_, hol', rfl, nl, rfl⟩
        have hS' : (s.heap.push (newSetObj w)).get? s.heap.objs.size = some { cls := .type "set", dict := none, data := .set #[] 0 (.fresh 0 0 !(w.params.followText "set-order")) } := hS
        unfold Builtin.«set.__init__» noKeywords Builtin.Frozenset.updateFrom
        generalize hPI : pyIter = PI
        wp_walk
        subst hPI
        refine wpAny_pyIter_list hl1 ?_
        refine wpAny_bind (wpAny_runValue ?_)
        have hlS : l < s.heap.objs.size := Heap.lt_size hol
        have hh3 : A.in1.in1.in1.handled = none := by simp [hh]
        have hsz : (s.heap.push (newSetObj w)).objs.size = s.heap.objs.size + 1 := Heap.size_push _ _
        have hneI : l ≠ (s.heap.push (newSetObj w)).objs.size := by rw [hsz]; exact Nat.ne_of_lt (Nat.lt_succ_of_lt hlS)
        have hSf : s.heap.objs.size ∉ [(s.heap.push (newSetObj w)).objs.size, l] := fun z => by
          rcases List.mem_cons.mp z with z | z
          · rw [hsz] at z; exact Nat.ne_of_lt (Nat.lt_succ_self _) z
          · exact Nat.ne_of_gt hlS (List.mem_singleton.mp z)
        have up : ∀ b o, s.heap.get? b = some o → ((s.heap.push (newSetObj w)).push { cls := .type "list_iterator", data := .fields #[.ref l, .int 0 0] }).get? b = some o := fun b o e => Heap.get?_push_of_some _ (Heap.get?_push_of_some _ e)
        have adlt : ∀ i, i < its.size → ad i < s.heap.objs.size := fun i hi => by
          obtain ⟨_, _, _, e, _⟩ := hkey i hi
          exact Heap.lt_size e
        refine loop_pairs (Walks.list hh3 _ l hneI its) (by simp only [Around.in1_units]; omega) s.heap.objs.size hSf val ad hval h15 (fun i hi => Nat.ne_of_lt (adlt i hi))
          (fun i hi z => by have q := adlt i hi; rw [List.mem_singleton.mp z, hsz] at q; exact Nat.lt_irrefl _ (Nat.lt_of_succ_lt q)) its.size 0 _ rfl (Nat.zero_le _) ⟨⟨_, Heap.get?_push_size _ rfl, rfl, rfl⟩, hl1.push _⟩ (fun j hj => key_kept (hkey j hj) fun o e => up _ o e) ?hS0 ?hR
        case hS0 =>
          refine ⟨_, [], ⟨⟨#[], 0, Heap.get?_push_of_some _ hS', rfl⟩, tab_fresh, fun e he => by simp at he, fun _ => Nat.zero_le _, rfl, rfl⟩, fun k => ?_, fun e he => by simp at he⟩
          simp
        case hR =>
          intro h' tk hm hS'
          show wpAny _ _ _ _ _ _
          refine wpAny_pure ?_
          show wpAny _ _ (ret Value.none) _ _ _
          refine wpAny_pure ⟨rfl, h', tk, rfl, hS', fun b o e => ?_⟩
          have hb := Heap.lt_size e
          refine hm b o (Nat.ne_of_lt hb) (fun z => ?_) (up b o e)
          rw [List.mem_singleton.mp z, hsz] at hb
          exact Nat.lt_irrefl _ (Nat.lt_of_succ_lt hb)
      · cases r₂ with
        | error e => exact hr₂
        | ok fl₂ =>
          cases fl₂ with
          | ret r =>
            obtain ⟨rfl, h', tk, rfl, hS', hk'⟩ := hr₂
            repeat (any_goals (first | assumption | wp_step))
            exact h _ _ hS' hk'
          | _ => exact hr₂.elim
    | _ => exact hr.elim
end
end GS

set_option Elab.async false
set_option linter.all false
set_option maxRecDepth 100000
set_option maxHeartbeats 4000000
/-! list.sort over a run that is known; pairs of ints in order. -/
namespace GO
open PySem PySem.W PyProof.Rows
section
variable {prog : Program} {w : World} {A : Around} {E : Value → Shared → Prop} {s : Shared}
/-- a sort's run: what its array ends as -/
def RunOk (prog : Program) (w : World) (A : Around) (κ : SortKind) (vs : List Value) (R : Array Nat → Prop) (s : Shared) : Prop :=
  ∀ (Q : SortSt → Shared → Prop) (E : Value → Shared → Prop), (∀ p st', p.size = vs.length → arrOf st' = p.map (kas_item (vs.toArray.zip vs.toArray)) → failedOf st' = none → R p → Q st' s) →
    wpAny (model prog w) A ((sortRuns').run (SortSt.mk' κ (vs.toArray.zip vs.toArray) #[] 7 none)) (fun r s' => Q r.2 s') E s
theorem run_small {κ : SortKind} {vs : List Value} {lt : Nat → Nat → Bool} (h2 : 2 ≤ vs.length) (h64 : vs.length < 64) (O : Ord lt vs.length) (hc : ∀ i j C, i < vs.length → j < vs.length → C (lt i j) s → kas_ask prog w A κ vs i j C s) :
    RunOk prog w A κ vs (fun p => Pm vs.length p ∧ Up lt p vs.length) s := fun Q E h =>
  kat_run (G := fun p s' => s' = s ∧ Pm vs.length p ∧ Up lt p vs.length) rfl h2 h64 (fun p st' s' a1 a2 a3 a4 => by obtain ⟨rfl, a4⟩ := a4; exact h p st' a1 a2 a3 a4)
    ((sort_go O h2 (Q := fun p => Pm vs.length p ∧ Up lt p vs.length) fun q a b => ⟨a, b⟩).wp hc fun p hp => ⟨rfl, hp⟩)
theorem list_sort_of {a : Addr} {vs : List Value} {n : Nat} {κ : SortKind} {R : Array Nat → Prop} {P : PySem.Fin → Shared → Prop} (ho : s.heap.get? a = some (seqObj "list" vs.toArray n)) (h2 : 2 ≤ vs.length) (hz : vs.length ≤ sizeLine)
    (hk : ∀ h', (∀ b o, b ≠ a → s.heap.get? b = some o → h'.get? b = some o) → ∀ (Q : SortKind → Shared → Prop) (E : Value → Shared → Prop), Q κ { s with heap := h' } → wpAny (model prog w) A (keyKind' vs.toArray) Q E { s with heap := h' })
    (hrun : ∀ h', (∀ b o, b ≠ a → s.heap.get? b = some o → h'.get? b = some o) → RunOk prog w A κ vs R { s with heap := h' })
    (h : ∀ p h' c, p.size = vs.length → R p → h'.get? a = some (seqObj "list" (List.toArray (p.toList.map fun i => vs.getD i Value.none)) c) → (∀ b o, b ≠ a → s.heap.get? b = some o → h'.get? b = some o) → P (.done (.ret .none)) { s with heap := h' }) :
    wpAny (model prog w) A (Builtin.«list.sort» ⟨[.ref a], []⟩) P E s := by
  have hlt := Heap.lt_size ho
  rw [list_sort_plain]
  refine wpAny_bind (listItems_at ho rfl (wpAny_bind (listUpdate_at ho rfl ?_ (by rw [List.size_toArray]; exact hz) (Nat.zero_le _))))
  obtain ⟨c1, ho1⟩ : ∃ c1, (s.heap.update a (Obj.mapSeq fun _ => (#[] : Array Value))).get? a = some (seqObj "list" #[] c1) := ⟨_, get?_update_seq ho fun _ => #[]⟩
  refine wpAny_bind (seqEpoch_at ho1 rfl (wpAny_bind (wpAny_newTuple ?_ hz)))
  refine wpAny_bind (wpAny_newList ?_ (Nat.zero_le _))
  refine wpAny_holding ?_
  generalize hH : ((s.heap.update a (Obj.mapSeq fun _ => (#[] : Array Value))).push (seqObj "tuple" vs.toArray 0)).push (seqObj "list" #[] 0) = H3
  have k3 : ∀ b o, b ≠ a → s.heap.get? b = some o → H3.get? b = some o := fun b o hb e => by
    rw [← hH]
    exact Heap.get?_push_of_some _ (Heap.get?_push_of_some _ ((Heap.get?_update_other _ _ (Ne.symm hb)).trans e))
  have a3 : H3.get? a = some (seqObj "list" #[] c1) := by
    rw [← hH]
    exact Heap.get?_push_of_some _ (Heap.get?_push_of_some _ ho1)
  show wpAny (model prog w) A _ P E { s with heap := H3 }
  dsimp only
  have hn2 : ¬ vs.toArray.size < 2 := by rw [List.size_toArray]; omega
  rw [if_neg hn2, if_neg hn2]
  refine wpAny_bind (hk H3 k3 _ _ ?_)
  refine wpAny_bind (wpAny_mono (hrun H3 k3 (fun st' s' => ∃ p : Array Nat, p.size = vs.length ∧ arrOf st' = p.map (kas_item (vs.toArray.zip vs.toArray)) ∧ failedOf st' = none ∧ R p ∧ s' = { s with heap := H3 }) E fun p st' b1 b2 b3 b4 => ⟨p, b1, b2, b3, b4, rfl⟩) ?_ fun _ _ e => e)
  rintro ⟨⟨⟩, st'⟩ s' ⟨p, hp, har, hf, hR, rfl⟩
  dsimp only
  have hout := kat_snds rfl har
  rw [hout]
  have hsz : (List.toArray (p.toList.map fun i => vs.getD i Value.none)).size ≤ sizeLine := by rw [List.size_toArray, List.length_map, Array.length_toList, hp]; exact hz
  refine wpAny_bind (seqEpoch_at a3 rfl (wpAny_bind (listUpdate_at a3 rfl ?_ (Nat.zero_le _) (Nat.le_succ_of_le hsz))))
  rw [hf]
  simp only [bne_self_eq_false, Bool.false_eq_true, if_false]
  refine wpAny_pure (h p _ _ hp hR (get?_update_seq a3 fun _ => _) fun b o hb e => (Heap.get?_update_other _ _ (Ne.symm hb)).trans (k3 b o hb e))

/-! ### pairs of ints -/
def plt (p q : Int × Int) : Bool := decide (p.1 < q.1) || (decide (p.1 = q.1) && decide (p.2 < q.2))
def IsPr (h : Heap) (a : Addr) (p : Int × Int) : Prop := ∃ o n t u, h.get? a = some o ∧ o.cls = .type "tuple" ∧ o.data = .seq #[.int p.1 t, .int p.2 u] n
theorem IsPr.kept {h h' : Heap} {a : Addr} {p : Int × Int} (x : IsPr h a p) (k : ∀ o, h.get? a = some o → h'.get? a = some o) : IsPr h' a p := by
  obtain ⟨o, n, t, u, e, r⟩ := x
  exact ⟨o, n, t, u, k o e, r⟩
theorem pair_lt {a b : Addr} {p q : Int × Int} {Q : Bool → Shared → Prop} (ha : IsPr s.heap a p) (hb : IsPr s.heap b q) (h : Q (plt p q) s) : wpAny (model prog w) A (keyLt' (tuples' true) (.ref a) (.ref b)) Q E s := by
  obtain ⟨o, n, t, u, e, c, d⟩ := ha
  obtain ⟨o', n', t', u', e', c', d'⟩ := hb
  refine kat_lt e d e' d' ?_
  show KatLex prog w A true (decide (2 < 2)) Q [(.int p.1 t, .int q.1 t'), (.int p.2 u, .int q.2 u')] 0 s
  refine kat_cons (wpAny_eqBool_int ?_)
  by_cases h1 : p.1 = q.1
  · have e1 : (p.1 == q.1) = true := by simp [h1]
    rw [e1]
    refine kat_yes (kat_cons (wpAny_eqBool_int ?_))
    by_cases h2 : p.2 = q.2
    · have e2 : (p.2 == q.2) = true := by simp [h2]
      rw [e2]
      refine kat_yes (kat_nil ?_)
      have : plt p q = decide (2 < 2) := by unfold plt; simp [h1, h2]
      rw [this] at h
      exact h
    · have e2 : (p.2 == q.2) = false := by simp [h2]
      rw [e2]
      refine kat_no ?_
      show wpAny _ _ (oneLt' false _ _) _ _ _
      refine kat_one _ _ (lt_int ?_)
      have : plt p q = decide (p.2 < q.2) := by unfold plt; simp [h1]
      rw [this] at h
      exact h
  · have e1 : (p.1 == q.1) = false := by simp [h1]
    rw [e1]
    refine kat_no ?_
    show wpAny _ _ (oneLt' true _ _) _ _ _
    refine oneLt_int ?_
    have : plt p q = decide (p.1 < q.1) := by unfold plt; simp [h1]
    rw [this] at h
    exact h
theorem pairs_kind {vs : List Value} {ps : List (Int × Int)} (hne : ps ≠ []) (hv : Paired (fun (p : Int × Int) v => ∃ a, v = .ref a ∧ IsPr s.heap a p) ps vs) {Q : SortKind → Shared → Prop} (h : Q (tuples' true) s) : wpAny (model prog w) A (keyKind' vs.toArray) Q E s := by
  have go : ∀ {ps : List (Int × Int)} {vs : List Value}, Paired (fun (p : Int × Int) v => ∃ a, v = .ref a ∧ IsPr s.heap a p) ps vs → ∃ fs, fs.length = ps.length ∧ KatTups s.heap vs fs ∧ ∀ v ∈ fs, ∃ i t, v = .int i t := by
    intro ps vs hv
    induction hv with
    | nil => exact ⟨[], rfl, .nil, fun v hv => by simp at hv⟩
    | cons h1 _ ih =>
      obtain ⟨a, rfl, o, n, t, u, e, c, d⟩ := h1
      obtain ⟨fs, l, k, g⟩ := ih
      exact ⟨_ :: fs, by simp [l], .cons e c d rfl k, fun v hv => by
        rcases List.mem_cons.mp hv with rfl | hv
        · exact ⟨_, _, rfl⟩
        · exact g v hv⟩
  obtain ⟨fs, l, k, g⟩ := go hv
  have hp : 0 < ps.length := List.length_pos_iff.mpr hne
  refine kat_kind (T := .type "int") k (by omega) (fun v hv => ?_) (by decide) h
  obtain ⟨i, t, rfl⟩ := g v hv
  exact .now
theorem plt_trans {p q r : Int × Int} (h1 : plt p q = true) (h2 : plt q r = true) : plt p r = true := by
  unfold plt at *
  simp only [Bool.or_eq_true, Bool.and_eq_true, decide_eq_true_eq] at *
  omega
theorem plt_tot {p q : Int × Int} (hne : p ≠ q) (h : plt p q = false) : plt q p = true := by
  have hne' : p.1 ≠ q.1 ∨ p.2 ≠ q.2 := by
    by_cases h1 : p.1 = q.1
    · exact .inr fun h2 => hne (Prod.ext h1 h2)
    · exact .inl h1
  unfold plt at *
  simp only [Bool.or_eq_true, Bool.and_eq_true, decide_eq_true_eq, Bool.or_eq_false_iff, Bool.and_eq_false_iff, decide_eq_false_iff_not] at *
  omega
theorem plt_asym {p q : Int × Int} (h : plt p q = true) : plt q p = false := by
  unfold plt at *
  simp only [Bool.or_eq_true, Bool.and_eq_true, decide_eq_true_eq, Bool.or_eq_false_iff, Bool.and_eq_false_iff, decide_eq_false_iff_not] at *
  omega
theorem pair_ord {ps : List (Int × Int)} (hn : ps.Nodup) : Ord (fun i j => plt (ps.getD i (0, 0)) (ps.getD j (0, 0))) ps.length where
  trans := fun i j k _ _ _ h1 h2 => plt_trans h1 h2
  tot := fun i j hi hj hne h => plt_tot (fun e => hne (by
    rw [List.getD_eq_getElem?_getD, List.getD_eq_getElem?_getD, List.getElem?_eq_getElem hi, List.getElem?_eq_getElem hj] at e
    exact (List.getElem_inj hn).mp e)) h
  asym := fun i j _ _ h => plt_asym h
end
end GO

set_option Elab.async false
set_option linter.all false
set_option maxRecDepth 100000
set_option maxHeartbeats 4000000
set_option exponentiation.threshold 10000
/-! Further rules over the hand layer: wide ints, isinstance, equality of data, a def under its name. -/
namespace L2
open PySem PySem.Spec PyProof.Rows
open Builtin.Int (intBits)
section
variable {X : Cx}

/-! ### wide ints -/
def CMulB (i j : Int) : Prop := intBits i ≤ 60000000 ∧ intBits j ≤ 60000000
theorem op_mulB : OpR X (binaryOp .Mult) (rI CMulB fun i j => .int (i * j)) := opI fun _ _ _ _ _ _ _ hc q => mul_int q (IntMulOk.of_le hc.1 hc.2 (by decide))
theorem bits_log2 {j : Int} (h0 : j ≠ 0) (h : intBits j ≤ 8000) : j.natAbs.log2 < 9000 := by
  have h1 : j.natAbs < 2 ^ 8000 := intBits_le_iff.mp h
  have h2 : j.natAbs ≠ 0 := by omega
  have h3 : j.natAbs.log2 < 8000 := (Nat.log2_lt h2).mpr h1
  omega
def CDivB (_ j : Int) : Prop := j ≠ 0 ∧ intBits j ≤ 8000
/-! ### isinstance by a built-in type -/
/-! ### data -/
mutual
def RepD (K : PySem.W.Frag) (H : Hp) : PyData → V → Prop
  | .none, v => v = .non
  | .bool b, v => v = .bl b
  | .int i, v => v = .int i
  | .str x, v => v = .str x
  | .tuple ds, v => ∃ a xs, v = .ref a ∧ SqT K H a xs ∧ RepAll K H ds xs
  | .list ds, v => ∃ a xs, v = .ref a ∧ SqL K H a xs ∧ RepAll K H ds xs
  | .dict _, _ => False
def RepAll (K : PySem.W.Frag) (H : Hp) : List PyData → List V → Prop
  | [], xs => xs = []
  | d :: ds, xs => ∃ x r, xs = x :: r ∧ RepD K H d x ∧ RepAll K H ds r
end
mutual
theorem RepD.reads {pins : List (Addr × Obj)} {σ : St} {H : Hp} {s : Shared} (I : Inv X pins σ H s) : ∀ (d : PyData) (v : V) (u : Value), RepD X.K H d v → RelV v u → ∃ as, Reads s.heap u d as
  | .none, v, u, h, r => by
    unfold RepD at h; subst h; cases r; exact ⟨_, .none⟩
  | .bool b, v, u, h, r => by
    unfold RepD at h; subst h; cases r; exact ⟨_, .bool b⟩
  | .int i, v, u, h, r => by
    unfold RepD at h; subst h; obtain ⟨t, rfl⟩ := r; exact ⟨_, .int i t⟩
  | .str x, v, u, h, r => by
    unfold RepD at h; subst h; obtain ⟨t, rfl⟩ := r; exact ⟨_, .str x t⟩
  | .tuple ds, v, u, h, r => by
    unfold RepD at h
    obtain ⟨a, xs, rfl, hq, ha⟩ := h
    cases r
    obtain ⟨its, rv, ⟨o, e, c, n, d⟩, _⟩ := I.tuple hq
    obtain ⟨as, ra⟩ := RepAll.reads I ds xs its ha rv
    exact ⟨_, .tuple e c d (by simpa using ra)⟩
  | .list ds, v, u, h, r => by
    unfold RepD at h
    obtain ⟨a, xs, rfl, hq, ha⟩ := h
    cases r
    obtain ⟨its, rv, ⟨o, n, e, c, _, d⟩, _⟩ := I.list hq
    obtain ⟨as, ra⟩ := RepAll.reads I ds xs its ha rv
    exact ⟨_, .list e c d (by simpa using ra)⟩
  | .dict _, v, u, h, r => by
    unfold RepD at h; exact h.elim
theorem RepAll.reads {pins : List (Addr × Obj)} {σ : St} {H : Hp} {s : Shared} (I : Inv X pins σ H s) : ∀ (ds : List PyData) (xs : List V) (us : List Value), RepAll X.K H ds xs → Vals xs us → ∃ as, ReadsAll s.heap us ds as
  | [], xs, us, h, r => by
    unfold RepAll at h; subst h; cases r; exact ⟨_, .nil⟩
  | d :: ds, xs, us, h, r => by
    unfold RepAll at h
    obtain ⟨x, xr, rfl, h1, h2⟩ := h
    cases r with
    | cons r1 r2 =>
      obtain ⟨as, ra⟩ := RepD.reads I d _ _ h1 r1
      obtain ⟨bs, rb⟩ := RepAll.reads I ds _ _ h2 r2
      exact ⟨_, .cons ra rb⟩
end
def rEqD (K : PySem.W.Frag) : R2 := fun x y H Q => ∃ d e, RepD K H d x ∧ RepD K H e y ∧ d.canLay0 = true ∧ e.canLay0 = true ∧ d.depth ≤ 64 ∧ Q (.bl (PyData.eqv d e)) H
def rNeD (K : PySem.W.Frag) : R2 := fun x y H Q => ∃ d e, RepD K H d x ∧ RepD K H e y ∧ d.canLay0 = true ∧ e.canLay0 = true ∧ d.depth ≤ 64 ∧ Q (.bl (!PyData.eqv d e)) H
theorem op_eqD (hu : X.A.units + 64 < cLine) : OpR X (compareOp .Eq) (rEqD X.K) := by
  intro pins s σ H x y v u Q I rx ry h
  obtain ⟨d, e, hd, he, cd, ce, hz, q⟩ := h
  obtain ⟨as, ra⟩ := RepD.reads I d x v hd rx
  obtain ⟨bs, rb⟩ := RepD.reads I e y u he ry
  exact SeqAt.eqOverData X.prog X.w X.A X.xe s v u d e as bs _ ra rb cd ce (by omega) ⟨.bl _, H, I, rfl, q⟩
theorem op_neD (hu : X.A.units + 64 < cLine) : OpR X (compareOp .NotEq) (rNeD X.K) := by
  intro pins s σ H x y v u Q I rx ry h
  obtain ⟨d, e, hd, he, cd, ce, hz, q⟩ := h
  obtain ⟨as, ra⟩ := RepD.reads I d x v hd rx
  obtain ⟨bs, rb⟩ := RepD.reads I e y u he ry
  exact SeqAt.neOverData X.prog X.w X.A X.xe s v u d e as bs _ ra rb cd ce (by omega) ⟨.bl _, H, I, rfl, q⟩

/-! tuples of ints -/
end

/-! ### heaps -/
theorem same_new {H : Hp} {p : Addr} (h : H p = none) (o : HO) : Same H (upd H p o) := fun b u q => by rw [upd_ne (ne_of_none q h)]; exact q
theorem Same.seqT {K : PySem.W.Frag} {H H' : Hp} {a : Addr} {xs : List V} (e : Same H H') (h : SqT K H a xs) : SqT K H' a xs := by
  rcases h with (h | ⟨o, h⟩) | h
  · exact .inl (.inl (e _ _ h))
  · exact .inl (.inr ⟨o, e _ _ h⟩)
  · exact .inr h

/-! ### a def under its name -/
def Dn (P : Program) (w : World) (K : PySem.W.Frag) (mg : Str → Option Value) (base : Heap) (x : Str) (ps : List Str) (k : Nat) (sp : Sp) : Prop :=
  ∃ f fd, FnOk P w K mg base CX0 k f fd ps sp ∧ mg x = some (.ref f) ∧ PySem.W.keepIn K (.ref f) = true ∧ Binds K fd ps []
section
variable {X : Cx} {x : Str} {ps : List Str} {k k' : Nat} {sp : Sp} {e : Expr} {es : List Expr} {t : TA} {p pos : Pos}
theorem pe_dn (D : Dn X.prog X.w X.K X.mg X.base x ps k sp) (hr : Room k' X.A) (hg : Gl X x) (ha : PA X (e :: es) t) (hk : k ≤ k' := by decide)
    (hdb : (x == ("__debug__" : Str)) = false := by decide) (he : starEach (e :: es) X.env = (false, eval e X.env) :: starEach es X.env := by rfl) (hpl : (backTo pos (starEach es X.env)).any (·.1) = false := by rfl) :
    PE X (.Call (.Name x p) (e :: es) [] pos) (tCall sp [] E0 t) := by
  obtain ⟨f, fd, F, hm, hkp, hb⟩ := D
  exact pe_call (F.mono hk) hr hg hm hkp hb .nil pass0 ha hdb he hpl
end
end L2

set_option Elab.async false
set_option linter.all false
set_option maxRecDepth 100000
set_option maxHeartbeats 4000000
/-! A list comprehension of one clause over the hand layer. -/
namespace L2
open PySem PySem.Spec PyProof.Rows
def clOf (scope : Scope) (env : Env) : List (Str × Addr) := ((scope.names.filter fun y => y.2 == .free).map fun y => (y.1, (env.cells.lookup y.1).getD 0)).reverse
theorem clos_of {scope : Scope} {env : Env} (h : ∀ y ∈ scope.names, y.2 = .free → ∃ c, env.cells.lookup y.1 = some c) : closureFor scope env = pure (clOf scope env) := by
  have go : ∀ (names : List (Str × NameKind)) (acc : List (Str × Addr)), (∀ y ∈ names, y.2 = .free → ∃ c, env.cells.lookup y.1 = some c) →
      (forIn names acc fun (x : Str × NameKind) r => if (x.2 == NameKind.free) = true then do let a ← cellOf env x.1; pure (ForInStep.yield ((x.1, a) :: r)) else pure (ForInStep.yield r) : Sem (List (Str × Addr)))
      = pure (((names.filter fun y => y.2 == .free).map fun y => (y.1, (env.cells.lookup y.1).getD 0)).reverse ++ acc) := by
    intro names
    induction names with
    | nil => intro acc _; rfl
    | cons y r ih =>
      intro acc hh
      obtain ⟨n, k⟩ := y
      rw [List.forIn_cons]
      have hr : ∀ y ∈ r, y.2 = .free → ∃ c, env.cells.lookup y.1 = some c := fun y hy => hh y (List.mem_cons_of_mem _ hy)
      by_cases hk : k = .free
      · subst hk
        obtain ⟨c, hc⟩ := hh (n, .free) List.mem_cons_self rfl
        have hc' : List.lookup n env.cells = some c := hc
        have hcell : cellOf env n = pure c := by unfold cellOf; rw [hc']
        simp only [beq_self_eq_true, if_true]
        rw [hcell]
        simp only [pure_bind]
        rw [ih _ hr, List.filter_cons_of_pos (by rfl), List.map_cons, List.reverse_cons]
        simp [hc']
      · have hb : (k == NameKind.free) = false := by simpa using hk
        simp only [hb, Bool.false_eq_true, if_false, pure_bind]
        rw [ih _ hr, List.filter_cons_of_neg (by simp [hb])]
  have e := go scope.names [] h
  rw [List.append_nil] at e
  have e2 : closureFor scope env = (forIn scope.names ([] : List (Str × Addr)) fun (x : Str × NameKind) r => if (x.2 == NameKind.free) = true then do let a ← cellOf env x.1; pure (ForInStep.yield ((x.1, a) :: r)) else pure (ForInStep.yield r) : Sem (List (Str × Addr))) >>= fun r => pure r := rfl
  rw [e2, e, pure_bind]
  rfl
theorem mem_of_look {α : Type} {y : Str} {c : α} : ∀ {l : List (Str × α)}, l.lookup y = some c → (y, c) ∈ l
  | [], h => by simp at h
  | z :: r, h => by
    rw [List.lookup_cons] at h
    cases e : y == z.1 with
    | true =>
      rw [e] at h
      have : z.2 = c := Option.some.inj h
      have e' : y = z.1 := by simpa using e
      rw [e', ← this]
      exact List.mem_cons_self
    | false =>
      rw [e] at h
      exact List.mem_cons_of_mem _ (mem_of_look h)
theorem lookup_clOf {scope : Scope} {env : Env} {y : Str} {c : Addr} (hs : ∀ y ∈ scope.names, y.2 = .free → ∃ c, env.cells.lookup y.1 = some c) (h : (clOf scope env).lookup y = some c) : env.cells.lookup y = some c := by
  have hm := mem_of_look h
  unfold clOf at hm
  obtain ⟨z, hz, e⟩ := List.mem_map.mp (List.mem_reverse.mp hm)
  obtain ⟨hz1, hz2⟩ := List.mem_filter.mp hz
  obtain ⟨d, hd⟩ := hs z hz1 (by simpa using hz2)
  cases e
  rw [hd]; rfl
theorem clOf_has {scope : Scope} {env : Env} {y : Str} (h : (y, NameKind.free) ∈ scope.names) : ∃ c, (clOf scope env).lookup y = some c := by
  have : (y, (env.cells.lookup y).getD 0) ∈ clOf scope env := by
    unfold clOf
    exact List.mem_reverse.mpr (List.mem_map.mpr ⟨(y, .free), List.mem_filter.mpr ⟨h, rfl⟩, rfl⟩)
  have : ((clOf scope env).lookup y).isSome = true := by
    generalize clOf scope env = l at this
    induction l with
    | nil => cases this
    | cons z r ih =>
      rw [List.lookup_cons]
      cases e : y == z.1 with
      | true => rfl
      | false =>
        rcases List.mem_cons.mp this with q | q
        · rw [← q] at e
          simp at e
        · exact ih q
  exact Option.isSome_iff_exists.mp this

theorem look_relabel_free {env : Env} : ∀ {names : List (Str × NameKind)} {x : Str}, names.lookup x = some .free →
    (names.map fun (n, k) => if (k == NameKind.free && env.scope.kind == .function && env.kindOf n == some .cell) then (n, NameKind.cell) else (n, k)).lookup x = some .cell ∨
    (names.map fun (n, k) => if (k == NameKind.free && env.scope.kind == .function && env.kindOf n == some .cell) then (n, NameKind.cell) else (n, k)).lookup x = some .free
  | [], _, h => by simp at h
  | (n, k) :: r, x, h => by
    have ih := @look_relabel_free env r x
    show List.lookup x ((if (k == NameKind.free && env.scope.kind == .function && env.kindOf n == some .cell) = true then (n, NameKind.cell) else (n, k)) :: _) = _ ∨
      List.lookup x ((if (k == NameKind.free && env.scope.kind == .function && env.kindOf n == some .cell) = true then (n, NameKind.cell) else (n, k)) :: _) = _
    cases hx : x == n with
    | true =>
      simp only [List.lookup_cons, hx] at h
      cases h
      by_cases hc : (NameKind.free == NameKind.free && env.scope.kind == .function && env.kindOf n == some .cell) = true
      · rw [if_pos hc]; left; simp only [List.lookup_cons, hx]
      · rw [if_neg hc]; right; simp only [List.lookup_cons, hx]
    | false =>
      simp only [List.lookup_cons, hx] at h
      by_cases hc : (k == NameKind.free && env.scope.kind == .function && env.kindOf n == some .cell) = true
      · rw [if_pos hc]; simp only [List.lookup_cons, hx]; exact ih h
      · rw [if_neg hc]; simp only [List.lookup_cons, hx]; exact ih h
theorem relabel_inv {env : Env} {scope : Scope} {y : Str} (nocell : ∀ z ∈ scope.names, z.2 ≠ .cell) (h : (relabel scope env).names.lookup y = some .cell ∨ (relabel scope env).names.lookup y = some .free) : (y, NameKind.free) ∈ scope.names := by
  have go : ∀ k, (k = NameKind.cell ∨ k = NameKind.free) → (relabel scope env).names.lookup y = some k → (y, NameKind.free) ∈ scope.names := by
    intro k hk h
    obtain ⟨z, hz, e⟩ := List.mem_map.mp (mem_of_look h)
    obtain ⟨n, k0⟩ := z
    dsimp only at e
    by_cases hc : (k0 == NameKind.free && env.scope.kind == .function && env.kindOf n == some .cell) = true
    · rw [if_pos hc] at e
      have : k0 = .free := by
        rw [Bool.and_eq_true, Bool.and_eq_true] at hc
        simpa using hc.1.1
      cases e
      rw [← this]; exact hz
    · rw [if_neg hc] at e
      cases e
      rcases hk with hk | hk
      · exact absurd hk (nocell _ hz)
      · rw [← hk]; exact hz
  rcases h with h | h
  · exact go _ (.inl rfl) h
  · exact go _ (.inr rfl) h

/-- what a comprehension takes from around it: x its variable, N' its names (x first), caps the slots around it of the others -/
structure CompSc (X : Cx) (scope : Scope) (x : Str) (N' : List Str) (caps : List Nat) : Prop where
  nd : N'.Nodup
  n0 : N'[0]? = some x
  len : N'.length = caps.length + 1
  cap : ∀ (j i : Nat) (y : Str), caps[j]? = some i → N'[j + 1]? = some y → X.N[i]? = some y
  capf : ∀ (j : Nat) (y : Str), N'[j + 1]? = some y → scope.names.lookup y = some .free
  nocell : ∀ y ∈ scope.names, y.2 ≠ .cell
  kind : scope.kind = .function
  names : ∀ y ∈ scope.names, y.2 = .local → scope.names.lookup y.1 = some .local
  loc : scope.names.lookup x = some .local
  free : ∀ y ∈ scope.names, y.2 = .free → (X.env.kindOf y.1 = some .cell ∨ X.env.kindOf y.1 = some .free)
def capv (caps : List Nat) (σ : St) : St := caps.map fun i => (σ[i]?).getD none
abbrev cxComp (X : Cx) (scope : Scope) (N' : List Str) (C : Addr) (ex : List Addr) (s₀ : Shared) (H₀ : Hp) : Cx :=
  { X with N := N', s₀ := s₀, H₀ := H₀, env := compEnvC scope (clOf scope X.env) C X.env, outer := X.stack, stack := X.stack, ex := ex, fn := fun _ => false, pn := [], xe := fun _ _ => False }
def PIfs (X : Cx) (ifs : List Expr) (t : TT) : Prop :=
  ∀ (pins : List (Addr × Obj)) (s : Shared) (σ : St) (H : Hp) (Q : Bool → Hp → Prop), Inv X pins σ H s → t σ H Q →
    wpAny (model X.prog X.w) X.A (forIn ifs true fun c r => if r = true then do let ok ← isTrue c X.env (eval c X.env); pure (ForInStep.yield ok) else pure (ForInStep.yield r)) (TP X pins σ Q) X.xe s
def tYes : TT := fun _ H Q => Q true H
theorem pifs_nil {X : Cx} : PIfs X [] tYes := fun _ _ _ H _ I h => wpAny_tests_nil ⟨H, I, h⟩
def tComp (caps : List Nat) (wi : TI) (tt : TT) (te : TE) : TE := fun σ H Q => wi σ H fun J H1 => ∃ W : Nat → Nat → List V → Hp → Prop, (∃ m, W 0 m [] H1) ∧ ∀ i m ys H, W i m ys H →
  (J.stop i H ∧ ∀ p, H p = none → Q (.ref p) (upd H p (.lst ys))) ∨
  (J.go i H ∧ ∀ v H', J.yld i H v H' → tt (some v :: capv caps σ) H' fun b H2 => if b = true then te (some v :: capv caps σ) H2 fun y H3 => ys.length < sizeLine ∧ ∃ m', m' < m ∧ W (i + 1) m' (ys ++ [y]) H3 else ∃ m', m' < m ∧ W (i + 1) m' ys H2)

section
variable {X : Cx} {pins : List (Addr × Obj)} {σ : St} {H₂ : Hp} {scope : Scope} {x : Str} {N' : List Str} {caps : List Nat}

theorem CompSc.cells {s : Shared} (S : CompSc X scope x N' caps) (I : Inv X pins σ H₂ s) : ∀ y ∈ scope.names, y.2 = .free → ∃ c, X.env.cells.lookup y.1 = some c := fun y hy hf => I.ok.has y.1 (S.free y hy hf)

theorem comp_ok {s₃ : Shared} {C : Addr} {ex : List Addr} (S : CompSc X scope x N' caps) (I : Inv X pins σ H₂ s₃) (hC : s₃.heap.objs.size ≤ C) (hex : ∀ b ∈ ex, FpOk X pins H₂ b ∧ b < C) : (cxComp X scope N' C ex s₃ H₂).Ok where
  mod := I.ok.mod
  kind := S.kind
  glob := I.ok.glob
  blt := I.ok.blt
  above := hC
  inj := fun y z c h1 h2 => I.ok.inj y z c (lookup_clOf (S.cells I) h1) (lookup_clOf (S.cells I) h2)
  has := fun y hy => clOf_has (relabel_inv S.nocell hy)
  cab := fun y c h => nomatch h
  hd := I.ok.hd
  frames := I.ok.frames
  stk := .inl rfl
  exf := fun b hb => ⟨Nat.ne_of_lt (hex b hb).2, fun y c h => (hex b hb).1.2.2.2.2.1 y c (lookup_clOf (S.cells I) h)⟩
  bs := I.bs
  bsz := Nat.le_trans I.ok.bsz I.sz
  noex := fun b o e hb => by
    rcases (hex b hb).1.2.2.2.1 with z | z
    · exact I.ok.noex b o e z
    · exact absurd (Nat.lt_of_lt_of_le (Heap.lt_size e) (Nat.le_trans I.ok.bsz z)) (Nat.lt_irrefl _)
  exfs := fun b hb hm => by
    obtain ⟨_, f1, f2, _⟩ := (hex b hb).1
    rcases List.mem_cons.mp (I.stkSub b hm) with z | z
    · exact f1 z
    · exact f2 z
  funs := I.stack
  frf := I.stkFree

theorem capv_at {j : Nat} {v : V} (h : (capv caps σ)[j]? = some (some v)) : ∃ i, caps[j]? = some i ∧ σ[i]? = some (some v) := by
  unfold capv at h
  rw [List.getElem?_map] at h
  cases e : caps[j]? with
  | none => rw [e] at h; cases h
  | some i =>
    rw [e] at h
    refine ⟨i, rfl, ?_⟩
    have h' : (σ[i]?).getD none = some v := Option.some.inj h
    cases e2 : σ[i]? with
    | none => rw [e2] at h'; cases h'
    | some o => rw [e2] at h'; exact congrArg some h'

theorem comp_start {s₃ : Shared} {C : Addr} {ex : List Addr} {h₁ : Heap} {t : Nat} {m : Str → Option Value} (S : CompSc X scope x N' caps) (I : Inv X pins σ H₂ s₃) (hC : s₃.heap.objs.size ≤ C) (hex : ∀ b ∈ ex, FpOk X pins H₂ b ∧ b < C)
    (ns : h₁.Ns C m) (old : ∀ b o, s₃.heap.get? b = some o → h₁.get? b = some o) : Inv (cxComp X scope N' C ex s₃ H₂) [] (none :: capv caps σ) H₂ { s₃ with heap := h₁, toks := t } where
  ok := comp_ok S I hC hex
  os := rfl
  bare := I.bare
  base := Un.kept old
  loc := by
    refine ⟨m, ns, fun i y v h1 h2 h3 => ?_⟩
    cases i with
    | zero => cases h2
    | succ j =>
      obtain ⟨i, hi, hv⟩ := capv_at (show (capv caps σ)[j]? = some (some v) from h2)
      have hN := S.cap j i y hi h1
      have hfree : scope.names.lookup y = some .free := S.capf j y h1
      have hk : X.env.kindOf y = some .cell ∨ X.env.kindOf y = some .free := S.free (y, .free) (mem_of_look hfree) rfl
      obtain ⟨m0, _, hl⟩ := I.loc
      obtain ⟨u, r, l⟩ := hl i y v hN hv (by rcases hk with k | k; exact .inr (.inl k); exact .inr (.inr k))
      refine ⟨u, r, .inr ⟨look_relabel_free hfree, ?_⟩⟩
      rcases l with ⟨k, _⟩ | ⟨_, c, hc, z⟩
      · rcases hk with k' | k' <;> rw [k] at k' <;> cases k'
      · obtain ⟨c', hc'⟩ := clOf_has (env := X.env) (mem_of_look hfree)
        have := lookup_clOf (S.cells I) hc'
        rw [hc] at this; cases this
        obtain ⟨o, ho, hd⟩ := z
        exact ⟨c, hc', o, old _ _ ho, hd⟩
  cell := fun y c h => by
    obtain ⟨v, o, ho, hd⟩ := I.cell y c (lookup_clOf (S.cells I) h)
    exact ⟨v, o, old _ _ ho, hd⟩
  free := I.hok.fresh hC
  freeC := fun y c h => I.freeC y c (lookup_clOf (S.cells I) h)
  pin := fun p hp => by simp at hp
  hok := I.hok.kept old
  len := by
    show (none :: capv caps σ).length = N'.length
    rw [S.len]
    simp [capv]

/-- back from the block: what it changed is new, or its own -/
theorem comp_leave {s₃ s' : Shared} {C D : Addr} {ex : List Addr} {H' : Hp} {σ' : St} {pins' : List (Addr × Obj)} {ys : List V} {its : List Value} {n : Nat} (I : Inv X pins σ H₂ s₃) (J : Inv (cxComp X scope N' C ex s₃ H₂) pins' σ' H' s')
    (hex : ∀ b ∈ ex, FpOk X pins H₂ b) (hD : D ∈ ex) (fD : H' D = none) (gD : s'.heap.get? D = some { cls := .type "list", data := .seq its.toArray n }) (rv : Vals ys its) (hz : ys.length ≤ sizeLine) :
    Inv X pins σ (upd H' D (.lst ys)) s' := by
  have hD2 : H₂ D = none := (hex D hD).1
  have u := J.base
  have hok : HOk X.prog X.w (upd H' D (.lst ys)) s'.heap := fun b o e => by
    by_cases hb : b = D
    · subst hb; rw [upd_same] at e; cases e
      exact ⟨hz, its, n, rv, gD⟩
    · rw [upd_ne hb] at e
      exact (J.hok b o e).stay (fun c v _ q => q) (fun c q => by rw [upd_ne (ne_of_none q fD)]; exact q) fun c xs q => by rw [upd_ne (ne_of_none q fD)]; exact q
  refine I.call' (ch := ex) J.os ⟨u.keep, u.slot, fun b o e n hb => ?_, u.there, fun b xs e => ?_, fun b o v e => ?_, fun b ps e => ?_⟩ hok J.bare (fun b hb => ?_)
  · have : b ≠ D := fun z => hb (z ▸ hD)
    rw [upd_ne this]
    exact u.free b o e n hb
  · rw [upd_ne (ne_of_none e hD2)]; exact u.tups b xs e
  · rw [upd_ne (ne_of_none e hD2)]; exact u.frzs b o v e
  · rw [upd_ne (ne_of_none e hD2)]; exact u.tbls b ps e
  · obtain ⟨_, f1, _, f3, f4, f5⟩ := hex b hb
    exact ⟨f3, f1, f4, f5⟩

theorem loop_go {prog : Program} {w : World} {A : Around} {R : Result → Shared → Prop} {s : Shared} {elt target iter : Expr} {ifs : List Expr} {scope : Scope} {pos : Pos} {it acc : Value} {env : Env} (I : Nat → Shared → Prop)
    (turn : ∀ n s, I n s → wpAny (model prog w) A (pyNext it) (fun r s₁ => match r with
      | none => R (.ok .next) s₁
      | some v => wpAny (model prog w) A (letOwnedTupleGo target it v) (fun _ s₁ => wpAny (model prog w) A (assign target env v) (fun _ s₂ =>
          wpAny (model prog w) A (forIn ifs true fun c r => if r = true then do let ok ← isTrue c env (eval c env); pure (ForInStep.yield ok) else pure (ForInStep.yield r)) (fun ok s₃ =>
            if ok = true then wpAny (model prog w) A (eval elt env) (fun x s₄ =>
              wpAny (model prog w) A (call (.builtin "list.append") [acc, x]) (fun _ s₅ => ∃ m, m < n ∧ I m s₅) (fun _ _ => False) s₄) (fun _ _ => False) s₃
            else ∃ m, m < n ∧ I m s₃) (fun _ _ => False) s₂) (fun _ _ => False) s₁) (fun _ _ => False) s₁) (fun _ _ => False) s)
    (n : Nat) (h : I n s) :
    codeAny (model prog w) A (.compLoop (.ListComp elt [⟨target, iter, ifs, 0⟩] scope pos) 0 it acc env) R s := by
  refine codeAny_loop rfl I (fun n s hI => ?_) n h
  show wpAny _ A ((compTurn (.ListComp elt [⟨target, iter, ifs, 0⟩] scope pos) 0 it acc env).onRaise (fun x => do noteFrame x env; theTreesLotGoes x)) _ _ s
  refine wpAny_noted ?_
  rw [compTurn_list]
  refine wpAny_bind (wpAny_standAt (wpAny_bind (wpAny_mono (turn n s hI) (fun r s₁ h₁ => ?_) fun _ _ h' => h'.elim)))
  cases r with
  | none => exact wpAny_pure h₁
  | some v =>
    refine wpAny_bind (wpAny_mono h₁ (fun _ s₁ h₁ => ?_) fun _ _ h' => h'.elim)
    refine wpAny_bind (wpAny_mono h₁ (fun _ s₂ h₂ => wpAny_bind (wpAny_mono h₂ (fun ok s₃ h₃ => ?_) fun _ _ h' => h'.elim)) fun _ _ h' => h'.elim)
    cases ok with
    | false => exact wpAny_pure ⟨rfl, h₃⟩
    | true =>
      exact wpAny_bind (wpAny_bind (wpAny_mono h₃ (fun x s₄ h₄ => wpAny_bind (wpAny_mono h₄ (fun _ s₅ h₅ => wpAny_pure (wpAny_pure ⟨rfl, h₅⟩)) fun _ _ h' => h'.elim)) fun _ _ h' => h'.elim))

theorem comp_core {elt iter : Expr} {px : Pos} {ifs : List Expr} {pos : Pos} {tt : TT} {te : TE} {s₂ : Shared} {it : Addr} {fp : List Addr} {tn : Nat → Heap → Prop} {J : It} {RR : Value → Addr → Result → Shared → Prop} {E : Value → Shared → Prop}
    (S : CompSc X scope x N' caps) (hc : X.calm = true) (ht : ∀ C ex s₀ H₀, PIfs (cxComp X scope N' C ex s₀ H₀) ifs tt) (he : ∀ C ex s₀ H₀, PE (cxComp X scope N' C ex s₀ H₀) elt te)
    (I2 : Inv X pins σ H₂ s₂) (T : Turn X.prog X.w X.K (.Name x px) J fp it tn) (st2 : tn 0 s₂.heap) (f2 : ∀ b ∈ fp, FpOk X pins H₂ b)
    (W : Nat → Nat → List V → Hp → Prop) (m0 : Nat) (w0 : W 0 m0 [] H₂) (Fin : List V → Hp → Prop)
    (turn : ∀ i m ys H, W i m ys H → (J.stop i H ∧ Fin ys H) ∨
      (J.go i H ∧ ∀ v H', J.yld i H v H' → tt (some v :: capv caps σ) H' fun b H2 => if b = true then te (some v :: capv caps σ) H2 fun y H3 => ys.length < sizeLine ∧ ∃ m', m' < m ∧ W (i + 1) m' (ys ++ [y]) H3 else ∃ m', m' < m ∧ W (i + 1) m' ys H2))
    (hRR : ∀ (D C : Addr) (s' : Shared) (ys : List V) (H' : Hp) (m : Str → Option Value), Fin ys H' → H' D = none → Inv X pins σ (upd H' D (.lst ys)) s' → s'.heap.Ns C m → FpOk X pins (upd H' D (.lst ys)) C → RR (.ref D) C (.ok .next) s') :
    wpAny (model X.prog X.w) X.A (newList []) (fun acc s₃ => wpAny (model X.prog X.w) X.A (newFunctionEnv scope X.env.globals (clOf scope X.env) [] X.env.qual none .none (some X.env)) (fun cenv s₄ =>
      codeAny (model X.prog X.w) X.A (.compStart (.ListComp elt [⟨.Name x px, iter, ifs, 0⟩] scope pos) 0 (.ref it) acc { cenv with scope := relabel scope X.env }) (RR acc cenv.locals) s₄) E s₃) E s₂ := by
  refine wpAny_newObj_type (wpAny_newFunctionEnv S.nocell (by intro y hy; simp at hy) (fun h₁ hns₁ hsb₁ => ?_) S.kind)
  dsimp only at hns₁ hsb₁ ⊢
  generalize hHH : s₂.heap.push { cls := .type "list", dict := none, data := .seq ([] : List Value).toArray } = HH at hns₁ hsb₁ ⊢
  generalize hDe : s₂.heap.objs.size = D at *
  have up : ∀ b o, s₂.heap.get? b = some o → HH.get? b = some o := fun b o e => hHH ▸ Heap.get?_push_of_some _ e
  have hsz : HH.objs.size = D + 1 := by rw [← hHH, Heap.size_push, hDe]
  have gD3 : HH.get? D = some { cls := .type "list", data := .seq ([] : List Value).toArray } := by rw [← hHH, ← hDe]; exact Heap.get?_push_size _ rfl
  have I3 : Inv X pins σ H₂ { s₂ with heap := HH } := I2.kept (t' := s₂.toks) up
  generalize hC : HH.objs.size = C at *
  have hDC : D < C := by omega
  have old : ∀ b o, HH.get? b = some o → h₁.get? b = some o := fun b o e => hsb₁.extBut b o (Nat.ne_of_lt (by rw [← hC]; exact Heap.lt_size e)) (Heap.get?_push_of_some _ e)
  have fD : FpOk X pins H₂ D := I2.fpOk (Nat.le_of_eq hDe) (I2.hok.fresh (Nat.le_of_eq hDe))
  have fpC : ∀ b ∈ fp, b < C := fun b hb => by
    obtain ⟨o, e, _⟩ := T.obj _ _ st2 b hb
    have h1 : b < s₂.heap.objs.size := Heap.lt_size e
    rw [hDe] at h1
    exact Nat.lt_trans h1 hDC
  have hex : ∀ b ∈ fp ++ [D], FpOk X pins H₂ b ∧ b < C := fun b hb => by
    rcases List.mem_append.mp hb with z | z
    · exact ⟨f2 b z, fpC b z⟩
    · rw [List.mem_singleton.mp z]; exact ⟨fD, hDC⟩
  have hDm : D ∈ fp ++ [D] := List.mem_append_right _ (List.mem_singleton.mpr rfl)
  have nDf : D ∉ fp := fun z => by
    obtain ⟨o, e, _⟩ := T.obj _ _ st2 D z
    have h1 : D < s₂.heap.objs.size := Heap.lt_size e
    rw [hDe] at h1
    exact Nat.lt_irrefl _ h1
  have st1 : tn 0 h₁ := T.keep _ _ _ st2 fun b hb o e => old b o (up b o e)
  have J0 : Inv (cxComp X scope N' C (fp ++ [D]) { s₂ with heap := HH } H₂) [] (none :: capv caps σ) H₂ { s₂ with heap := h₁, toks := s₂.toks + ([] : List (Str × Value)).length } :=
    comp_start (s₃ := { s₂ with heap := HH }) S I3 (Nat.le_of_eq hC) hex hns₁ old
  -- what stays true of an untracked object of the block's
  have stat : ∀ {b : Addr} {H' : Hp} {pl : List (Addr × Obj)}, b ∈ fp ++ [D] → H' b = none → (∀ p ∈ pl, p.1 ≠ b) → FpOk (cxComp X scope N' C (fp ++ [D]) { s₂ with heap := HH } H₂) pl H' b := fun {b H' pl} hb hn hp => by
    have ok := J0.ok
    refine ⟨hn, (ok.exf b hb).1, ok.exfs b hb, .inl hb, (ok.exf b hb).2, fun p hp' => hp p (by simpa using hp')⟩
  have loop : ∀ s₃ : Shared, s₃ = { s₂ with heap := h₁, toks := s₂.toks + ([] : List (Str × Value)).length } →
      codeAny (model X.prog X.w) X.A (.compLoop (.ListComp elt [⟨.Name x px, iter, ifs, 0⟩] scope pos) 0 (.ref it) (.ref D) (compEnvC scope (clOf scope X.env) C X.env)) (RR (.ref D) C) s₃ := by
    rintro s₃ rfl
    refine loop_go (fun n s' => ∃ (i : Nat) (ys : List V) (its : List Value) (k : Nat) (o : Option V) (H' : Hp), Inv (cxComp X scope N' C (fp ++ [D]) { s₂ with heap := HH } H₂) [] (o :: capv caps σ) H' s' ∧ tn i s'.heap ∧ (∀ b ∈ fp, H' b = none) ∧ H' D = none ∧
      s'.heap.get? D = some { cls := .type "list", data := .seq its.toArray k } ∧ Vals ys its ∧ ys.length ≤ sizeLine ∧ W i n ys H') ?_ m0
      ⟨0, [], [], 0, none, H₂, J0, st1, fun b hb => (f2 b hb).1, fD.1, old _ _ gD3, .nil, Nat.zero_le _, w0⟩
    rintro n s' ⟨i, ys, its, k, o, H', I', st, fr, hD, gD, rv, hz, w⟩
    have ID : Inv (cxComp X scope N' C (fp ++ [D]) { s₂ with heap := HH } H₂) [(D, { cls := .type "list", data := .seq its.toArray k })] (o :: capv caps σ) H' s' := I'.pins_of fun p hp => by
      rw [List.mem_singleton.mp hp]
      have ok := J0.ok
      exact ⟨gD, hD, (ok.exf D hDm).1, ok.exfs D hDm, fun v z => by cases z⟩
    have hf : ∀ b ∈ fp, FpOk (cxComp X scope N' C (fp ++ [D]) { s₂ with heap := HH } H₂) [(D, { cls := .type "list", data := .seq its.toArray k })] H' b := fun b hb => stat (List.mem_append_left _ hb) (fr b hb) fun p hp => by
      rw [List.mem_singleton.mp hp]
      exact fun z => nDf ((show D = b from z) ▸ hb)
    rcases turn i n ys H' w with ⟨stop, fin⟩ | ⟨go, step⟩
    · refine wpAny_mono (T.done (cxComp X scope N' C (fp ++ [D]) { s₂ with heap := HH } H₂) rfl rfl rfl hc i _ s' _ H' (fun _ _ => False) ID hf st stop) (fun r s1 ⟨hr, I1⟩ => ?_) fun _ _ z => z
      subst hr
      have gD1 := (I1.pin _ (List.mem_append_right _ (List.mem_singleton.mpr rfl))).1
      obtain ⟨m, ns, _⟩ := I1.loc
      refine hRR D C s1 ys H' m fin hD (comp_leave I3 I1 (fun b hb => (hex b hb).1) hDm hD gD1 rv hz) ns ?_
      refine ⟨by rw [upd_ne (Nat.ne_of_gt hDC)]; exact I1.free, ?_⟩
      have q := I3.fpOk (b := C) (H' := H₂) (Nat.le_of_eq hC) (I3.hok.fresh (Nat.le_of_eq hC))
      exact q.2
    · refine wpAny_mono (T.item (cxComp X scope N' C (fp ++ [D]) { s₂ with heap := HH } H₂) rfl rfl rfl hc i _ s' _ H' (fun _ _ => False) ID hf st go) (fun r s1 ⟨u, hr, h4⟩ => ?_) fun _ _ z => z
      subst hr
      refine wpAny_mono h4 (fun _ s5 ⟨v, H5, I5, r5, y5, st5, fr5⟩ => ?_) fun _ _ z => z
      have I5' := I5.pinned (fp := fp) (fun b hb => stat (List.mem_append_left _ hb) (fr5 b hb) fun p hp => by
        rw [List.mem_singleton.mp hp]
        exact fun z => nDf ((show D = b from z) ▸ hb)) (T.obj _ _ st5)
      refine wpAny_assign_Name (store_ok I5' S.nd S.n0 (.inl (lookup_relabel_local S.loc)) r5 (fun s6 I6 => ?_) (.inr (lookup_relabel_local S.loc)))
      refine wpAny_mono (ht C (fp ++ [D]) { s₂ with heap := HH } H₂ _ s6 _ H5 _ I6 (step v H5 y5)) (fun b s7 ⟨H7, I7, q7⟩ => ?_) fun _ _ z => z
      have keepT : ∀ {s8 : Shared} {σ8 : St} {H8 : Hp}, Inv (cxComp X scope N' C (fp ++ [D]) { s₂ with heap := HH } H₂) ([(D, { cls := .type "list", data := .seq its.toArray k })] ++ pinsAt fp s5.heap) σ8 H8 s8 →
          (∀ b ∈ fp, ∀ ob, s5.heap.get? b = some ob → s8.heap.get? b = some ob) ∧ (∀ b ∈ fp, H8 b = none) ∧ s8.heap.get? D = some { cls := .type "list", data := .seq its.toArray k } ∧ H8 D = none := fun {s8 σ8 H8} I8 => by
        refine ⟨fun b hb ob e => (I8.pin (b, ob) (List.mem_append_right _ (List.mem_append_right _ (mem_pinsAt hb e)))).1, fun b hb => ?_, ?_, ?_⟩
        · obtain ⟨ob, e, _⟩ := T.obj _ _ st5 b hb
          exact (I8.pin (b, ob) (List.mem_append_right _ (List.mem_append_right _ (mem_pinsAt hb e)))).2.1
        · exact (I8.pin (D, _) (List.mem_append_right _ (List.mem_append_left _ (List.mem_singleton.mpr rfl)))).1
        · exact (I8.pin (D, _) (List.mem_append_right _ (List.mem_append_left _ (List.mem_singleton.mpr rfl)))).2.1
      cases b with
      | false =>
        rw [if_neg Bool.false_ne_true] at q7 ⊢
        obtain ⟨m', hm, w7⟩ := q7
        obtain ⟨k1, k2, k3, k4⟩ := keepT I7
        exact ⟨m', hm, i + 1, ys, its, k, some v, H7, I7.pins_of (fun p hp => by simp at hp), T.keep _ _ _ st5 k1, k2, k4, k3, rv, hz, w7⟩
      | true =>
        rw [if_pos rfl] at q7 ⊢
        refine wpAny_mono (he C (fp ++ [D]) { s₂ with heap := HH } H₂ _ s7 _ H7 _ I7 q7) (fun yv s8 ⟨y, H8, I8, r8, hz8, m', hm, w8⟩ => ?_) fun _ _ z => z
        obtain ⟨k1, k2, k3, k4⟩ := keepT I8
        refine append_at k3 (fun h9 sb9 e9 => ?_) (by rw [List.size_toArray, ← rv.length]; exact hz)
        have I8' : Inv (cxComp X scope N' C (fp ++ [D]) { s₂ with heap := HH } H₂) [] (some v :: capv caps σ) H8 s8 := I8.pins_of (fun p hp => by simp at hp)
        obtain ⟨g0, g1, g2, g3, g4, g5⟩ := stat (pl := []) hDm k4 (fun p hp => by simp at hp)
        have I9 : Inv (cxComp X scope N' C (fp ++ [D]) { s₂ with heap := HH } H₂) [] (some v :: capv caps σ) H8 { s8 with heap := h9 } := I8'.turned (t' := s8.toks) (fun b ob hb e => (sb9.2 b hb).trans e) g0 g1 g3 g4 g5
        refine ⟨m', hm, i + 1, ys ++ [y], its ++ [yv], k + 1, some v, H8, I9, T.keep _ _ _ st5 (fun b hb ob e => ?_), k2, k4, ?_, rv.append (.cons r8 .nil), ?_, w8⟩
        · exact (sb9.2 b (fun z => nDf (z ▸ hb))).trans (k1 b hb ob e)
        · rw [e9, List.push_toArray]
        · rw [List.length_append, List.length_singleton]; exact hz8
  exact codeAny_compStart_list (loop _ rfl) (T.self X.A 0 _ _ _ st1 (loop _ rfl))

/-- [elt for x in iter if ..] as a value -/
theorem pe_comp {elt iter : Expr} {px : Pos} {ifs : List Expr} {pos : Pos} {wi : TI} {tt : TT} {te : TE} (S : CompSc X scope x N' caps) (hc : X.calm = true) (hi : PI X (.Name x px) iter wi)
    (ht : ∀ C ex s₀ H₀, PIfs (cxComp X scope N' C ex s₀ H₀) ifs tt) (he : ∀ C ex s₀ H₀, PE (cxComp X scope N' C ex s₀ H₀) elt te)
    (hs : ∀ x, foldedSetIterable iter X.env x = pure x := by intro _; rfl) : PE X (.ListComp elt [⟨.Name x px, iter, ifs, 0⟩] scope pos) (tComp caps wi tt te) := by
  intro pins s σ H Q I h
  rw [eval_ListComp]
  refine wpAny_comprehension_free (use := none) rfl hs (clos_of (S.cells I)) S.kind S.names (thn (hi pins s σ H _ I h) fun v s1 h1 => thn h1 fun itv s2 h2 => ?_)
  obtain ⟨it, fp, tn, J, H2, e, I2, T, st2, f2, W, ⟨m0, w0⟩, turn⟩ := h2
  subst e
  refine comp_core (RR := fun acc C => compPost (model X.prog X.w) X.A X.xe none (EP X pins σ Q) acc C) S hc ht he I2 T st2 f2 W m0 w0 (fun ys H' => ∀ p, H' p = none → Q (.ref p) (upd H' p (.lst ys))) turn ?_
  intro D C s' ys H' m fin hD I' ns fC
  obtain ⟨f0, f1, f2', f3, f4, f5⟩ := fC
  refine ⟨m, ns, fun h' sb => ⟨.ref D, _, I'.turned (t' := s'.toks) (fun b o hb e => (sb.2 b hb).trans e) f0 f1 f3 f4 f5, rfl, fin D hD⟩⟩

/-- y = [elt for x in iter if ..] in one row -/
theorem ps_comp {elt iter : Expr} {px py : Pos} {ifs : List Expr} {pos spos : Pos} {wi : TI} {tt : TT} {te : TE} {i : Nat} {y : Str} (hN : X.N.Nodup) (hi0 : X.N[i]? = some y) (hy : X.env.scope.names.lookup y = some .local)
    (S : CompSc X scope x N' caps) (hc : X.calm = true) (hi : PI X (.Name x px) iter wi)
    (ht : ∀ C ex s₀ H₀, PIfs (cxComp X scope N' C ex s₀ H₀) ifs tt) (he : ∀ C ex s₀ H₀, PE (cxComp X scope N' C ex s₀ H₀) elt te)
    (hsw : swapsWith (.ListComp elt [⟨.Name x px, iter, ifs, 0⟩] scope pos) (some (.Name y py)) spos.line X.env = pure true := by rfl)
    (hs : ∀ x, foldedSetIterable iter X.env x = pure x := by intro _; rfl) : PS X (.Assign [.Name y py] (.ListComp elt [⟨.Name x px, iter, ifs, 0⟩] scope pos) spos) (tAsg (tComp caps wi tt te) (gName i)) := by
  intro pins s σ H D0 I h
  rw [exec_Assign_Name_used _ _ _ _ hsw]
  refine wpAny_bind (wpAny_standAt (wpAny_bind ?_))
  show wpAny _ X.A (do let _ ← comprehension (.ListComp elt [⟨.Name x px, iter, ifs, 0⟩] scope pos) scope X.env _ (newList []) false (eval iter X.env) (some (assign (.Name y py) X.env))) _ _ s
  refine wpAny_bind (wpAny_mono (wpAny_comprehension_free (use := some (assign (.Name y py) X.env)) (Q := fun _ s' => SP X pins D0 .next s') rfl hs (clos_of (S.cells I)) S.kind S.names
    (thn (hi pins s σ H _ I h) fun v s1 h1 => thn h1 fun itv s2 h2 => ?_)) (fun _ s' hq => wpAny_pure (wpAny_pure hq)) fun _ _ e => e)
  obtain ⟨it, fp, tn, J, H2, e, I2, T, st2, f2, W, ⟨m0, w0⟩, turn⟩ := h2
  subst e
  refine comp_core (RR := fun acc C => compPost (model X.prog X.w) X.A X.xe (some (assign (.Name y py) X.env)) (fun _ s' => SP X pins D0 .next s') acc C) S hc ht he I2 T st2 f2 W m0 w0
    (fun ys H' => ∀ p, H' p = none → D0.nx (σ.set i (some (.ref p))) (upd H' p (.lst ys))) turn ?_
  intro D C s' ys H' m fin hD I' ns fC
  obtain ⟨f0, f1, f2', f3, f4, f5⟩ := fC
  show wpAny _ X.A (assign (.Name y py) X.env (.ref D)) _ _ _
  refine wpAny_assign_Name (store_ok2 I' hN hi0 (.inl hy) (v := .ref D) rfl (fun s'' I'' ⟨a, sb, ha⟩ => ?_) (.inr hy))
  have hCa : C ≠ a := by
    rcases ha with z | z
    · rw [z]; exact f1
    · exact fun q => f4 _ _ z q.symm
  refine ⟨m, ns.sameBut sb hCa, fun h' sb' => ⟨_, _, I''.turned (t' := s''.toks) (fun b o hb e => (sb'.2 b hb).trans e) f0 f1 f3 f4 f5, fin D hD⟩⟩
end

/-! ### the forms one uses: N is what a turn is to reach -/
end L2

set_option Elab.async false
set_option linter.all false
set_option maxRecDepth 100000
set_option maxHeartbeats 4000000
/-! Data: a value and all that hangs on it as one plain term; heaps with hidden places; readings over data. -/
namespace L2.DL
open PySem PySem.Spec PyProof.Rows

inductive D where
  | non | bl (b : Bool) | int (i : Int) | str (x : Str) | tup (l : List D) | lst (l : List D) | scr (ns : List Int) | crs (n : Int) (ps : List (Int × Int)) | ty (n : String) | cls (a : Addr)

def prV (K : PySem.W.Frag) (H : Hp) (p : Int × Int) (v : V) : Prop := ∃ a, v = .ref a ∧ SqT K H a [.int p.1, .int p.2]
mutual
def Rep (K : PySem.W.Frag) (C : Addr) (H : Hp) : D → V → Prop
  | .non, v => v = .non
  | .bl b, v => v = .bl b
  | .int i, v => v = .int i
  | .str x, v => v = .str x
  | .ty n, v => v = .ty n
  | .cls a, v => v = .ref a
  | .tup ds, v => ∃ a xs, v = .ref a ∧ SqT K H a xs ∧ RepA K C H ds xs
  | .lst ds, v => ∃ a xs, v = .ref a ∧ H a = some (.lst xs) ∧ RepA K C H ds xs
  | .scr ns, v => ∃ a, v = .ref a ∧ SqL K H a (ns.map V.int)
  | .crs n ps, v => ∃ a dx q xs, v = .ref a ∧ H a = some (.ins C dx [("streams", .int n), ("pairs", .ref q)]) ∧ H q = some (.lst xs) ∧ Paired (prV K H) ps xs
def RepA (K : PySem.W.Frag) (C : Addr) (H : Hp) : List D → List V → Prop
  | [], xs => xs = []
  | d :: ds, xs => ∃ x r, xs = x :: r ∧ Rep K C H d x ∧ RepA K C H ds r
end

section
variable {K : PySem.W.Frag} {C : Addr} {H H' H1 : Hp}
theorem prV.mono (e : Same H H') {p : Int × Int} {v : V} (h : prV K H p v) : prV K H' p v := let ⟨a, h1, h2⟩ := h; ⟨a, h1, e.seqT h2⟩
mutual
theorem Rep.mono (e : Same H H') : ∀ (d : D) (v : V), Rep K C H d v → Rep K C H' d v
  | .non, v, h => by unfold Rep at h ⊢; exact h
  | .bl _, v, h => by unfold Rep at h ⊢; exact h
  | .int _, v, h => by unfold Rep at h ⊢; exact h
  | .str _, v, h => by unfold Rep at h ⊢; exact h
  | .ty _, v, h => by unfold Rep at h ⊢; exact h
  | .cls _, v, h => by unfold Rep at h ⊢; exact h
  | .tup ds, v, h => by
    unfold Rep at h ⊢
    obtain ⟨a, xs, h1, h2, h3⟩ := h
    exact ⟨a, xs, h1, e.seqT h2, RepA.mono e ds xs h3⟩
  | .lst ds, v, h => by
    unfold Rep at h ⊢
    obtain ⟨a, xs, h1, h2, h3⟩ := h
    exact ⟨a, xs, h1, e _ _ h2, RepA.mono e ds xs h3⟩
  | .scr ns, v, h => by
    unfold Rep at h ⊢
    obtain ⟨a, h1, h2⟩ := h
    exact ⟨a, h1, e.seq h2⟩
  | .crs n ps, v, h => by
    unfold Rep at h ⊢
    obtain ⟨a, dx, q, xs, h1, h2, h3, h4⟩ := h
    exact ⟨a, dx, q, xs, h1, e _ _ h2, e _ _ h3, Paired.mapP h4 fun _ _ z => z.mono e⟩
theorem RepA.mono (e : Same H H') : ∀ (ds : List D) (xs : List V), RepA K C H ds xs → RepA K C H' ds xs
  | [], xs, h => by unfold RepA at h ⊢; exact h
  | d :: ds, xs, h => by
    unfold RepA at h ⊢
    obtain ⟨x, r, h1, h2, h3⟩ := h
    exact ⟨x, r, h1, Rep.mono e d x h2, RepA.mono e ds r h3⟩
end
theorem repA_nil : RepA K C H [] [] := by unfold RepA; rfl
theorem repA_cons {d : D} {ds : List D} {x : V} {xs : List V} (h : Rep K C H d x) (h' : RepA K C H ds xs) : RepA K C H (d :: ds) (x :: xs) := by
  unfold RepA; exact ⟨x, xs, rfl, h, h'⟩
theorem repA_iff : ∀ {ds : List D} {xs : List V}, RepA K C H ds xs ↔ Paired (Rep K C H) ds xs
  | [], xs => by
    unfold RepA
    exact ⟨fun h => by subst h; exact .nil, fun h => by cases h; rfl⟩
  | d :: ds, xs => by
    unfold RepA
    constructor
    · rintro ⟨x, r, rfl, h1, h2⟩
      exact .cons h1 (repA_iff.mp h2)
    · intro h
      cases h with
      | cons h1 h2 => exact ⟨_, _, rfl, h1, repA_iff.mpr h2⟩
theorem paired_len {α β : Type} {F : α → β → Prop} : ∀ {l : List α} {m : List β}, Paired F l m → l.length = m.length
  | _, _, .nil => rfl
  | _, _, .cons _ t => by simp [paired_len t]
theorem paired_get {α β : Type} {F : α → β → Prop} : ∀ {l : List α} {m : List β} {i : Nat} {a : α}, Paired F l m → l[i]? = some a → ∃ b, m[i]? = some b ∧ F a b
  | _, _, _, _, .nil, h => by simp at h
  | _, _, 0, _, .cons h1 t, h => by simp at h; subst h; exact ⟨_, rfl, h1⟩
  | _, _, i + 1, _, .cons h1 t, h => by simp at h; simpa using paired_get t h
theorem paired_get' {α β : Type} {F : α → β → Prop} : ∀ {l : List α} {m : List β} {i : Nat} {b : β}, Paired F l m → m[i]? = some b → ∃ a, l[i]? = some a ∧ F a b
  | _, _, _, _, .nil, h => by simp at h
  | _, _, 0, _, .cons h1 t, h => by simp at h; subst h; exact ⟨_, rfl, h1⟩
  | _, _, i + 1, _, .cons h1 t, h => by simp at h; simpa using paired_get' t h
theorem paired_app {α β : Type} {F : α → β → Prop} : ∀ {l l' : List α} {m m' : List β}, Paired F l m → Paired F l' m' → Paired F (l ++ l') (m ++ m')
  | _, _, _, _, .nil, h => h
  | _, _, _, _, .cons h1 t, h => .cons h1 (paired_app t h)
theorem paired_take {α β : Type} {F : α → β → Prop} : ∀ {l : List α} {m : List β} (n : Nat), Paired F l m → Paired F (l.take n) (m.take n)
  | _, _, 0, _ => by simpa using Paired.nil
  | _, _, n + 1, .nil => .nil
  | _, _, n + 1, .cons h t => .cons h (paired_take n t)
theorem paired_drop {α β : Type} {F : α → β → Prop} : ∀ {l : List α} {m : List β} (n : Nat), Paired F l m → Paired F (l.drop n) (m.drop n)
  | _, _, 0, h => h
  | _, _, n + 1, .nil => .nil
  | _, _, n + 1, .cons h t => paired_drop n t
theorem paired_set {α β : Type} {F : α → β → Prop} {a : α} {b : β} (hab : F a b) : ∀ {l : List α} {m : List β} (i : Nat), Paired F l m → Paired F (l.set i a) (m.set i b)
  | _, _, _, .nil => .nil
  | _, _, 0, .cons h t => .cons hab t
  | _, _, i + 1, .cons h t => .cons h (paired_set hab i t)
theorem repA_len {ds : List D} {xs : List V} (h : RepA K C H ds xs) : ds.length = xs.length := paired_len (repA_iff.mp h)
theorem repA_get {ds : List D} {xs : List V} {i : Nat} {d : D} (h : RepA K C H ds xs) (e : ds[i]? = some d) : ∃ x, xs[i]? = some x ∧ Rep K C H d x := paired_get (repA_iff.mp h) e
theorem repA_get' {ds : List D} {xs : List V} {i : Nat} {x : V} (h : RepA K C H ds xs) (e : xs[i]? = some x) : ∃ d, ds[i]? = some d ∧ Rep K C H d x := paired_get' (repA_iff.mp h) e
theorem repA_app {ds es : List D} {xs ys : List V} (h : RepA K C H ds xs) (h' : RepA K C H es ys) : RepA K C H (ds ++ es) (xs ++ ys) := repA_iff.mpr (paired_app (repA_iff.mp h) (repA_iff.mp h'))
theorem repA_ints : ∀ {ns : List Int} {xs : List V}, RepA K C H (ns.map D.int) xs → xs = ns.map V.int
  | [], xs, h => by unfold RepA at h; exact h
  | n :: ns, xs, h => by
    rw [List.map_cons] at h
    unfold RepA at h
    obtain ⟨x, r, rfl, h1, h2⟩ := h
    unfold Rep at h1
    subst h1
    rw [repA_ints h2]
    rfl
theorem ints_repA : ∀ {ns : List Int}, RepA K C H (ns.map D.int) (ns.map V.int)
  | [] => repA_nil
  | n :: ns => repA_cons (by unfold Rep; rfl) ints_repA

/-! ### hidden places -/
noncomputable def less (H : Hp) (S : Addr → Prop) : Hp := fun a => open Classical in if S a then none else H a
def wi (S : Addr → Prop) (p : Addr) : Addr → Prop := fun a => S a ∨ a = p
theorem less_iff {S : Addr → Prop} {a : Addr} {u : HO} : less H S a = some u ↔ ¬ S a ∧ H a = some u := by
  unfold less
  by_cases h : S a
  · rw [if_pos h]; simp [h]
  · rw [if_neg h]; simp [h]
theorem less_same {S : Addr → Prop} : Same (less H S) H := fun _ _ h => (less_iff.mp h).2
theorem same_less {S : Addr → Prop} (e : Same H H') : Same (less H S) (less H' S) := fun b u h => by
  obtain ⟨h1, h2⟩ := less_iff.mp h
  exact less_iff.mpr ⟨h1, e _ _ h2⟩
theorem less_sub {S S0 : Addr → Prop} (h : ∀ p, S0 p → S p) : Same (less H S) (less H S0) := fun b u z => by
  obtain ⟨h1, h2⟩ := less_iff.mp z
  exact less_iff.mpr ⟨fun q => h1 (h _ q), h2⟩
def Dom (H : Hp) (S : Addr → Prop) : Prop := ∀ p, S p → H p ≠ none
theorem Same.none {p : Addr} (e : Same H H') (h : H' p = none) : H p = none := by
  cases q : H p with
  | none => rfl
  | some u => rw [e _ _ q] at h; cases h
theorem Dom.mono {S : Addr → Prop} (d : Dom H S) (e : Same H H') : Dom H' S := fun p hp z => d p hp (Same.none e z)
theorem same_wi {S : Addr → Prop} {p : Addr} (e : Same H H') (h : H p = none) : Same (less H S) (less H' (wi S p)) := fun b u z => by
  obtain ⟨h1, h2⟩ := less_iff.mp z
  exact less_iff.mpr ⟨fun q => q.elim h1 fun q => (by rw [q, h] at h2; cases h2), e _ _ h2⟩
theorem less_upd {S : Addr → Prop} {p : Addr} {o : HO} (h : S p) : less (upd H p o) S = less H S := by
  funext a
  unfold less
  by_cases z : S a
  · rw [if_pos z, if_pos z]
  · rw [if_neg z, if_neg z, upd_ne (fun q => z (by rw [q]; exact h))]

/-! ### the state -/
inductive SV where
  | sh (d : D) | ow (p : Addr) (ds : List D)
abbrev En := List (Option SV)
def RepV (K : PySem.W.Frag) (C : Addr) (H : Hp) (S : Addr → Prop) : SV → V → Prop
  | .sh d, v => Rep K C (less H S) d v
  | .ow p ds, v => v = .ref p ∧ S p ∧ ∃ xs, H p = some (.lst xs) ∧ RepA K C (less H S) ds xs
structure EOk (K : PySem.W.Frag) (C : Addr) (H : Hp) (S : Addr → Prop) (σ : St) (env : En) : Prop where
  len : σ.length = env.length
  slot : ∀ (i : Nat) (sv : SV), env[i]? = some (some sv) → ∃ v, σ[i]? = some (some v) ∧ RepV K C H S sv v
  inj : ∀ (i j : Nat) (p : Addr) (ds es : List D), env[i]? = some (some (.ow p ds)) → env[j]? = some (some (.ow p es)) → i = j
  dom : Dom H S
theorem EOk.mono {S : Addr → Prop} {σ : St} {env : En} (h : EOk K C H S σ env) (e : Same H H') : EOk K C H' S σ env := by
  refine ⟨h.len, fun i sv z => ?_, h.inj, h.dom.mono e⟩
  obtain ⟨v, h1, h2⟩ := h.slot i sv z
  refine ⟨v, h1, ?_⟩
  cases sv with
  | sh d => exact Rep.mono (same_less e) d v h2
  | ow p ds =>
    obtain ⟨h3, h4, xs, h5, h6⟩ := h2
    exact ⟨h3, h4, xs, e _ _ h5, RepA.mono (same_less e) _ _ h6⟩

/-! ### what is wanted of a value -/
def KD (K : PySem.W.Frag) (C : Addr) (H : Hp) (S : Addr → Prop) (P : D → Prop) (Q : VK) : Prop := ∀ d, P d → ∀ v H', Same H H' → Rep K C (less H' S) d v → Q v H'
def KF (K : PySem.W.Frag) (C : Addr) (H : Hp) (S : Addr → Prop) (P : List D → Prop) (Q : VK) : Prop :=
  ∀ ds, P ds → ∀ p xs H', Same H H' → H p = none → H' p = some (.lst xs) → RepA K C (less H' (wi S p)) ds xs → Q (.ref p) H'
theorem KD.mono {S : Addr → Prop} {P : D → Prop} {Q : VK} (k : KD K C H S P Q) (e : Same H H1) : KD K C H1 S P Q := fun d hd v H' e' r => k d hd v H' (e.trans e') r
theorem KF.mono {S : Addr → Prop} {P : List D → Prop} {Q : VK} (k : KF K C H S P Q) (e : Same H H1) : KF K C H1 S P Q := fun d hd p xs H' e' hp => k d hd p xs H' (e.trans e') (Same.none e hp)
theorem KD.fresh {S : Addr → Prop} {P : D → Prop} {Q : VK} (k : KD K C H S P Q) (hd : Dom H S) : KF K C H S (fun ds => P (.lst ds)) Q := fun ds h p xs H' e hp hl r => by
  refine k _ h _ H' e ?_
  unfold Rep
  refine ⟨p, xs, rfl, less_iff.mpr ⟨fun z => hd p z hp, hl⟩, RepA.mono (less_sub fun _ => .inl) _ _ r⟩
/-- a list just laid -/
theorem KF.new {S : Addr → Prop} {P : List D → Prop} {Q : VK} (k : KF K C H S P Q) {ds : List D} {xs : List V} (h : P ds) (r : RepA K C (less H S) ds xs) {p : Addr} (hp : H p = none) : Q (.ref p) (upd H p (.lst xs)) :=
  k ds h p xs _ (same_new hp _) hp upd_same (RepA.mono (same_wi (same_new hp _) hp) _ _ r)
theorem KD.new {S : Addr → Prop} {P : D → Prop} {Q : VK} (k : KD K C H S P Q) (hd : Dom H S) {ds : List D} {xs : List V} (h : P (.tup ds)) (r : RepA K C (less H S) ds xs) {p : Addr} (hp : H p = none) : Q (.ref p) (upd H p (.tup xs)) := by
  refine k _ h _ _ (same_new hp _) ?_
  unfold Rep
  exact ⟨p, xs, rfl, SqT.of (less_iff.mpr ⟨fun z => hd p z hp, upd_same⟩), RepA.mono (same_less (same_new hp _)) _ _ r⟩
theorem KD.flat {S : Addr → Prop} {P : D → Prop} {Q : VK} (k : KD K C H S P Q) {d : D} {v : V} (h : P d) (r : Rep K C (less H S) d v) : Q v H := k d h v H (Same.refl _) r
theorem rep_int {i : Int} : Rep K C H (.int i) (.int i) := by unfold Rep; rfl
theorem rep_bl {b : Bool} : Rep K C H (.bl b) (.bl b) := by unfold Rep; rfl
theorem rep_non : Rep K C H .non .non := by unfold Rep; rfl
theorem rep_ty {x : String} : Rep K C H (.ty x) (.ty x) := by unfold Rep; rfl
theorem rep_cls {x : Addr} : Rep K C H (.cls x) (.ref x) := by unfold Rep; rfl
theorem rep_str {x : Str} : Rep K C H (.str x) (.str x) := by unfold Rep; rfl
end

/-! ### readings over data -/
abbrev DT1 := En → (D → Prop) → Prop
abbrev DTT := En → (Bool → Prop) → Prop
abbrev DTA := En → (List D → Prop) → Prop
def rE (K : PySem.W.Frag) (C : Addr) (t : DT1) : TE := fun σ H Q => ∃ S env P, EOk K C H S σ env ∧ t env P ∧ KD K C H S P Q
def rF (K : PySem.W.Frag) (C : Addr) (t : DTA) : TE := fun σ H Q => ∃ S env P, EOk K C H S σ env ∧ t env P ∧ KF K C H S P Q
def rT (K : PySem.W.Frag) (C : Addr) (t : DTT) : TT := fun σ H Q => ∃ S env P, EOk K C H S σ env ∧ t env P ∧ ∀ b, P b → ∀ H', Same H H' → Q b H'
def rA (K : PySem.W.Frag) (C : Addr) (t : DTA) : TA := fun σ H Q => ∃ S env P, EOk K C H S σ env ∧ t env P ∧ ∀ ds, P ds → ∀ vs H', Same H H' → RepA K C (less H' S) ds vs → Q vs H'
def DE (C : Addr) (X : Cx) (e : Expr) (t : DT1) : Prop := PE X e (rE X.K C t)
def DF (C : Addr) (X : Cx) (e : Expr) (t : DTA) : Prop := PE X e (rF X.K C t)
def DB (C : Addr) (X : Cx) (e : Expr) (t : DTT) : Prop := PT X e (rT X.K C t)
def DW (C : Addr) (X : Cx) (e : Expr) (t : DTT) : Prop := PW X e (rT X.K C t)
def DA (C : Addr) (X : Cx) (es : List Expr) (t : DTA) : Prop := PA X es (rA X.K C t)

theorem peW {X : Cx} {e : Expr} {t t' : TE} (h : PE X e t) (w : ∀ σ H Q, t' σ H Q → t σ H Q) : PE X e t' := fun pins s σ H Q I q => h pins s σ H Q I (w σ H Q q)
theorem ptW {X : Cx} {e : Expr} {t t' : TT} (h : PT X e t) (w : ∀ σ H Q, t' σ H Q → t σ H Q) : PT X e t' := fun pins s σ H Q I q => h pins s σ H Q I (w σ H Q q)
theorem pwW {X : Cx} {e : Expr} {t t' : TT} (h : PW X e t) (w : ∀ σ H Q, t' σ H Q → t σ H Q) : PW X e t' := fun wh pins s σ H Q I q => h wh pins s σ H Q I (w σ H Q q)
theorem paW {X : Cx} {es : List Expr} {t t' : TA} (h : PA X es t) (w : ∀ σ H Q, t' σ H Q → t σ H Q) : PA X es t' := fun p pins s σ H Q I q => h p pins s σ H Q I (w σ H Q q)

def dVar (i : Nat) : DT1 := fun env Q => match env[i]? with
  | some (some (.sh d)) => Q d
  | _ => False
def dC (d : D) : DT1 := fun _ Q => Q d
def d1 (r : D → (D → Prop) → Prop) (ta : DT1) : DT1 := fun env Q => ta env fun x => r x Q
def d2 (r : D → D → (D → Prop) → Prop) (ta tb : DT1) : DT1 := fun env Q => ta env fun x => tb env fun y => r x y Q
def d2F (r : D → D → (List D → Prop) → Prop) (ta tb : DT1) : DTA := fun env Q => ta env fun x => tb env fun y => r x y Q
def dNil : DTA := fun _ Q => Q []
def dCons (ta : DT1) (t : DTA) : DTA := fun env Q => ta env fun x => t env fun xs => Q (x :: xs)
def dCall (r : List D → (D → Prop) → Prop) (ta : DTA) : DT1 := fun env Q => ta env fun xs => r xs Q
def dCallF (r : List D → (List D → Prop) → Prop) (ta : DTA) : DTA := fun env Q => ta env fun xs => r xs Q
def dOf (t : DTA) : DT1 := fun env Q => t env fun ds => Q (.lst ds)

def Lift2 (K : PySem.W.Frag) (C : Addr) (r : R2) (rd : D → D → (D → Prop) → Prop) : Prop :=
  ∀ H S d v e u P Q, Dom H S → Rep K C (less H S) d v → Rep K C (less H S) e u → rd d e P → KD K C H S P Q → r v u H Q
def Lift2F (K : PySem.W.Frag) (C : Addr) (r : R2) (rd : D → D → (List D → Prop) → Prop) : Prop :=
  ∀ H S d v e u P Q, Dom H S → Rep K C (less H S) d v → Rep K C (less H S) e u → rd d e P → KF K C H S P Q → r v u H Q
def LiftN (K : PySem.W.Frag) (C : Addr) (r : List V → Hp → VK → Prop) (rd : List D → (D → Prop) → Prop) : Prop :=
  ∀ H S ds vs P Q, Dom H S → RepA K C (less H S) ds vs → rd ds P → KD K C H S P Q → r vs H Q
def LiftNF (K : PySem.W.Frag) (C : Addr) (r : List V → Hp → VK → Prop) (rd : List D → (List D → Prop) → Prop) : Prop :=
  ∀ H S ds vs P Q, Dom H S → RepA K C (less H S) ds vs → rd ds P → KF K C H S P Q → r vs H Q

section
variable {C : Addr} {X : Cx} {a b c e : Expr} {es : List Expr} {ta tb tc te : DT1} {t : DTA} {pos : Pos}
theorem DE.of (h : DF C X e t) : DE C X e (dOf t) := peW h fun σ H Q ⟨S, env, P, h1, h2, h3⟩ => ⟨S, env, _, h1, h2, h3.fresh h1.dom⟩
theorem dvar_at {env : En} {i : Nat} {P : D → Prop} (h : dVar i env P) : ∃ d, env[i]? = some (some (.sh d)) ∧ P d := by
  unfold dVar at h
  split at h
  · exact ⟨_, by assumption, h⟩
  · exact h.elim
theorem de_of_var {i : Nat} (h : PE X e (tVar i)) : DE C X e (dVar i) := peW h fun σ H Q ⟨S, env, P, h1, h2, h3⟩ => by
  obtain ⟨d, e1, p⟩ := dvar_at h2
  obtain ⟨v, e2, r⟩ := h1.slot i _ e1
  exact ⟨v, e2, h3.flat p r⟩
theorem de_of_c {v : V} {d : D} (h : PE X e (tC v)) (r : ∀ H, Rep X.K C H d v) : DE C X e (dC d) := peW h fun σ H Q ⟨S, env, P, h1, h2, h3⟩ => h3.flat h2 (r _)
theorem de_int {i j} : DE C X (.Constant (.int i) j pos) (dC (.int i)) := de_of_c pe_int fun _ => rep_int
theorem de_bl {i j} : DE C X (.Constant (.bool i) j pos) (dC (.bl i)) := de_of_c pe_bl fun _ => rep_bl
theorem de_non {j} : DE C X (.Constant .none j pos) (dC .non) := de_of_c pe_non fun _ => rep_non
theorem de_str {x j} : DE C X (.Constant (.str x) j pos) (dC (.str x)) := de_of_c pe_str fun _ => rep_str
theorem top_of {r : R2} {rd : D → D → (D → Prop) → Prop} (L : Lift2 X.K C r rd) : ∀ σ H Q, rE X.K C (d2 rd ta tb) σ H Q → tOp r (rE X.K C ta) (rE X.K C tb) σ H Q := fun σ H Q ⟨S, env, P, h1, h2, h3⟩ =>
  ⟨S, env, _, h1, h2, fun d hd v H' e rv => ⟨S, env, _, h1.mono e, hd, fun d' hd' v' H'' e' rv' => L H'' S d v d' v' P Q (h1.dom.mono (e.trans e')) (Rep.mono (same_less e') _ _ rv) rv' hd' (h3.mono (e.trans e'))⟩⟩
theorem topF_of {r : R2} {rd : D → D → (List D → Prop) → Prop} (L : Lift2F X.K C r rd) : ∀ σ H Q, rF X.K C (d2F rd ta tb) σ H Q → tOp r (rE X.K C ta) (rE X.K C tb) σ H Q := fun σ H Q ⟨S, env, P, h1, h2, h3⟩ =>
  ⟨S, env, _, h1, h2, fun d hd v H' e rv => ⟨S, env, _, h1.mono e, hd, fun d' hd' v' H'' e' rv' => L H'' S d v d' v' P Q (h1.dom.mono (e.trans e')) (Rep.mono (same_less e') _ _ rv) rv' hd' (h3.mono (e.trans e'))⟩⟩
theorem tcb_of {r : List V → Hp → VK → Prop} {rd : List D → (D → Prop) → Prop} (L : LiftN X.K C r rd) : ∀ σ H Q, rE X.K C (dCall rd t) σ H Q → tCB r (rA X.K C t) σ H Q := fun σ H Q ⟨S, env, P, h1, h2, h3⟩ =>
  ⟨S, env, _, h1, h2, fun ds hd vs H' e rv => L H' S ds vs P Q (h1.dom.mono e) rv hd (h3.mono e)⟩
theorem tcbF_of {r : List V → Hp → VK → Prop} {rd : List D → (List D → Prop) → Prop} (L : LiftNF X.K C r rd) : ∀ σ H Q, rF X.K C (dCallF rd t) σ H Q → tCB r (rA X.K C t) σ H Q := fun σ H Q ⟨S, env, P, h1, h2, h3⟩ =>
  ⟨S, env, _, h1, h2, fun ds hd vs H' e rv => L H' S ds vs P Q (h1.dom.mono e) rv hd (h3.mono e)⟩
theorem de_op {op : Operator} {r : R2} {rd : D → D → (D → Prop) → Prop} (ho : OpR X (binaryOp op) r) (L : Lift2 X.K C r rd) (ha : DE C X a ta) (hb : DE C X b tb) : DE C X (.BinOp a op b pos) (d2 rd ta tb) := peW (pe_op ho ha hb) (top_of L)
theorem df_op {op : Operator} {r : R2} {rd : D → D → (List D → Prop) → Prop} (ho : OpR X (binaryOp op) r) (L : Lift2F X.K C r rd) (ha : DE C X a ta) (hb : DE C X b tb) : DF C X (.BinOp a op b pos) (d2F rd ta tb) := peW (pe_op ho ha hb) (topF_of L)
theorem de_cmp {op : CmpOp} {r : R2} {rd : D → D → (D → Prop) → Prop} (ho : OpR X (compareOp op) r) (L : Lift2 X.K C r rd) (ha : DE C X a ta) (hb : DE C X b tb) (hm : behindInMarks op b = false) : DE C X (.Compare a [op] [b] pos) (d2 rd ta tb) := peW (pe_cmpR ho ha hb hm) (top_of L)
def dTest (t : DT1) : DTT := fun env Q => t env fun x => match x with
  | .bl b => Q b
  | _ => False
theorem test_at {x : D} {P : Bool → Prop} (h : match x with | .bl b => P b | _ => False) : ∃ b, x = .bl b ∧ P b := by
  cases x <;> first | exact ⟨_, rfl, h⟩ | exact h.elim
theorem ttest_of {tv : TE} (w : ∀ σ H Q, rE X.K C te σ H Q → tv σ H Q) : ∀ σ H Q, rT X.K C (dTest te) σ H Q → tTest tv σ H Q := fun σ H Q ⟨S, env, P, h1, h2, h3⟩ => by
  refine w σ H _ ⟨S, env, _, h1, h2, fun d hd v H' e rv => ?_⟩
  obtain ⟨b, rfl, p⟩ := test_at hd
  unfold Rep at rv
  exact ⟨b, rv, h3 b p H' e⟩
theorem db_cmp {op : CmpOp} {r : R2} {rd : D → D → (D → Prop) → Prop} (ho : OpR X (compareOp op) r) (L : Lift2 X.K C r rd) (ha : DE C X a ta) (hb : DE C X b tb) (hm : behindInMarks op b = false) : DB C X (.Compare a [op] [b] pos) (dTest (d2 rd ta tb)) :=
  ptW (pt_cmpR ho ha hb hm) (ttest_of (top_of L))
theorem db_val (h : DE C X e te) (he : ∀ whole, isTrue e X.env whole = (do let v ← whole; standAt e.pos; holding [v] (truthy v)) := by intro _; rfl) : DB C X e (dTest te) := ptW (pt_val h he) (ttest_of fun _ _ _ z => z)
end
end L2.DL

set_option Elab.async false
set_option linter.all false
set_option maxRecDepth 100000
set_option maxHeartbeats 4000000
/-! Rules over data: operators, calls, statements, a def. -/
namespace L2.DL
open PySem PySem.Spec PyProof.Rows
open Builtin.Int (intBits)

/-! ### and, or, not, if -/
section
variable {C : Addr} {X : Cx} {a b c e : Expr} {es rest : List Expr} {ta tb tc te : DT1} {t : DTA} {tt tu : DTT} {pos : Pos}
def dAnd (t u : DTT) : DTT := fun env Q => t env fun c => if c = true then u env Q else Q false
def dOr (t u : DTT) : DTT := fun env Q => t env fun c => if c = true then Q true else u env Q
def dNot (t : DTT) : DTT := fun env Q => t env fun c => Q (!c)
theorem DW.db (h : DW C X e tt) : DB C X e tt := PW.pt h
theorem dw_and1 (ha : DB C X a tt) : DW C X (.BoolOp .And [a] pos) tt := pw_and1 ha
theorem dw_or1 (ha : DB C X a tt) : DW C X (.BoolOp .Or [a] pos) tt := pw_or1 ha
theorem dw_and (ha : DB C X a tt) (hb : DW C X (.BoolOp .And (b :: rest) pos) tu) : DW C X (.BoolOp .And (a :: b :: rest) pos) (dAnd tt tu) := pwW (pw_and ha hb) fun σ H Q ⟨S, env, P, h1, h2, h3⟩ =>
  ⟨S, env, _, h1, h2, fun d hd H' e => by
    cases d with
    | true => exact ⟨S, env, P, h1.mono e, hd, fun b hb H'' e' => h3 b hb H'' (e.trans e')⟩
    | false => exact h3 false hd H' e⟩
theorem dw_or (ha : DB C X a tt) (hb : DW C X (.BoolOp .Or (b :: rest) pos) tu) : DW C X (.BoolOp .Or (a :: b :: rest) pos) (dOr tt tu) := pwW (pw_or ha hb) fun σ H Q ⟨S, env, P, h1, h2, h3⟩ =>
  ⟨S, env, _, h1, h2, fun d hd H' e => by
    cases d with
    | false => exact ⟨S, env, P, h1.mono e, hd, fun b hb H'' e' => h3 b hb H'' (e.trans e')⟩
    | true => exact h3 true hd H' e⟩
theorem db_not (ha : DB C X a tt) : DB C X (.UnaryOp .Not a pos) (dNot tt) := ptW (pt_not ha) fun σ H Q ⟨S, env, P, h1, h2, h3⟩ => ⟨S, env, _, h1, h2, fun d hd H' e => h3 _ hd H' e⟩
def dAndV (ta tb : DT1) : DT1 := fun env Q => ta env fun x => match x with
  | .bl true => tb env Q
  | .bl false => Q (.bl false)
  | _ => False
def dOrV (ta tb : DT1) : DT1 := fun env Q => ta env fun x => match x with
  | .bl true => Q (.bl true)
  | .bl false => tb env Q
  | _ => False
def dNotV (ta : DT1) : DT1 := fun env Q => ta env fun x => match x with
  | .bl b => Q (.bl (!b))
  | _ => False
theorem de_one {op} (h : DE C X a ta) : DE C X (.BoolOp op [a] pos) ta := pe_one h
theorem de_and (ha : DE C X a ta) (hb : DE C X (.BoolOp .And (b :: rest) pos) tb) : DE C X (.BoolOp .And (a :: b :: rest) pos) (dAndV ta tb) := peW (pe_and ha hb) fun σ H Q ⟨S, env, P, h1, h2, h3⟩ =>
  ⟨S, env, _, h1, h2, fun d hd v H' e rv => by
    cases d with
    | bl k =>
      unfold Rep at rv
      refine ⟨k, rv, ?_⟩
      cases k with
      | true => exact ⟨S, env, P, h1.mono e, hd, h3.mono e⟩
      | false => exact h3 _ hd _ H' e rep_bl
    | _ => exact hd.elim⟩
def dIf (t : DTT) (ta tb : DT1) : DT1 := fun env Q => t env fun c => if c = true then ta env Q else tb env Q
/-! ### argument lists, displays -/
theorem da_nil : DA C X [] dNil := paW pa_nil fun σ H Q ⟨S, env, P, h1, h2, h3⟩ => h3 [] h2 [] H (Same.refl _) repA_nil
theorem da_cons (ha : DE C X e te) (hr : DA C X es t) (hs : starEach (e :: es) X.env = (false, eval e X.env) :: starEach es X.env := by rfl) : DA C X (e :: es) (dCons te t) := paW (pa_cons ha hr hs) fun σ H Q ⟨S, env, P, h1, h2, h3⟩ =>
  ⟨S, env, _, h1, h2, fun d hd v H' e rv => ⟨S, env, _, h1.mono e, hd, fun ds hds vs H'' e' rvs => h3 _ hds _ H'' (e.trans e') (repA_cons (Rep.mono (same_less e') _ _ rv) rvs)⟩⟩
def dTup (t : DTA) : DT1 := fun env Q => t env fun xs => xs.length ≤ sizeLine ∧ Q (.tup xs)
def dLst (t : DTA) : DTA := fun env Q => t env fun xs => xs.length ≤ sizeLine ∧ Q xs
theorem de_tup {x1} (h : DA C X es t) : DE C X (.Tuple es x1 pos) (dTup t) := peW (pe_tup h) fun σ H Q ⟨S, env, P, h1, h2, h3⟩ =>
  ⟨S, env, _, h1, h2, fun ds hd vs H' e rv => ⟨by rw [← repA_len rv]; exact hd.1, fun p hp => (h3.mono e).new (h1.dom.mono e) hd.2 rv hp⟩⟩
theorem df_lst (h : DA C X es t) : DF C X (.List es pos) (dLst t) := peW (pe_lst h) fun σ H Q ⟨S, env, P, h1, h2, h3⟩ =>
  ⟨S, env, _, h1, h2, fun ds hd vs H' e rv => ⟨by rw [← repA_len rv]; exact hd.1, fun p hp => (h3.mono e).new hd.2 rv hp⟩⟩

/-! ### ints -/
def rdI (Cn : Int → Int → Prop) (g : Int → Int → D) : D → D → (D → Prop) → Prop := fun d e Q => match d, e with
  | .int i, .int j => Cn i j ∧ Q (g i j)
  | _, _ => False
def rdI0 (g : Int → Int → D) : D → D → (D → Prop) → Prop := fun d e Q => match d, e with
  | .int i, .int j => Q (g i j)
  | _, _ => False
theorem lift_rI {Cn : Int → Int → Prop} {g : Int → Int → V} {gd : Int → Int → D} (hg : ∀ H i j, Rep X.K C H (gd i j) (g i j)) : Lift2 X.K C (rI Cn g) (rdI Cn gd) := by
  intro H S d v e u P Q dm r1 r2 h k
  unfold rdI at h
  split at h
  · unfold Rep at r1 r2
    exact ⟨_, _, r1, r2, h.1, k.flat h.2 (hg _ _ _)⟩
  · exact h.elim
theorem lift_rI0 {g : Int → Int → V} {gd : Int → Int → D} (hg : ∀ H i j, Rep X.K C H (gd i j) (g i j)) : Lift2 X.K C (rI0 g) (rdI0 gd) := by
  intro H S d v e u P Q dm r1 r2 h k
  unfold rdI0 at h
  split at h
  · unfold Rep at r1 r2
    exact ⟨_, _, r1, r2, k.flat h (hg _ _ _)⟩
  · exact h.elim
abbrev dAdd := d2 (rdI0 fun i j => .int (i + j))
abbrev dSub := d2 (rdI0 fun i j => .int (i - j))
abbrev dMul := d2 (rdI CMulB fun i j => .int (i * j))
abbrev dDivB := d2 (rdI CDivB fun i j => .int (i.fdiv j))
abbrev dDiv := d2 (rdI CDiv fun i j => .int (i / j))
abbrev dMod := d2 (rdI (fun _ j => 0 < j) fun i j => .int (i % j))
abbrev dPow := d2 (rdI CPow fun i j => .int (i ^ j.toNat))
theorem de_add (ha : DE C X a ta) (hb : DE C X b tb) : DE C X (.BinOp a .Add b pos) (dAdd ta tb) := de_op op_add (lift_rI0 fun _ _ _ => rep_int) ha hb
theorem de_sub (ha : DE C X a ta) (hb : DE C X b tb) : DE C X (.BinOp a .Sub b pos) (dSub ta tb) := de_op op_sub (lift_rI0 fun _ _ _ => rep_int) ha hb
theorem de_mul (ha : DE C X a ta) (hb : DE C X b tb) : DE C X (.BinOp a .Mult b pos) (dMul ta tb) := de_op op_mulB (lift_rI fun _ _ _ => rep_int) ha hb
theorem de_div (ha : DE C X a ta) (hb : DE C X b tb) : DE C X (.BinOp a .FloorDiv b pos) (dDiv ta tb) := de_op op_fdiv (lift_rI fun _ _ _ => rep_int) ha hb
theorem de_mod (ha : DE C X a ta) (hb : DE C X b tb) : DE C X (.BinOp a .Mod b pos) (dMod ta tb) := de_op op_mod (lift_rI fun _ _ _ => rep_int) ha hb
def rdU (g : Int → D) : D → (D → Prop) → Prop := fun d Q => match d with
  | .int i => Q (g i)
  | _ => False
theorem l_lt : Lift2 X.K C (rI0 fun i j => .bl (decide (i < j))) (rdI0 fun i j => .bl (decide (i < j))) := lift_rI0 fun _ _ _ => rep_bl
theorem l_le : Lift2 X.K C (rI0 fun i j => .bl (decide (i ≤ j))) (rdI0 fun i j => .bl (decide (i ≤ j))) := lift_rI0 fun _ _ _ => rep_bl
theorem l_gt : Lift2 X.K C (rI0 fun i j => .bl (decide (j < i))) (rdI0 fun i j => .bl (decide (j < i))) := lift_rI0 fun _ _ _ => rep_bl
theorem l_ge : Lift2 X.K C (rI0 fun i j => .bl (decide (j ≤ i))) (rdI0 fun i j => .bl (decide (j ≤ i))) := lift_rI0 fun _ _ _ => rep_bl
theorem rep_bl' {K : PySem.W.Frag} {H : Hp} {b c : Bool} (h : c = b) : Rep K C H (.bl b) (.bl c) := by subst h; exact rep_bl
/-- == of ints, bools, texts -/
def rdEq : D → D → (D → Prop) → Prop := fun d e Q => match d, e with
  | .int i, .int j => Q (.bl (decide (i = j)))
  | .bl i, .bl j => Q (.bl (decide (i = j)))
  | .str i, .str j => Q (.bl (decide (i = j)))
  | _, _ => False
def rdNe : D → D → (D → Prop) → Prop := fun d e Q => match d, e with
  | .int i, .int j => Q (.bl (!decide (i = j)))
  | .bl i, .bl j => Q (.bl (!decide (i = j)))
  | .str i, .str j => Q (.bl (!decide (i = j)))
  | _, _ => False
theorem l_eq : Lift2 X.K C rEq rdEq := by
  intro H S d v e u P Q dm r1 r2 h k
  unfold rdEq at h
  split at h
  · unfold Rep at r1 r2
    subst r1 r2
    exact ⟨rfl, k.flat h (rep_bl' (by simp))⟩
  · unfold Rep at r1 r2
    subst r1 r2
    exact ⟨rfl, k.flat h (rep_bl' (by simp))⟩
  · unfold Rep at r1 r2
    subst r1 r2
    exact ⟨rfl, k.flat h (rep_bl' (by simp))⟩
  · exact h.elim
theorem l_ne : Lift2 X.K C rNe rdNe := by
  intro H S d v e u P Q dm r1 r2 h k
  unfold rdNe at h
  split at h
  · unfold Rep at r1 r2
    subst r1 r2
    exact ⟨rfl, k.flat h (rep_bl' (by simp))⟩
  · unfold Rep at r1 r2
    subst r1 r2
    exact ⟨rfl, k.flat h (rep_bl' (by simp))⟩
  · unfold Rep at r1 r2
    subst r1 r2
    exact ⟨rfl, k.flat h (rep_bl' (by simp))⟩
  · exact h.elim
def isNon : D → Bool
  | .non => true
  | _ => false
def rdIs : D → D → (D → Prop) → Prop := fun d e Q => match e with
  | .non => Q (.bl (isNon d))
  | _ => False
def rdIsNot : D → D → (D → Prop) → Prop := fun d e Q => match e with
  | .non => Q (.bl (!isNon d))
  | _ => False
theorem non_of {H : Hp} {d : D} {v : V} (r : Rep X.K C H d v) : decide (v = .non) = isNon d := by
  cases d <;> unfold Rep at r <;> first
    | (subst r; rfl)
    | (obtain ⟨_, _, r, _⟩ := r; subst r; rfl)
    | (obtain ⟨_, r, _⟩ := r; subst r; rfl)
    | (obtain ⟨_, _, _, _, r, _⟩ := r; subst r; rfl)
theorem l_is : Lift2 X.K C (fun x y H Q => y = .non ∧ Q (.bl (decide (x = .non))) H) rdIs := by
  intro H S d v e u P Q dm r1 r2 h k
  unfold rdIs at h
  split at h
  · unfold Rep at r2
    exact ⟨r2, k.flat h (rep_bl' (non_of r1))⟩
  · exact h.elim
/-! ### == of data -/
mutual
def py : D → PyData
  | .non => .none
  | .bl b => .bool b
  | .int i => .int i
  | .str x => .str x
  | .tup l => .tuple (pys l)
  | .lst l => .list (pys l)
  | .scr _ => .none
  | .crs _ _ => .none
  | .ty _ => .none
  | .cls _ => .none
def pys : List D → List PyData
  | [] => []
  | d :: ds => py d :: pys ds
end
def ok : Nat → D → Bool
  | _, .non => true
  | _, .bl _ => true
  | _, .int _ => true
  | _, .str x => PyData.strOk x
  | n + 1, .tup l => l.all (ok n)
  | n + 1, .lst l => l.all (ok n)
  | _, _ => false
theorem ok_all {K : PySem.W.Frag} {H : Hp} {n : Nat} (ih : ∀ d : D, ok n d = true → (∀ v, Rep K C H d v → RepD K H (py d) v) ∧ (py d).canLay0 = true ∧ (py d).depth ≤ n) :
    ∀ l : List D, l.all (ok n) = true → (∀ xs, RepA K C H l xs → RepAll K H (pys l) xs) ∧ PyData.canLayAll0 (pys l) = true ∧ PyData.depthAll (pys l) ≤ n
  | [], _ => ⟨fun xs h => by unfold RepA at h; unfold pys RepAll; exact h, rfl, Nat.zero_le _⟩
  | d :: l, h => by
    rw [List.all_cons, Bool.and_eq_true] at h
    obtain ⟨a1, a2, a3⟩ := ih d h.1
    obtain ⟨b1, b2, b3⟩ := ok_all ih l h.2
    refine ⟨fun xs z => ?_, ?_, ?_⟩
    · unfold RepA at z
      obtain ⟨x, r, e, z1, z2⟩ := z
      unfold pys RepAll
      exact ⟨x, r, e, a1 _ z1, b1 _ z2⟩
    · unfold pys PyData.canLayAll0
      rw [a2, b2]
      rfl
    · unfold pys PyData.depthAll
      omega
theorem ok_py {K : PySem.W.Frag} {H : Hp} : ∀ (n : Nat) (d : D), ok n d = true → (∀ v, Rep K C H d v → RepD K H (py d) v) ∧ (py d).canLay0 = true ∧ (py d).depth ≤ n
  | n, .non, _ => ⟨fun v h => by unfold Rep at h; unfold py RepD; exact h, by unfold py PyData.canLay0; rfl, by unfold py PyData.depth; omega⟩
  | n, .bl _, _ => ⟨fun v h => by unfold Rep at h; unfold py RepD; exact h, by unfold py PyData.canLay0; rfl, by unfold py PyData.depth; omega⟩
  | n, .int _, _ => ⟨fun v h => by unfold Rep at h; unfold py RepD; exact h, by unfold py PyData.canLay0; rfl, by unfold py PyData.depth; omega⟩
  | n, .str x, h => ⟨fun v h => by unfold Rep at h; unfold py RepD; exact h, by unfold py PyData.canLay0; unfold ok at h; exact h, by unfold py PyData.depth; omega⟩
  | 0, .tup l, h => by unfold ok at h; cases h
  | 0, .lst l, h => by unfold ok at h; cases h
  | 0, .scr l, h => by unfold ok at h; cases h
  | 0, .crs _ _, h => by unfold ok at h; cases h
  | 0, .ty _, h => by unfold ok at h; cases h
  | 0, .cls _, h => by unfold ok at h; cases h
  | n + 1, .ty _, h => by unfold ok at h; cases h
  | n + 1, .cls _, h => by unfold ok at h; cases h
  | n + 1, .scr l, h => by unfold ok at h; cases h
  | n + 1, .crs _ _, h => by unfold ok at h; cases h
  | n + 1, .tup l, h => by
    unfold ok at h
    obtain ⟨b1, b2, b3⟩ := ok_all (ok_py n) l h
    refine ⟨fun v z => ?_, by unfold py PyData.canLay0; exact b2, by unfold py PyData.depth; omega⟩
    unfold Rep at z
    obtain ⟨a, xs, e, z1, z2⟩ := z
    unfold py RepD
    exact ⟨a, xs, e, z1, b1 _ z2⟩
  | n + 1, .lst l, h => by
    unfold ok at h
    obtain ⟨b1, b2, b3⟩ := ok_all (ok_py n) l h
    refine ⟨fun v z => ?_, by unfold py PyData.canLay0; exact b2, by unfold py PyData.depth; omega⟩
    unfold Rep at z
    obtain ⟨a, xs, e, z1, z2⟩ := z
    unfold py RepD
    exact ⟨a, xs, e, SqL.of z1, b1 _ z2⟩
def eqD (d e : D) : Bool := PyData.eqv (py d) (py e)
def rdEqD : D → D → (D → Prop) → Prop := fun d e Q => ok 8 d = true ∧ ok 8 e = true ∧ Q (.bl (eqD d e))
def rdNeD : D → D → (D → Prop) → Prop := fun d e Q => ok 8 d = true ∧ ok 8 e = true ∧ Q (.bl (!eqD d e))
theorem l_eqD : Lift2 X.K C (rEqD X.K) rdEqD := by
  intro H S d v e u P Q dm r1 r2 ⟨o1, o2, h⟩ k
  obtain ⟨a1, a2, a3⟩ := ok_py (C := C) (K := X.K) (H := H) 8 d o1
  obtain ⟨b1, b2, b3⟩ := ok_py (C := C) (K := X.K) (H := H) 8 e o2
  exact ⟨py d, py e, a1 _ (Rep.mono less_same _ _ r1), b1 _ (Rep.mono less_same _ _ r2), a2, b2, by omega, k.flat h rep_bl⟩
theorem l_neD : Lift2 X.K C (rNeD X.K) rdNeD := by
  intro H S d v e u P Q dm r1 r2 ⟨o1, o2, h⟩ k
  obtain ⟨a1, a2, a3⟩ := ok_py (C := C) (K := X.K) (H := H) 8 d o1
  obtain ⟨b1, b2, b3⟩ := ok_py (C := C) (K := X.K) (H := H) 8 e o2
  exact ⟨py d, py e, a1 _ (Rep.mono less_same _ _ r1), b1 _ (Rep.mono less_same _ _ r2), a2, b2, by omega, k.flat h rep_bl⟩

/-! ### in -/
def allI : List D → Bool
  | [] => true
  | .int _ :: l => allI l
  | _ :: _ => false
def hasI (i : Int) : List D → Bool
  | [] => false
  | .int j :: l => (j == i) || hasI i l
  | _ :: l => hasI i l
theorem allI_map : ∀ ns : List Int, allI (ns.map D.int) = true
  | [] => rfl
  | n :: ns => by rw [List.map_cons]; unfold allI; exact allI_map ns
theorem hasI_map (i : Int) : ∀ ns : List Int, hasI i (ns.map D.int) = decide (i ∈ ns)
  | [] => rfl
  | n :: ns => by
    rw [List.map_cons]
    unfold hasI
    rw [hasI_map i ns, Bool.eq_iff_iff]
    simp only [Bool.or_eq_true, beq_iff_eq, decide_eq_true_eq, List.mem_cons]
    exact ⟨fun h => h.imp Eq.symm id, fun h => h.imp Eq.symm id⟩
def rdIn (f : Bool → Bool) : D → D → (D → Prop) → Prop := fun d e Q => match d, e with
  | .int i, .tup l => allI l = true ∧ Q (.bl (f (hasI i l)))
  | .int i, .lst l => allI l = true ∧ Q (.bl (f (hasI i l)))
  | _, _ => False
/-! ### subscripts, slices -/
def rdIx : D → D → (D → Prop) → Prop := fun d e Q => match d, e with
  | .tup l, .int i => match atI l i with
    | some x => Q x
    | none => False
  | .lst l, .int i => match atI l i with
    | some x => Q x
    | none => False
  | .scr l, .int i => match atI l i with
    | some x => Q (.int x)
    | none => False
  | _, _ => False
theorem atI_rep {K : PySem.W.Frag} {H : Hp} {l : List D} {xs : List V} {i : Int} {x : D} (h : RepA K C H l xs) (e : atI l i = some x) : ∃ v, atI xs i = some v ∧ Rep K C H x v := by
  unfold atI at e ⊢
  rw [← repA_len h]
  cases q : ixN l.length i with
  | none => rw [q] at e; cases e
  | some j =>
    rw [q] at e
    exact repA_get h e
theorem l_ixT : Lift2 X.K C (rIx X.K) rdIx := by
  intro H S d v e u P Q dm r1 r2 h k
  unfold rdIx at h
  split at h
  · split at h
    · next l j _ x e =>
      unfold Rep at r1 r2
      obtain ⟨a, xs, rfl, h2, h3⟩ := r1
      obtain ⟨v, e1, r⟩ := atI_rep h3 e
      exact .inr (.inl ⟨a, xs, _, v, rfl, r2, less_same.seqT h2, e1, k.flat h r⟩)
    · exact h.elim
  · split at h
    · next l j _ x e =>
      unfold Rep at r1 r2
      obtain ⟨a, xs, rfl, h2, h3⟩ := r1
      obtain ⟨v, e1, r⟩ := atI_rep h3 e
      exact .inl ⟨a, xs, _, v, rfl, r2, SqL.of (less_same _ _ h2), e1, k.flat h r⟩
    · exact h.elim
  · split at h
    · next l j _ x e =>
      unfold Rep at r1 r2
      obtain ⟨a, rfl, h2⟩ := r1
      refine .inl ⟨a, _, _, .int x, rfl, r2, less_same.seq h2, ?_, k.flat h rep_int⟩
      unfold atI at e ⊢
      rw [List.length_map]
      cases q : ixN l.length j with
      | none => rw [q] at e; cases e
      | some m =>
        rw [q] at e
        have e' : l[m]? = some x := e
        show (l.map V.int)[m]? = some (V.int x)
        rw [List.getElem?_map, e']
        rfl
    · exact h.elim
  · exact h.elim
theorem de_ix (ha : DE C X a ta) (hb : DE C X b tb) (hs : PlainIx b) : DE C X (.Subscript a b pos) (d2 rdIx ta tb) := peW (pe_ix ix_seq ha hb hs) (top_of l_ixT)
def DO (C : Addr) (X : Cx) (e : Option Expr) (t : En → (Option Int → Prop) → Prop) : Prop :=
  PO X e fun σ H Q => ∃ S env P, EOk X.K C H S σ env ∧ t env P ∧ ∀ i, P i → ∀ H', Same H H' → Q i H'
def dNoPart : En → (Option Int → Prop) → Prop := fun _ Q => Q none
def dPart (t : DT1) : En → (Option Int → Prop) → Prop := fun env Q => t env fun x => match x with
  | .int i => Q (some i)
  | _ => False
theorem poW {e : Option Expr} {t t' : TO} (h : PO X e t) (w : ∀ σ H Q, t' σ H Q → t σ H Q) : PO X e t' := fun pins s σ H Q I q => h pins s σ H Q I (w σ H Q q)
theorem do_none : DO C X none dNoPart := poW po_none fun σ H Q ⟨S, env, P, h1, h2, h3⟩ => h3 _ h2 H (Same.refl _)
theorem do_some (h : DE C X e te) : DO C X (some e) (dPart te) := poW (po_some h) fun σ H Q ⟨S, env, P, h1, h2, h3⟩ => ⟨S, env, _, h1, h2, fun d hd v H' e rv => by
  cases d with
  | int i => unfold Rep at rv; exact ⟨i, rv, h3 _ hd H' e⟩
  | _ => exact hd.elim⟩
def cut {α : Type} (xs : List α) (lo hi : Option Int) : List α := (xs.drop (HT.sIx xs.length 0 lo)).take (HT.sIx xs.length xs.length hi - HT.sIx xs.length 0 lo)
/-- a slice of a list -/
def dSl (te : DT1) (tl th : En → (Option Int → Prop) → Prop) : DTA := fun env Q => te env fun x => tl env fun l => th env fun u => match x with
  | .lst xs => Q (cut xs l u)
  | _ => False
theorem df_slice {lo hi : Option Expr} {tl th : En → (Option Int → Prop) → Prop} {p2 : Pos} (he : DE C X e te) (hl : DO C X lo tl) (hu : DO C X hi th) : DF C X (.Subscript e (.Slice lo hi none p2) pos) (dSl te tl th) :=
  peW (pe_slice sl_list he hl hu) fun σ H Q ⟨S, env, P, h1, h2, h3⟩ => ⟨S, env, _, h1, h2, fun d hd v H' e rv => ⟨S, env, _, h1.mono e, hd, fun l hl H2 e2 => ⟨S, env, _, h1.mono (e.trans e2), hl, fun u hu H3 e3 => by
    cases d with
    | lst xs =>
      unfold Rep at rv
      obtain ⟨a, vs, rfl, r1, r2⟩ := rv
      refine ⟨a, vs, rfl, SqL.of (e3 _ _ (e2 _ _ (less_same _ _ r1))), fun p hp => ?_⟩
      refine (h3.mono (e.trans (e2.trans e3))).new hu ?_ hp
      have rr := repA_iff.mp (RepA.mono (same_less (e2.trans e3)) _ _ r2)
      unfold cut cutV
      rw [← paired_len rr]
      exact repA_iff.mpr (paired_take _ (paired_drop _ rr))
    | _ => exact hu.elim⟩⟩⟩

/-! ### list + list, list * int -/
def rdCat : D → D → (List D → Prop) → Prop := fun d e Q => match d, e with
  | .lst l, .lst m => l.length + m.length ≤ sizeLine ∧ Q (l ++ m)
  | _, _ => False
theorem l_cat : Lift2F X.K C rCat rdCat := by
  intro H S d v e u P Q dm r1 r2 h k
  unfold rdCat at h
  split at h
  · unfold Rep at r1 r2
    obtain ⟨a, xs, rfl, h2, h3⟩ := r1
    obtain ⟨b, ys, rfl, h4, h5⟩ := r2
    refine ⟨a, b, xs, ys, rfl, rfl, less_same _ _ h2, less_same _ _ h4, ?_, fun p hp => k.new h.2 (repA_app h3 h5) hp⟩
    rw [← repA_len h3, ← repA_len h5]
    exact h.1
  · exact h.elim
theorem df_cat (ha : DE C X a ta) (hb : DE C X b tb) : DF C X (.BinOp a .Add b pos) (d2F rdCat ta tb) := df_op op_cat l_cat ha hb
/-! ### calls of built-ins -/
def rcLen : List D → (D → Prop) → Prop := fun xs Q => match xs with
  | [.tup l] => Q (.int l.length)
  | [.lst l] => Q (.int l.length)
  | [.scr l] => Q (.int l.length)
  | _ => False
theorem l_len : LiftN X.K C (fun xs H Q => ∃ p ys, xs = [.ref p] ∧ (SqL X.K H p ys ∨ SqT X.K H p ys) ∧ Q (.int ys.length) H) rcLen := by
  intro H S ds vs P Q dm r h k
  unfold rcLen at h
  split at h
  all_goals first
    | (unfold RepA at r
       obtain ⟨x, y, rfl, r1, r2⟩ := r
       unfold RepA at r2
       subst r2
       unfold Rep at r1)
    | exact h.elim
  · obtain ⟨a, xs, rfl, h2, h3⟩ := r1
    exact ⟨a, xs, rfl, .inr (less_same.seqT h2), by rw [← repA_len h3]; exact k.flat h rep_int⟩
  · obtain ⟨a, xs, rfl, h2, h3⟩ := r1
    exact ⟨a, xs, rfl, .inl (SqL.of (less_same _ _ h2)), by rw [← repA_len h3]; exact k.flat h rep_int⟩
  · obtain ⟨a, rfl, h2⟩ := r1
    exact ⟨a, _, rfl, .inl (less_same.seq h2), by rw [List.length_map]; exact k.flat h rep_int⟩
theorem repA_one {K : PySem.W.Frag} {H : Hp} {d : D} {vs : List V} (r : RepA K C H [d] vs) : ∃ v, vs = [v] ∧ Rep K C H d v := by
  unfold RepA at r
  obtain ⟨x, y, rfl, r1, r2⟩ := r
  unfold RepA at r2
  subst r2
  exact ⟨x, rfl, r1⟩
theorem repA_two {K : PySem.W.Frag} {H : Hp} {d e : D} {vs : List V} (r : RepA K C H [d, e] vs) : ∃ v u, vs = [v, u] ∧ Rep K C H d v ∧ Rep K C H e u := by
  unfold RepA at r
  obtain ⟨x, y, rfl, r1, r2⟩ := r
  obtain ⟨u, rfl, r3⟩ := repA_one r2
  exact ⟨x, u, rfl, r1, r3⟩
def rcAbs : List D → (D → Prop) → Prop := fun xs Q => match xs with
  | [.int i] => Q (.int i.natAbs)
  | _ => False
def rcMin : List D → (D → Prop) → Prop := fun xs Q => match xs with
  | [.int i, .int j] => Q (.int (if j < i then j else i))
  | _ => False
def rcMax : List D → (D → Prop) → Prop := fun xs Q => match xs with
  | [.int i, .int j] => Q (.int (if j > i then j else i))
  | _ => False
theorem l_min : LiftN X.K C (fun xs H Q => ∃ i j, xs = [.int i, .int j] ∧ Q (.int (if j < i then j else i)) H) rcMin := by
  intro H S ds vs P Q dm r h k
  unfold rcMin at h
  split at h
  · obtain ⟨v, u, rfl, r1, r2⟩ := repA_two r
    unfold Rep at r1 r2
    subst r1 r2
    exact ⟨_, _, rfl, k.flat h rep_int⟩
  · exact h.elim
theorem l_max : LiftN X.K C (fun xs H Q => ∃ i j, xs = [.int i, .int j] ∧ Q (.int (if j > i then j else i)) H) rcMax := by
  intro H S ds vs P Q dm r h k
  unfold rcMax at h
  split at h
  · obtain ⟨v, u, rfl, r1, r2⟩ := repA_two r
    unfold Rep at r1 r2
    subst r1 r2
    exact ⟨_, _, rfl, k.flat h rep_int⟩
  · exact h.elim
def rcList : List D → (List D → Prop) → Prop := fun xs Q => match xs with
  | [.tup l] => Q l
  | [.lst l] => Q l
  | _ => False
theorem l_list : LiftNF X.K C (fun xs H Q => ∃ p ys, xs = [.ref p] ∧ (SqL X.K H p ys ∨ SqT X.K H p ys) ∧ ∀ l, H l = none → Q (.ref l) (upd H l (.lst ys))) rcList := by
  intro H S ds vs P Q dm r h k
  unfold rcList at h
  split at h
  all_goals first
    | exact h.elim
    | (obtain ⟨v, rfl, r1⟩ := repA_one r
       unfold Rep at r1
       obtain ⟨a, xs, rfl, h2, h3⟩ := r1)
  · exact ⟨a, xs, rfl, .inr (less_same.seqT h2), fun l hl => k.new h h3 hl⟩
  · exact ⟨a, xs, rfl, .inl (SqL.of (less_same _ _ h2)), fun l hl => k.new h h3 hl⟩
def rcTuple : List D → (D → Prop) → Prop := fun xs Q => match xs with
  | [.tup l] => Q (.tup l)
  | [.lst l] => Q (.tup l)
  | _ => False
theorem de_callB {x : Str} {id : String} {p : Pos} {r : List V → Hp → VK → Prop} {rd : List D → (D → Prop) → Prop} (hc : CallR X (.builtin id) r) (L : LiftN X.K C r rd) (hg : Gl X x) (hm : X.mg x = none) (hv : bootBuiltins x = some (.builtin id)) (ha : DA C X (e :: es) t) (hn : x ≠ "__name__" := by decide) (hdb : (x == ("__debug__" : Str)) = false := by decide)
    (he : starEach (e :: es) X.env = (false, eval e X.env) :: starEach es X.env := by rfl) (hpl : (backTo pos (starEach es X.env)).any (·.1) = false := by rfl) : DE C X (.Call (.Name x p) (e :: es) [] pos) (dCall rd t) :=
  peW (pe_callB hc hg hm hv ha hn hdb he hpl) (tcb_of L)
theorem de_callTy {x : Str} {T : String} {p : Pos} {r : List V → Hp → VK → Prop} {rd : List D → (D → Prop) → Prop} (hc : CallR X (.type T) r) (L : LiftN X.K C r rd) (hg : Gl X x) (hm : X.mg x = none) (hv : bootBuiltins x = some (.type T)) (ha : DA C X (e :: es) t) (hn : x ≠ "__name__" := by decide) (hdb : (x == ("__debug__" : Str)) = false := by decide)
    (he : starEach (e :: es) X.env = (false, eval e X.env) :: starEach es X.env := by rfl) (hpl : (backTo pos (starEach es X.env)).any (·.1) = false := by rfl) : DE C X (.Call (.Name x p) (e :: es) [] pos) (dCall rd t) :=
  peW (pe_callTy hc hg hm hv ha hn hdb he hpl) (tcb_of L)
theorem df_callTy {x : Str} {T : String} {p : Pos} {r : List V → Hp → VK → Prop} {rd : List D → (List D → Prop) → Prop} (hc : CallR X (.type T) r) (L : LiftNF X.K C r rd) (hg : Gl X x) (hm : X.mg x = none) (hv : bootBuiltins x = some (.type T)) (ha : DA C X (e :: es) t) (hn : x ≠ "__name__" := by decide) (hdb : (x == ("__debug__" : Str)) = false := by decide)
    (he : starEach (e :: es) X.env = (false, eval e X.env) :: starEach es X.env := by rfl) (hpl : (backTo pos (starEach es X.env)).any (·.1) = false := by rfl) : DF C X (.Call (.Name x p) (e :: es) [] pos) (dCallF rd t) :=
  peW (pe_callTy hc hg hm hv ha hn hdb he hpl) (tcbF_of L)

/-! ### a def's promise over data -/
def spD (K : PySem.W.Frag) (C : Addr) (T : List D → (D → Prop) → Prop) : Sp := fun vs H Q _ => ∃ S ds P, Dom H S ∧ RepA K C (less H S) ds vs ∧ T ds P ∧ KD K C H S P Q
def spF (K : PySem.W.Frag) (C : Addr) (T : List D → (List D → Prop) → Prop) : Sp := fun vs H Q _ => ∃ S ds P, Dom H S ∧ RepA K C (less H S) ds vs ∧ T ds P ∧ KF K C H S P Q
theorem tcall_of {T : List D → (D → Prop) → Prop} : ∀ σ H Q, rE X.K C (dCall T t) σ H Q → tCall (spD X.K C T) [] E0 (rA X.K C t) σ H Q := fun σ H Q ⟨S, env, P, h1, h2, h3⟩ =>
  ⟨S, env, _, h1, h2, fun ds hd vs H' e rv => ⟨S, ds, P, h1.dom.mono e, by rw [List.append_nil]; exact rv, hd, h3.mono e⟩⟩
theorem de_dn {x : Str} {ps : List Str} {k k' : Nat} {p : Pos} {T : List D → (D → Prop) → Prop} (Df : Dn X.prog X.w X.K X.mg X.base x ps k (spD X.K C T)) (hr : Room k' X.A) (hg : Gl X x) (ha : DA C X (e :: es) t) (hk : k ≤ k' := by decide)
    (hdb : (x == ("__debug__" : Str)) = false := by decide) (he : starEach (e :: es) X.env = (false, eval e X.env) :: starEach es X.env := by rfl) (hpl : (backTo pos (starEach es X.env)).any (·.1) = false := by rfl) :
    DE C X (.Call (.Name x p) (e :: es) [] pos) (dCall T t) := peW (pe_dn Df hr hg ha hk hdb he hpl) tcall_of
end
end L2.DL

set_option Elab.async false
set_option linter.all false
set_option maxRecDepth 100000
set_option maxHeartbeats 4000000
/-! Rules over data: statements, loops, comprehensions, a def. -/
namespace L2.DL
open PySem PySem.Spec PyProof.Rows

structure DEnds where
  nx : En → Prop
  rt : D → Prop
  bk : En → Prop := fun _ => False
  ct : En → Prop := fun _ => False
  rf : List D → Prop := fun _ => False
abbrev DTS := DEnds → En → Prop
structure SOk (K : PySem.W.Frag) (C : Addr) (H0 : Hp) (S0 : Addr → Prop) (H : Hp) (S : Addr → Prop) (σ : L2.St) (env : En) : Prop where
  e : EOk K C H S σ env
  same : Same H0 H
  sub : ∀ p, S0 p → S p
  hid : ∀ p, S p → S0 p ∨ H0 p = none
  own : ∀ (i : Nat) (p : Addr) (ds : List D), env[i]? = some (some (.ow p ds)) → H0 p = none
  dom0 : Dom H0 S0
structure EndsOk (K : PySem.W.Frag) (C : Addr) (H0 : Hp) (S0 : Addr → Prop) (DD : DEnds) (D0 : Ends) : Prop where
  nx : ∀ env S σ H, DD.nx env → SOk K C H0 S0 H S σ env → D0.nx σ H
  rt : ∀ d v H, DD.rt d → Same H0 H → Rep K C (less H S0) d v → D0.rt v H
  bk : ∀ env S σ H, DD.bk env → SOk K C H0 S0 H S σ env → D0.bk σ H
  ct : ∀ env S σ H, DD.ct env → SOk K C H0 S0 H S σ env → D0.ct σ H
  rf : ∀ ds p xs H, DD.rf ds → Same H0 H → H0 p = none → H p = some (.lst xs) → RepA K C (less H (wi S0 p)) ds xs → D0.rt (.ref p) H
def rS (K : PySem.W.Frag) (C : Addr) (t : DTS) : TS := fun D0 σ H => ∃ H0 S0 S env DD, SOk K C H0 S0 H S σ env ∧ t DD env ∧ EndsOk K C H0 S0 DD D0
def DS (C : Addr) (X : Cx) (st : Stmt) (t : DTS) : Prop := PS X st (rS X.K C t)
def DSs (C : Addr) (X : Cx) (st : List Stmt) (t : DTS) : Prop := PSs X st (rS X.K C t)
theorem psW {X : Cx} {st : Stmt} {t t' : TS} (h : PS X st t) (w : ∀ D0 σ H, t' D0 σ H → t D0 σ H) : PS X st t' := fun pins s σ H D0 I q => h pins s σ H D0 I (w D0 σ H q)
theorem pssW {X : Cx} {st : List Stmt} {t t' : TS} (h : PSs X st t) (w : ∀ D0 σ H, t' D0 σ H → t D0 σ H) : PSs X st t' := fun pins s σ H D0 I q => h pins s σ H D0 I (w D0 σ H q)
section
variable {K : PySem.W.Frag} {C : Addr} {H0 H H' : Hp} {S0 S : Addr → Prop} {σ : L2.St} {env : En}
theorem SOk.mono (h : SOk K C H0 S0 H S σ env) (e : Same H H') : SOk K C H0 S0 H' S σ env := ⟨h.e.mono e, h.same.trans e, h.sub, h.hid, h.own, h.dom0⟩
/-- what a body may rely on stays so -/
theorem SOk.prot (h : SOk K C H0 S0 H S σ env) : Same (less H0 S0) (less H S) := fun a u z => by
  obtain ⟨h1, h2⟩ := less_iff.mp z
  exact less_iff.mpr ⟨fun q => (h.hid a q).elim h1 fun w => (by rw [h2] at w; cases w), h.same _ _ h2⟩
theorem set_get {env : En} {i j : Nat} {o : Option SV} {sv : SV} (z : (env.set i o)[j]? = some (some sv)) : (i = j ∧ o = some sv ∧ i < env.length) ∨ (i ≠ j ∧ env[j]? = some (some sv)) := by
  by_cases q : i = j
  · subst q
    rw [List.getElem?_set, if_pos rfl] at z
    split at z
    · exact .inl ⟨rfl, Option.some.inj z, by assumption⟩
    · cases z
  · rw [List.getElem?_set_ne q] at z
    exact .inr ⟨q, z⟩
theorem SOk.set (h : SOk K C H0 S0 H S σ env) {d : D} {v : V} (r : Rep K C (less H S) d v) (i : Nat) : SOk K C H0 S0 H S (σ.set i (some v)) (env.set i (some (.sh d))) := by
  refine ⟨⟨by rw [List.length_set, List.length_set]; exact h.e.len, fun j sv z => ?_, fun j k p ds es h1 h2 => ?_, h.e.dom⟩, h.same, h.sub, h.hid, fun j p ds h1 => ?_, h.dom0⟩
  · rcases set_get z with ⟨rfl, e, hi⟩ | ⟨q, z⟩
    · cases e
      exact ⟨v, by rw [List.getElem?_set, if_pos rfl, if_pos (by rw [h.e.len]; exact hi)], r⟩
    · rw [List.getElem?_set_ne q]
      exact h.e.slot j sv z
  · rcases set_get h1 with ⟨_, e, _⟩ | ⟨_, z1⟩
    · cases e
    · rcases set_get h2 with ⟨_, e, _⟩ | ⟨_, z2⟩
      · cases e
      · exact h.e.inj j k p ds es z1 z2
  · rcases set_get h1 with ⟨_, e, _⟩ | ⟨_, z1⟩
    · cases e
    · exact h.own j p ds z1
/-- a name's data are forgotten -/
theorem SOk.drop (h : SOk K C H0 S0 H S σ env) (i : Nat) : SOk K C H0 S0 H S σ (env.set i none) := by
  have g : ∀ {j : Nat} {sv : SV}, (env.set i none)[j]? = some (some sv) → env[j]? = some (some sv) := fun {j sv} z => by
    rcases set_get z with ⟨_, e, _⟩ | ⟨_, z⟩
    · cases e
    · exact z
  exact ⟨⟨by rw [List.length_set]; exact h.e.len, fun j sv z => h.e.slot j sv (g z), fun j k p ds es h1 h2 => h.e.inj j k p ds es (g h1) (g h2), h.e.dom⟩, h.same, h.sub, h.hid, fun j p ds z => h.own j p ds (g z), h.dom0⟩
theorem RepV.wi {p : Addr} {sv : SV} {v : V} (r : RepV K C H S sv v) (e : Same H H') (hp : H p = none) : RepV K C H' (wi S p) sv v := by
  cases sv with
  | sh d => exact Rep.mono (same_wi e hp) _ _ r
  | ow q ds =>
    obtain ⟨h1, h2, xs, h3, h4⟩ := r
    exact ⟨h1, .inl h2, xs, e _ _ h3, RepA.mono (same_wi e hp) _ _ h4⟩
/-- where a list of one's own stands -/
theorem EOk.held (h : EOk K C H S σ env) {i : Nat} {p : Addr} {ds : List D} (z : env[i]? = some (some (.ow p ds))) : σ[i]? = some (some (.ref p)) ∧ S p ∧ ∃ xs, H p = some (.lst xs) ∧ RepA K C (less H S) ds xs := by
  obtain ⟨v, e, rfl, h1, h2⟩ := h.slot i _ z
  exact ⟨e, h1, h2⟩
theorem SOk.setO (h : SOk K C H0 S0 H S σ env) {ds : List D} {p : Addr} {xs : List V} (e : Same H H') (hp : H p = none) (hl : H' p = some (.lst xs)) (r : RepA K C (less H' (DL.wi S p)) ds xs) (i : Nat) :
    SOk K C H0 S0 H' (DL.wi S p) (σ.set i (some (.ref p))) (env.set i (some (.ow p ds))) := by
  have hp0 : H0 p = none := Same.none h.same hp
  have ne : ∀ {j : Nat} {q : Addr} {es : List D}, env[j]? = some (some (.ow q es)) → q ≠ p := fun {j q es} z1 z3 => by
    obtain ⟨_, _, ys, g, _⟩ := h.e.held z1
    rw [z3, hp] at g
    cases g
  refine ⟨⟨by rw [List.length_set, List.length_set]; exact h.e.len, fun j sv z => ?_, fun j k q ds' es h1 h2 => ?_, fun q hq => ?_⟩, h.same.trans e, fun q hq => .inl (h.sub q hq), fun q hq => ?_, fun j q ds' h1 => ?_, h.dom0⟩
  · rcases set_get z with ⟨rfl, e1, hi⟩ | ⟨q, z⟩
    · cases e1
      exact ⟨.ref p, by rw [List.getElem?_set, if_pos rfl, if_pos (by rw [h.e.len]; exact hi)], rfl, .inr rfl, xs, hl, r⟩
    · rw [List.getElem?_set_ne q]
      obtain ⟨v, e1, r1⟩ := h.e.slot j sv z
      exact ⟨v, e1, r1.wi e hp⟩
  · rcases set_get h1 with ⟨q1, e1, _⟩ | ⟨_, z1⟩ <;> rcases set_get h2 with ⟨q2, e2, _⟩ | ⟨_, z2⟩
    · exact q1.symm.trans q2
    · cases e1
      exact absurd rfl (ne z2)
    · cases e2
      exact absurd rfl (ne z1)
    · exact h.e.inj j k q _ _ z1 z2
  · rcases hq with hq | rfl
    · exact h.e.dom.mono e q hq
    · rw [hl]; exact Option.some_ne_none _
  · rcases hq with hq | rfl
    · exact h.hid q hq
    · exact .inr hp0
  · rcases set_get h1 with ⟨_, e1, _⟩ | ⟨_, z⟩
    · cases e1
      exact hp0
    · exact h.own j q ds' z
/-- a list of one's own is written -/
theorem SOk.write (h : SOk K C H0 S0 H S σ env) {i : Nat} {p : Addr} {ds es : List D} (z : env[i]? = some (some (.ow p ds))) : ∃ xs, σ[i]? = some (some (.ref p)) ∧ H p = some (.lst xs) ∧ RepA K C (less H S) ds xs ∧
    ∀ ys, RepA K C (less H S) es ys → SOk K C H0 S0 (upd H p (.lst ys)) S σ (env.set i (some (.ow p es))) := by
  obtain ⟨e1, r1, xs, r2, r3⟩ := h.e.held z
  refine ⟨xs, e1, r2, r3, fun ys ry => ?_⟩
  have hl := less_upd (H := H) (o := .lst ys) r1
  have hp0 := h.own i p ds z
  have owe : ∀ {j : Nat} {q : Addr} {es' : List D}, (env.set i (some (.ow p es)))[j]? = some (some (.ow q es')) → ∃ ds', env[j]? = some (some (.ow q ds')) := fun {j q es'} z' => by
    rcases set_get z' with ⟨rfl, e, _⟩ | ⟨_, z'⟩
    · cases e
      exact ⟨_, z⟩
    · exact ⟨_, z'⟩
  refine ⟨⟨by rw [List.length_set]; exact h.e.len, fun j sv z' => ?_, fun j k q ds' es' h1 h2 => ?_, fun q hq => ?_⟩, fun b u hb => ?_, h.sub, h.hid, fun j q ds' h1 => ?_, h.dom0⟩
  · rcases set_get z' with ⟨rfl, e, _⟩ | ⟨q, z'⟩
    · cases e
      exact ⟨_, e1, rfl, r1, ys, upd_same, by rw [hl]; exact ry⟩
    · obtain ⟨v, e2, r⟩ := h.e.slot j sv z'
      refine ⟨v, e2, ?_⟩
      cases sv with
      | sh d => show Rep K C (less _ S) d v; rw [hl]; exact r
      | ow p' ds' =>
        obtain ⟨rfl, r1', xs', r2', r3'⟩ := r
        have np : p' ≠ p := fun w => q (h.e.inj i j p _ _ z (w ▸ z'))
        exact ⟨rfl, r1', xs', by rw [upd_ne np]; exact r2', by rw [hl]; exact r3'⟩
  · obtain ⟨_, w1⟩ := owe h1
    obtain ⟨_, w2⟩ := owe h2
    exact h.e.inj j k q _ _ w1 w2
  · unfold upd
    split
    · exact Option.some_ne_none _
    · exact h.e.dom q hq
  · rw [upd_ne (fun w => by rw [w, hp0] at hb; cases hb)]
    exact h.same b u hb
  · obtain ⟨_, w1⟩ := owe h1
    exact h.own j q _ w1
/-- a list of one's own is given away -/
theorem EOk.share (h : EOk K C H S σ env) {i : Nat} {p : Addr} {ds : List D} (z : env[i]? = some (some (.ow p ds))) : EOk K C H (fun a => S a ∧ a ≠ p) σ (env.set i (some (.sh (.lst ds)))) := by
  obtain ⟨e1, r1, xs, r2, r3⟩ := h.held z
  have sm : Same (less H S) (less H fun a => S a ∧ a ≠ p) := less_sub fun a q => q.1
  refine ⟨by rw [List.length_set]; exact h.len, fun j sv z' => ?_, fun j k q ds' es' h1 h2 => ?_, fun q hq => h.dom q hq.1⟩
  · rcases set_get z' with ⟨rfl, e, _⟩ | ⟨q, z'⟩
    · cases e
      refine ⟨_, e1, ?_⟩
      show Rep K C _ (.lst ds) _
      unfold Rep
      exact ⟨p, xs, rfl, less_iff.mpr ⟨fun w => w.2 rfl, r2⟩, RepA.mono sm _ _ r3⟩
    · obtain ⟨v, e2, r⟩ := h.slot j sv z'
      refine ⟨v, e2, ?_⟩
      cases sv with
      | sh d => exact Rep.mono sm _ _ r
      | ow p' ds' =>
        obtain ⟨rfl, r1', xs', r2', r3'⟩ := r
        have np : p' ≠ p := fun w => q (h.inj i j p _ _ z (w ▸ z'))
        exact ⟨rfl, ⟨r1', np⟩, xs', r2', RepA.mono sm _ _ r3'⟩
  · rcases set_get h1 with ⟨_, e, _⟩ | ⟨_, w1⟩
    · cases e
    · rcases set_get h2 with ⟨_, e, _⟩ | ⟨_, w2⟩
      · cases e
      · exact h.inj j k q _ _ w1 w2
theorem SOk.share (h : SOk K C H0 S0 H S σ env) {i : Nat} {p : Addr} {ds : List D} (z : env[i]? = some (some (.ow p ds))) : SOk K C H0 S0 H (fun a => S a ∧ a ≠ p) σ (env.set i (some (.sh (.lst ds)))) := by
  have hp0 := h.own i p ds z
  refine ⟨h.e.share z, h.same, fun a q => ⟨h.sub a q, fun w => ?_⟩, fun a q => h.hid a q.1, fun j q ds' h1 => ?_, h.dom0⟩
  · rw [w] at q
    exact h.dom0 p q hp0
  · rcases set_get h1 with ⟨_, e, _⟩ | ⟨_, w1⟩
    · cases e
    · exact h.own j q _ w1
end

/-! ### statements -/
section
variable {C : Addr} {X : Cx} {a b c e : Expr} {st : Stmt} {sts sts2 : List Stmt} {ta tb tc te : DT1} {t : DTA} {tt : DTT} {u w : DTS} {pos : Pos}
def dNext : DTS := fun DD env => DD.nx env
def dSeq (t u : DTS) : DTS := fun DD env => t { DD with nx := u DD } env
theorem dss_nil : DSs C X [] dNext := pssW pss_nil fun D0 σ H ⟨H0, S0, S, env, DD, h1, h2, h3⟩ => h3.nx _ _ _ _ h2 h1
theorem seq_ends {K : PySem.W.Frag} {H0 : Hp} {S0 : Addr → Prop} {DD : DEnds} {D0 : Ends} (h : EndsOk K C H0 S0 DD D0) : EndsOk K C H0 S0 { DD with nx := u DD } { D0 with nx := rS K C u D0 } :=
  ⟨fun env S σ H hx hs => ⟨H0, S0, S, env, DD, hs, hx, h⟩, h.rt, h.bk, h.ct, h.rf⟩
theorem dss_cons (h1 : DS C X st w) (h2 : DSs C X sts u) : DSs C X (st :: sts) (dSeq w u) := pssW (pss_cons h1 h2) fun D0 σ H ⟨H0, S0, S, env, DD, h1, h2, h3⟩ => ⟨H0, S0, S, env, _, h1, h2, seq_ends h3⟩
theorem dss_one (h1 : DS C X st w) : DSs C X [st] w := pss_one h1
def dNever : DTS := fun _ _ => False
theorem ds_never : DS C X st dNever := psW ps_never fun D0 σ H ⟨H0, S0, S, env, DD, h1, h2, h3⟩ => h2.elim
theorem dss_never : DSs C X sts dNever := pssW pss_never fun D0 σ H ⟨H0, S0, S, env, DD, h1, h2, h3⟩ => h2.elim
def dRet (te : DT1) : DTS := fun DD env => te env DD.rt
theorem ds_ret (he : DE C X e te) : DS C X (.Return (some e) pos) (dRet te) := psW (ps_ret he) fun D0 σ H ⟨H0, S0, S, env, DD, h1, h2, h3⟩ =>
  ⟨S, env, _, h1.e, h2, fun d hd v H' e rv => h3.rt d v H' hd (h1.same.trans e) (Rep.mono (less_sub h1.sub) _ _ rv)⟩
/-- return of a list of one's own -/
def dRetF (t : DTA) : DTS := fun DD env => t env DD.rf
theorem ds_retF (he : DF C X e t) : DS C X (.Return (some e) pos) (dRetF t) := psW (ps_ret he) fun D0 σ H ⟨H0, S0, S, env, DD, h1, h2, h3⟩ =>
  ⟨S, env, _, h1.e, h2, fun ds hd p xs H' e hp hl rv => h3.rf ds p xs H' hd (h1.same.trans e) (Same.none h1.same hp) hl (RepA.mono (less_sub fun q hq => hq.imp (h1.sub q) id) _ _ rv)⟩
def dRetO (i : Nat) : DTS := fun DD env => match env[i]? with
  | some (some (.ow _ ds)) => DD.rf ds
  | _ => False
def dRetN : DTS := fun DD _ => DD.rt .non
def dIfS (c : DTT) (t u : DTS) : DTS := fun DD env => c env fun b => if b = true then t DD env else u DD env
theorem ds_if (hc : DB C X c tt) (ha : DSs C X sts u) (hb : DSs C X sts2 w) : DS C X (.If c sts sts2 pos) (dIfS tt u w) := psW (ps_if hc ha hb) fun D0 σ H ⟨H0, S0, S, env, DD, h1, h2, h3⟩ =>
  ⟨S, env, _, h1.e, h2, fun d hd H' e => by
    cases d with
    | true => exact ⟨H0, S0, S, env, DD, h1.mono e, hd, h3⟩
    | false => exact ⟨H0, S0, S, env, DD, h1.mono e, hd, h3⟩⟩
def dSet (i : Nat) (te : DT1) : DTS := fun DD env => te env fun d => DD.nx (env.set i (some (.sh d)))
def dSetO (i : Nat) (t : DTA) : DTS := fun DD env => t env fun ds => ∀ p, DD.nx (env.set i (some (.ow p ds)))
theorem asg_of {i : Nat} : ∀ D0 σ H, rS X.K C (dSet i te) D0 σ H → tAsg (rE X.K C te) (gName i) D0 σ H := fun D0 σ H ⟨H0, S0, S, env, DD, h1, h2, h3⟩ =>
  ⟨S, env, _, h1.e, h2, fun d hd v H' e rv => h3.nx _ _ _ _ hd ((h1.mono e).set rv i)⟩
theorem asgO_of {i : Nat} : ∀ D0 σ H, rS X.K C (dSetO i t) D0 σ H → tAsg (rF X.K C t) (gName i) D0 σ H := fun D0 σ H ⟨H0, S0, S, env, DD, h1, h2, h3⟩ =>
  ⟨S, env, _, h1.e, h2, fun d hd p xs H' e hp hl r => h3.nx _ _ _ _ (hd p) (h1.setO e hp hl r i)⟩
theorem ds_set {i : Nat} {x : Str} {pos' : Pos} (hN : X.N.Nodup) (hi : X.N[i]? = some x) (hx : Loc X.env.scope x) (he : DE C X e te) (hs : swapsWith e (some (.Name x pos')) pos.line X.env = pure false := by rfl) (hf : X.fn x = true ∨ X.env.scope.names.lookup x = some .local := by first | exact .inl rfl | exact .inr rfl | assumption) :
    DS C X (.Assign [.Name x pos'] e pos) (dSet i te) := psW (ps_set hN hi hx he hs hf) asg_of
theorem ds_setO {i : Nat} {x : Str} {pos' : Pos} (hN : X.N.Nodup) (hi : X.N[i]? = some x) (hx : Loc X.env.scope x) (he : DF C X e t) (hs : swapsWith e (some (.Name x pos')) pos.line X.env = pure false := by rfl) (hf : X.fn x = true ∨ X.env.scope.names.lookup x = some .local := by first | exact .inl rfl | exact .inr rfl | assumption) :
    DS C X (.Assign [.Name x pos'] e pos) (dSetO i t) := psW (ps_set hN hi hx he hs hf) asgO_of
/-- x.append(e) of one's own list -/
theorem own_at {i : Nat} {env : En} {P : Addr → List D → Prop} (h : match env[i]? with | some (some (.ow p ds)) => P p ds | _ => False) : ∃ p ds, env[i]? = some (some (.ow p ds)) ∧ P p ds := by
  split at h
  · exact ⟨_, _, by assumption, h⟩
  · exact h.elim
def dAppend (i : Nat) (te : DT1) : DTS := fun DD env => match env[i]? with
  | some (some (.ow p ds)) => te env fun d => ds.length < sizeLine ∧ DD.nx (env.set i (some (.ow p (ds ++ [d]))))
  | _ => False
def oneIs (A : D → Prop) : List D → Prop
  | [d] => A d
  | _ => False
theorem oneIs_inv {A : D → Prop} {l : List D} (h : oneIs A l) : ∃ d, l = [d] ∧ A d := by
  unfold oneIs at h
  split at h
  · exact ⟨_, rfl, h⟩
  · exact h.elim
theorem ds_append {i : Nat} (h : PS X st (tDrop (tBM X.K "list" rAppend (tVar i) (rA X.K C (dCons te dNil))))) : DS C X st (dAppend i te) := psW h fun D0 σ H ⟨H0, S0, S, env, DD, h1, h2, h3⟩ => by
  obtain ⟨p, ds, z, h2⟩ := own_at h2
  obtain ⟨xs, e1, r2, r3, _⟩ := h1.write (es := ds) z
  refine ⟨_, e1, .inl ⟨rfl, xs, SqL.of r2⟩, S, env, oneIs fun d => ds.length < sizeLine ∧ DD.nx (env.set i (some (.ow p (ds ++ [d])))), h1.e, h2, fun l hl vs H' e rv => ?_⟩
  obtain ⟨d, rfl, hz, hn⟩ := oneIs_inv hl
  obtain ⟨v, rfl, rd⟩ := repA_one rv
  obtain ⟨xs', _, r2', r3', k⟩ := (h1.mono e).write (es := ds ++ [d]) z
  exact ⟨p, xs', v, rfl, rfl, r2', by rw [← repA_len r3']; exact hz, h3.nx _ _ _ _ hn (k _ (repA_app r3' (repA_cons rd repA_nil)))⟩
/-- x.extend(e) -/
def dExtend (i : Nat) (te : DT1) : DTS := fun DD env => match env[i]? with
  | some (some (.ow p ds)) => te env fun d => match d with
    | .lst es => ds.length + es.length ≤ sizeLine ∧ DD.nx (env.set i (some (.ow p (ds ++ es))))
    | _ => False
  | _ => False
/-- x.clear() -/
def dClear (i : Nat) : DTS := fun DD env => match env[i]? with
  | some (some (.ow p ds)) => DD.nx (env.set i (some (.ow p [])))
  | _ => False
/-- x[k] = e: e, then x, then k -/
def dPut (i : Nat) (te tk : DT1) : DTS := fun DD env => match env[i]? with
  | some (some (.ow p ds)) => te env fun d => tk env fun k => match k with
    | .int k => ∃ j, ixN ds.length k = some j ∧ DD.nx (env.set i (some (.ow p (ds.set j d))))
    | _ => False
  | _ => False
theorem ds_put {i : Nat} {tk : DT1} (h : PS X st (tAsg (rE X.K C te) (gSub (tVar i) (rE X.K C tk) rSetL))) : DS C X st (dPut i te tk) := psW h fun D0 σ H ⟨H0, S0, S, env, DD, h1, h2, h3⟩ => by
  obtain ⟨p, ds, z, h2⟩ := own_at h2
  obtain ⟨xs, e1, r2, r3, _⟩ := h1.write (es := ds) z
  refine ⟨S, env, _, h1.e, h2, fun d hd v H1 e rv => ⟨_, e1, S, env, _, h1.e.mono e, hd, fun k hk kv H2 e2 rk => ?_⟩⟩
  cases k with
  | int k =>
    obtain ⟨j, hj, hn⟩ := hk
    unfold Rep at rk
    subst rk
    obtain ⟨xs', _, r2', r3', kk⟩ := (h1.mono (e.trans e2)).write (es := ds.set j d) z
    refine ⟨p, xs', k, j, rfl, rfl, r2', by rw [← repA_len r3']; exact hj, h3.nx _ _ _ _ hn (kk _ ?_)⟩
    exact repA_iff.mpr (paired_set (Rep.mono (same_less e2) _ _ rv) j (repA_iff.mp r3'))
  | _ => exact hk.elim
/-- a list of one's own is given away from here on -/
def dShare (i : Nat) (u : DTS) : DTS := fun DD env => match env[i]? with
  | some (some (.ow _ ds)) => u DD (env.set i (some (.sh (.lst ds))))
  | _ => False
theorem share_of {i : Nat} {K : PySem.W.Frag} : ∀ D0 σ H, rS K C (dShare i u) D0 σ H → rS K C u D0 σ H := fun D0 σ H ⟨H0, S0, S, env, DD, h1, h2, h3⟩ => by
  obtain ⟨p, ds, z, h2⟩ := own_at (P := fun _ ds => u DD (env.set i (some (.sh (.lst ds))))) h2
  exact ⟨H0, S0, _, _, DD, h1.share z, h2, h3⟩
theorem dss_share (i : Nat) (h : DSs C X sts u) : DSs C X sts (dShare i u) := pssW h share_of
/-- e asked of a list of one's own for a flat answer -/
def flatD : D → Bool
  | .non => true
  | .bl _ => true
  | .int _ => true
  | .str _ => true
  | _ => false
theorem rep_flat {K : PySem.W.Frag} {H H' : Hp} {d : D} {v : V} (h : flatD d = true) (r : Rep K C H d v) : Rep K C H' d v := by
  cases d <;> first | (unfold Rep at r ⊢; exact r) | cases h
def dLend (i : Nat) (te : DT1) : DT1 := fun env Q => match env[i]? with
  | some (some (.ow _ ds)) => te (env.set i (some (.sh (.lst ds)))) fun d => flatD d = true ∧ Q d
  | _ => False
theorem de_lend (i : Nat) (h : DE C X e te) : DE C X e (dLend i te) := peW h fun σ H Q ⟨S, env, P, h1, h2, h3⟩ => by
  obtain ⟨p, ds, z, h2⟩ := own_at (P := fun _ ds => te (env.set i (some (.sh (.lst ds)))) fun d => flatD d = true ∧ P d) h2
  exact ⟨_, _, _, h1.share z, h2, fun d hd v H' e rv => h3 d hd.2 v H' e (rep_flat hd.1 rv)⟩
def dLendB (i : Nat) (tt : DTT) : DTT := fun env Q => match env[i]? with
  | some (some (.ow _ ds)) => tt (env.set i (some (.sh (.lst ds)))) Q
  | _ => False
end
end L2.DL

set_option Elab.async false
set_option linter.all false
set_option maxRecDepth 100000
set_option maxHeartbeats 4000000
/-! Rules over data: loops, comprehensions, a def. -/
namespace L2.DL
open PySem PySem.Spec PyProof.Rows
section
variable {C : Addr} {X : Cx} {a b c e : Expr} {st : Stmt} {sts sts2 : List Stmt} {ta tb tc te : DT1} {t : DTA} {tt : DTT} {u w : DTS} {pos : Pos}
/-! ### while -/
/-! ### what is walked -/
structure ItOk (K : PySem.W.Frag) (C : Addr) (J : It) (items : List D) (G : Hp) : Prop where
  go : ∀ i H S, Same G (less H S) → i < items.length → J.go i H
  yld : ∀ i H S x H', Dom H S → Same G (less H S) → i < items.length → J.yld i H x H' → ∃ d, items[i]? = some d ∧ Same H H' ∧ Rep K C (less H' S) d x
  stop : ∀ i H S, Same G (less H S) → items.length ≤ i → J.stop i H
def rIt (K : PySem.W.Frag) (C : Addr) (t : DTA) : TI := fun σ H R => ∃ S env P, EOk K C H S σ env ∧ t env P ∧ ∀ items, P items → ∀ J H', Same H H' → ItOk K C J items (less H' S) → R J H'
def DI (C : Addr) (X : Cx) (tg iter : Expr) (t : DTA) : Prop := PI X tg iter (rIt X.K C t)
theorem piW {tg iter : Expr} {wi wi' : TI} (h : PI X tg iter wi) (k : ∀ σ H R, wi' σ H R → wi σ H R) : PI X tg iter wi' := fun pins s σ H R I q => h pins s σ H R I (k σ H R q)
theorem itl_ok {K : PySem.W.Frag} {a : Addr} {xs : List V} {ds : List D} {G : Hp} (h1 : G a = some (.lst xs)) (h2 : RepA K C G ds xs) : ItOk K C (Itl K a) ds G := by
  have hl := repA_len h2
  refine ⟨fun i H S e hi => ?_, fun i H S x H' dm e hi y => ?_, fun i H S e hi => ⟨xs, SqL.of (less_same _ _ (e _ _ h1)), by omega⟩⟩
  · exact ⟨xs, xs[i]'(by omega), SqL.of (less_same _ _ (e _ _ h1)), by rw [List.getElem?_eq_getElem]⟩
  · obtain ⟨rfl, y⟩ := y
    have yx := y xs (SqL.of (less_same _ _ (e _ _ h1)))
    obtain ⟨d, e1, r⟩ := repA_get' h2 yx
    exact ⟨d, e1, Same.refl _, Rep.mono e _ _ r⟩
def rng (lo : Int) (n : Nat) : List D := (List.range n).map fun (i : Nat) => .int (lo + i)
theorem itr_ok {K : PySem.W.Frag} {lo : Int} {n : Nat} {G : Hp} : ItOk K C (Itr lo n) (rng lo n) G := by
  have hl : (rng lo n).length = n := by unfold rng; rw [List.length_map, List.length_range]
  refine ⟨fun i H S e hi => by rw [hl] at hi; exact hi, fun i H S x H' dm e hi y => ?_, fun i H S e hi => by rw [hl] at hi; exact hi⟩
  obtain ⟨rfl, rfl⟩ := y
  refine ⟨.int (lo + i), ?_, Same.refl _, rep_int⟩
  rw [hl] at hi
  unfold rng
  rw [List.getElem?_map, List.getElem?_range hi]
  rfl
def dItL (te : DT1) : DTA := fun env Q => te env fun d => match d with
  | .lst l => Q l
  | _ => False
def dItT (te : DT1) : DTA := fun env Q => te env fun d => match d with
  | .tup l => Q l
  | _ => False
theorem di_list {tg : Expr} (h : DE C X e te) : DI C X tg e (dItL te) := piW (pi_list h) fun σ H R ⟨S, env, P, h1, h2, h3⟩ => ⟨S, env, _, h1, h2, fun d hd v H' e rv => by
  cases d with
  | lst l =>
    unfold Rep at rv
    obtain ⟨a, xs, rfl, r1, r2⟩ := rv
    exact ⟨a, rfl, ⟨xs, SqL.of (less_same _ _ r1)⟩, h3 l hd _ H' e (itl_ok r1 r2)⟩
  | _ => exact hd.elim⟩
/-- range(n), range(a, b): what is walked is told by its bounds -/
def dRng1 (t : DTA) : DTA := fun env Q => t env fun l => match l with
  | [.int j] => -(2 ^ 62) ≤ j ∧ j < 2 ^ 62 ∧ Q (rng 0 j.toNat)
  | _ => False
def dRng2 (t : DTA) : DTA := fun env Q => t env fun l => match l with
  | [.int i, .int j] => (-(2 ^ 62) ≤ i ∧ i < 2 ^ 62 ∧ -(2 ^ 62) ≤ j ∧ j < 2 ^ 62) ∧ Q (rng i (j - i).toNat)
  | _ => False
theorem di_range1 {tg : Expr} {p : Pos} (hg : Gl X "range") (hm : X.mg "range" = none) (ha : DA C X [a] t) (hs : starEach [a] X.env = [(false, eval a X.env)] := by rfl) : DI C X tg (.Call (.Name "range" p) [a] [] pos) (dRng1 t) := piW (pi_range1 hg hm ha hs) fun σ H R ⟨S, env, P, h1, h2, h3⟩ =>
  ⟨S, env, _, h1, h2, fun ds hd vs H' e rv => by
    split at hd
    · obtain ⟨v, rfl, r⟩ := repA_one rv
      unfold Rep at r
      subst r
      exact ⟨_, rfl, hd.1, hd.2.1, h3 _ hd.2.2 _ H' e itr_ok⟩
    · exact hd.elim⟩
theorem di_range2 {tg : Expr} {p : Pos} (hg : Gl X "range") (hm : X.mg "range" = none) (ha : DA C X [a, b] t) (hs : starEach [a, b] X.env = [(false, eval a X.env), (false, eval b X.env)] := by rfl) (hs2 : starEach [b] X.env = [(false, eval b X.env)] := by rfl) : DI C X tg (.Call (.Name "range" p) [a, b] [] pos) (dRng2 t) := piW (pi_range2 hg hm ha hs hs2) fun σ H R ⟨S, env, P, h1, h2, h3⟩ =>
  ⟨S, env, _, h1, h2, fun ds hd vs H' e rv => by
    split at hd
    · obtain ⟨v, u, rfl, r, r'⟩ := repA_two rv
      unfold Rep at r r'
      subst r r'
      exact ⟨_, _, rfl, hd.1, h3 _ hd.2 _ H' e itr_ok⟩
    · exact hd.elim⟩

/-! ### for -/
abbrev DTG := D → En → (En → Prop) → Prop
def rG (K : PySem.W.Frag) (C : Addr) (g : DTG) : TG := fun v σ H Q => ∃ H0 S0 S env d P, SOk K C H0 S0 H S σ env ∧ Rep K C (less H S) d v ∧ g d env P ∧ ∀ env', P env' → ∀ σ' H' S', SOk K C H0 S0 H' S' σ' env' → Q σ' H'
def DG (C : Addr) (X : Cx) (tg : Expr) (g : DTG) : Prop := PG X tg (rG X.K C g)
theorem pgW {tg : Expr} {g g' : TG} (h : PG X tg g) (k : ∀ v σ H Q, g' v σ H Q → g v σ H Q) : PG X tg g' := fun pins s σ H v u Q I r q => h pins s σ H v u Q I r (k v σ H Q q)
def dName (i : Nat) : DTG := fun d env Q => Q (env.set i (some (.sh d)))
theorem dg_name {i : Nat} {x : Str} (hN : X.N.Nodup) (hi : X.N[i]? = some x) (hx : Loc X.env.scope x) (hf : X.fn x = true ∨ X.env.scope.names.lookup x = some .local := by first | exact .inl rfl | exact .inr rfl | assumption) : DG C X (.Name x pos) (dName i) :=
  pgW (pg_name hN hi hx hf) fun v σ H Q ⟨H0, S0, S, env, d, P, h1, h2, h3, h4⟩ => h4 _ h3 _ _ _ (h1.set h2 i)
/-- (x, y) = a pair -/
def dName2 (i j : Nat) : DTG := fun d env Q => match d with
  | .tup [x, y] => Q ((env.set i (some (.sh x))).set j (some (.sh y)))
  | _ => False
/-- over a list by the part taken -/
def dFor (ti : DTA) (g : DTG) (tb : DTS) : DTS := fun DD env => ti env fun items => ∃ (α : Type) (xs : List α) (enc : α → D) (Pv : List α → En → Prop), items = xs.map enc ∧ Pv [] env ∧
  (∀ pre x post env', xs = pre ++ x :: post → Pv pre env' → g (enc x) env' fun env2 => tb { DD with nx := Pv (pre ++ [x]), ct := Pv (pre ++ [x]), bk := DD.nx } env2) ∧ ∀ env', Pv xs env' → DD.nx env'
/-- the places that are not one's own -/
theorem loop_base {K : PySem.W.Frag} {H0 H : Hp} {S0 S : Addr → Prop} {σ : L2.St} {env : En} (h : SOk K C H0 S0 H S σ env) : ∃ G, SOk K C G S0 H S σ env ∧ less G S0 = less H S ∧ (∀ {H' S' σ' env'}, SOk K C G S0 H' S' σ' env' → SOk K C H0 S0 H' S' σ' env') ∧ (∀ {H'}, Same G H' → Same H0 H') ∧ ∀ {p}, G p = none → H0 p = none := by
  have g0 : Same H0 (less H fun a => S a ∧ ¬ S0 a) := fun b u z => less_iff.mpr ⟨fun q => (h.hid b q.1).elim q.2 fun w => (by rw [z] at w; cases w), h.same _ _ z⟩
  have gn : ∀ {p : Addr}, (less H fun a => S a ∧ ¬ S0 a) p = none → H0 p = none := fun {p} z => Same.none g0 z
  refine ⟨less H fun a => S a ∧ ¬ S0 a, ⟨h.e, less_same, h.sub, fun p q => ?_, fun i p ds z1 => ?_, fun p q => ?_⟩, ?_, fun {H' S' σ' env'} k => ⟨k.e, g0.trans k.same, k.sub, fun p q => (k.hid p q).imp id gn, fun i p ds z1 => gn (k.own i p ds z1), h.dom0⟩, fun k => g0.trans k, gn⟩
  · by_cases w : S0 p
    · exact .inl w
    · refine .inr ?_
      unfold less
      rw [if_pos ⟨q, w⟩]
  · have hp0 := h.own i p ds z1
    obtain ⟨_, r1, _⟩ := h.e.held z1
    unfold less
    rw [if_pos ⟨r1, fun w => h.dom0 p w hp0⟩]
  · unfold less
    rw [if_neg fun w => w.2 q]
    exact h.e.dom p (h.sub p q)
  · funext a
    unfold less
    by_cases w : S0 a
    · rw [if_pos w, if_pos (h.sub a w)]
    · rw [if_neg w]
      by_cases v : S a
      · rw [if_pos ⟨v, w⟩, if_pos v]
      · rw [if_neg fun z => v z.1, if_neg v]
theorem split_at {α : Type} {xs : List α} {i : Nat} (h : i < xs.length) : xs = xs.take i ++ xs[i] :: xs.drop (i + 1) := by
  rw [List.getElem_cons_drop, List.take_append_drop]
theorem ds_for {tg iter : Expr} {g : DTG} (hp : PassesOwn (model X.prog X.w) X.A X.env X.xe) (hc : X.calm = true) (hi : DI C X tg iter t) (hg : DG C X tg g) (hb : DSs C X sts u)
    (hs : ∀ x, foldedSetIterable iter X.env x = pure x := by intro _; rfl) : DS C X (.For tg iter sts [] pos) (dFor t g u) := psW (ps_for hp hc hi hg hb hs) fun D0 σ H ⟨H0, S0, S, env, DD, h1, h2, h3⟩ => by
  refine ⟨S, env, _, h1.e, h2, fun items ⟨α, xs, enc, Pv, hit, p0, turn, fin⟩ J H1 e J1 => ?_⟩
  subst hit
  obtain ⟨G, k1, hG, back, backS, backN⟩ := loop_base (h1.mono e)
  rw [← hG] at J1
  have hlen : (xs.map enc).length = xs.length := List.length_map _
  refine ⟨fun i m σ H => m = xs.length - i ∧ i ≤ xs.length ∧ ∃ S env, SOk X.K C G S0 H S σ env ∧ Pv (xs.take i) env, ⟨xs.length, by simp, Nat.zero_le _, S, env, k1, p0⟩, ?_⟩
  rintro i m σ2 H2 ⟨rfl, hi, S2, env2, k2, p2⟩
  have pr := k2.prot
  by_cases hlt : i < xs.length
  · refine .inr ⟨J1.go i H2 S2 pr (by omega), fun σ' H' => ∃ S env, SOk X.K C G S0 H' S σ' env ∧ Pv (xs.take (i + 1)) env, fun σ' H' z => ⟨xs.length - (i + 1), by omega, rfl, hlt, z⟩, fun x H' y => ?_⟩
    obtain ⟨d, e1, s1, r⟩ := J1.yld i H2 S2 x H' k2.e.dom pr (by omega) y
    rw [List.getElem?_map, List.getElem?_eq_getElem hlt] at e1
    cases e1
    have tk : xs.take (i + 1) = xs.take i ++ [xs[i]] := by rw [List.take_append_getElem]
    refine ⟨G, S0, S2, env2, _, _, k2.mono s1, r, turn _ _ _ env2 (split_at hlt) p2, fun env' z σ' H'' S' k' => ⟨G, S0, S', env', _, k', z, ⟨fun env'' S'' σ'' H3 hx hs => ⟨S'', env'', hs, by rw [tk]; exact hx⟩, fun d v H3 hr hs rv => h3.rt d v H3 hr (backS hs) rv,
      fun env'' S'' σ'' H3 hx hs => h3.nx _ _ _ _ hx (back hs), fun env'' S'' σ'' H3 hx hs => ⟨S'', env'', hs, by rw [tk]; exact hx⟩, fun ds p xs H3 hd hs hp hl rv => h3.rf ds p xs H3 hd (backS hs) (backN hp) hl rv⟩⟩⟩
  · have e' : i = xs.length := by omega
    subst e'
    rw [List.take_length] at p2
    exact .inl ⟨J1.stop _ H2 S2 pr (by omega), h3.nx _ _ _ _ (fin env2 p2) (back k2)⟩

/-! ### comprehensions -/
def capD (caps : List Nat) (env : En) : En := caps.map fun i => (env[i]?).getD none
def dComp (caps : List Nat) (ti : DTA) (tt : DTT) (te : DT1) : DTA := fun env Q => ti env fun items => ∃ (α : Type) (xs : List α) (enc : α → D) (f : α → Option D), items = xs.map enc ∧ xs.length ≤ sizeLine ∧
  (∀ x ∈ xs, tt (some (.sh (enc x)) :: capD caps env) fun b => if b = true then te (some (.sh (enc x)) :: capD caps env) fun y => f x = some y else f x = none) ∧ Q (xs.filterMap f)
theorem cap_at {caps : List Nat} {env : En} {j : Nat} {sv : SV} (h : (capD caps env)[j]? = some (some sv)) : ∃ i, caps[j]? = some i ∧ env[i]? = some (some sv) := by
  unfold capD at h
  rw [List.getElem?_map] at h
  cases q : caps[j]? with
  | none => rw [q] at h; cases h
  | some i =>
    rw [q] at h
    refine ⟨i, rfl, ?_⟩
    have h' : (env[i]?).getD none = some sv := Option.some.inj h
    cases z : env[i]? with
    | none => rw [z] at h'; cases h'
    | some o => rw [z] at h'; exact congrArg some h'
theorem nodup_inj {l : List Nat} (h : l.Nodup) {i j : Nat} (hi : i < l.length) (hj : j < l.length) (e : l[i] = l[j]) : i = j := by
  have p := List.pairwise_iff_getElem.mp h
  rcases Nat.lt_trichotomy i j with q | q | q
  · exact absurd e (p i j hi hj q)
  · exact q
  · exact absurd e.symm (p j i hj hi q)
theorem cap_ok {K : PySem.W.Frag} {H : Hp} {S : Addr → Prop} {σ : L2.St} {env : En} {caps : List Nat} {d : D} {v : V} (h : EOk K C H S σ env) (hn : caps.Nodup) (r : Rep K C (less H S) d v) : EOk K C H S (some v :: capv caps σ) (some (.sh d) :: capD caps env) := by
  have look : ∀ {j : Nat} {sv : SV}, (capD caps env)[j]? = some (some sv) → ∃ i, caps[j]? = some i ∧ env[i]? = some (some sv) ∧ (capv caps σ)[j]? = some ((σ[i]?).getD none) := fun {j sv} z => by
    obtain ⟨i, e1, e2⟩ := cap_at z
    refine ⟨i, e1, e2, ?_⟩
    unfold capv
    rw [List.getElem?_map, e1]
    rfl
  refine ⟨by unfold capv capD; simp, fun j sv z => ?_, fun j k p ds es z1 z2 => ?_, h.dom⟩
  · cases j with
    | zero => simp at z; subst z; exact ⟨v, rfl, r⟩
    | succ j =>
      rw [List.getElem?_cons_succ] at z ⊢
      obtain ⟨i, e1, e2, e3⟩ := look z
      obtain ⟨u, g1, g2⟩ := h.slot i sv e2
      exact ⟨u, by rw [e3, g1]; rfl, g2⟩
  · cases j with
    | zero => simp at z1
    | succ j =>
      cases k with
      | zero => simp at z2
      | succ k =>
        rw [List.getElem?_cons_succ] at z1 z2
        obtain ⟨i, e1, e2, e3⟩ := look z1
        obtain ⟨i', e1', e2', e3'⟩ := look z2
        have hii := h.inj i i' p _ _ e2 e2'
        subst hii
        obtain ⟨hj1, hj2⟩ := List.getElem?_eq_some_iff.mp e1
        obtain ⟨hk1, hk2⟩ := List.getElem?_eq_some_iff.mp e1'
        rw [nodup_inj hn hj1 hk1 (hj2.trans hk2.symm)]
theorem comp_of {caps : List Nat} (hn : caps.Nodup) : ∀ σ H Q, rF X.K C (dComp caps t tt te) σ H Q → tComp caps (rIt X.K C t) (rT X.K C tt) (rE X.K C te) σ H Q := fun σ H Q ⟨S, env, P, h1, h2, h3⟩ => by
  refine ⟨S, env, _, h1, h2, fun items ⟨α, xs, enc, f, hit, hz, turn, fin⟩ J H1 e J1 => ?_⟩
  subst hit
  have hlen : (xs.map enc).length = xs.length := List.length_map _
  refine ⟨fun i m ys H => m = xs.length - i ∧ i ≤ xs.length ∧ Same H1 H ∧ RepA X.K C (less H S) ((xs.take i).filterMap f) ys, ⟨xs.length, by simp, Nat.zero_le _, Same.refl _, repA_nil⟩, ?_⟩
  rintro i m ys H2 ⟨rfl, hi, s2, r2⟩
  have pr : Same (less H1 S) (less H2 S) := same_less s2
  by_cases hlt : i < xs.length
  · refine .inr ⟨J1.go i H2 S pr (by omega), fun v H' y => ?_⟩
    obtain ⟨d, e1, s1, r⟩ := J1.yld i H2 S v H' (h1.dom.mono (e.trans s2)) pr (by omega) y
    rw [List.getElem?_map, List.getElem?_eq_getElem hlt] at e1
    cases e1
    have eo : EOk X.K C H' S (some v :: capv caps σ) (some (.sh (enc xs[i])) :: capD caps env) := cap_ok (h1.mono (e.trans (s2.trans s1))) hn r
    have hm : xs[i] ∈ xs := List.getElem_mem hlt
    have tk : (xs.take (i + 1)).filterMap f = (xs.take i).filterMap f ++ [xs[i]].filterMap f := by rw [← List.take_append_getElem hlt, List.filterMap_append]
    refine ⟨S, _, _, eo, turn _ hm, fun b hb H3 e3 => ?_⟩
    cases b with
    | true =>
      refine ⟨S, _, _, eo.mono e3, hb, fun y hy yv H4 e4 ry => ⟨?_, xs.length - (i + 1), by omega, rfl, hlt, s2.trans (s1.trans (e3.trans e4)), ?_⟩⟩
      · have q1 := repA_len r2
        have q2 := List.length_filterMap_le f (xs.take i)
        have q3 := List.length_take_le i xs
        omega
      · rw [tk, List.filterMap_cons_some hy]
        exact repA_app (RepA.mono (same_less (s1.trans (e3.trans e4))) _ _ r2) (repA_cons ry repA_nil)
    | false =>
      refine ⟨xs.length - (i + 1), by omega, rfl, hlt, s2.trans (s1.trans e3), ?_⟩
      rw [tk, List.filterMap_cons_none hb, List.filterMap_nil, List.append_nil]
      exact RepA.mono (same_less (s1.trans e3)) _ _ r2
  · have e' : i = xs.length := by omega
    subst e'
    rw [List.take_length] at r2
    exact .inl ⟨J1.stop _ H2 S pr (by omega), fun p hp => (h3.mono (e.trans s2)).new fin r2 hp⟩
def DIfs (C : Addr) (X : Cx) (ifs : List Expr) (t : DTT) : Prop := PIfs X ifs (rT X.K C t)
def dYes : DTT := fun _ Q => Q true
theorem difs_nil : DIfs C X [] dYes := fun pins s σ H Q I ⟨S, env, P, h1, h2, h3⟩ => pifs_nil pins s σ H Q I (h3 _ h2 H (Same.refl _))
section
variable {scope : Scope} {x : Str} {N' : List Str} {caps : List Nat} {elt iter : Expr} {px : Pos} {ifs : List Expr}
theorem df_comp (S : CompSc X scope x N' caps) (hc : X.calm = true) (hi : DI C X (.Name x px) iter t) (ht : ∀ C' ex s₀ H₀, DIfs C (cxComp X scope N' C' ex s₀ H₀) ifs tt) (he : ∀ C' ex s₀ H₀, DE C (cxComp X scope N' C' ex s₀ H₀) elt te) (hn : caps.Nodup := by decide)
    (hs : ∀ x, foldedSetIterable iter X.env x = pure x := by intro _; rfl) : DF C X (.ListComp elt [⟨.Name x px, iter, ifs, 0⟩] scope pos) (dComp caps t tt te) := peW (pe_comp (tt := rT X.K C tt) (te := rE X.K C te) S hc hi (fun C' ex s h => ht C' ex s h) (fun C' ex s h => he C' ex s h) hs) (comp_of hn)
theorem ds_comp {i : Nat} {y : Str} {py spos : Pos} (hN : X.N.Nodup) (hi0 : X.N[i]? = some y) (hy : X.env.scope.names.lookup y = some .local) (S : CompSc X scope x N' caps) (hc : X.calm = true) (hi : DI C X (.Name x px) iter t) (ht : ∀ C' ex s₀ H₀, DIfs C (cxComp X scope N' C' ex s₀ H₀) ifs tt) (he : ∀ C' ex s₀ H₀, DE C (cxComp X scope N' C' ex s₀ H₀) elt te) (hn : caps.Nodup := by decide)
    (hsw : swapsWith (.ListComp elt [⟨.Name x px, iter, ifs, 0⟩] scope pos) (some (.Name y py)) spos.line X.env = pure true := by rfl)
    (hs : ∀ x, foldedSetIterable iter X.env x = pure x := by intro _; rfl) : DS C X (.Assign [.Name y py] (.ListComp elt [⟨.Name x px, iter, ifs, 0⟩] scope pos) spos) (dSet i (dOf (dComp caps t tt te))) := psW (ps_comp (tt := rT X.K C tt) (te := rE X.K C te) hN hi0 hy S hc hi (fun C' ex s h => ht C' ex s h) (fun C' ex s h => he C' ex s h) hsw hs) fun D0 σ H h => by
  obtain ⟨H0, S0, S, env, DD, h1, h2, h3⟩ := h
  exact comp_of hn σ H _ ⟨S, env, fun ds => DD.nx (env.set i (some (.sh (.lst ds)))), h1.e, h2, KD.fresh (P := fun d => DD.nx (env.set i (some (.sh d)))) (fun d hd v H' e rv => h3.nx _ _ _ _ hd ((h1.mono e).set rv i)) h1.e.dom⟩
end
end

/-! ### a def -/
def startD (N : List Str) (ds : List D) : En := ds.map (fun d => some (.sh d)) ++ List.replicate (N.length - ds.length) none
theorem start_ok {K : PySem.W.Frag} {C : Addr} {N : List Str} {H : Hp} {S : Addr → Prop} {ds : List D} {vs : List V} (dm : Dom H S) (r : RepA K C (less H S) ds vs) : SOk K C H S H S (start N vs) (startD N ds) := by
  have hl := repA_len r
  have look : ∀ {j : Nat} {sv : SV}, (startD N ds)[j]? = some (some sv) → ∃ d v, sv = .sh d ∧ (start N vs)[j]? = some (some v) ∧ Rep K C (less H S) d v := fun {j sv} z => by
    unfold startD at z
    by_cases hj : j < ds.length
    · rw [List.getElem?_append_left (by simpa using hj), List.getElem?_map, List.getElem?_eq_getElem hj] at z
      obtain ⟨v, e, rv⟩ := repA_get r (List.getElem?_eq_getElem hj)
      refine ⟨ds[j], v, (Option.some.inj (Option.some.inj z)).symm, ?_, rv⟩
      unfold start
      rw [List.getElem?_append_left (by simp; omega), List.getElem?_map, e]
      rfl
    · rw [List.getElem?_append_right (by simpa using hj), List.getElem?_replicate] at z
      split at z <;> cases z
  refine ⟨⟨?_, fun j sv z => ?_, fun j k p es es' z1 => ?_, dm⟩, Same.refl _, fun _ h => h, fun _ h => .inl h, fun j p es z1 => ?_, dm⟩
  · unfold start startD
    simp [hl]
  · obtain ⟨d, v, rfl, e, rv⟩ := look z
    exact ⟨v, e, rv⟩
  · obtain ⟨d, v, q, _⟩ := look z1
    cases q
  · obtain ⟨d, v, q, _⟩ := look z1
    cases q
section
variable {P : Program} {w : World} {K : PySem.W.Frag} {mg : Str → Option Value} {base : Heap} {C : Addr}
/-- THE RULE for a def over data -/
theorem fn_d {x qual : Str} {st : Stmt} {f : Addr} {fd : FuncData} {N ps : List Str} {k : Nat} {T : List D → (D → Prop) → Prop} (F : Fun K x qual st f fd) (Sc : FnScope N ps (defScope st)) (len : ∀ ds Q, T ds Q → ds.length = ps.length)
    (hbody : ∀ (cdv : Value) (A : Around) (outer : List Env) (s : Shared) (H : Hp) (E : XK), Room k (A.deeper (envOfC qual (defScope st) s.heap.objs.size f cdv)) →
      ∃ t, DSs C (cxOf CX0 P w K mg base N qual (defScope st) f cdv A outer s H E).nox (defBody st) t ∧ ∀ ds Q, T ds Q → t { nx := fun _ => Q .non, rt := Q } (startD N ds)) : FnOk P w K mg base CX0 (k + 1) f fd ps (spD K C T) := by
  refine F.ok Sc (fun vs H Q E h => ?_) (fun cdv A outer s H vs Q E hr h => ?_)
  · obtain ⟨S, ds, R, dm, r, hT, _⟩ := h
    rw [← repA_len r]
    exact len ds R hT
  · obtain ⟨S, ds, R, dm, r, hT, kd⟩ := h
    obtain ⟨t, h1, h2⟩ := hbody cdv A outer s H E hr
    exact ⟨_, h1, H, S, S, startD N ds, _, start_ok dm r, h2 ds R hT, ⟨fun env S' σ H' hx hs => kd _ hx _ H' hs.same rep_non, fun d v H' hx e rv => kd d hx v H' e rv, fun _ _ _ _ z => z.elim, fun _ _ _ _ z => z.elim, fun _ _ _ _ z => z.elim⟩⟩
end
end L2.DL

set_option Elab.async false
set_option linter.all false
set_option maxRecDepth 100000
set_option maxHeartbeats 4000000
/-! Rules over data: isinstance, module constants, a def that hands back a new list, forms of use. -/
namespace L2.DL
open PySem PySem.Spec PyProof.Rows
def isTy : D → String → Option Bool
  | .int _, "int" => some true
  | .int _, "bool" => some false
  | .int _, "tuple" => some false
  | .int _, "list" => some false
  | .bl _, "bool" => some true
  | .bl _, "int" => some true
  | .bl _, "tuple" => some false
  | .tup _, "tuple" => some true
  | .tup _, "list" => some false
  | .tup _, "int" => some false
  | .lst _, "list" => some true
  | .lst _, "tuple" => some false
  | .str _, "str" => some true
  | .non, "tuple" => some false
  | .non, "bool" => some false
  | .non, "int" => some false
  | _, _ => none
def rcInst : List D → (D → Prop) → Prop := fun xs Q => match xs with
  | [d, .ty c] => match isTy d c with
    | some b => Q (.bl b)
    | none => False
  | _ => False
section
variable {C : Addr} {X : Cx} {a b c e : Expr} {es : List Expr} {st : Stmt} {sts sts2 : List Stmt} {ta tb tc te : DT1} {t : DTA} {tt : DTT} {u w : DTS} {pos : Pos}
/-- a built-in type as a value -/
theorem de_ty {x : Str} {n : String} (hg : Gl X x) (hm : X.mg x = none) (hv : bootBuiltins x = some (.type n)) (hn : x ≠ "__name__" := by decide) (hd : (x == ("__debug__" : Str)) = false := by decide) : DE C X (.Name x pos) (dC (.ty n)) :=
  de_of_c (pe_bltn (v := .ty n) hg hm hv rfl hn hd) fun _ => rep_ty
/-- a module's constant -/
theorem de_gl {x : Str} {v : V} {uv : Value} {d : D} (hg : Gl X x) (hm : X.mg x = some uv) (r : RelV v uv) (h : ∀ H, Rep X.K C H d v) (hd : (x == ("__debug__" : Str)) = false := by decide) : DE C X (.Name x pos) (dC d) := de_of_c (pe_glob hg hm r hd) h
end
/-- an int of the module -/
structure GInt (mg : Str → Option Value) (x : Str) (i : Int) : Prop where
  at_ : ∃ t, mg x = some (.int i t)
/-- a tuple of ints of the module -/
structure GTup (K : PySem.W.Frag) (mg : Str → Option Value) (x : Str) (ns : List Int) : Prop where
  at_ : ∃ a, mg x = some (.ref a) ∧ ∀ H : Hp, SqT K H a (ns.map V.int)
section
variable {C : Addr} {X : Cx} {pos : Pos}
theorem de_gint {x : Str} {i : Int} (g : GInt X.mg x i) (hg : Gl X x) (hd : (x == ("__debug__" : Str)) = false := by decide) : DE C X (.Name x pos) (dC (.int i)) := by
  obtain ⟨t, h⟩ := g.at_
  exact de_gl (v := .int i) hg h ⟨t, rfl⟩ (fun _ => rep_int) hd
end
section
variable {P : Program} {w : World} {K : PySem.W.Frag} {mg : Str → Option Value} {base : Heap} {C : Addr}
/-- THE RULE for a def that hands back a list of its own -/
theorem fn_f {x qual : Str} {st : Stmt} {f : Addr} {fd : FuncData} {N ps : List Str} {k : Nat} {T : List D → (List D → Prop) → Prop} (F : Fun K x qual st f fd) (Sc : FnScope N ps (defScope st)) (len : ∀ ds Q, T ds Q → ds.length = ps.length)
    (hbody : ∀ (cdv : Value) (A : Around) (outer : List Env) (s : Shared) (H : Hp) (E : XK), Room k (A.deeper (envOfC qual (defScope st) s.heap.objs.size f cdv)) →
      ∃ t, DSs C (cxOf CX0 P w K mg base N qual (defScope st) f cdv A outer s H E).nox (defBody st) t ∧ ∀ ds Q, T ds Q → t { nx := fun _ => False, rt := fun _ => False, rf := Q } (startD N ds)) : FnOk P w K mg base CX0 (k + 1) f fd ps (spF K C T) := by
  refine F.ok Sc (fun vs H Q E h => ?_) (fun cdv A outer s H vs Q E hr h => ?_)
  · obtain ⟨S, ds, R, dm, r, hT, _⟩ := h
    rw [← repA_len r]
    exact len ds R hT
  · obtain ⟨S, ds, R, dm, r, hT, kd⟩ := h
    obtain ⟨t, h1, h2⟩ := hbody cdv A outer s H E hr
    exact ⟨_, h1, H, S, S, startD N ds, _, start_ok dm r, h2 ds R hT, ⟨fun env S' σ H' hx hs => hx.elim, fun d v H' hx e rv => hx.elim, fun _ _ _ _ z => z.elim, fun _ _ _ _ z => z.elim, fun ds p xs H' hx e hp hl rv => kd ds hx p xs H' e hp hl rv⟩⟩
end
end L2.DL

set_option Elab.async false
set_option linter.all false
set_option maxRecDepth 100000
set_option maxHeartbeats 4000000
/-! Fractions as rational numbers; their sizes. -/
namespace L2.DL
open PySem PySem.Spec PyProof.Rows
open Builtin.Int (intBits)
def dQ (q : Rat) : D := .tup [.int q.num, .int q.den]
def Sz (n : Nat) (q : Rat) : Prop := q.num.natAbs < 2 ^ n ∧ q.den < 2 ^ n
theorem Sz.mono {m n : Nat} {q : Rat} (h : Sz m q) (e : m ≤ n) : Sz n q := by
  have := Nat.pow_le_pow_right (n := 2) (by decide) e
  exact ⟨by have := h.1; omega, by have := h.2; omega⟩
theorem Sz.top {n : Nat} {q : Rat} (h : Sz n q) : intBits q.num ≤ n := intBits_le_iff.mpr h.1
theorem mk_le {t : Int} {b : Nat} (hb : b ≠ 0) : (mkRat t b).num.natAbs ≤ t.natAbs ∧ (mkRat t b).den ≤ b := by
  rw [Rat.num_mkRat, Rat.den_mkRat, if_neg hb, if_neg hb]
  exact ⟨Int.natAbs_ediv_le_natAbs _ _, Nat.div_le_self _ _⟩
theorem Sz.mk {n : Nat} {t : Int} {b : Nat} (hb : b ≠ 0) (h1 : t.natAbs < 2 ^ n) (h2 : b < 2 ^ n) : Sz n (mkRat t b) := by
  obtain ⟨a1, a2⟩ := mk_le (t := t) hb
  exact ⟨by omega, by omega⟩
theorem mul_lt {a b m n : Nat} (h1 : a < 2 ^ m) (h2 : b < 2 ^ n) : a * b < 2 ^ (m + n) := by
  rw [Nat.pow_add]
  exact Nat.mul_lt_mul'' h1 h2
theorem Sz.add {m n : Nat} {p q : Rat} (h1 : Sz m p) (h2 : Sz n q) : Sz (m + n + 1) (p + q) := by
  rw [Rat.add_def']
  refine Sz.mk (Nat.mul_ne_zero p.den_nz q.den_nz) ?_ ?_
  · have a1 := mul_lt h1.1 h2.2
    have a2 := mul_lt h2.1 h1.2
    rw [Nat.add_comm n m] at a2
    have a3 := Int.natAbs_add_le (p.num * q.den) (q.num * p.den)
    rw [Int.natAbs_mul, Int.natAbs_mul, Int.natAbs_natCast, Int.natAbs_natCast] at a3
    rw [Nat.pow_succ]
    omega
  · have := mul_lt h1.2 h2.2
    rw [Nat.pow_succ]
    omega
theorem Sz.neg {n : Nat} {q : Rat} (h : Sz n q) : Sz n (-q) := by
  unfold Sz
  show (-q.num).natAbs < _ ∧ q.den < _
  rw [Int.natAbs_neg]
  exact h
theorem Sz.sub {m n : Nat} {p q : Rat} (h1 : Sz m p) (h2 : Sz n q) : Sz (m + n + 1) (p - q) := by
  rw [Rat.sub_eq_add_neg]
  exact h1.add h2.neg
theorem Sz.int {n : Nat} {i : Int} (h : i.natAbs < 2 ^ n) (h0 : 1 ≤ n) : Sz n (i : Rat) := by
  unfold Sz
  rw [Rat.num_intCast, Rat.den_intCast]
  exact ⟨h, Nat.one_lt_two_pow (by omega)⟩
theorem Sz.zero : Sz 1 0 := ⟨by decide +kernel, by decide +kernel⟩
theorem dQ_int (n : Int) : D.tup [.int n, .int 1] = dQ (n : Rat) := by
  unfold dQ
  rw [Rat.num_intCast, Rat.den_intCast]
  rfl
theorem dQ_nought : D.tup [.int 0, .int 1] = dQ 0 := dQ_int 0
theorem dQ_one : D.tup [.int 1, .int 1] = dQ 1 := dQ_int 1
def sumQ : List Rat → Rat
  | [] => 0
  | q :: l => q + sumQ l
/-- numbers that can be added up -/
def SzL (qs : List Rat) : Prop := ∃ m, (∀ q ∈ qs, Sz m q) ∧ 1 + qs.length * (m + 1) ≤ 2900
theorem Sz.sum {m : Nat} : ∀ {qs : List Rat}, (∀ q ∈ qs, Sz m q) → Sz (1 + qs.length * (m + 1)) (sumQ qs)
  | [], _ => by simpa [sumQ] using Sz.zero
  | q :: l, h => by
    have a := (h q List.mem_cons_self).add (Sz.sum fun x hx => h x (List.mem_cons_of_mem _ hx))
    unfold sumQ
    refine a.mono ?_
    rw [List.length_cons, Nat.add_mul]
    omega
theorem SzL.sum {qs : List Rat} (h : SzL qs) : Sz 2900 (sumQ qs) := by
  obtain ⟨m, h1, h2⟩ := h
  exact (Sz.sum h1).mono h2
theorem SzL.pre {pre post : List Rat} (h : SzL (pre ++ post)) : SzL pre := by
  obtain ⟨m, h1, h2⟩ := h
  refine ⟨m, fun q hq => h1 q (List.mem_append_left _ hq), Nat.le_trans (Nat.add_le_add_left (Nat.mul_le_mul_right _ ?_) _) h2⟩
  rw [List.length_append]
  omega
theorem SzL.mem {qs : List Rat} {q : Rat} (h : SzL qs) (hq : q ∈ qs) : Sz 2900 q := by
  obtain ⟨m, h1, h2⟩ := h
  refine (h1 q hq).mono ?_
  have h3 : 1 ≤ qs.length := List.length_pos_of_mem hq
  have := Nat.mul_le_mul_right (m + 1) h3
  omega
theorem SzL.sub {qs rs : List Rat} (h : SzL qs) (hs : ∀ q ∈ rs, q ∈ qs) (hl : rs.length ≤ qs.length) : SzL rs := by
  obtain ⟨m, h1, h2⟩ := h
  exact ⟨m, fun q hq => h1 q (hs q hq), Nat.le_trans (Nat.add_le_add_left (Nat.mul_le_mul_right _ hl) _) h2⟩
theorem mulB {i j : Int} {m n : Nat} (h1 : intBits i ≤ m) (h2 : intBits j ≤ n) (hm : m ≤ 60000000 := by decide) (hn : n ≤ 60000000 := by decide) : CMulB i j := ⟨Nat.le_trans h1 hm, Nat.le_trans h2 hn⟩
theorem bits_le {i : Int} {n : Nat} (h : i.natAbs < 2 ^ n) : intBits i ≤ n := intBits_le_iff.mpr h
end L2.DL

set_option Elab.async false
set_option linter.all false
set_option maxRecDepth 100000
set_option maxHeartbeats 4000000
/-! A comprehension's names; heads of proofs. -/
namespace L2.DL
open PySem PySem.Spec PyProof.Rows
theorem compSc {X : Cx} {scope : Scope} {x : Str} (sc : Scope) (NN N' : List Str) (caps : List Nat) (hX : X.env.scope = sc) (hN : X.N = NN) (nd : N'.Nodup) (n0 : N'[0]? = some x) (len : N'.length = caps.length + 1) (cap : ∀ p ∈ caps.zip N'.tail, NN[p.1]? = some p.2)
    (capf : ∀ y ∈ N'.tail, scope.names.lookup y = some .free) (nocell : ∀ y ∈ scope.names, y.2 ≠ .cell) (kind : scope.kind = .function) (names : ∀ y ∈ scope.names, y.2 = .local → scope.names.lookup y.1 = some .local) (loc : scope.names.lookup x = some .local)
    (free : ∀ y ∈ scope.names, y.2 = .free → sc.names.lookup y.1 = some .cell ∨ sc.names.lookup y.1 = some .free) : CompSc X scope x N' caps := by
  refine ⟨nd, n0, len, fun j i y h1 h2 => ?_, fun j y h => capf y ?_, nocell, kind, names, loc, fun y hy hf => ?_⟩
  · rw [hN]
    refine cap (i, y) ?_
    have h2' : N'.tail[j]? = some y := by rw [List.getElem?_tail]; exact h2
    exact List.mem_of_getElem? (i := j) (by rw [List.getElem?_zip_eq_some]; exact ⟨h1, h2'⟩)
  · have h' : N'.tail[j]? = some y := by rw [List.getElem?_tail]; exact h
    exact List.mem_of_getElem? h'
  · have := free y hy hf
    rw [← hX] at this
    exact this
/-- the names' data at the entry -/
def startE : List Str → List D → En
  | [], _ => []
  | _ :: N, [] => none :: startE N []
  | _ :: N, d :: ds => some (.sh d) :: startE N ds
theorem startE_nil : ∀ N : List Str, startE N [] = List.replicate N.length none
  | [] => rfl
  | n :: N => by unfold startE; rw [startE_nil N]; rfl
theorem startE_eq : ∀ (N : List Str) (ds : List D), ds.length ≤ N.length → startE N ds = startD N ds
  | N, [], _ => by rw [startE_nil]; unfold startD; simp
  | [], d :: ds, h => by simp at h
  | n :: N, d :: ds, h => by
    unfold startE
    rw [startE_eq N ds (by simpa using h)]
    unfold startD
    simp
section
variable {P : Program} {w : World} {K : PySem.W.Frag} {mg : Str → Option Value} {base : Heap} {C : Addr}
theorem FnScope.le {N ps : List Str} {sc : Scope} (S : FnScope N ps sc) : ps.length ≤ N.length := by
  have := congrArg List.length S.pre
  rw [List.length_take] at this
  omega
theorem fn_e {x qual : Str} {st : Stmt} {f : Addr} {fd : FuncData} {N ps : List Str} {k : Nat} {T : List D → (D → Prop) → Prop} (F : Fun K x qual st f fd) (Sc : FnScope N ps (defScope st)) (len : ∀ ds Q, T ds Q → ds.length = ps.length)
    (hbody : ∀ (cdv : Value) (A : Around) (outer : List Env) (s : Shared) (H : Hp) (E : XK), Room k (A.deeper (envOfC qual (defScope st) s.heap.objs.size f cdv)) →
      ∃ t, DSs C (cxOf CX0 P w K mg base N qual (defScope st) f cdv A outer s H E).nox (defBody st) t ∧ ∀ ds Q, T ds Q → t { nx := fun _ => Q .non, rt := Q } (startE N ds)) : FnOk P w K mg base CX0 (k + 1) f fd ps (spD K C T) :=
  fn_d F Sc len fun cdv A outer s H E hr => by
    obtain ⟨t, h1, h2⟩ := hbody cdv A outer s H E hr
    refine ⟨t, h1, fun ds Q hT => ?_⟩
    rw [← startE_eq N ds (by rw [len ds Q hT]; exact FnScope.le Sc)]
    exact h2 ds Q hT
theorem fn_ef {x qual : Str} {st : Stmt} {f : Addr} {fd : FuncData} {N ps : List Str} {k : Nat} {T : List D → (List D → Prop) → Prop} (F : Fun K x qual st f fd) (Sc : FnScope N ps (defScope st)) (len : ∀ ds Q, T ds Q → ds.length = ps.length)
    (hbody : ∀ (cdv : Value) (A : Around) (outer : List Env) (s : Shared) (H : Hp) (E : XK), Room k (A.deeper (envOfC qual (defScope st) s.heap.objs.size f cdv)) →
      ∃ t, DSs C (cxOf CX0 P w K mg base N qual (defScope st) f cdv A outer s H E).nox (defBody st) t ∧ ∀ ds Q, T ds Q → t { nx := fun _ => False, rt := fun _ => False, rf := Q } (startE N ds)) : FnOk P w K mg base CX0 (k + 1) f fd ps (spF K C T) :=
  fn_f F Sc len fun cdv A outer s H E hr => by
    obtain ⟨t, h1, h2⟩ := hbody cdv A outer s H E hr
    refine ⟨t, h1, fun ds Q hT => ?_⟩
    rw [← startE_eq N ds (by rw [len ds Q hT]; exact FnScope.le Sc)]
    exact h2 ds Q hT
end
end L2.DL

set_option Elab.async false
set_option linter.all false
set_option maxRecDepth 100000
set_option maxHeartbeats 4000000
/-! What the defs promise, over data. -/
namespace L2.DL
open PySem PySem.Spec PyProof.Rows
open Builtin.Int (intBits)
abbrev TD := List D → (D → Prop) → Prop
abbrev TF := List D → (List D → Prop) → Prop
abbrev Plan := List (List Int × Rat)
def dG (g : List Int) : D := .tup (g.map D.int)
def dPh (ph : List Int × Rat) : D := .tup [dG ph.1, dQ ph.2]
def dPlan (pl : Plan) : D := .lst (pl.map dPh)
def cellAt (ns : List Int) (k : Int) : Int := ns.getD k.toNat 0
def lens (pl : Plan) : List Rat := pl.map fun ph => ph.2
def tot (pl : Plan) : Rat := sumQ (lens pl)

def AllPos (pl : Plan) : Prop := ∀ ph ∈ pl, 0 < ph.2
/-- lengths small enough that all along the walk is -/
def Small (pl : Plan) : Prop := pl.length ≤ 20 ∧ ∀ ph ∈ pl, Sz 8 ph.2
theorem Small.lens {pl : Plan} (h : Small pl) : SzL (lens pl) := by
  refine ⟨8, fun q hq => ?_, ?_⟩
  · obtain ⟨ph, h1, rfl⟩ := List.mem_map.mp hq
    exact h.2 ph h1
  · unfold DL.lens
    rw [List.length_map]
    have := Nat.mul_le_mul_right (8 + 1) h.1
    omega
def tCell : TD := fun ds Q => ∃ (ns : List Int) (k : Int), ds = [.scr ns, .int k] ∧ 0 ≤ k ∧ Q (.int (cellAt ns k))
def tLaw : TD := fun ds Q => ∃ ns : List Int, ds = [.scr ns] ∧ ns.length ≤ 63 ∧ Q (.bl true)

def spLaw (K : PySem.W.Frag) : Sp := fun vs H Q _ => ∃ (a : Addr) (ns : List Int), vs = [.ref a] ∧ SqL K H a (ns.map V.int) ∧ ns.length ≤ 63 ∧ ∀ H', Q (.bl true) H'
theorem law_start {K : PySem.W.Frag} {H : Hp} {a : Addr} {ns : List Int} (hl : ns.length ≤ 63) (hS : SqL K H a (ns.map V.int)) : spLaw K [.ref a] H (fun v _ => v = .bl true) fun _ _ _ => False := ⟨a, ns, rfl, hS, hl, fun _ => rfl⟩
theorem law_imp {P : Program} {w : World} {K : PySem.W.Frag} {mg : Str → Option Value} {base : Heap} {k : Nat} {f : Addr} {fd : FuncData} {ps : List Str} {C : Addr} (h : FnOk P w K mg base CX0 k f fd ps (spD K C tLaw)) : FnOk P w K mg base CX0 k f fd ps (spLaw K) :=
  h.imp fun vs H Q E ⟨a, ns, e, hS, hl, q⟩ => by
    subst e
    refine ⟨fun _ => False, [.scr ns], fun d => d = .bl true, fun _ z => z.elim, repA_cons ?_ repA_nil, ⟨ns, rfl, hl, rfl⟩, fun d hd v H' _ r => ?_⟩
    · have e : less H (fun _ => False) = H := by
        funext b
        unfold less
        rw [if_neg (fun z => z)]
      rw [e]
      unfold Rep
      exact ⟨a, rfl, hS⟩
    · subst hd
      unfold Rep at r
      subst r
      exact q H'

/-! ### the reading's small steps -/
theorem rdIx_Q0 {q : Rat} {Q : D → Prop} : rdIx (dQ q) (.int 0) Q = Q (.int q.num) := rfl
theorem rdIx_Q1 {q : Rat} {Q : D → Prop} : rdIx (dQ q) (.int 1) Q = Q (.int (q.den : Int)) := rfl
theorem rdIx_P0 {ph : List Int × Rat} {Q : D → Prop} : rdIx (dPh ph) (.int 0) Q = Q (dG ph.1) := rfl
theorem rdIx_P1 {ph : List Int × Rat} {Q : D → Prop} : rdIx (dPh ph) (.int 1) Q = Q (dQ ph.2) := rfl
theorem eqD_refl_all {n : Nat} (ih : ∀ d : D, ok n d = true → eqD d d = true) : ∀ l : List D, l.all (ok n) = true → PyData.eqvAll (pys l) (pys l) = true
  | [], _ => rfl
  | d :: l, h => by
    rw [List.all_cons, Bool.and_eq_true] at h
    unfold pys PyData.eqvAll
    rw [eqD_refl_all ih l h.2]
    have := ih d h.1
    unfold eqD at this
    rw [this]
    rfl
theorem eqD_refl : ∀ (n : Nat) (d : D), ok n d = true → eqD d d = true
  | _, .non, _ => by unfold eqD py PyData.eqv; rfl
  | _, .bl _, _ => by unfold eqD py PyData.eqv; simp
  | _, .int _, _ => by unfold eqD py PyData.eqv; simp
  | _, .str _, _ => by unfold eqD py PyData.eqv; simp
  | n + 1, .tup l, h => by
    unfold ok at h
    unfold eqD py PyData.eqv
    exact eqD_refl_all (eqD_refl n) l h
  | n + 1, .lst l, h => by
    unfold ok at h
    unfold eqD py PyData.eqv
    exact eqD_refl_all (eqD_refl n) l h
  | 0, .tup l, h => by unfold ok at h; cases h
  | 0, .lst l, h => by unfold ok at h; cases h
  | 0, .scr l, h => by unfold ok at h; cases h
  | 0, .crs _ _, h => by unfold ok at h; cases h
  | 0, .ty _, h => by unfold ok at h; cases h
  | 0, .cls _, h => by unfold ok at h; cases h
  | n + 1, .scr l, h => by unfold ok at h; cases h
  | n + 1, .crs _ _, h => by unfold ok at h; cases h
  | n + 1, .ty _, h => by unfold ok at h; cases h
  | n + 1, .cls _, h => by unfold ok at h; cases h
theorem ok_ints {n : Nat} (ns : List Int) : (ns.map D.int).all (ok n) = true := by
  induction ns with
  | nil => rfl
  | cons i ns ih => rw [List.map_cons, List.all_cons, ih]; cases n <;> rfl
theorem isTy_ii {i : Int} : isTy (.int i) "int" = some true := rfl
theorem isTy_ib {i : Int} : isTy (.int i) "bool" = some false := rfl
theorem isTy_bb {i : Bool} : isTy (.bl i) "bool" = some true := rfl
theorem isTy_Qt {q : Rat} : isTy (dQ q) "tuple" = some true := rfl
theorem isTy_Gt {g : List Int} : isTy (dG g) "tuple" = some true := rfl
theorem isTy_tt {l : List D} : isTy (.tup l) "tuple" = some true := rfl
theorem isTy_ll {l : List D} : isTy (.lst l) "list" = some true := rfl
theorem rcLen_Q {q : Rat} {Q : D → Prop} : rcLen [dQ q] Q = Q (.int 2) := rfl
theorem rcLen_G {g : List Int} {Q : D → Prop} : rcLen [dG g] Q = Q (.int g.length) := by unfold rcLen dG; simp only [List.length_map]
theorem rdIn_G {g : List Int} {i : Int} {Q : D → Prop} : rdIn id (.int i) (dG g) Q ↔ Q (.bl (decide (i ∈ g))) := by
  unfold rdIn dG
  simp only [allI_map, hasI_map, id, true_and]
theorem rdNotIn_G {g : List Int} {i : Int} {Q : D → Prop} : rdIn not (.int i) (dG g) Q ↔ Q (.bl (!decide (i ∈ g))) := by
  unfold rdIn dG
  simp only [allI_map, hasI_map, true_and]
theorem rdIx_scr {ns : List Int} {k : Int} {Q : D → Prop} (h0 : 0 ≤ k) (h : k < ns.length) : rdIx (.scr ns) (.int k) Q = Q (.int (cellAt ns k)) := by
  have e : atI ns k = some (cellAt ns k) := by
    unfold atI ixN cellAt
    rw [if_pos h0, if_pos h]
    show ns[k.toNat]? = _
    rw [List.getD_eq_getElem?_getD, List.getElem?_eq_getElem (by omega)]
    rfl
  unfold rdIx
  simp only [e]
theorem cell_out {ns : List Int} {k : Int} (h : ¬ k < ns.length) : cellAt ns k = 0 := by
  unfold cellAt
  rw [List.getD_eq_getElem?_getD, List.getElem?_eq_none (by omega)]
  rfl
theorem fm_some {α : Type} {g : α → D} (xs : List α) : xs.filterMap (fun x => some (g x)) = xs.map g := by
  induction xs with
  | nil => rfl
  | cons x xs ih => rw [List.filterMap_cons_some (f := fun x => some (g x)) (b := g x) rfl, ih]; rfl
theorem range_split {k : Nat} {pre post : List Nat} {x : Nat} (h : List.range k = pre ++ x :: post) : x = pre.length ∧ x < k ∧ pre = List.range x := by
  have hl := congrArg List.length h
  rw [List.length_range, List.length_append, List.length_cons] at hl
  have hx : (List.range k)[pre.length]? = some x := by rw [h, List.getElem?_append_right (Nat.le_refl _), Nat.sub_self]; rfl
  rw [List.getElem?_range (by omega)] at hx
  cases hx
  refine ⟨rfl, by omega, ?_⟩
  have := congrArg (List.take pre.length) h
  rw [List.take_left, List.take_range, Nat.min_eq_left (by omega)] at this
  exact this.symm
theorem Small.tot {pl : Plan} (hs : Small pl) : Sz 200 (tot pl) := by
  refine (Sz.sum (m := 8) (qs := DL.lens pl) fun q hq => ?_).mono ?_
  · obtain ⟨ph, h1, rfl⟩ := List.mem_map.mp hq
    exact hs.2 ph h1
  · unfold DL.lens
    rw [List.length_map]
    have := hs.1
    omega
theorem cut_drop {α : Type} (xs : List α) (j : Nat) (h : j ≤ xs.length) : cut xs (some (j : Int)) none = xs.drop j := by
  unfold cut
  have e1 : HT.sIx xs.length 0 (some (j : Int)) = j := by
    rw [HT.sIx_nat, Nat.min_eq_left h]
  have e2 : HT.sIx xs.length xs.length none = xs.length := rfl
  rw [e1, e2]
  refine List.take_of_length_le ?_
  rw [List.length_drop]
  omega
theorem AllPos.of {a b : Plan} (h : AllPos a) (hs : ∀ x ∈ b, x ∈ a) : AllPos b := fun x hx => h x (hs x hx)
end L2.DL

set_option Elab.async false
set_option linter.all false
set_option maxRecDepth 100000
set_option maxHeartbeats 4000000
/-! enumerate(list), zip(list, list) as what is walked with a pair of names. -/
namespace L2
open PySem PySem.Spec PyProof.Rows
section
variable {X : Cx} {pins : List (Addr × Obj)} {σ : St} {H : Hp} {s : Shared} {h' : Heap}
/-- untracked records of ours have turned -/
theorem Inv.turnedL {t' : Nat} {ch : List Addr} (I : Inv X pins σ H s) (k : ∀ b o, b ∉ ch → s.heap.get? b = some o → h'.get? b = some o) (hf : ∀ b ∈ ch, FpOk X pins H b) : Inv X pins σ H { s with heap := h', toks := t' } := by
  have nit : ∀ b u, H b = some u → b ∉ ch := fun b u e z => by rw [(hf b z).1] at e; cases e
  have hL : X.env.locals ∉ ch := fun z => (hf _ z).2.1 rfl
  refine I.step (g' := s.gens) (d' := s.drawn) (ch := ch) (fun b hb => ?_) (fun b o _ _ hc e _ => k b o hc e) (fun b o _ _ hc e _ => ⟨o.slots, k b o hc e⟩) (fun _ _ _ _ n => n)
    (fun b o hc e => ⟨o, k b o hc e⟩) (fun _ _ e => e) (fun _ _ _ e => e) (fun b ps e => ⟨#[], by rw [e]; simp⟩) (fun m hm => ?_) (fun b u e => ?_) I.bare
  · obtain ⟨_, h1, _, h2, h3, h4⟩ := hf b hb
    exact ⟨h2, h1, h3, h4⟩
  · obtain ⟨o, es, ep, ho, r⟩ := hm
    exact ⟨o, es, ep, k _ o hL ho, r⟩
  · refine (I.hok b u e).stay (fun c v hc q => k c v ?_ q) (fun _ q => q) fun _ _ q => q
    rcases hc with z | z
    · rw [z]; exact nit b u e
    · exact nit c _ z
end
/-- a pair handed out: e's own records turn, the pair is new -/
theorem Inv.pair {X : Cx} {pins : List (Addr × Obj)} {σ : St} {H : Hp} {s : Shared} {h2 : Heap} {t' : Nat} {ch : List Addr} {x y : V} {u v : Value} (I : Inv X pins σ H s) (hf : ∀ b ∈ ch, FpOk X pins H b) (ho : ∀ b ∈ ch, ∃ o, s.heap.get? b = some o)
    (rx : RelV x u) (ry : RelV y v) (ht : h2.get? s.heap.objs.size = some { cls := .type "tuple", data := .seq #[u, v] }) (hk : ∀ b o, b ∉ ch → s.heap.get? b = some o → h2.get? b = some o) :
    Inv X pins σ (upd H s.heap.objs.size (.tup [x, y])) { s with heap := h2, toks := t' } := by
  have hn : H s.heap.objs.size = none := I.hok.fresh (Nat.le_refl _)
  have I1 : Inv X pins σ (upd H s.heap.objs.size (.tup [x, y])) { s with heap := s.heap.push { cls := .type "tuple", data := .seq #[u, v] } } := by
    refine I.laid (t' := s.toks) (fun b o e => Heap.get?_push_of_some _ e) (Nat.le_refl _) ⟨by show 2 ≤ sizeLine; decide, [u, v], .cons rx (.cons ry .nil), ?_⟩
    exact ⟨_, Heap.get?_push_size s.heap rfl, rfl, 0, rfl⟩
  have hne : ∀ b ∈ ch, b ≠ s.heap.objs.size := fun b hb z => by
    obtain ⟨o, e⟩ := ho b hb
    have := Heap.lt_size e
    rw [z] at this
    exact Nat.lt_irrefl _ this
  refine Inv.turnedL (s := { s with heap := s.heap.push { cls := .type "tuple", data := .seq #[u, v] } }) (h' := h2) (t' := t') (ch := ch) I1 (fun b o hb e => ?_) (fun b hb => ?_)
  · have e' : (s.heap.push { cls := .type "tuple", data := .seq #[u, v] }).get? b = some o := e
    rcases Heap.get?_push_cases e' with ⟨q, rfl⟩ | g
    · rw [q]
      exact ht
    · exact hk b o hb g
  · obtain ⟨f0, f1⟩ := hf b hb
    exact ⟨by rw [upd_ne (hne b hb)]; exact f0, f1⟩
section
variable {X : Cx} {tg a b : Expr} {pos : Pos}
end

/-! ### zip -/
section
variable {X : Cx} {tg a b : Expr} {pos : Pos}
end
end L2
namespace L2.DL
open PySem PySem.Spec PyProof.Rows
section
variable {C : Addr} {X : Cx} {a b c e : Expr} {ta tb tc te : DT1} {t : DTA} {pos : Pos}
def enumD (l : List D) : List D := l.zipIdx.map fun p => .tup [.int (p.2 : Nat), p.1]
def dEnum (te : DT1) : DTA := fun env Q => te env fun d => match d with
  | .lst l => Q (enumD l)
  | _ => False
def zipD : List D → List D → List D
  | x :: l, y :: m => .tup [x, y] :: zipD l m
  | _, _ => []
def dZip (ta tb : DT1) : DTA := fun env Q => ta env fun d => tb env fun d' => match d, d' with
  | .lst l, .lst m => Q (zipD l m)
  | _, _ => False
end
end L2.DL

set_option Elab.async false
set_option linter.all false
set_option maxRecDepth 100000
set_option maxHeartbeats 4000000
/-! Waits. -/
namespace L2.DL
open PySem PySem.Spec PyProof.Rows
section
variable {C : Addr} {X : Cx} {a b c e : Expr} {ta tb tc te : DT1} {t : DTA} {pos : Pos}
/-- an item of a list of one's own -/
def dIxO (i : Nat) (tb : DT1) : DT1 := fun env Q => match env[i]? with
  | some (some (.ow _ ds)) => tb env fun k => match k with
    | .int k => match atI ds k with
      | some d => Q d
      | none => False
    | _ => False
  | _ => False
end
def mx (a b : Rat) : Rat := if a < b then b else a
theorem Sz.mx {n : Nat} {a b : Rat} (h1 : Sz n a) (h2 : Sz n b) : Sz n (mx a b) := by unfold DL.mx; split <;> assumption
theorem atI0 {α : Type} {x : α} {l : List α} : atI (x :: l) 0 = some x := atI_nat (j := 0) rfl
end L2.DL

set_option Elab.async false
set_option linter.all false
set_option maxRecDepth 100000
set_option maxHeartbeats 4000000
/-! sorted(set(pairs)), sorted(a list). -/
namespace GO
open PySem PySem.W PyProof.Rows GS
section
variable {prog : Program} {w : World} {A : Around} {E : Value → Shared → Prop} {s : Shared}
theorem list_sort_tiny {a : Addr} {vs : List Value} {n : Nat} {P : PySem.Fin → Shared → Prop} (ho : s.heap.get? a = some (seqObj "list" vs.toArray n)) (h2 : vs.length < 2)
    (h : ∀ h' c, h'.get? a = some (seqObj "list" vs.toArray c) → (∀ b o, b ≠ a → s.heap.get? b = some o → h'.get? b = some o) → P (.done (.ret .none)) { s with heap := h' }) :
    wpAny (model prog w) A (Builtin.«list.sort» ⟨[.ref a], []⟩) P E s := by
  have hlt := Heap.lt_size ho
  have hz : vs.length ≤ sizeLine := Nat.le_trans (Nat.le_of_lt h2) (by decide)
  rw [list_sort_plain]
  refine wpAny_bind (listItems_at ho rfl (wpAny_bind (listUpdate_at ho rfl ?_ (by rw [List.size_toArray]; exact hz) (Nat.zero_le _))))
  obtain ⟨c1, ho1⟩ : ∃ c1, (s.heap.update a (Obj.mapSeq fun _ => (#[] : Array Value))).get? a = some (seqObj "list" #[] c1) := ⟨_, get?_update_seq ho fun _ => #[]⟩
  refine wpAny_bind (seqEpoch_at ho1 rfl (wpAny_bind (wpAny_newTuple ?_ hz)))
  refine wpAny_bind (wpAny_newList ?_ (Nat.zero_le _))
  refine wpAny_holding ?_
  generalize hH : ((s.heap.update a (Obj.mapSeq fun _ => (#[] : Array Value))).push (seqObj "tuple" vs.toArray 0)).push (seqObj "list" #[] 0) = H3
  have k3 : ∀ b o, b ≠ a → s.heap.get? b = some o → H3.get? b = some o := fun b o hb e => by
    rw [← hH]
    exact Heap.get?_push_of_some _ (Heap.get?_push_of_some _ ((Heap.get?_update_other _ _ (Ne.symm hb)).trans e))
  have a3 : H3.get? a = some (seqObj "list" #[] c1) := by
    rw [← hH]
    exact Heap.get?_push_of_some _ (Heap.get?_push_of_some _ ho1)
  show wpAny (model prog w) A _ P E { s with heap := H3 }
  dsimp only
  have hn2 : vs.toArray.size < 2 := by rw [List.size_toArray]; exact h2
  rw [if_pos hn2, if_pos hn2]
  refine wpAny_bind (wpAny_pure ?_)
  refine wpAny_bind ?_
  show wpAny (model prog w) A (pure ((), SortSt.mk' general' (vs.toArray.zip vs.toArray) #[] 7 none)) _ E { s with heap := H3 }
  refine wpAny_pure ?_
  dsimp only
  have hout : (arrOf (SortSt.mk' general' (vs.toArray.zip vs.toArray) #[] 7 none)).map (·.2) = vs.toArray := by
    show (vs.toArray.zip vs.toArray).map (·.2) = vs.toArray
    apply Array.toList_inj.mp
    rw [Array.toList_map, Array.toList_zip]
    exact List.map_snd_zip (Nat.le_refl _)
  rw [hout]
  refine wpAny_bind (seqEpoch_at a3 rfl (wpAny_bind (listUpdate_at a3 rfl ?_ (Nat.zero_le _) (by rw [List.size_toArray]; omega))))
  show wpAny (model prog w) A _ P E { s with heap := H3.update a (Obj.mapSeq fun _ => vs.toArray) }
  simp only [bne_self_eq_false, Bool.false_eq_true, if_false]
  exact wpAny_pure (h _ _ (get?_update_seq a3 fun _ => _) fun b o hb e => (Heap.get?_update_other _ _ (Ne.symm hb)).trans (k3 b o hb e))
/-- a list of these values laid and sorted -/
theorem sort_laid {vs : List Value} {κ : SortKind} {R : Array Nat → Prop} {Q : Value → Shared → Prop} (hz : vs.length ≤ sizeLine)
    (hk : 2 ≤ vs.length → ∀ h', (∀ b o, s.heap.get? b = some o → h'.get? b = some o) → ∀ (Q : SortKind → Shared → Prop) (E : Value → Shared → Prop), Q κ { s with heap := h' } → wpAny (model prog w) A.in1 (keyKind' vs.toArray) Q E { s with heap := h' })
    (hrun : 2 ≤ vs.length → ∀ h', (∀ b o, s.heap.get? b = some o → h'.get? b = some o) → RunOk prog w A.in1 κ vs R { s with heap := h' })
    (h : ∀ vs' h' D c, (vs.length < 2 ∧ vs' = vs ∨ ∃ p : Array Nat, p.size = vs.length ∧ R p ∧ vs' = p.toList.map fun i => vs.getD i Value.none) → h'.get? D = some (seqObj "list" (List.toArray vs') c) → s.heap.get? D = none → (∀ b o, s.heap.get? b = some o → h'.get? b = some o) → Q (.ref D) { s with heap := h' }) :
    wpAny (model prog w) A (newList vs >>= fun l => holding [l] (call (.builtin "list.sort") [l] []) >>= fun _ => ret l) (fun fin s' => ∃ v, fin = .done (.ret v) ∧ Q v s') E s := by
  refine wpAny_bind (wpAny_newList ?_ hz)
  have hoL : (s.heap.push (seqObj "list" vs.toArray 0)).get? s.heap.objs.size = some (seqObj "list" vs.toArray 0) := Heap.get?_push_size _ rfl
  have keep : ∀ b o, b ≠ s.heap.objs.size → s.heap.get? b = some o → (s.heap.push (seqObj "list" vs.toArray 0)).get? b = some o := fun b o _ e => Heap.get?_push_of_some _ e
  have kk : ∀ h' : Heap, (∀ b o, b ≠ s.heap.objs.size → (s.heap.push (seqObj "list" vs.toArray 0)).get? b = some o → h'.get? b = some o) → ∀ b o, s.heap.get? b = some o → h'.get? b = some o := fun h' q b o e =>
    q b o (Nat.ne_of_lt (Heap.lt_size e)) (Heap.get?_push_of_some _ e)
  show wpAny _ _ _ _ _ { s with heap := s.heap.push (seqObj "list" vs.toArray 0) }
  refine wpAny_bind (wpAny_holding (wpAny_call_entry slot_list_sort ⟨_, hoL, rfl⟩ entry_list_sort ?body (args_list_sort _)))
  case body =>
    by_cases h2 : 2 ≤ vs.length
    · refine list_sort_of (s := { s with heap := s.heap.push (seqObj "list" vs.toArray 0) }) (κ := κ) (R := R) hoL h2 hz (fun h' q Q E hq => hk h2 h' (kk h' q) Q E hq) (fun h' q => hrun h2 h' (kk h' q)) fun p h' c hp hR hD q => ?_
      exact ⟨_, rfl, wpAny_pure ⟨_, rfl, h _ h' s.heap.objs.size c (.inr ⟨p, hp, hR, rfl⟩) hD (Heap.get?_none_of_le (Nat.le_refl _)) (kk h' q)⟩⟩
    · refine list_sort_tiny (s := { s with heap := s.heap.push (seqObj "list" vs.toArray 0) }) hoL (by omega) fun h' c hD q => ?_
      exact ⟨_, rfl, wpAny_pure ⟨_, rfl, h _ h' s.heap.objs.size c (.inl ⟨by omega, rfl⟩) hD (Heap.get?_none_of_le (Nat.le_refl _)) (kk h' q)⟩⟩
theorem pr_of_key {h : Heap} {a : Addr} {k : Int × Int} (x : IsTupleKey (intKind prog w) h [k.1, k.2] a) : IsPr h a k := by
  obtain ⟨o, items, n, e, c, d, it⟩ := x
  obtain ⟨l⟩ := items
  have it' : ItemsAre (intKind prog w) [k.1, k.2] l := it
  cases it' with
  | cons h1 t1 =>
    cases t1 with
    | cons h2 t2 =>
      cases t2
      obtain ⟨t, rfl⟩ := Value.isInt_shape h1
      obtain ⟨u, rfl⟩ := Value.isInt_shape h2
      exact ⟨o, n, t, u, e, c, d⟩
/-- the keys of a sorted list of entries -/
structure Sorted (ents es : List Ent) : Prop where
  perm : es.Perm ents
  up : (es.map (·.1)).Pairwise fun p q => plt p q = true
theorem sort_pairs {es : List Ent} {Q : Value → Shared → Prop} (hn : (es.map (·.1)).Nodup) (hl : es.length < 64) (hpr : ∀ e ∈ es, IsPr s.heap e.2 e.1)
    (h : ∀ es' h' D c, Sorted es es' → h'.get? D = some (seqObj "list" (List.toArray (es'.map fun e => Value.ref e.2)) c) → s.heap.get? D = none → (∀ b o, s.heap.get? b = some o → h'.get? b = some o) → Q (.ref D) { s with heap := h' }) :
    wpAny (model prog w) A (newList (es.map fun e => Value.ref e.2) >>= fun l => holding [l] (call (.builtin "list.sort") [l] []) >>= fun _ => ret l) (fun fin s' => ∃ v, fin = .done (.ret v) ∧ Q v s') E s := by
  have hlen : (es.map fun e => Value.ref e.2).length = es.length := List.length_map _
  have hlk : (es.map (·.1)).length = es.length := List.length_map _
  have pair : ∀ h' : Heap, (∀ b o, s.heap.get? b = some o → h'.get? b = some o) → Paired (fun (p : Int × Int) v => ∃ a, v = Value.ref a ∧ IsPr h' a p) (es.map (·.1)) (es.map fun e => Value.ref e.2) := by
    intro h' hk
    clear hn hl h hlen hlk
    induction es with
    | nil => exact .nil
    | cons e es ih => exact .cons ⟨e.2, rfl, (hpr e List.mem_cons_self).kept fun o q => hk _ o q⟩ (ih fun x hx => hpr x (List.mem_cons_of_mem _ hx))
  have getv : ∀ i, i < es.length → (es.map fun e => Value.ref e.2).getD i Value.none = .ref (es.getD i ((0, 0), 0)).2 := fun i hi => by
    rw [List.getD_eq_getElem?_getD, List.getElem?_map, List.getElem?_eq_getElem hi, List.getD_eq_getElem?_getD, List.getElem?_eq_getElem hi]
    rfl
  have getk : ∀ i, i < es.length → (es.map (·.1)).getD i (0, 0) = (es.getD i ((0, 0), 0)).1 := fun i hi => by
    rw [List.getD_eq_getElem?_getD, List.getElem?_map, List.getElem?_eq_getElem hi, List.getD_eq_getElem?_getD, List.getElem?_eq_getElem hi]
    rfl
  have memd : ∀ i, i < es.length → es.getD i ((0, 0), 0) ∈ es := fun i hi => by
    rw [List.getD_eq_getElem?_getD, List.getElem?_eq_getElem hi]
    exact List.getElem_mem hi
  have O := pair_ord hn
  rw [hlk] at O
  refine sort_laid (κ := tuples' true) (R := fun p => Pm es.length p ∧ Up (fun i j => plt ((es.map (·.1)).getD i (0, 0)) ((es.map (·.1)).getD j (0, 0))) p es.length) (by rw [hlen]; exact Nat.le_trans (Nat.le_of_lt hl) (by decide)) (fun h2 h' hk Q E hq => ?_) (fun h2 h' hk => ?_) fun vs' h' D c hv hD hle hk => ?_
  · refine pairs_kind (ps := es.map (·.1)) (fun z => ?_) (pair h' hk) hq
    rw [hlen, ← hlk, z] at h2
    simp at h2
  · have := run_small (prog := prog) (w := w) (A := A.in1) (s := { s with heap := h' }) (κ := tuples' true) (vs := es.map fun e => Value.ref e.2) (lt := fun i j => plt ((es.map (·.1)).getD i (0, 0)) ((es.map (·.1)).getD j (0, 0))) h2 (by rw [hlen]; exact hl) (by rw [hlen]; exact O) fun i j C hi hj hC => ?_
    · rw [hlen] at this
      exact this
    · rw [hlen] at hi hj
      unfold kas_ask
      rw [getv i hi, getv j hj]
      rw [getk i hi, getk j hj] at hC
      exact pair_lt ((hpr _ (memd i hi)).kept fun o q => hk _ o q) ((hpr _ (memd j hj)).kept fun o q => hk _ o q) hC
  · rcases hv with ⟨h2, rfl⟩ | ⟨p, hp, ⟨pm, up⟩, rfl⟩
    · refine h es h' D c ⟨.refl _, ?_⟩ hD hle hk
      rw [hlen] at h2
      match es, h2 with
      | [], _ => exact .nil
      | [e], _ => exact List.pairwise_singleton _ _
    · have hpl : p.toList.length = es.length := by rw [Array.length_toList]; exact pm.size
      have e1 : (p.toList.map fun i => (es.map fun e => Value.ref e.2).getD i Value.none) = (p.toList.map fun i => es.getD i ((0, 0), 0)).map fun e => Value.ref e.2 := by
        rw [List.map_map]
        refine List.map_congr_left fun i hi => ?_
        have : i < es.length := List.mem_range.mp (pm.perm.mem_iff.mp hi)
        exact getv i this
      rw [e1] at hD
      refine h _ h' D c ⟨?_, ?_⟩ hD hle hk
      · have e2 : es = (List.range es.length).map fun i => es.getD i ((0, 0), 0) := by
          apply List.ext_getElem?
          intro i
          rw [List.getElem?_map]
          by_cases hi : i < es.length
          · rw [List.getElem?_range hi, List.getElem?_eq_getElem hi]
            simp [hi]
          · rw [List.getElem?_eq_none (by omega), List.getElem?_eq_none (by rw [List.length_range]; omega)]
            rfl
        conv => rhs; rw [e2]
        exact pm.perm.map _
      · rw [List.map_map, List.pairwise_map, List.pairwise_iff_getElem]
        intro i j hi hj hij
        rw [hpl] at hi hj
        have q : plt ((es.map (·.1)).getD (p.getD i 0) (0, 0)) ((es.map (·.1)).getD (p.getD j 0) (0, 0)) = true := up i j hij hj
        have g1 : p.getD i 0 = p.toList[i]'(by omega) := by
          have : i < p.size := by rw [pm.size]; exact hi
          simp [Array.getD, this]
        have g2 : p.getD j 0 = p.toList[j]'(by omega) := by
          have : j < p.size := by rw [pm.size]; exact hj
          simp [Array.getD, this]
        rw [g1, g2, getk _ (by rw [← g1]; exact pm.bd hi), getk _ (by rw [← g2]; exact pm.bd hj)] at q
        exact q
theorem perm_map_inv {α β : Type} {f : α → β} {a b : List β} (h : a.Perm b) : ∀ m : List α, b = m.map f → ∃ m' : List α, m'.Perm m ∧ a = m'.map f := by
  induction h with
  | nil => intro m e; exact ⟨m, .refl _, e⟩
  | cons x _ ih =>
    intro m e
    cases m with
    | nil => cases e
    | cons y m =>
      rw [List.map_cons] at e
      injection e with e1 e2
      obtain ⟨m', q1, q2⟩ := ih m e2
      exact ⟨y :: m', q1.cons y, by rw [List.map_cons, e1, q2]⟩
  | swap x y l =>
    intro m e
    match m, e with
    | u :: v :: m, e =>
      rw [List.map_cons, List.map_cons] at e
      injection e with e1 e2
      injection e2 with e2 e3
      exact ⟨v :: u :: m, List.Perm.swap u v m, by rw [List.map_cons, List.map_cons, e1, e2, e3]⟩
  | trans _ _ ih1 ih2 =>
    intro m e
    obtain ⟨m1, q1, q2⟩ := ih2 m e
    obtain ⟨m2, q3, q4⟩ := ih1 m1 q2
    exact ⟨m2, q3.trans q1, q4⟩
theorem sorted_set {S : Addr} {t : SetTable} {ents : List Ent} {Q : Value → Shared → Prop} (hh : A.handled = none) (x : SetAt prog w s.heap S t ents)
    (h : ∀ es h' D c tk, Sorted ents es → h'.get? D = some (seqObj "list" (List.toArray (es.map fun e => Value.ref e.2)) c) → s.heap.get? D = none → (∀ b o, s.heap.get? b = some o → h'.get? b = some o) → Q (.ref D) { s with heap := h', toks := tk }) :
    wpAny (model prog w) A (call (.builtin "sorted") [.ref S]) Q E s := by
  obtain ⟨es, ep, ho, hes⟩ := x.obj
  have hsm := x.tab.small
  have hsz : es.size = ents.length := by rw [← Array.length_toList, hes, List.length_map]
  refine Calls.call_function_entry kind_sorted plain_sorted entry_sorted (args_sorted1 _) ?_
  unfold Builtin.«sorted»
  refine wpAny_bind (m := checkCount "sorted" 1 1 _) (wpAny_pure ?_)
  refine wpAny_bind (collect_set (A := A.in1) (by simpa using hh) ho hes x.tab x.le x.plain x.led (by rw [hsz]; exact Nat.le_trans hsm (by decide)) fun h1 tk hk => ?_)
  -- the members in the order in which they came
  obtain ⟨en, hp, he⟩ : ∃ en : List Ent, en.Perm ents ∧ (ordOf w S ep es).toList.map (·.2) = en.map fun e => Value.ref e.2 := by
    have h1 := ord_perm w S ep es
    rw [hes] at h1
    obtain ⟨en, q1, q2⟩ := perm_map_inv h1 ents rfl
    exact ⟨en, q1, by rw [q2, List.map_map]; rfl⟩
  rw [he]
  have hnd : (en.map (·.1)).Nodup := (hp.map (·.1)).nodup_iff.mpr x.tab.nd
  have hlen : en.length < 64 := by rw [hp.length_eq]; omega
  refine sort_pairs (s := { s with heap := h1, toks := tk }) hnd hlen (fun e he' => (pr_of_key (x.keys e (hp.mem_iff.mp he'))).kept fun o q => hk _ o q) fun es' h' D c hs hD hle hk' => ?_
  have hle' : s.heap.get? D = none := by
    cases g : s.heap.get? D with
    | none => rfl
    | some o => exact absurd (hk D o g) (by rw [show h1.get? D = none from hle]; exact fun z => by cases z)
  exact h es' h' D c tk ⟨hs.perm.trans hp, hs.up⟩ hD hle' fun b o q => hk' b o (hk b o q)
end
end GO

set_option Elab.async false
set_option linter.all false
set_option maxRecDepth 100000
set_option maxHeartbeats 4000000
/-! sorted(set(..)) over data. -/
namespace L2
open PySem PySem.Spec PyProof.Rows
theorem ObjOk.there {P : Program} {w : World} {H : Hp} {h : Heap} {a : Addr} {o : HO} (x : ObjOk P w H h a o) : ∃ u, h.get? a = some u := by
  cases o with
  | lst xs => obtain ⟨_, _, _, _, e⟩ := x; exact ⟨_, e⟩
  | tup xs => obtain ⟨_, _, _, o, e, _⟩ := x; exact ⟨_, e⟩
  | dK kvs => obtain ⟨_, _, _, _, o, _, _, e, _⟩ := x; exact ⟨_, e⟩
  | dT kvs => obtain ⟨_, _, _, _, o, _, _, e, _⟩ := x; exact ⟨_, e⟩
  | set S n => obtain ⟨o, _, _, _, e, _⟩ := x; exact ⟨_, e⟩
  | ins C dx fs => obtain ⟨_, _, _, e, _⟩ := x; exact ⟨_, e⟩
  | own y => exact x
  | xd fs => obtain ⟨_, ⟨_, _, _, e, _⟩, _⟩ := x; exact ⟨_, e⟩
  | rng lo hi => obtain ⟨_, _, _, e⟩ := x; exact ⟨_, e⟩
  | frz ob u => exact ⟨_, x.1⟩
  | tbl ps => exact ⟨_, (show h.get? a = some _ from x)⟩
  | met f y => exact ⟨_, (show h.get? a = some _ from x)⟩
  | ext φ => exact x.2.1
theorem Inv.unheld {X : Cx} {pins : List (Addr × Obj)} {σ : St} {H : Hp} {s : Shared} {a : Addr} (I : Inv X pins σ H s) (h : s.heap.get? a = none) : H a = none := by
  cases q : H a with
  | none => rfl
  | some u =>
    obtain ⟨o, e⟩ := (I.hok a u q).there
    rw [h] at e
    cases e
/-- a new object laid and tracked, new because nothing stood there -/
theorem Inv.laidN {X : Cx} {pins : List (Addr × Obj)} {σ : St} {H : Hp} {s : Shared} {h' : Heap} {a : Addr} {o : HO} {t' : Nat} (I : Inv X pins σ H s) (k : ∀ b u, s.heap.get? b = some u → h'.get? b = some u) (hp : s.heap.get? a = none) (new : ObjOk X.prog X.w (upd H a o) h' a o) :
    Inv X pins σ (upd H a o) { s with heap := h', toks := t' } := by
  have hn := I.unheld hp
  have ne : ∀ {b u}, s.heap.get? b = some u → b ≠ a := fun {b u} q z => by rw [z, hp] at q; cases q
  refine I.un ⟨fun b u q _ _ _ => k b u q, fun b u q _ _ _ => ⟨u.slots, k b u q⟩, fun b u q n _ => by rw [upd_ne (ne q)]; exact n, fun b u q _ => ⟨u, k b u q⟩, fun b xs q => by rw [upd_ne (ne_of_none q hn)]; exact q, fun b u xs q => by rw [upd_ne (ne_of_none q hn)]; exact q,
    fun b ps q => ⟨#[], by rw [upd_ne (ne_of_none q hn), q]; simp⟩⟩ fun b u e => ?_
  by_cases hb : b = a
  · subst hb; rw [upd_same] at e; cases e; exact new
  · rw [upd_ne hb] at e
    exact (I.hok b u e).stay (fun c v _ q => k c v q) (fun c q => by rw [upd_ne (ne_of_none q hn)]; exact q) fun c xs q => by rw [upd_ne (ne_of_none q hn)]; exact q
open GS GO
theorem sorted_ext {α : Type} {r : α → α → Prop} (asym : ∀ a b, r a b → ¬ r b a) : ∀ {l m : List α}, l.Pairwise r → m.Pairwise r → (∀ x, x ∈ l ↔ x ∈ m) → l = m
  | [], [], _, _, _ => rfl
  | [], b :: m, _, _, h => absurd ((h b).mpr List.mem_cons_self) (by simp)
  | a :: l, [], _, _, h => absurd ((h a).mp List.mem_cons_self) (by simp)
  | a :: l, b :: m, hl, hm, h => by
    obtain ⟨l1, l2⟩ := List.pairwise_cons.mp hl
    obtain ⟨m1, m2⟩ := List.pairwise_cons.mp hm
    have e : a = b := by
      rcases List.mem_cons.mp ((h a).mp List.mem_cons_self) with e | e
      · exact e
      · rcases List.mem_cons.mp ((h b).mpr List.mem_cons_self) with e' | e'
        · exact e'.symm
        · exact absurd (m1 a e) (asym _ _ (l1 b e'))
    subst e
    have irr : ¬ r a a := fun z => asym _ _ z z
    rw [sorted_ext asym l2 m2 fun x => ⟨fun hx => (List.mem_cons.mp ((h x).mp (List.mem_cons_of_mem _ hx))).elim (fun e => absurd (l1 x hx) (by rw [e]; exact irr)) id,
      fun hx => (List.mem_cons.mp ((h x).mpr (List.mem_cons_of_mem _ hx))).elim (fun e => absurd (m1 x hx) (by rw [e]; exact irr)) id⟩]
/-- the pairs, each once, rising -/
def sd (ps : List (Int × Int)) : List (Int × Int) := pairs15.filter fun p => decide (p ∈ ps)
theorem pairs15_up : pairs15.Pairwise fun p q => plt p q = true := by decide +kernel
theorem sd_up (ps : List (Int × Int)) : (sd ps).Pairwise fun p q => plt p q = true := pairs15_up.filter _
theorem sd_mem {ps : List (Int × Int)} (h : ∀ p ∈ ps, p ∈ pairs15) (p : Int × Int) : p ∈ sd ps ↔ p ∈ ps := by
  unfold sd
  rw [List.mem_filter, decide_eq_true_eq]
  exact ⟨fun z => z.2, fun z => ⟨h p z, z⟩⟩
theorem sd_eq {ps l : List (Int × Int)} (h : ∀ p ∈ ps, p ∈ pairs15) (up : l.Pairwise fun p q => plt p q = true) (hm : ∀ p, p ∈ l ↔ p ∈ ps) : l = sd ps :=
  sorted_ext (fun a b h1 h2 => by rw [plt_asym h1] at h2; cases h2) up (sd_up ps) fun x => (hm x).trans (sd_mem h x).symm
def tSortSet (K : PySem.W.Frag) (ta : TA) : TE := fun σ H Q => ta σ H fun vs H1 => ∃ l ps us, vs = [.ref l] ∧ SqL K H1 l us ∧ Paired (DL.prV K H1) ps us ∧ (∀ p ∈ ps, p ∈ pairs15) ∧
  ∀ us', Paired (fun k v => ∃ i : Nat, ps[i]? = some k ∧ us[i]? = some v) (sd ps) us' → ∀ q, H1 q = none → Q (.ref q) (upd H1 q (.lst us'))
def adOf (us : List V) (i : Nat) : Addr := match us[i]? with
  | some (.ref a) => a
  | _ => 0
theorem pe_sortset {X : Cx} {e : Expr} {p p' pos pos' : Pos} {ta : TA} (hgS : Gl X "sorted") (hmS : X.mg "sorted" = none) (hg : Gl X "set") (hm : X.mg "set" = none) (hc : X.calm = true) (hu : X.A.units + 64 < cLine) (ha : PA X [e] ta)
    (hs : starEach [e] X.env = [(false, eval e X.env)] := by rfl) (hs2 : starEach [.Call (.Name "set" p') [e] [] pos'] X.env = [(false, eval (.Call (.Name "set" p') [e] [] pos') X.env)] := by rfl) :
    PE X (.Call (.Name "sorted" p) [.Call (.Name "set" p') [e] [] pos'] [] pos) (tSortSet X.K ta) := by
  intro pins s σ H Q I h
  refine wpAny_Call_Name_kw (ld_blt I hgS hmS boot_sorted ?_)
  refine PyProof.Rows.callWith_builtin1 ?_ hs2 rfl
  rw [hs2]
  refine Calls.spliced_cons (Call_ (ld_blt I hg hm boot_set (PyProof.Rows.callWith_type1 (thn (ha pos' pins s σ H _ I h) fun us0 s1 ⟨vs, H1, I1, r1, q1⟩ => ?_) hs rfl)))
  obtain ⟨l, ps, us, rfl, hq, pr, h15, q⟩ := q1
  obtain ⟨u, rfl, ru⟩ := vals1 r1
  cases ru
  obtain ⟨its, rv, pl, hz⟩ := I1.list hq
  have hl1 := DL.paired_len pr
  have hl2 := rv.length
  have hd : X.A.handled = none := I1.ok.hd hc
  have at_ : ∀ i, i < its.length → ∃ k, ps[i]? = some k ∧ us[i]? = some (.ref (adOf us i)) ∧ its[i]? = some (.ref (adOf us i)) ∧ SqT X.K H1 (adOf us i) [.int k.1, .int k.2] := fun i hi => by
    have hp : ps[i]? = some (ps[i]'(by omega)) := List.getElem?_eq_getElem _
    obtain ⟨v, e1, a, rfl, sq⟩ := DL.paired_get pr hp
    obtain ⟨u, e2, ru⟩ := rv.get e1
    have ea : adOf us i = a := by unfold adOf; rw [e1]
    rw [ea]
    cases ru
    exact ⟨_, hp, e1, e2, sq⟩
  refine call_set (val := fun i => ps.getD i (0, 0)) (ad := adOf us) hd (by omega) pl.isList (fun i v hv => ?_) (fun i hi => ?_) (fun i hi => ?_) fun h' tk up keep => ?_
  · have hv' : its[i]? = some v := by simpa using hv
    obtain ⟨k, _, _, e3, _⟩ := at_ i (List.getElem?_eq_some_iff.mp hv').1
    rw [hv'] at e3
    exact Option.some.inj e3
  · rw [List.size_toArray] at hi
    obtain ⟨k, e1, _⟩ := at_ i hi
    rw [List.getD_eq_getElem?_getD, e1]
    exact h15 k (List.mem_of_getElem? e1)
  · rw [List.size_toArray] at hi
    obtain ⟨k, e1, _, _, sq⟩ := at_ i hi
    obtain ⟨jts, rj, ⟨o, eo, c, n, d⟩, _⟩ := I1.tuple sq
    rw [List.getD_eq_getElem?_getD, e1]
    refine ⟨o, jts.toArray, n, eo, c, d, ?_⟩
    show ItemsAre _ [k.1, k.2] jts
    obtain ⟨u1, u2, rfl, ⟨t1, rfl⟩, ⟨t2, rfl⟩⟩ := vals2 rj
    exact .cons (by simp [intKind, Value.isInt]) (.cons (by simp [intKind, Value.isInt]) .nil)
  · have I2 : Inv X pins σ H1 { s1 with heap := h', toks := tk } := I1.kept keep
    obtain ⟨t, ents, x, b, c⟩ := up.ex
    refine Calls.spliced_nil (sorted_set (s := { s1 with heap := h', toks := tk }) hd x fun es h2 D cc tk2 hs hD hnew keep2 => ?_)
    have hn : its.toArray.size = its.length := by simp
    have keys : ∀ e ∈ es, ∃ i : Nat, ps[i]? = some e.1 ∧ us[i]? = some (V.ref e.2) := fun e he => by
      obtain ⟨j, hj, v1, v2⟩ := c e (hs.perm.mem_iff.mp he)
      rw [hn] at hj
      obtain ⟨k, e1, e2, _, _⟩ := at_ j hj
      have v1' : ps.getD j (0, 0) = e.1 := v1
      rw [List.getD_eq_getElem?_getD, e1] at v1'
      rw [← v2, ← v1']
      exact ⟨j, e1, e2⟩
    have hsd : es.map (·.1) = sd ps := by
      refine sd_eq h15 hs.up fun k => ?_
      rw [(hs.perm.map (·.1)).mem_iff, b k, hn]
      constructor
      · rintro ⟨j, hj, rfl⟩
        obtain ⟨k, e1, _⟩ := at_ j hj
        show ps.getD j (0, 0) ∈ ps
        rw [List.getD_eq_getElem?_getD, e1]
        exact List.mem_of_getElem? e1
      · intro hk
        obtain ⟨j, hj, rfl⟩ := List.getElem_of_mem hk
        exact ⟨j, by omega, by show ps.getD j (0, 0) = _; rw [List.getD_eq_getElem?_getD, List.getElem?_eq_getElem hj]; rfl⟩
    have hlen : (es.map fun e => V.ref e.2).length ≤ sizeLine := by
      rw [List.length_map, ← List.length_map (f := (·.1)), hsd]
      exact Nat.le_trans (List.length_filter_le _ _) (by decide)
    have I3 : Inv X pins σ (upd H1 D (.lst (es.map fun e => V.ref e.2))) { s1 with heap := h2, toks := tk2 } := by
      refine Inv.laidN (s := { s1 with heap := h', toks := tk }) I2 keep2 hnew ⟨hlen, es.map fun e => Value.ref e.2, cc, ?_, hD⟩
      clear hs hD hsd keys hlen
      induction es with
      | nil => exact .nil
      | cons e es ih => exact .cons rfl ih
    refine ⟨V.ref D, _, I3, rfl, q _ ?_ D (I2.unheld hnew)⟩
    rw [← hsd]
    clear hs hD hsd hlen I3
    induction es with
    | nil => exact .nil
    | cons e es ih => exact .cons (keys e List.mem_cons_self) (ih fun x hx => keys x (List.mem_cons_of_mem _ hx))
end L2
namespace L2.DL
open PySem PySem.Spec PyProof.Rows GS
def dPr (p : Int × Int) : D := .tup [.int p.1, .int p.2]
section
variable {K : PySem.W.Frag} {C : Addr} {H : Hp}
theorem rep_pr {p : Int × Int} {v : V} : Rep K C H (dPr p) v ↔ prV K H p v := by
  unfold dPr Rep prV
  constructor
  · rintro ⟨a, xs, rfl, h1, h2⟩
    rw [repA_ints (ns := [p.1, p.2]) h2] at h1
    exact ⟨a, rfl, h1⟩
  · rintro ⟨a, rfl, h1⟩
    exact ⟨a, _, rfl, h1, ints_repA (ns := [p.1, p.2])⟩
theorem repA_prs {ps : List (Int × Int)} {vs : List V} : RepA K C H (ps.map dPr) vs ↔ Paired (prV K H) ps vs := by
  induction ps generalizing vs with
  | nil => exact ⟨fun h => by unfold RepA at h; subst h; exact .nil, fun h => by cases h; exact repA_nil⟩
  | cons p ps ih =>
    rw [List.map_cons]
    constructor
    · intro h
      unfold RepA at h
      obtain ⟨x, r, rfl, h1, h2⟩ := h
      exact .cons (rep_pr.mp h1) (ih.mp h2)
    · intro h
      cases h with
      | cons h1 h2 => exact repA_cons (rep_pr.mpr h1) (ih.mpr h2)
end
section
variable {C : Addr} {X : Cx} {e : Expr} {te : DT1} {pos : Pos}
/-- sorted(set(e)) of a list of pairs -/
def dSortSet (te : DT1) : DTA := fun env Q => te env fun d => match d with
  | .lst l => ∃ ps : List (Int × Int), l = ps.map dPr ∧ (∀ p ∈ ps, p ∈ pairs15) ∧ Q ((sd ps).map dPr)
  | _ => False
theorem df_sortset {p p' pos' : Pos} (hgS : Gl X "sorted") (hmS : X.mg "sorted" = none) (hg : Gl X "set") (hm : X.mg "set" = none) (hc : X.calm = true) (hu : X.A.units + 64 < cLine) (he : DE C X e te)
    (hs : starEach [e] X.env = [(false, eval e X.env)] := by rfl) (hs2 : starEach [.Call (.Name "set" p') [e] [] pos'] X.env = [(false, eval (.Call (.Name "set" p') [e] [] pos') X.env)] := by rfl) (hs3 : starEach [e] X.env = (false, eval e X.env) :: starEach [] X.env := by rfl) :
    DF C X (.Call (.Name "sorted" p) [.Call (.Name "set" p') [e] [] pos'] [] pos) (dSortSet te) := peW (pe_sortset hgS hmS hg hm hc hu (da_cons he da_nil hs3) hs hs2) fun σ H Q ⟨S, env, P, h1, h2, h3⟩ => ⟨S, env, oneIs _, h1, h2, fun l hl vs H' e' rv => by
    obtain ⟨d, rfl, hd⟩ := oneIs_inv hl
    obtain ⟨v, rfl, r⟩ := repA_one rv
    cases d with
    | lst l =>
      obtain ⟨ps, rfl, h15, hq⟩ := hd
      unfold Rep at r
      obtain ⟨a, us, rfl, r1, r2⟩ := r
      have pr := repA_prs.mp r2
      refine ⟨a, ps, us, rfl, SqL.of (less_same _ _ r1), Paired.mapP pr fun _ _ z => z.mono less_same, h15, fun us' pr' q hn => ?_⟩
      refine (h3.mono e').new hq (repA_prs.mpr (Paired.mapP pr' fun k v ⟨i, g1, g2⟩ => ?_)) hn
      obtain ⟨v', g3, g4⟩ := paired_get pr g1
      rw [g2] at g3
      cases g3
      exact g4
    | _ => exact hd.elim⟩
end
end L2.DL

set_option Elab.async false
set_option linter.all false
set_option maxRecDepth 100000
set_option maxHeartbeats 4000000
/-! The class Crossing over data: its fields, methods, making. -/
namespace L2.DL
open PySem PySem.Spec PyProof.Rows GS
structure CrK (K : PySem.W.Frag) (C : Addr) : Prop where
  cl : Cls K C
  ns : NoAttr K C "streams"
  np : NoAttr K C "pairs"
/-- a method under its name -/
def DnM (P : Program) (w : World) (K : PySem.W.Frag) (mg : Str → Option Value) (base : Heap) (C : Addr) (m : Str) (ps : List Str) (k : Nat) (sp : Sp) : Prop :=
  ∃ f fd, FnOk P w K mg base CX0 k f fd ps sp ∧ Meth K C m f ∧ Binds K fd ps []
section
variable {C : Addr} {X : Cx} {a b c e o : Expr} {es : List Expr} {ta tb tc te : DT1} {t : DTA} {pos apos : Pos}
def rdStreams : D → (D → Prop) → Prop := fun d Q => match d with
  | .crs n _ => Q (.int n)
  | _ => False
def rdPairs : D → (D → Prop) → Prop := fun d Q => match d with
  | .crs _ ps => Q (.lst (ps.map dPr))
  | _ => False
theorem de_fld_streams (q : CrK X.K C) (he : DE C X e ta) (hb : attributeBase e "streams" X.env (eval e X.env) = eval e X.env := by rfl) : DE C X (.Attribute e "streams" pos) (d1 rdStreams ta) := peW (pe_fld he hb) fun σ H Q ⟨S, env, P, h1, h2, h3⟩ => ⟨S, env, _, h1, h2, fun d hd v H' e rv => by
  cases d with
  | crs n ps =>
    unfold Rep at rv
    obtain ⟨x, dx, p, xs, rfl, r1, r2, r3⟩ := rv
    exact ⟨x, C, dx, _, _, rfl, less_same _ _ r1, q.cl, q.ns, rfl, (h3.mono e).flat hd rep_int⟩
  | _ => exact hd.elim⟩
theorem de_fld_pairs (q : CrK X.K C) (he : DE C X e ta) (hb : attributeBase e "pairs" X.env (eval e X.env) = eval e X.env := by rfl) : DE C X (.Attribute e "pairs" pos) (d1 rdPairs ta) := peW (pe_fld he hb) fun σ H Q ⟨S, env, P, h1, h2, h3⟩ => ⟨S, env, _, h1, h2, fun d hd v H' e rv => by
  cases d with
  | crs n ps =>
    unfold Rep at rv
    obtain ⟨x, dx, p, xs, rfl, r1, r2, r3⟩ := rv
    refine ⟨x, C, dx, _, _, rfl, less_same _ _ r1, q.cl, q.np, rfl, (h3.mono e).flat hd ?_⟩
    unfold Rep
    exact ⟨p, xs, rfl, r2, repA_prs.mpr r3⟩
  | _ => exact hd.elim⟩
/-- o.m(..) of a crossing -/
def dMeth (T : List D → (D → Prop) → Prop) (ta : DT1) (t : DTA) : DT1 := fun env Q => ta env fun x => match x with
  | .crs n ps => t env fun xs => T (.crs n ps :: xs) Q
  | _ => False
def dMethF (T : List D → (List D → Prop) → Prop) (ta : DT1) (t : DTA) : DTA := fun env Q => ta env fun x => match x with
  | .crs n ps => t env fun xs => T (.crs n ps :: xs) Q
  | _ => False
theorem tmeth_of {T : List D → (D → Prop) → Prop} {m : Str} (hm : ([("streams", V.int 0), ("pairs", V.int 0)] : List (Str × V)).lookup m = none) : ∀ σ H Q, rE X.K C (dMeth T ta t) σ H Q → tMeth C m (spD X.K C T) [] E0 (rE X.K C ta) (rA X.K C t) σ H Q := fun σ H Q ⟨S, env, P, h1, h2, h3⟩ =>
  ⟨S, env, _, h1, h2, fun d hd v H' e rv => by
    cases d with
    | crs n ps =>
      have rv0 := rv
      unfold Rep at rv
      obtain ⟨x, dx, p, xs, rfl, r1, r2, r3⟩ := rv
      refine ⟨x, dx, _, rfl, less_same _ _ r1, ?_, S, env, _, h1.mono e, hd, fun ds hds vs H'' e' rvs => ⟨S, .crs n ps :: ds, P, h1.dom.mono (e.trans e'), ?_, hds, h3.mono (e.trans e')⟩⟩
      · revert hm
        simp only [List.lookup]
        split <;> (try split) <;> simp
      · rw [List.append_nil]
        exact repA_cons (Rep.mono (same_less e') _ _ rv0) rvs
    | _ => exact hd.elim⟩
theorem tmethF_of {T : List D → (List D → Prop) → Prop} {m : Str} (hm : ([("streams", V.int 0), ("pairs", V.int 0)] : List (Str × V)).lookup m = none) : ∀ σ H Q, rF X.K C (dMethF T ta t) σ H Q → tMeth C m (spF X.K C T) [] E0 (rE X.K C ta) (rA X.K C t) σ H Q := fun σ H Q ⟨S, env, P, h1, h2, h3⟩ =>
  ⟨S, env, _, h1, h2, fun d hd v H' e rv => by
    cases d with
    | crs n ps =>
      have rv0 := rv
      unfold Rep at rv
      obtain ⟨x, dx, p, xs, rfl, r1, r2, r3⟩ := rv
      refine ⟨x, dx, _, rfl, less_same _ _ r1, ?_, S, env, _, h1.mono e, hd, fun ds hds vs H'' e' rvs => ⟨S, .crs n ps :: ds, P, h1.dom.mono (e.trans e'), ?_, hds, h3.mono (e.trans e')⟩⟩
      · revert hm
        simp only [List.lookup]
        split <;> (try split) <;> simp
      · rw [List.append_nil]
        exact repA_cons (Rep.mono (same_less e') _ _ rv0) rvs
    | _ => exact hd.elim⟩
theorem tnil_of : ∀ σ H Q, rA X.K C dNil σ H Q → tNil σ H Q := fun σ H Q ⟨S, env, P, h1, h2, h3⟩ => h3 [] h2 [] H (Same.refl _) repA_nil
theorem peM {T : List D → (D → Prop) → Prop} {m : Str} {ta : DT1} (h : PE X e (tMeth C m (spD X.K C T) [] E0 (rE X.K C ta) tNil)) (hm : ([("streams", V.int 0), ("pairs", V.int 0)] : List (Str × V)).lookup m = none) : DE C X e (dMeth T ta dNil) := peW h fun σ H Q z => by
  obtain ⟨S, env, P, h1, h2, h3⟩ := tmeth_of hm σ H Q z
  refine ⟨S, env, P, h1, h2, fun d hd v H' e rv => ?_⟩
  obtain ⟨x, dx, fs, e1, e2, e3, k⟩ := h3 d hd v H' e rv
  exact ⟨x, dx, fs, e1, e2, e3, tnil_of _ _ _ k⟩
theorem peMF {T : List D → (List D → Prop) → Prop} {m : Str} {ta : DT1} (h : PE X e (tMeth C m (spF X.K C T) [] E0 (rE X.K C ta) tNil)) (hm : ([("streams", V.int 0), ("pairs", V.int 0)] : List (Str × V)).lookup m = none) : DF C X e (dMethF T ta dNil) := peW h fun σ H Q z => by
  obtain ⟨S, env, P, h1, h2, h3⟩ := tmethF_of hm σ H Q z
  refine ⟨S, env, P, h1, h2, fun d hd v H' e rv => ?_⟩
  obtain ⟨x, dx, fs, e1, e2, e3, k⟩ := h3 d hd v H' e rv
  exact ⟨x, dx, fs, e1, e2, e3, tnil_of _ _ _ k⟩
theorem de_mt0 {T : List D → (D → Prop) → Prop} {m : Str} {ps : List Str} {k k' : Nat} {pl : Sem Bool} (q : CrK X.K C) (Df : DnM X.prog X.w X.K X.mg X.base C m ps k (spD X.K C T)) (hr : Room k' X.A) (ho : DE C X o ta) (hk : k ≤ k' := by decide)
    (hm : ([("streams", V.int 0), ("pairs", V.int 0)] : List (Str × V)).lookup m = none := by rfl)
    (ht : eval (.Call (.Attribute o m apos) [] [] pos) X.env = (do
      let ov ← eval o X.env
      standAt apos.atName
      let (f, first) ← holding [ov] (getMethod ov m pl)
      callWith pos f first (backTo pos (starEach [] X.env)) (backToKw pos (keywordEach [] X.env))) := by rfl) :
    DE C X (.Call (.Attribute o m apos) [] [] pos) (dMeth T ta dNil) := by
  obtain ⟨f, fd, F, M, hb⟩ := Df
  exact peM (pe_meth0 (pl := pl) ho q.cl M (F.mono hk) hr hb .nil pass0 ht) hm
theorem df_mt0 {T : List D → (List D → Prop) → Prop} {m : Str} {ps : List Str} {k k' : Nat} {pl : Sem Bool} (q : CrK X.K C) (Df : DnM X.prog X.w X.K X.mg X.base C m ps k (spF X.K C T)) (hr : Room k' X.A) (ho : DE C X o ta) (hk : k ≤ k' := by decide)
    (hm : ([("streams", V.int 0), ("pairs", V.int 0)] : List (Str × V)).lookup m = none := by rfl)
    (ht : eval (.Call (.Attribute o m apos) [] [] pos) X.env = (do
      let ov ← eval o X.env
      standAt apos.atName
      let (f, first) ← holding [ov] (getMethod ov m pl)
      callWith pos f first (backTo pos (starEach [] X.env)) (backToKw pos (keywordEach [] X.env))) := by rfl) :
    DF C X (.Call (.Attribute o m apos) [] [] pos) (dMethF T ta dNil) := by
  obtain ⟨f, fd, F, M, hb⟩ := Df
  exact peMF (pe_meth0 (pl := pl) ho q.cl M (F.mono hk) hr hb .nil pass0 ht) hm

/-! ### making a crossing -/
/-- __init__: the new instance stands without attributes; the arguments' data do not lean on it -/
def spI (K : PySem.W.Frag) (C : Addr) (T : List D → (D → Prop) → Prop) : Sp := fun vs H Q _ => ∃ x dx us H1 S ds P, vs = .ref x :: us ∧ H1 x = none ∧ H1 dx = none ∧ dx ≠ x ∧ H = upd (upd H1 dx (.own x)) x (.ins C dx []) ∧ Dom H1 S ∧ RepA K C (less H1 S) ds us ∧ T ds P ∧
  ∀ n ps, P (.crs n ps) → ∀ q xs H2, H2 x = some (.ins C dx [("streams", .int n), ("pairs", .ref q)]) → H2 q = some (.lst xs) → Paired (prV K (less H2 S)) ps xs → H1 q = none → Same H1 H2 → Q .non H2
def DnI (P : Program) (w : World) (K : PySem.W.Frag) (mg : Str → Option Value) (base : Heap) (C : Addr) (x : Str) (ps : List Str) (k : Nat) (sp : Sp) : Prop :=
  ∃ f fd, FnOk P w K mg base CX0 k f fd ps sp ∧ mg x = some (.ref C) ∧ Mk K C f ∧ Binds K fd ps []
theorem tmake_of {T : List D → (D → Prop) → Prop} : ∀ σ H Q, rE X.K C (dCall T t) σ H Q → tMake C (spI X.K C T) [] E0 (rA X.K C t) σ H Q := fun σ H Q ⟨S, env, P, h1, h2, h3⟩ =>
  ⟨S, env, _, h1, h2, fun ds hd vs H' e rv x dx hx hdx hne => by
    refine ⟨x, dx, vs, H', S, ds, P, by rw [List.append_nil], hx, hdx, hne, rfl, h1.dom.mono e, rv, hd, fun n ps hP q xs H2 e1 e2 pr hq sm => ⟨rfl, ?_⟩⟩
    refine h3 (.crs n ps) hP _ H2 (e.trans sm) ?_
    unfold Rep
    exact ⟨x, dx, q, xs, rfl, less_iff.mpr ⟨fun z => (h1.dom.mono e) x z hx, e1⟩, less_iff.mpr ⟨fun z => (h1.dom.mono e) q z hq, e2⟩, pr⟩⟩
theorem de_make {T : List D → (D → Prop) → Prop} {x : Str} {ps : List Str} {k k' : Nat} {p : Pos} (q : CrK X.K C) (Df : DnI X.prog X.w X.K X.mg X.base C x ps k (spI X.K C T)) (hr : Room (k' + 1) X.A) (hg : Gl X x) (ha : DA C X (e :: es) t) (hk : k ≤ k' := by decide)
    (hdb : (x == ("__debug__" : Str)) = false := by decide) (he : starEach (e :: es) X.env = (false, eval e X.env) :: starEach es X.env := by rfl) (hpl : (backTo pos (starEach es X.env)).any (·.1) = false := by rfl) :
    DE C X (.Call (.Name x p) (e :: es) [] pos) (dCall T t) := by
  obtain ⟨f, fd, F, hm, M, hb⟩ := Df
  exact peW (pe_make M (F.mono hk) hr hg hm hb .nil pass0 ha hdb he hpl) tmake_of
end
theorem EOk.hide {K : PySem.W.Frag} {C : Addr} {H : Hp} {S : Addr → Prop} {σ : L2.St} {env : En} {p : Addr} {o : HO} (h : EOk K C H S σ env) (hp : S p) (no : ∀ (i : Nat) (p : Addr) (ds : List D), env[i]? ≠ some (some (.ow p ds))) : EOk K C (upd H p o) S σ env := by
  refine ⟨h.len, fun i sv z => ?_, h.inj, fun q hq => ?_⟩
  · obtain ⟨v, e, r⟩ := h.slot i sv z
    cases sv with
    | ow p ds => exact absurd z (no i p ds)
    | sh d =>
      refine ⟨v, e, ?_⟩
      show Rep K C (less _ S) d v
      rw [less_upd hp]
      exact r
  · unfold upd
    split
    · exact Option.some_ne_none _
    · exact h.dom q hq
theorem init_run {K : PySem.W.Frag} {C : Addr} {u1 u2 : DTS} {te : DT1} {tf : DTA} {x dx : Addr} {H1 : Hp} {S : Addr → Prop} {ds : List D} {us : List V} {N : List Str} {R : En → Prop} {n : Int} {ps : List (Int × Int)} {Q : VK} (q : CrK K C) (hx : H1 x = none) (hdx : H1 dx = none) (hne : dx ≠ x)
    (dm : Dom H1 S) (rp : RepA K C (less H1 S) ds us) (hN : ds.length + 1 ≤ N.length)
    (hu : u1 { nx := fun env => u2 { nx := R, rt := fun _ => False } env, rt := fun _ => False } (startE N (.cls x :: ds)))
    (hR : ∀ env, R env → env[0]? = some (some (.sh (.cls x))) ∧ (∀ (i : Nat) (p : Addr) (ds : List D), env[i]? ≠ some (some (.ow p ds))) ∧ te env (fun d => d = .int n) ∧ tf env (fun l => l = ps.map dPr))
    (fin : ∀ q xs H2, H2 x = some (.ins C dx [("streams", .int n), ("pairs", .ref q)]) → H2 q = some (.lst xs) → Paired (prV K (less H2 S)) ps xs → H1 q = none → Same H1 H2 → Q .non H2) :
    tSeq (rS K C u1) (tSeq (rS K C u2) (tSeq (sFld K (tVar 0) (rE K C te) "streams") (sFld K (tVar 0) (rF K C tf) "pairs"))) { nx := fun _ H' => Q .non H', rt := Q } (start N (.ref x :: us)) (upd (upd H1 dx (.own x)) x (.ins C dx [])) := by
  have sm0 : Same H1 (upd (upd H1 dx (.own x)) x (.ins C dx [])) := fun b o e => by
    rw [upd_ne (ne_of_none e hx), upd_ne (ne_of_none e hdx)]
    exact e
  have hxx : (upd (upd H1 dx (.own x)) x (.ins C dx [])) x = some (.ins C dx []) := upd_same
  have hdd : (upd (upd H1 dx (.own x)) x (.ins C dx [])) dx = some (.own x) := by rw [upd_ne hne, upd_same]
  generalize upd (upd H1 dx (.own x)) x (.ins C dx []) = H at *
  have dm1 : Dom H fun a => S a ∨ a = x ∨ a = dx := fun p hp => by
    rcases hp with hp | rfl | rfl
    · exact dm.mono sm0 p hp
    · rw [hxx]; exact Option.some_ne_none _
    · rw [hdd]; exact Option.some_ne_none _
  have r1 : RepA K C (less H fun a => S a ∨ a = x ∨ a = dx) (.cls x :: ds) (.ref x :: us) := by
    refine repA_cons rep_cls (RepA.mono (fun b o e => ?_) _ _ rp)
    obtain ⟨e1, e2⟩ := less_iff.mp e
    refine less_iff.mpr ⟨fun z => ?_, sm0 b o e2⟩
    rcases z with z | rfl | rfl
    · exact e1 z
    · rw [hx] at e2; cases e2
    · rw [hdx] at e2; cases e2
  rw [startE_eq N (.cls x :: ds) (by simpa using hN)] at hu
  refine ⟨H, _, _, _, _, start_ok dm1 r1, hu, ⟨fun env S1 σ1 Ha h1 k1 => ?_, fun _ _ _ z => z.elim, fun _ _ _ _ z => z.elim, fun _ _ _ _ z => z.elim, fun _ _ _ _ z => z.elim⟩⟩
  refine ⟨H, _, S1, env, _, k1, h1, ⟨fun env S2 σ2 Hb h2 k2 => ?_, fun _ _ _ z => z.elim, fun _ _ _ _ z => z.elim, fun _ _ _ _ z => z.elim, fun _ _ _ _ z => z.elim⟩⟩
  obtain ⟨g0, g1, g2, g3⟩ := hR env h2
  have s2x : S2 x := k2.sub x (.inr (.inl rfl))
  have sS : ∀ a, S a → S2 a := fun a z => k2.sub a (.inl z)
  obtain ⟨v0, e0, rv0⟩ := k2.e.slot 0 _ g0
  have ev0 : v0 = .ref x := by
    have : Rep K C (less Hb S2) (.cls x) v0 := rv0
    unfold Rep at this
    exact this
  subst ev0
  refine ⟨S2, env, _, k2.e, g2, fun d hd v Hc ec rv => ?_⟩
  subst hd
  unfold Rep at rv
  subst rv
  have hcx : Hc x = some (.ins C dx []) := ec _ _ (k2.same _ _ hxx)
  refine ⟨_, e0, x, C, dx, [], rfl, hcx, q.cl, q.ns, by decide, ?_⟩
  have kc := (k2.e.mono ec).hide (o := .ins C dx (putF "streams" (.int n) [])) s2x g1
  refine ⟨S2, env, _, kc, g3, fun l hl p xs He ee hp hlst rA => ?_⟩
  subst hl
  have hex : He x = some (.ins C dx (putF "streams" (.int n) [])) := ee _ _ upd_same
  refine ⟨_, e0, x, C, dx, _, rfl, hex, q.cl, q.np, (by show (1 : Nat) < 1000; decide), ?_⟩
  have hpx : p ≠ x := fun z => by rw [z, upd_same] at hp; cases hp
  refine fin p xs _ upd_same (by rw [upd_ne hpx]; exact hlst) ?_ (Same.free (fun b o e => ?_) hp) fun b o e => ?_
  · refine Paired.mapP (repA_prs.mp rA) fun k v z => z.mono fun b o e => ?_
    obtain ⟨e1, e2⟩ := less_iff.mp e
    have hbx : b ≠ x := fun z => e1 (.inl (by rw [z]; exact s2x))
    exact less_iff.mpr ⟨fun z => e1 (.inl (sS b z)), by rw [upd_ne hbx]; exact e2⟩
  · rw [upd_ne (ne_of_none e hx)]
    exact ec _ _ (k2.same _ _ (sm0 b o e))
  · have hbx : b ≠ x := ne_of_none e hx
    rw [upd_ne hbx]
    refine ee _ _ ?_
    rw [upd_ne hbx]
    exact ec _ _ (k2.same _ _ (sm0 b o e))
end L2.DL

set_option Elab.async false
set_option linter.all false
set_option maxRecDepth 100000
set_option maxHeartbeats 4000000
/-! Further rules over data: a pair in a list of pairs, a list or tuple walked, a list of one's own walked, min and max of a pair, a cut of a tuple. -/
namespace L2
open PySem PySem.Spec PyProof.Rows
section
variable {X : Cx}
/-! min, max of a pair -/
theorem call_mm {mx : Bool} (hc : X.calm = true) : CallR X (.builtin (if mx then "max" else "min")) (fun xs H Q => ∃ a i j, xs = [.ref a] ∧ SqT X.K H a [.int i, .int j] ∧ Q (.int (if mx then (if j > i then j else i) else (if j < i then j else i))) H) := by
  intro pins s σ H xs us Q I r h
  obtain ⟨a, i, j, rfl, hq, q⟩ := h
  obtain ⟨u, rfl, ru⟩ := vals1 r
  cases ru
  obtain ⟨its, rv, tp, hz⟩ := I.tuple hq
  obtain ⟨u1, u2, rfl, ⟨t1, rfl⟩, ⟨t2, rfl⟩⟩ := vals2 rv
  have hd : X.A.handled = none := I.ok.hd hc
  have hlt : a < s.heap.objs.size := tp.lt
  have hne : a ≠ s.heap.objs.size := Nat.ne_of_lt hlt
  have hv : ∀ (k : Nat) (v : Value), (#[Value.int i t1, Value.int j t2] : Array Value)[k]? = some v → ∃ t, v = .int (if k = 0 then i else j) t := by
    intro k v hk
    match k, hk with
    | 0, hk => exact ⟨t1, by simpa using hk.symm⟩
    | 1, hk => exact ⟨t2, by simpa using hk.symm⟩
    | k + 2, hk => simp at hk
  have W := fun (A : Around) (h : A.handled = none) => (Walks.tuple (prog := X.prog) (w := X.w) (A := A) h s.heap.objs.size a hne #[Value.int i t1, Value.int j t2]).toS
  have st0 : (s.heap.push { cls := .type "tuple_iterator", data := .fields #[.ref a, .int 0 0] }).IsTupleIter s.heap.objs.size a 0 ∧ (s.heap.push { cls := .type "tuple_iterator", data := .fields #[.ref a, .int 0 0] }).IsTuple a #[Value.int i t1, Value.int j t2] := by
    refine ⟨⟨_, Heap.get?_push_size _ rfl, rfl, rfl⟩, ?_⟩
    obtain ⟨o, e, r⟩ := tp
    exact ⟨o, Heap.get?_push_of_some _ e, r⟩
  have fp0 : ∀ b ∈ [s.heap.objs.size, a], b < (s.heap.push { cls := .type "tuple_iterator", data := .fields #[.ref a, .int 0 0] }).objs.size := fun b hb => by
    rw [Heap.size_push]
    rcases List.mem_cons.mp hb with rfl | hb
    · exact Nat.lt_succ_self _
    · rw [List.mem_singleton.mp hb]; exact Nat.lt_succ_of_lt hlt
  have fin : ∀ {s' : Shared} {k : Int} {v : Value}, (∀ b o, s.heap.get? b = some o → s'.heap.get? b = some o) → s'.gens = s.gens → s'.drawn = s.drawn → s'.os = s.os → (∃ t, v = .int k t) → Q (.int k) H → EP X pins σ Q v s' := fun {s' k v} hk e1 e2 e3 hv q => by
    have es : s' = { s with heap := s'.heap, toks := s'.toks } := by
      cases s'
      simp only at e1 e2 e3
      rw [e1, e2, e3]
    rw [es]
    exact ⟨.int k, H, I.kept hk, hv, q⟩
  have keep : ∀ {h' : Heap}, (∀ b o, b ∉ [s.heap.objs.size] → (s.heap.push { cls := .type "tuple_iterator", data := .fields #[.ref a, .int 0 0] }).get? b = some o → h'.get? b = some o) → ∀ b o, s.heap.get? b = some o → h'.get? b = some o := fun {h'} hm b o e =>
    hm b o (fun z => by rw [List.mem_singleton.mp z] at e; exact Nat.lt_irrefl _ (Heap.lt_size e)) (Heap.get?_push_of_some _ e)
  cases mx with
  | true =>
    refine call_max_walkS (wpAny_pyIter_tuple tp ⟨_, _, _, _, _, _, _, _, rfl, W X.A.in1 (by simpa using hd), st0, fp0, (by show 0 < 2; decide), CmpOf.ints_gt (fun k => if k = 0 then i else j) hv, fun v s' hP hm => ?_⟩)
    refine fin (keep hm.heap) hm.gens hm.drawn hm.os (k := if j > i then j else i) ?_ q
    obtain ⟨t, rfl⟩ := hv _ _ hP
    refine ⟨t, ?_⟩
    show Value.int (if (if decide (j > i) then 1 else 0) = 0 then i else j) t = _
    by_cases c : j > i <;> simp [c]
  | false =>
    refine call_min_walkS (wpAny_pyIter_tuple tp ⟨_, _, _, _, _, _, _, _, rfl, W X.A.in1 (by simpa using hd), st0, fp0, (by show 0 < 2; decide), CmpOf.ints_lt (fun k => if k = 0 then i else j) hv, fun v s' hP hm => ?_⟩)
    refine fin (keep hm.heap) hm.gens hm.drawn hm.os (k := if j < i then j else i) ?_ q
    obtain ⟨t, rfl⟩ := hv _ _ hP
    refine ⟨t, ?_⟩
    show Value.int (if (if decide (j < i) then 1 else 0) = 0 then i else j) t = _
    by_cases c : j < i <;> simp [c]
end
end L2
namespace HT
open PySem PyProof.Rows
section
variable {prog : Program} {w : World} {A : Around} {E : Value → Shared → Prop} {s : Shared}
end
end HT

set_option Elab.async false
set_option linter.all false
set_option maxRecDepth 100000
set_option maxHeartbeats 4000000
/-! The same over data. -/
namespace L2
open PySem PySem.Spec PyProof.Rows
section
variable {X : Cx}
end
end L2
namespace L2.DL
open PySem PySem.Spec PyProof.Rows
section
variable {C : Addr} {X : Cx} {a b c e : Expr} {es : List Expr} {st : Stmt} {sts : List Stmt} {ta tb tc te : DT1} {t : DTA} {tt : DTT} {u : DTS} {pos : Pos}
/-- a list or a tuple is walked -/
def dItS (te : DT1) : DTA := fun env Q => te env fun d => match d with
  | .lst l => Q l
  | .tup l => Q l
  | _ => False
/-- min(t), max(t) of a pair -/
def rcMin1 : List D → (D → Prop) → Prop := fun xs Q => match xs with
  | [.tup [.int i, .int j]] => Q (.int (if j < i then j else i))
  | _ => False
def rcMax1 : List D → (D → Prop) → Prop := fun xs Q => match xs with
  | [.tup [.int i, .int j]] => Q (.int (if j > i then j else i))
  | _ => False
theorem l_min1 : LiftN X.K C (fun xs H Q => ∃ a i j, xs = [.ref a] ∧ SqT X.K H a [.int i, .int j] ∧ Q (.int (if false then (if j > i then j else i) else (if j < i then j else i))) H) rcMin1 := by
  intro H S ds vs P Q dm r h k
  unfold rcMin1 at h
  split at h
  · obtain ⟨v, rfl, r1⟩ := repA_one r
    obtain ⟨a, rfl, h1⟩ := (rep_pr (p := (_, _))).mp r1
    exact ⟨a, _, _, rfl, less_same.seqT h1, k.flat h rep_int⟩
  · exact h.elim
theorem l_max1 : LiftN X.K C (fun xs H Q => ∃ a i j, xs = [.ref a] ∧ SqT X.K H a [.int i, .int j] ∧ Q (.int (if true then (if j > i then j else i) else (if j < i then j else i))) H) rcMax1 := by
  intro H S ds vs P Q dm r h k
  unfold rcMax1 at h
  split at h
  · obtain ⟨v, rfl, r1⟩ := repA_one r
    obtain ⟨a, rfl, h1⟩ := (rep_pr (p := (_, _))).mp r1
    exact ⟨a, _, _, rfl, less_same.seqT h1, k.flat h rep_int⟩
  · exact h.elim
theorem de_min1 {p : Pos} (hc : X.calm = true) (hg : Gl X "min") (hm : X.mg "min" = none) (ha : DA C X [e] t) (he : starEach [e] X.env = (false, eval e X.env) :: starEach [] X.env := by rfl) (hpl : (backTo pos (starEach [] X.env)).any (·.1) = false := by rfl) : DE C X (.Call (.Name "min" p) [e] [] pos) (dCall rcMin1 t) :=
  de_callB (id := "min") (call_mm (mx := false) hc) l_min1 hg hm boot_min ha (he := he) (hpl := hpl)
theorem de_max1 {p : Pos} (hc : X.calm = true) (hg : Gl X "max") (hm : X.mg "max" = none) (ha : DA C X [e] t) (he : starEach [e] X.env = (false, eval e X.env) :: starEach [] X.env := by rfl) (hpl : (backTo pos (starEach [] X.env)).any (·.1) = false := by rfl) : DE C X (.Call (.Name "max" p) [e] [] pos) (dCall rcMax1 t) :=
  de_callB (id := "max") (call_mm (mx := true) hc) l_max1 hg hm boot_max ha (he := he) (hpl := hpl)
/-- an expression for its effect -/
def dDo (te : DT1) : DTS := fun DD env => te env fun _ => DD.nx env
theorem ds_expr (he : DE C X e te) (hs : swapsWith e none pos.line X.env = pure false := by rfl) : DS C X (.Expr e pos) (dDo te) := psW (ps_expr he hs) fun D0 σ H ⟨H0, S0, S, env, DD, h1, h2, h3⟩ =>
  ⟨S, env, _, h1.e, h2, fun d hd v H' e rv => h3.nx _ _ _ _ hd (h1.mono e)⟩
end
end L2.DL

set_option Elab.async false
set_option linter.all false
set_option maxRecDepth 100000
set_option maxHeartbeats 4000000
/-! Crossings: what the defs promise. -/
namespace L2.DL
open PySem PySem.Spec PyProof.Rows GS
abbrev Cl := List (Int × Int)
def GoodP (n : Int) (cl : Cl) : Prop := ∀ p ∈ cl, 0 ≤ p.1 ∧ p.1 < n ∧ 0 ≤ p.2 ∧ p.2 < n ∧ p.1 ≠ p.2
def GoodCl (n : Int) (cl : Cl) : Prop := GoodP n cl ∧ cl.length ≤ 200
def rise (p : Int × Int) : Int × Int := (if p.2 < p.1 then p.2 else p.1, if p.2 > p.1 then p.2 else p.1)
def crOf (n : Int) (cl : Cl) : D := .crs n (sd (cl.map rise))
def dLs (g : List Int) : D := .lst (g.map D.int)
def tCheckSize : TD := fun ds Q => ∃ n : Int, ds = [.int n] ∧ 1 ≤ n ∧ n ≤ 6 ∧ Q .non
def tIsStream : TD := fun ds Q => ∃ n s : Int, ds = [.int n, .int s] ∧ Q (.bl (decide (0 ≤ s) && decide (s < n)))
def tCheckClash : TD := fun ds Q => ∃ (n : Int) (p : Int × Int), ds = [.int n, dPr p] ∧ (0 ≤ p.1 ∧ p.1 < n ∧ 0 ≤ p.2 ∧ p.2 < n ∧ p.1 ≠ p.2) ∧ Q .non
def tRising : TD := fun ds Q => ∃ p : Int × Int, ds = [dPr p] ∧ Q (dPr (rise p))
def tMakeC : TD := fun ds Q => ∃ (n : Int) (cl : Cl), ds = [.int n, .lst (cl.map dPr)] ∧ 1 ≤ n ∧ n ≤ 6 ∧ GoodCl n cl ∧ Q (crOf n cl)
def tSize : TD := fun ds Q => ∃ (n : Int) (ps : Cl), ds = [.crs n ps] ∧ Q (.int n)
def tClashes : TF := fun ds Q => ∃ (n : Int) (ps : Cl), ds = [.crs n ps] ∧ Q (ps.map dPr)
def tLawClashes : TD := fun ds Q => ∃ (ns : List Int) (st n : Int), ds = [.scr ns, .int st, .int n] ∧ 0 ≤ st ∧ 1 ≤ n ∧ n ≤ 6 ∧ ∀ cl, GoodCl n cl → Q (.lst (cl.map dPr))
def tLawRing : TD := fun ds Q => ∃ c n : Int, ds = [.int c, .int n] ∧ 4 < n ∧ n ≤ 6 ∧ ∀ cl, GoodCl n cl → Q (.lst (cl.map dPr))
theorem rise_in {n : Int} {p : Int × Int} (hn : n ≤ 6) (h : 0 ≤ p.1 ∧ p.1 < n ∧ 0 ≤ p.2 ∧ p.2 < n ∧ p.1 ≠ p.2) : rise p ∈ pairs15 := by
  have key : ∀ a ∈ [0, 1, 2, 3, 4, 5], ∀ b ∈ [0, 1, 2, 3, 4, 5], a ≠ b → rise ((a : Int), (b : Int)) ∈ pairs15 := by decide +kernel
  obtain ⟨a, b⟩ := p
  obtain ⟨h1, h2, h3, h4, h5⟩ := h
  simp only at h1 h2 h3 h4 h5
  have m : ∀ x : Int, 0 ≤ x → x < n → x ∈ ([0, 1, 2, 3, 4, 5] : List Int) := fun x z1 z2 => by
    have : x = 0 ∨ x = 1 ∨ x = 2 ∨ x = 3 ∨ x = 4 ∨ x = 5 := by omega
    simp only [List.mem_cons, List.not_mem_nil, or_false]
    exact this
  exact key a (m a h1 h2) b (m b h3 h4) h5
theorem good_rise {n : Int} {cl : Cl} (hn : n ≤ 6) (h : GoodP n cl) : ∀ p ∈ cl.map rise, p ∈ pairs15 := fun p hp => by
  obtain ⟨q, hq, rfl⟩ := List.mem_map.mp hp
  exact rise_in hn (h q hq)
theorem mem_crossing {n : Int} {cl : Cl} (hn : n ≤ 6) (h : GoodP n cl) (p : Int × Int) : p ∈ sd (cl.map rise) ↔ ∃ q ∈ cl, rise q = p := by
  rw [sd_mem (good_rise hn h), List.mem_map]
theorem cut_mem {α : Type} {xs : List α} {lo hi : Option Int} {x : α} (h : x ∈ cut xs lo hi) : x ∈ xs := by
  unfold cut at h
  exact List.mem_of_mem_drop (List.mem_of_mem_take h)
theorem cut_map {α β : Type} (f : α → β) (xs : List α) (lo hi : Option Int) : cut (xs.map f) lo hi = (cut xs lo hi).map f := by
  unfold cut
  rw [List.length_map, List.map_take, List.map_drop]
theorem cut_len {α : Type} (xs : List α) (lo hi : Option Int) : (cut xs lo hi).length ≤ xs.length := by
  unfold cut
  rw [List.length_take, List.length_drop]
  omega
theorem GoodP.of {n : Int} {a b : Cl} (h : GoodP n a) (hs : ∀ x ∈ b, x ∈ a) : GoodP n b := fun x hx => h x (hs x hx)
theorem GoodP.app {n : Int} {a b : Cl} (h : GoodP n a) (h' : GoodP n b) : GoodP n (a ++ b) := fun x hx => (List.mem_append.mp hx).elim (h x) (h' x)
theorem rdIx_R0 {p : Int × Int} {Q : D → Prop} : rdIx (dPr p) (.int 0) Q = Q (.int p.1) := rfl
theorem rdIx_R1 {p : Int × Int} {Q : D → Prop} : rdIx (dPr p) (.int 1) Q = Q (.int p.2) := rfl
theorem rdIn_Ls {g : List Int} {i : Int} {Q : D → Prop} : rdIn id (.int i) (dLs g) Q ↔ Q (.bl (decide (i ∈ g))) := by
  unfold rdIn dLs
  simp only [allI_map, hasI_map, id, true_and]
end L2.DL

set_option Elab.async false
set_option linter.all false
set_option maxRecDepth 100000
set_option maxHeartbeats 4000000
/-! list(reversed(t)) of a tuple. -/
namespace PySem
namespace GR
theorem owner_rv : Manifest.owners.lookup (String.ofList ['d', 'e', 's', 'r', 'e', 'v', 'e', 'r'].reverse) = some Manifest.sig_reversed := by kernel_rfl
theorem slot_rv_next : Slot "reversed" "__next__" "reversed.__next__" :=
  .of (owner := "reversed") (n := "__next__") (by rw [typeLookup_type, builtinLookup_eq_fast]; kernel_rfl) (by decide +kernel) (by decide +kernel) (by decide +kernel)
    (by first | exact .inl (by decide +kernel) | exact .inr (by decide +kernel)) (by rw [isSubtype_type]; kernel_rfl)
theorem entry_rv_next : entryFor table "reversed.__next__" = some Builtin.«reversed.__next__» := entryFor_of_tree (by kernel_rfl)
theorem args_rv_next (a : Value) : argsOk "reversed.__next__" ⟨[a], []⟩ := by
  unfold argsOk; rw [signature?_of (id := "reversed.__next__") (n := ['_', '_', 't', 'x', 'e', 'n', '_', '_']) (o := ['d', 'e', 's', 'r', 'e', 'v', 'e', 'r']) (by kernel_rfl) owner_rv]; kernel_rfl
def IsRv (h : Heap) (a l : Addr) (i : Int) : Prop := ∃ o, h.get? a = some o ∧ o.cls = .type "reversed" ∧ o.data = .fields #[.ref l, rawInt i]
section
variable {prog : Program} {w : World} {A : Around} {E : Value → Shared → Prop} {s : Shared}
theorem IsRv.typeIs {a l : Addr} {i : Int} (x : IsRv s.heap a l i) : s.TypeIs (.ref a) "reversed" := let ⟨o, ho, hc, _⟩ := x; ⟨o, ho, hc⟩
theorem IsRv.at {h h' : Heap} {a l : Addr} {i : Int} (x : IsRv h a l i) (e : ∀ o, h.get? a = some o → h'.get? a = some o) : IsRv h' a l i := let ⟨o, ho, r⟩ := x; ⟨o, e _ ho, r⟩
end
end GR
end PySem

set_option Elab.async false
set_option linter.all false
set_option maxRecDepth 100000
set_option maxHeartbeats 4000000
namespace PySem
namespace GR
section
variable {prog : Program} {w : World} {A : Around} {E : Value → Shared → Prop} {s : Shared}
theorem next_item {it l : Addr} {i : Nat} {items : Array Value} {x : Value} {Q : Option Value → Shared → Prop} (hit : IsRv s.heap it l (i : Int)) (hl : s.heap.IsTuple l items) (hx : items[i]? = some x) (hz : (items.size : Int) < 2 ^ 63)
    (hQ : ∀ h' tk, IsRv h' it l ((i : Int) - 1) → Heap.SameBut it s.heap h' → Q (some x) { s with heap := h', toks := tk }) : wpAny (model prog w) A (pyNext (.ref it)) Q E s := by
  obtain ⟨o, ho, hc, hd⟩ := id hit
  have hT : s.TypeIs (.ref l) "tuple" := by obtain ⟨o, e, c, _⟩ := hl; exact ⟨o, e, c⟩
  have hi : i < items.size := by
    rcases Nat.lt_or_ge i items.size with h | h
    · exact h
    · rw [Array.getElem?_eq_none h] at hx; cases hx
  unfold pyNext
  refine wpAny_bind (wpAny_attempt (wpAny_callSpecial?_slot (name := Str.ofString "__next__") hit.typeIs slot_rv_next
    (wpAny_call_entry slot_rv_next hit.typeIs entry_rv_next ?_ (args_rv_next _))))
  unfold Builtin.«reversed.__next__»
  refine wpAny_bind (wpAny_of_eq (a := (Value.ref it, [])) rfl ?_)
  try dsimp only
  refine wpAny_bind (wpAny_field ho hd (x := .ref l) rfl ?_)
  refine wpAny_bind (wpAny_field ho hd (x := rawInt (i : Int)) rfl ?_)
  show wpAny _ _ (if (i : Int) < 0 then _ else _) _ _ s
  rw [if_neg (by omega)]
  refine wpAny_bind (wpAny_specialOf hT PyProof.Rows.slot_tuple_getitem.lookup ?_)
  rw [if_neg (by decide)]
  refine wpAny_bind (wpAny_mkInt ?_)
  refine wpAny_bind (wpAny_attempt (PyProof.Rows.getItem_tuple (j := i) (x := x) (by exact hl) (by omega) (by omega) (by simp [seqIndex?, hi] <;> omega) hx ?_))
  refine wpAny_bind (wpAny_field ho hd (x := rawInt (i : Int)) rfl ?_)
  refine wpAny_bind (wpAny_setField ho hd (by simp) ?_)
  refine wpAny_pure ⟨x, rfl, wpAny_pure (hQ _ _ ?_ (Heap.SameBut.update ..))⟩
  exact ⟨_, Heap.get?_update_self _ ho (Obj.isFreed_of_fields (Obj.data_mapFields hd _)), (Obj.cls_mapFields ..).trans hc, by
    rw [Obj.data_mapFields hd]; simp⟩
theorem next_end {it l : Addr} {Q : Option Value → Shared → Prop} (hh : A.handled = none) (hit : IsRv s.heap it l (-1))
    (hQ : ∀ h' tk, (∀ b o, b ≠ it → s.heap.get? b = some o → h'.get? b = some o) → Q none { s with heap := h', toks := tk }) : wpAny (model prog w) A (pyNext (.ref it)) Q E s := by
  obtain ⟨o, ho, hc, hd⟩ := id hit
  unfold pyNext
  refine wpAny_bind (wpAny_attempt (wpAny_callSpecial?_slot (name := Str.ofString "__next__") hit.typeIs slot_rv_next
    (wpAny_call_entry slot_rv_next hit.typeIs entry_rv_next ?_ (args_rv_next _))))
  unfold Builtin.«reversed.__next__»
  refine wpAny_bind (wpAny_of_eq (a := (Value.ref it, [])) rfl ?_)
  try dsimp only
  refine wpAny_bind (wpAny_field ho hd (x := .ref l) rfl ?_)
  refine wpAny_bind (wpAny_field ho hd (x := rawInt (-1)) rfl ?_)
  show wpAny _ _ (if (-1 : Int) < 0 then _ else _) _ _ s
  rw [if_pos (by decide)]
  refine wpAny_bind (wpAny_rule ?_)
  refine wpAny_bind ?_
  show wpAny _ _ (setField (.ref it) 1 (rawInt (-1)) >>= fun _ => setField (.ref it) 0 .none) _ _ _
  have hd' := Obj.data_mapFields (f := (·.setIfInBounds 1 (rawInt (-1)))) hd
  have ho' := Heap.get?_update_self (Obj.mapFields (·.setIfInBounds 1 (rawInt (-1)))) ho (Obj.isFreed_of_fields (Obj.data_mapFields hd _))
  refine wpAny_bind (wpAny_setField ho hd (by simp) ?_)
  refine wpAny_setField ho' hd' (by simp) ?_
  have keep : ∀ b o, b ≠ it → s.heap.get? b = some o → ((s.heap.update it (Obj.mapFields (·.setIfInBounds 1 (rawInt (-1))))).update it (Obj.mapFields (·.setIfInBounds 0 .none))).get? b = some o :=
    fun b o hb e => (Heap.get?_update_other _ _ (Ne.symm hb)).trans ((Heap.get?_update_other _ _ (Ne.symm hb)).trans e)
  refine wpAny_bind ?_
  show wpAny _ _ (newExc (.type "StopIteration") [] >>= _) _ _ _
  refine wpAny_bind ?_
  simp only [newExc, newTuple]
  refine wpAny_bind (wpAny_newObj_type ?_ (by size_fits))
  refine wpAny_bind (m := firstArgMember _ _) (wpAny_of_eq (a := Value.none) (by first | rfl | (simp only [firstArgMember]; rfl)) ?_)
  refine wpAny_newObj_type ?_ (by size_fits)
  simp only [raiseNew]
  refine wpAny_bind (wpAny_handled ?_)
  first | rw [show A.in1.handled = none from hh] | rw [hh]
  refine wpAny_bind (wpAny_pure (wpAny_throw ?_))
  refine wpAny_bind (wpAny_isInstance (T := "StopIteration") (b := true) ⟨_, Heap.get?_push_size _ rfl, rfl⟩ isSubtype_stop ?_)
  exact wpAny_pure (hQ _ _ fun b o hb e => Heap.get?_push_of_some _ (Heap.get?_push_of_some _ (keep b o hb e)))
end
end GR
end PySem

set_option Elab.async false
set_option linter.all false
set_option maxRecDepth 100000
set_option maxHeartbeats 4000000
namespace L2
open PySem PySem.Spec PyProof.Rows
end L2
namespace L2.DL
open PySem PySem.Spec PyProof.Rows
section
variable {C : Addr} {X : Cx} {e : Expr} {te : DT1} {pos : Pos}
end
end L2.DL

set_option Elab.async false
set_option linter.all false
set_option maxRecDepth 100000
set_option maxHeartbeats 4000000
namespace L2.DL
open PySem PySem.Spec PyProof.Rows GS
section
variable {C : Addr} {X : Cx} {a b c e o : Expr} {es : List Expr} {ta tb tc te : DT1} {t : DTA} {pos apos : Pos}
end
end L2.DL

set_option Elab.async false
set_option linter.all false
set_option maxRecDepth 100000
set_option maxHeartbeats 4000000
/-! An exception leaves a def. -/
namespace L2
open PySem PySem.Spec PyProof.Rows PySem.W
theorem ob_there {P : Program} {w : World} {H : Hp} {h : Heap} {a : Addr} {o : HO} (x : ObjOk P w H h a o) : ∃ u, h.get? a = some u := by
  cases o with
  | lst xs => obtain ⟨_, _, _, _, e⟩ := x; exact ⟨_, e⟩
  | tup xs => obtain ⟨_, _, _, ob, e, _⟩ := x; exact ⟨_, e⟩
  | dK kvs => obtain ⟨_, _, _, _, o, _, _, e, _⟩ := x; exact ⟨_, e⟩
  | dT kvs => obtain ⟨_, _, _, _, o, _, _, e, _⟩ := x; exact ⟨_, e⟩
  | set S n => obtain ⟨o, _, _, _, e, _⟩ := x; exact ⟨_, e⟩
  | ins C dx fs => obtain ⟨_, _, _, e, _⟩ := x; exact ⟨_, e⟩
  | own y => exact x
  | xd fs => obtain ⟨_, ⟨_, _, _, e, _⟩, _⟩ := x; exact ⟨_, e⟩
  | rng lo hi => obtain ⟨_, _, _, e⟩ := x; exact ⟨_, e⟩
  | frz ob u => obtain ⟨e, _⟩ := x; exact ⟨_, e⟩
  | tbl ps => exact ⟨_, show h.get? a = some _ from x⟩
  | met f y => exact ⟨_, show h.get? a = some _ from x⟩
  | ext φ => obtain ⟨_, q, _⟩ := x; exact q
/-- how the heap lies while an exception flies: since (H, h) -/
structure Fl (P : Program) (w : World) (fs : List Addr) (H Hn : Hp) (h h1 : Heap) (B : Heap) : Prop where
  un : Un fs [] H Hn h h1
  hok : HOk P w Hn h1
  same : ∀ b u, H b = some u → Hn b = some u
  trk : ∀ b u o, Hn b = some u → h1.get? b = some o → B.get? b = some o
  old : ∀ b o, h.get? b = some o → H b = none → b ∉ fs → B.get? b = some o
def CXf (P : Program) (w : World) : CXT := fun outer H s E e s' => ∃ (a c : Addr) (a0 : Value) (B : Heap) (Hn : Hp), e = .ref a ∧ s'.os = s.os ∧ AllBare s'.gens ∧ Fl P w (frs outer) H Hn s.heap s'.heap B ∧ Heap.FlyingW B outer a (.ref c) a0 s'.heap ∧ E (.ref c) none Hn
section
variable {X : Cx} {pins : List (Addr × Obj)} {σ : St} {H Hn : Hp} {s : Shared} {B h1 h' : Heap}
/-- what is tracked stays so as long as B does -/
theorem Fl.hok' {P : Program} {w : World} {fs : List Addr} {h : Heap} (F : Fl P w fs H Hn h h1 B) (hB : B.StaysIn h') : HOk P w Hn h' := fun b u e =>
  (F.hok b u e).stay (fun c v hc q => by
    rcases hc with z | z
    · rw [z] at q ⊢; exact hB _ _ (F.trk _ u v e q)
    · exact hB _ _ (F.trk c _ v z q)) (fun _ q => q) fun _ _ q => q
theorem Fl.trk' {P : Program} {w : World} {fs : List Addr} {h : Heap} (F : Fl P w fs H Hn h h1 B) (hB : B.StaysIn h') : ∀ b u o, Hn b = some u → h'.get? b = some o → B.get? b = some o := fun b u o e q => by
  obtain ⟨o1, e1⟩ := ob_there (F.hok b u e)
  have e2 := F.trk b u o1 e e1
  have := hB _ _ e2
  rw [q] at this
  cases this
  exact e2
/-- the objects that were there -/
theorem Fl.there' (I : Inv X pins σ H s) (F : Fl X.prog X.w (frs X.stack) H Hn s.heap h1 B) (hB : B.StaysIn h') (up : h1.UpToSlots h') {b : Addr} {o : Obj} (e : s.heap.get? b = some o) : ∃ o', h'.get? b = some o' := by
  by_cases hf : b ∈ frs X.stack
  · obtain ⟨_, o1, e1, hd⟩ := I.stack.mem hf
    obtain ⟨sl, e2⟩ := F.un.slot b o1 e1 (I.stkFree b hf) hf (by simp)
    obtain ⟨sl', e3⟩ := up b _ e2 hd
    exact ⟨_, e3⟩
  · cases q : H b with
    | none => exact ⟨_, hB _ _ (F.old b o e q hf)⟩
    | some u =>
      have q2 := F.same b u q
      obtain ⟨o1, e1⟩ := ob_there (F.hok b u q2)
      exact ⟨o1, hB _ _ (F.trk b u o1 q2 e1)⟩
/-- one frame less -/
theorem Fl.leave (I : Inv X pins σ H s) (hs : X.stack = X.env :: X.outer) (hex : X.ex = []) (hst : X.env.frame = some X.env.locals) (sm : ∀ b u, X.H₀ b = some u → H b = some u) (F : Fl X.prog X.w (frs X.stack) H Hn s.heap h1 B) (hB : B.StaysIn h') (up : h1.UpToSlots h') : Fl X.prog X.w X.fs X.H₀ Hn X.s₀.heap h' B := by
  have fse : frs X.stack = X.env.locals :: X.fs := by
    rw [hs]
    unfold frs
    rw [List.filterMap_cons, hst]
    rfl
  have nlo : ∀ b o, X.s₀.heap.get? b = some o → b ≠ X.env.locals := fun b o e z => by
    have h1 := Heap.lt_size e
    have h2 := I.ok.above
    rw [z] at h1
    exact absurd (Nat.lt_of_lt_of_le h1 h2) (Nat.lt_irrefl _)
  have nfs : ∀ b o, X.s₀.heap.get? b = some o → b ∉ X.fs → b ∉ frs X.stack := fun b o e n z => by
    rw [fse] at z
    rcases List.mem_cons.mp z with q | q
    · exact nlo b o e q
    · exact n q
  have nex : ∀ b, b ∉ X.ex := fun b z => by rw [hex] at z; cases z
  have oldB : ∀ b o, X.s₀.heap.get? b = some o → X.H₀ b = none → b ∉ X.fs → B.get? b = some o := fun b o e n hf =>
    F.old b o (I.base.keep b o e n hf (nex b)) (I.base.free b o e n (nex b)) (nfs b o e hf)
  have sub : ∀ b, b ∈ X.fs → b ∈ frs X.stack := fun b z => by rw [fse]; exact List.mem_cons_of_mem _ z
  refine ⟨⟨fun b o e n hf _ => hB _ _ (oldB b o e n hf), fun b o e n hf _ => ?_, fun b o e n _ => ?_, fun b o e _ => ?_, fun b xs e => ?_, fun b o u e => ?_, fun b ps e => ?_⟩, F.hok' hB, fun b u e => F.same b u (sm b u e), F.trk' hB, oldB⟩
  · obtain ⟨sl1, e1⟩ := I.base.slot b o e n hf (nex b)
    have n1 := I.base.free b o e n (nex b)
    obtain ⟨sl2, e2⟩ := F.un.slot b _ e1 n1 (sub b hf) (by simp)
    obtain ⟨_, o3, e3, hd⟩ := I.stack.mem (sub b hf)
    have e1' : s.heap.get? b = some _ := e1
    rw [e3] at e1'
    obtain ⟨sl3, e4⟩ := up b _ e2 (by have := hd; rw [Option.some.inj e1'] at this; exact this)
    exact ⟨sl3, e4⟩
  · obtain ⟨o1, e1⟩ := I.base.there b o e (nex b)
    exact F.un.free b o1 e1 (I.base.free b o e n (nex b)) (by simp)
  · obtain ⟨o1, e1⟩ := I.base.there b o e (nex b)
    exact F.there' I hB up e1
  · exact F.un.tups b xs (I.base.tups b xs e)
  · exact F.un.frzs b o u (I.base.frzs b o u e)
  · obtain ⟨m1, e1⟩ := I.base.tbls b ps e
    obtain ⟨m2, e2⟩ := F.un.tbls b _ e1
    exact ⟨m1 ++ m2, by rw [e2, Array.append_assoc]⟩
/-- an exception made here -/
theorem Fl.made {a : Addr} {cls : Value} {args : List Value} (I : Inv X pins σ H s) (hx : Heap.MadeExcOf s.heap h1 a cls args) : Fl X.prog X.w (frs X.stack) H H s.heap h1 (hideAll s.heap (frs X.stack)) := by
  refine ⟨Un.kept hx.keeps, I.hok.kept hx.keeps, fun _ _ e => e, fun b u o e q => ?_, fun b o e n hf => hideAll_get _ e hf⟩
  obtain ⟨o1, e1⟩ := ob_there (I.hok b u e)
  have := hx.keeps b o1 e1
  rw [q] at this
  cases this
  exact hideAll_get _ e1 fun hf => by
    have := I.stkFree b hf
    rw [e] at this
    cases this
end
theorem Fl.on {P : Program} {w : World} {fs : List Addr} {H Hn : Hp} {h h1 h' B : Heap} (F : Fl P w fs H Hn h h1 B) (fr : ∀ b ∈ fs, ∃ o, h1.get? b = some o ∧ ∀ vs, o.data ≠ .fields vs) (hB : B.StaysIn h') (up : ∀ b ∈ fs, ∀ o, h1.get? b = some o → (∀ vs, o.data ≠ .fields vs) → ∃ sl, h'.get? b = some { o with slots := sl }) : Fl P w fs H Hn h h' B := by
  refine ⟨⟨fun b o e n hf _ => hB _ _ (F.old b o e n hf), fun b o e n hf _ => ?_, fun b o e n hx => F.un.free b o e n hx, fun b o e _ => ?_, F.un.tups, F.un.frzs, F.un.tbls⟩, F.hok' hB, F.same, F.trk' hB, F.old⟩
  · obtain ⟨sl, e1⟩ := F.un.slot b o e n hf (by simp)
    obtain ⟨o1, e2, hd⟩ := fr b hf
    rw [e1] at e2
    obtain ⟨sl', e3⟩ := up b hf _ e1 (by rw [← Option.some.inj e2] at hd; exact hd)
    exact ⟨sl', e3⟩
  · by_cases hf : b ∈ fs
    · obtain ⟨o1, e2, hd⟩ := fr b hf
      obtain ⟨sl', e3⟩ := up b hf _ e2 hd
      exact ⟨_, e3⟩
    · cases q : H b with
      | none => exact ⟨_, hB _ _ (F.old b o e q hf)⟩
      | some u =>
        obtain ⟨o1, e1⟩ := ob_there (F.hok b u (F.same b u q))
        exact ⟨o1, hB _ _ (F.trk b u o1 (F.same b u q) e1)⟩
section
variable {M : Model} {A : Around} {E : Value → Shared → Prop} {s : Shared} {B : Heap} {env : Env} {outer : List Env} {L a : Addr} {cls a0 fl : Value} {Q : Unit → Shared → Prop}
/-- leaving a frame, wherever the exception was noted last -/
theorem leaves_any (hfr : A.frames = some (env :: outer)) (hf : env.frame = some L) (kb : B.StaysIn s.heap) (kn : B.get? a = none) (kl : s.heap.FunFrames B (env :: outer)) (kt : s.heap.TracedAtW B a cls a0 fl)
    (hQ : ∀ h', Heap.FlyingW B outer a cls a0 h' → s.heap.UpToSlots h' → Q () { s with heap := h' }) : wpAny M A (leaving env (.ref a)) Q E s := by
  by_cases hfl : fl = rawInt L
  · subst hfl
    unfold leaving
    refine wpAny_bind (wpAny_noteFrame_againW hf kt (wpAny_landsW ⟨kb, kn, kl, kt⟩ fun h' z up => ?_))
    obtain ⟨z1, z2, ⟨_, _, z3⟩, z4⟩ := z
    exact hQ h' ⟨z1, z2, z3, z4⟩ up
  · obtain ⟨oa, ws, T, ot, us, g1, ⟨g2, g3⟩, g4, g5, g6, g7, g8, g9, g10⟩ := kt
    subst g2
    unfold leaving noteFrame
    simp only [hf]
    refine wpAny_bind (wpAny_bind (wpAny_field g1 g4 g5 ?_))
    rw [if_pos (by simp : (Value.ref T != Value.none) = true)]
    refine wpAny_bind (wpAny_field g8 g9 g10 ?_)
    rw [if_neg (fun z => hfl (beq_iff_eq.mp z))]
    refine wpAny_bind (wpAny_setField g8 g9 (Array.getElem?_eq_some_iff.mp g10).1 ?_)
    have oth : ∀ b, b ≠ T → (s.heap.update T (Obj.mapFields (·.setIfInBounds 3 Value.none))).get? b = s.heap.get? b := fun b z => Heap.get?_update_other _ _ (Ne.symm z)
    have nor : ∀ b o, s.heap.get? b = some o → (∀ vs, o.data ≠ .fields vs) → b ≠ T := fun b o z1 z2 z3 => by
      rw [z3, g8] at z1
      exact z2 us (by rw [← Option.some.inj z1]; exact g9)
    refine wpAny_newEntryW hfr (kl.of_keeps fun b o z1 z2 => ⟨o, (oth b (nor b o z1 z2)).trans z1, rfl⟩) hf ((oth a (Ne.symm g7)).trans g1)
      (fun b o z => (oth b fun y => by rw [y, g6] at z; cases z).trans (kb b o z)) kn g4 (Array.getElem?_eq_some_iff.mp g5).1 g3
      fun h' ⟨z1, ⟨_, _, z2⟩, z3, z4⟩ => hQ h' ⟨z1, kn, z2, z3⟩ fun b o y1 y2 => z4 b o ((oth b (nor b o y1 y2)).trans y1) y2
end
/-- what a context wants of exceptions of the classes XP: since H -/
structure FlyC (X : Cx) (XP : Addr → Prop) (H : Hp) : Prop where
  fly : ∀ (pins : List (Addr × Obj)) (σ : St) (H' : Hp) (s : Shared) (e : Value) (s' : Shared), Inv X pins σ H' s → (∀ b u, H b = some u → H' b = some u) → CXf X.prog X.w X.stack H' s (fun cls _ _ => ∃ c, cls = .ref c ∧ XP c) e s' → X.xe e s'
structure Flies (X : Cx) (XP : Addr → Prop) (H : Hp) : Prop where
  made : ∀ (pins : List (Addr × Obj)) (σ : St) (H' : Hp) (s : Shared) (h1 : Heap) (a c : Addr) (args : List Value), Inv X pins σ H' s → (∀ b u, H b = some u → H' b = some u) → XP c → Heap.MadeExcOf s.heap h1 a (.ref c) args → X.xe (.ref a) { s with heap := h1 }
  c : FlyC X XP H
  any : ∀ (s' : Shared) (a c : Addr) (a0 fl : Value) (B : Heap) (Hn : Hp), s'.os = X.s₀.os → AllBare s'.gens → Fl X.prog X.w X.fs X.H₀ Hn X.s₀.heap s'.heap B → B.StaysIn s'.heap → B.get? a = none → s'.heap.FunFrames B X.stack → s'.heap.TracedAtW B a (.ref c) a0 fl → XP c → X.A.frames = some X.stack → X.xe (.ref a) s'
  hs : X.stack = X.env :: X.outer
  hex : X.ex = []
  hst : X.env.frame = some X.env.locals
  ent : ∀ b u, X.H₀ b = some u → H b = some u
theorem FlyC.mono {X : Cx} {XP : Addr → Prop} {H H' : Hp} (F : FlyC X XP H) (e : ∀ b u, H b = some u → H' b = some u) : FlyC X XP H' :=
  ⟨fun pins σ H2 s x s' I z => F.fly pins σ H2 s x s' I fun b u q => z b u (e b u q)⟩
theorem Flies.mono {X : Cx} {XP : Addr → Prop} {H H' : Hp} (F : Flies X XP H) (e : ∀ b u, H b = some u → H' b = some u) : Flies X XP H' :=
  ⟨fun pins σ H2 s h1 a c args I z => F.made pins σ H2 s h1 a c args I fun b u q => z b u (e b u q), F.c.mono e, F.any, F.hs, F.hex, F.hst, fun b u q => e b u (F.ent b u q)⟩
theorem Flies.body {P : Program} {w : World} {K : PySem.W.Frag} {mg : Str → Option Value} {base : Heap} {N : List Str} {qual : Str} {scope : Scope} {f : Addr} {cd : Value} {A : Around} {outer : List Env} {s : Shared} {H : Hp} {E : XK} {XP : Addr → Prop}
    (hE : ∀ c H', XP c → (∀ b u, H b = some u → H' b = some u) → E (.ref c) none H') : Flies (cxOf (CXf P w) P w K mg base N qual scope f cd A outer s H E) XP H := by
  refine ⟨fun pins σ H' s1 h1 a c args I sm hc hx => ?_, ⟨fun pins σ H' s1 e s' I sm hq => ?_⟩, fun s' a c a0 fl B Hn os bare F k1 k2 k3 k4 hc hfr => ?_, rfl, rfl, rfl, fun _ _ z => z⟩
  · have F := Fl.made I hx
    have fr : s1.heap.FunFrames (hideAll s1.heap (frs (cxOf (CXf P w) P w K mg base N qual scope f cd A outer s H E).stack)) (envOfC qual scope s.heap.objs.size f cd :: outer) := funFrames_hide I.stack fun env he b hb => List.mem_filterMap.mpr ⟨env, he, hb⟩
    refine wpAny_leaves_madeW I.ok.frames rfl (fun b o q => of_hideAll _ q) fr hx fun h' t fl tp hn up => ?_
    exact ⟨a, c, _, _, _, rfl, I.os, I.bare, F.leave I rfl rfl rfl sm fl.1 up, fl, hE c _ hc sm⟩
  · obtain ⟨a, c, a0, B, Hn, rfl, os, bare, F, fl, c', ec, hc⟩ := hq
    cases ec
    refine wpAny_leaves_onW I.ok.frames rfl fl fun h' fl' up => ?_
    exact ⟨a, c, a0, B, Hn, rfl, os.trans I.os, bare, F.leave I rfl rfl rfl sm fl'.1 up, fl', hE c _ hc fun b u q => F.same b u (sm b u q)⟩
  · refine leaves_any hfr rfl k1 k2 k3 k4 fun h' fl' up => ?_
    exact ⟨a, c, a0, B, Hn, rfl, os, bare, F.on (fun b hb => (k3.mem (by obtain ⟨v, v1, v2⟩ := List.mem_filterMap.mp hb; exact List.mem_filterMap.mpr ⟨v, List.mem_cons_of_mem _ v1, v2⟩)).2) fl'.1 fun b _ o z1 z2 => up b o z1 z2, fl', hE c _ hc F.same⟩
end L2

set_option Elab.async false
set_option linter.all false
set_option maxRecDepth 100000
set_option maxHeartbeats 4000000
/-! raise, and calls that raise. -/
namespace L2
open PySem PySem.Spec PyProof.Rows PySem.W
abbrev bmV : List Value := [.type "ValueError", .type "Exception", .type "BaseException", .type "object"]
/-- an exception class of the text -/
structure ExK (K : Frag) (mg : Str → Option Value) (x : Str) (c : Addr) : Prop where
  at_ : mg x = some (.ref c)
  exc : excIn K c bmV "ValueError.__new__" = true
theorem exc_obj {K : Frag} {h : Heap} {c : Addr} {l : List Value} {id : String} (XI : K.In h) (qq : excIn K c l id = true) :
    ∃ tl nsA n1 n2 b1 b2 b3 b4 b5 b6 b7 s0 s1 s2 s3 s5 mm, h.get? c = some (excClassObj n1 n2 c nsA b1 tl b2 b3 b4 b5 b6 b7 s0 s1 s2 s3 s5 id) ∧ h.Ns nsA mm ∧ mm "__init__" = none ∧ OwnTail h l tl := by
  unfold excIn at qq
  cases hl : K.lookup c with
  | none => rw [hl] at qq; cases qq
  | some ob =>
    rw [hl] at qq
    obtain ⟨oc, od, da, slt⟩ := ob
    split at qq
    · rename_i dct cda slA heq
      cases heq
      split at qq
      · rename_i cc tl e0 e1 e2 e3 idn e5 hm1 hm2
        simp only [Bool.and_eq_true, beq_iff_eq, Bool.not_eq_true'] at qq
        obtain ⟨⟨⟨⟨⟨r1, r2⟩, r3⟩, r4⟩, r5⟩, r6⟩ := qq
        subst r1 r2
        obtain ⟨f1, f2, f3, f4, f5, f6, f7, f8, f9, f10, f11⟩ := cda
        simp only at hm1 r3 r5 r6
        subst hm1 r3
        obtain ⟨sll⟩ := slt
        simp only at hm2
        subst hm2
        exact ⟨tl, f4, f1, f5, f2, f6, f7, f8, f9, f10, _, _, _, _, _, _, _, XI _ _ hl, .of_isNs (isNs_of_in XI r5), nsMap_none_of_in XI r5 r6, tail_of_in XI r4⟩
      · cases qq
    · cases qq
section
variable {X : Cx} {pins : List (Addr × Obj)} {σ : St} {H : Hp} {s : Shared} {x : Str} {c : Addr} {e : Expr} {es : List Expr} {t : TA} {p pos cpos : Pos}
def tRaise (X : Cx) (c : Addr) (t : TA) : TS := fun _ σ H => t σ H fun vs H1 => vs.length ≤ 1000 ∧ ∃ XP : Addr → Prop, Flies X XP H1 ∧ XP c
/-- raise x(e) -/
theorem ps_raise (hc : X.calm = true) (hg : Gl X x) (ek : ExK X.K X.mg x c) (ha : PA X (e :: es) t) (hdb : (x == ("__debug__" : Str)) = false := by decide)
    (he : starEach (e :: es) X.env = (false, eval e X.env) :: starEach es X.env := by rfl) (hpl : (backTo cpos (starEach es X.env)).any (·.1) = false := by rfl) :
    PS X (.Raise (some (.Call (.Name x p) (e :: es) [] cpos)) none pos) (tRaise X c t) := by
  intro pins s σ H D I h
  obtain ⟨tl, nsA, n1, n2, b1, b2, b3, b4, b5, b6, b7, s0, s1, s2, s3, s5, mm, hC, hN, hni, hT⟩ := exc_obj I.ok.mod.kin ek.exc
  refine wpAny_Raise_call_subT (C := c) (nm := n1) (q := n2) (N := nsA) (bs := b1) (bm := tl) (hdct := b2) (sn := b3) (sub := b4) (ab := b5) (col := b6) (dd := b7) (k0 := s0) (k1 := s1) (k2 := s2) (k3 := s3) (k5 := s5)
    PySem.F.excBase_ValueError (mN := mm) (hT.hasType PySem.F.excBase_ValueError.hasBase) (I.ok.hd hc) (by rw [he]; show (false || (backTo cpos (starEach es X.env)).any (·.1)) = false; rw [hpl]; rfl) hni (ld_glob I hg ek.at_ ⟨rfl, ?_⟩ hdb)
  have q := ha cpos pins s σ H _ I h
  rw [he] at q ⊢
  refine Calls.evalArgs_plain (wpAny_mono q (fun us s2 ⟨vs, H2, I2, r, hz, XP, hF, hx⟩ => ⟨rfl, ?_, I2.bk _ _ hC, hN.keeps I2.bk, hT.keeps I2.bk, fun h' a hm => ?_⟩) fun _ _ z => z)
  · show us.length ≤ sizeLine
    rw [← r.length]
    exact Nat.le_trans hz (by decide)
  · exact hF.made pins σ H2 s2 h' a c us I2 (fun _ _ z => z) hx hm
variable {k : Nat} {f C : Addr} {fd : FuncData} {ps : List Str} {sp : Sp} {Q : VK} {us : List Value} {vs : List V} {m : Str} {o : Expr} {ta : TE} {apos : Pos}
abbrev XE (XP : Addr → Prop) : XK := fun cls _ _ => ∃ c, cls = .ref c ∧ XP c
theorem run_fnX {XP : Addr → Prop} (F : FnOk X.prog X.w X.K X.mg X.base (CXf X.prog X.w) k f fd ps sp) (hr : Room k X.A) (hb : Binds X.K fd ps []) (hF : FlyC X XP H) (I : Inv X pins σ H s) (r : Vals vs us) (h : sp vs H Q (XE XP)) :
    wpAny (model X.prog X.w) X.A (call (.ref f) us) (EP X pins σ Q) X.xe s := by
  have hl : us.length = ps.length := by rw [← r.length]; exact F.len _ _ _ _ h
  have hb' := hb s us I.kIn (by rw [List.append_nil]; exact hl)
  rw [List.append_nil] at hb'
  refine wpAny_call (codeAny_mono (F.run X.A X.stack s H ⟨us, []⟩ us vs Q (XE XP) hr I.env0 hb' r h) fun r s' hq => ?_)
  cases r with
  | error e => exact hF.fly pins σ H s e s' I (fun _ _ z => z) hq
  | ok fl =>
    cases fl with
    | ret u => exact I.after hq
    | next => exact False.elim hq
    | brk => exact False.elim hq
    | cont => exact False.elim hq
def tCallX (X : Cx) (sp : Sp) (t : TA) : TE := fun σ H Q => t σ H fun vs H1 => ∃ XP : Addr → Prop, FlyC X XP H1 ∧ sp vs H1 Q (XE XP)
theorem pe_callX (F : FnOk X.prog X.w X.K X.mg X.base (CXf X.prog X.w) k f fd ps sp) (hr : Room k X.A) (hg : Gl X x) (hm : X.mg x = some (.ref f)) (hk : PySem.W.keepIn X.K (.ref f) = true) (hb : Binds X.K fd ps [])
    (ha : PA X (e :: es) t) (hdb : (x == ("__debug__" : Str)) = false := by decide) (he : starEach (e :: es) X.env = (false, eval e X.env) :: starEach es X.env := by rfl) (hpl : (backTo pos (starEach es X.env)).any (·.1) = false := by rfl) :
    PE X (.Call (.Name x p) (e :: es) [] pos) (tCallX X sp t) := by
  intro pins s σ H Q I h
  refine wpAny_Call_Name_kw (ld_glob I hg hm ?_ hdb)
  refine PySem.W.callWith_K (h₀ := X.base) I.ok.mod.kin hk (thn (ha pos pins s σ H _ I h) fun us s1 ⟨vs, H1, I1, r, XP, hF, q⟩ => ⟨I1.kIn, ?_⟩) he hpl
  exact run_fnX F hr hb hF I1 r q
def tMakeX (X : Cx) (C : Addr) (sp : Sp) (t : TA) : TE := fun σ H Q => t σ H fun vs H1 => ∃ XP : Addr → Prop, FlyC X XP H1 ∧ ∀ x dx, H1 x = none → H1 dx = none → dx ≠ x →
  sp (.ref x :: vs) (upd (upd H1 dx (.own x)) x (.ins C dx [])) (fun v H2 => v = .non ∧ Q (.ref x) H2) (XE XP)
theorem pe_makeX (M : Mk X.K C f) (F : FnOk X.prog X.w X.K X.mg X.base (CXf X.prog X.w) k f fd ps sp) (hr : Room (k + 1) X.A) (hg : Gl X x) (hm : X.mg x = some (.ref C)) (hb : Binds X.K fd ps [])
    (ha : PA X (e :: es) t) (hdb : (x == ("__debug__" : Str)) = false := by decide) (he : starEach (e :: es) X.env = (false, eval e X.env) :: starEach es X.env := by rfl) (hpl : (backTo pos (starEach es X.env)).any (·.1) = false := by rfl) :
    PE X (.Call (.Name x p) (e :: es) [] pos) (tMakeX X C sp t) := by
  intro pins s σ H Q I h
  refine wpAny_Call_Name_kw (ld_glob I hg hm ?_ hdb)
  refine PySem.W.callWith_K (h₀ := X.base) I.ok.mod.kin M.kp (thn (ha pos pins s σ H _ I h) fun us s1 ⟨vs, H1, I1, r, XP, hF, q⟩ => ⟨I1.kIn, ?_⟩) he hpl
  have hq := q (s1.heap.objs.size + 1) s1.heap.objs.size (I1.hok.fresh (Nat.le_succ _)) (I1.hok.fresh (Nat.le_refl _)) (Nat.ne_of_lt (Nat.lt_succ_self _))
  have I2 := Inv.made (C := C) I1
  have r2 : Vals (V.ref (s1.heap.objs.size + 1) :: vs) (Value.ref (s1.heap.objs.size + 1) :: us) := .cons rfl r
  have hl : (Value.ref (s1.heap.objs.size + 1) :: us).length = ps.length := by
    have e := r2.length
    rw [F.len _ _ _ _ hq] at e
    exact e.symm
  have hb' := hb _ (Value.ref (s1.heap.objs.size + 1) :: us) I2.kIn (by rw [List.append_nil]; exact hl)
  rw [List.append_nil] at hb'
  refine wpAny_call (make_map (f := f) I1.kIn M.makes M.init (beq_iff_eq.mp M.fn) (codeAny_mono (F.run _ X.stack _ _ ⟨Value.ref (s1.heap.objs.size + 1) :: us, []⟩ (Value.ref (s1.heap.objs.size + 1) :: us) _ _ (XE XP) (hr.make C us [])
    (I2.env0.make C us []) hb' r2 hq) fun r s' hq' => ?_))
  cases r with
  | error e => exact hF.fly pins σ _ _ e s' I2 (fun b u z => by rw [upd_ne (ne_of_none z (I1.hok.fresh (Nat.le_succ _))), upd_ne (ne_of_none z (I1.hok.fresh (Nat.le_refl _)))]; exact z) hq'
  | ok fl =>
    cases fl with
    | ret u =>
      obtain ⟨v, H', I3, rv, ev, q3⟩ := I2.after hq'
      subst ev
      exact ⟨rv, ⟨V.ref (s1.heap.objs.size + 1), H', I3, rfl, q3⟩⟩
    | next => exact False.elim hq'
    | brk => exact False.elim hq'
    | cont => exact False.elim hq'
end
end L2

set_option Elab.async false
set_option linter.all false
set_option maxRecDepth 100000
set_option maxHeartbeats 4000000
/-! Over data: what raises. -/
namespace L2.DL
open PySem PySem.Spec PyProof.Rows PySem.W
abbrev TR := List D → Str → Prop
def nmX (mg : Str → Option Value) (x : Str) : Addr → Prop := fun c => mg x = some (.ref c)
def spR (K : Frag) (C : Addr) (mg : Str → Option Value) (T : TR) : Sp := fun vs H _ E => ∃ S ds x, Dom H S ∧ RepA K C (less H S) ds vs ∧ T ds x ∧ ∀ c H', mg x = some (.ref c) → Same H H' → E (.ref c) none H'
def rEx (X : Cx) (x : Str) (C : Addr) (t : DT1) : TE := fun σ H Q => rE X.K C t σ H Q ∧ FlyC X (nmX X.mg x) H
def DEx (C : Addr) (X : Cx) (x : Str) (e : Expr) (t : DT1) : Prop := PE X e (rEx X x C t)
def rSx (X : Cx) (x : Str) (C : Addr) (t : DTS) : TS := fun D0 σ H => ∃ H0 S0 S env DD, SOk X.K C H0 S0 H S σ env ∧ t DD env ∧ EndsOk X.K C H0 S0 DD D0 ∧ Flies X (nmX X.mg x) H0
def DSx (C : Addr) (X : Cx) (x : Str) (st : Stmt) (t : DTS) : Prop := PS X st (rSx X x C t)
def DSsx (C : Addr) (X : Cx) (x : Str) (st : List Stmt) (t : DTS) : Prop := PSs X st (rSx X x C t)
def DnR (P : Program) (w : World) (K : Frag) (mg : Str → Option Value) (base : Heap) (x : Str) (ps : List Str) (k : Nat) (sp : Sp) : Prop :=
  ∃ f fd, FnOk P w K mg base (CXf P w) k f fd ps sp ∧ mg x = some (.ref f) ∧ keepIn K (.ref f) = true ∧ Binds K fd ps []
def DnIR (P : Program) (w : World) (K : Frag) (mg : Str → Option Value) (base : Heap) (C : Addr) (x : Str) (ps : List Str) (k : Nat) (sp : Sp) : Prop :=
  ∃ f fd, FnOk P w K mg base (CXf P w) k f fd ps sp ∧ mg x = some (.ref C) ∧ Mk K C f ∧ Binds K fd ps []
section
variable {C : Addr} {X : Cx} {x y : Str} {a b c e o : Expr} {es : List Expr} {st : Stmt} {sts sts2 : List Stmt} {ta tb tc te : DT1} {t : DTA} {tt : DTT} {u w : DTS} {pos apos p cpos : Pos}
theorem dex_of (h : DE C X e te) : DEx C X x e te := peW h fun σ H Q z => z.1
theorem dex_or (h : DEx C X x e ta) (h' : DEx C X x e tb) : DEx C X x e (fun env Q => ta env Q ∨ tb env Q) := fun pins s σ H Q I ⟨⟨S, env, P, h1, h2, h3⟩, hF⟩ => by
  rcases h2 with h2 | h2
  · exact h pins s σ H Q I ⟨⟨S, env, P, h1, h2, h3⟩, hF⟩
  · exact h' pins s σ H Q I ⟨⟨S, env, P, h1, h2, h3⟩, hF⟩
def dCallR (T : TR) (x : Str) (t : DTA) : DT1 := fun env _ => t env fun ds => T ds x
def dMakeR (T : TR) (x : Str) (t : DTA) : DT1 := fun env _ => t env fun ds => ∀ a, T (.cls a :: ds) x
theorem spR_of {T : TR} {K : Frag} {mg : Str → Option Value} {H : Hp} {S : Addr → Prop} {ds : List D} {vs : List V} {Q : VK} (dm : Dom H S) (r : RepA K C (less H S) ds vs) (hT : T ds x) : spR K C mg T vs H Q (XE (nmX mg x)) :=
  ⟨S, ds, x, dm, r, hT, fun c H' hc _ => ⟨c, rfl, hc⟩⟩
theorem dex_dn {T : TR} {ps : List Str} {k k' : Nat} (Df : DnR X.prog X.w X.K X.mg X.base y ps k (spR X.K C X.mg T)) (hr : Room k' X.A) (hg : Gl X y) (ha : DA C X (e :: es) t) (hk : k ≤ k' := by decide)
    (hdb : (y == ("__debug__" : Str)) = false := by decide) (he : starEach (e :: es) X.env = (false, eval e X.env) :: starEach es X.env := by rfl) (hpl : (backTo pos (starEach es X.env)).any (·.1) = false := by rfl) :
    DEx C X x (.Call (.Name y p) (e :: es) [] pos) (dCallR T x t) := by
  obtain ⟨f, fd, F, hm, hkp, hb⟩ := Df
  refine peW (pe_callX (F.mono hk) hr hg hm hkp hb ha hdb he hpl) fun σ H Q ⟨⟨S, env, P, h1, h2, h3⟩, hF⟩ => ?_
  exact ⟨S, env, _, h1, h2, fun ds hd vs H' e rv => ⟨nmX X.mg x, hF.mono e, spR_of (h1.dom.mono e) rv hd⟩⟩
theorem dex_make {T : TR} {ps : List Str} {k k' : Nat} (q : CrK X.K C) (Df : DnIR X.prog X.w X.K X.mg X.base C y ps k (spR X.K C X.mg T)) (hr : Room (k' + 1) X.A) (hg : Gl X y) (ha : DA C X (e :: es) t) (hk : k ≤ k' := by decide)
    (hdb : (y == ("__debug__" : Str)) = false := by decide) (he : starEach (e :: es) X.env = (false, eval e X.env) :: starEach es X.env := by rfl) (hpl : (backTo pos (starEach es X.env)).any (·.1) = false := by rfl) :
    DEx C X x (.Call (.Name y p) (e :: es) [] pos) (dMakeR T x t) := by
  obtain ⟨f, fd, F, hm, M, hb⟩ := Df
  refine peW (pe_makeX M (F.mono hk) hr hg hm hb ha hdb he hpl) fun σ H Q ⟨⟨S, env, P, h1, h2, h3⟩, hF⟩ => ?_
  refine ⟨S, env, _, h1, h2, fun ds hd vs H' e rv => ⟨nmX X.mg x, hF.mono e, fun x' dx hx hdx hne => ?_⟩⟩
  have sm0 : Same H' (upd (upd H' dx (.own x')) x' (.ins C dx [])) := fun b o e => by
    rw [upd_ne (ne_of_none e hx), upd_ne (ne_of_none e hdx)]
    exact e
  exact spR_of ((h1.dom.mono e).mono sm0) (repA_cons rep_cls (RepA.mono (same_less sm0) _ _ rv)) (hd x')
/-! ### statements -/
theorem dsx_of (h : DS C X st u) : DSx C X x st u := psW h fun D0 σ H ⟨H0, S0, S, env, DD, h1, h2, h3, _⟩ => ⟨H0, S0, S, env, DD, h1, h2, h3⟩
theorem dssx_of (h : DSs C X sts u) : DSsx C X x sts u := pssW h fun D0 σ H ⟨H0, S0, S, env, DD, h1, h2, h3, _⟩ => ⟨H0, S0, S, env, DD, h1, h2, h3⟩
theorem dssx_cons (h1 : DSx C X x st w) (h2 : DSsx C X x sts u) : DSsx C X x (st :: sts) (dSeq w u) := pssW (pss_cons h1 h2) fun D0 σ H ⟨H0, S0, S, env, DD, h1, h2, h3, hF⟩ =>
  ⟨H0, S0, S, env, _, h1, h2, ⟨fun env S σ H hx hs => ⟨H0, S0, S, env, DD, hs, hx, h3, hF⟩, h3.rt, h3.bk, h3.ct, h3.rf⟩, hF⟩
theorem dssx_one (h1 : DSx C X x st w) : DSsx C X x [st] w := pss_one h1
theorem dsx_if (hc : DB C X c tt) (ha : DSsx C X x sts u) (hb : DSsx C X x sts2 w) : DSx C X x (.If c sts sts2 pos) (dIfS tt u w) := psW (ps_if hc ha hb) fun D0 σ H ⟨H0, S0, S, env, DD, h1, h2, h3, hF⟩ =>
  ⟨S, env, _, h1.e, h2, fun d hd H' e => by
    cases d with
    | true => exact ⟨H0, S0, S, env, DD, h1.mono e, hd, h3, hF⟩
    | false => exact ⟨H0, S0, S, env, DD, h1.mono e, hd, h3, hF⟩⟩
theorem dsx_expr (he : DEx C X x e te) (hs : swapsWith e none pos.line X.env = pure false := by rfl) : DSx C X x (.Expr e pos) (dDo te) := psW (ps_expr he hs) fun D0 σ H ⟨H0, S0, S, env, DD, h1, h2, h3, hF⟩ =>
  ⟨⟨S, env, _, h1.e, h2, fun d hd v H' e rv => h3.nx _ _ _ _ hd (h1.mono e)⟩, hF.c.mono h1.same⟩
def dRaise (y x : Str) (t : DTA) : DTS := fun _ env => t env fun ds => ds.length ≤ 1000 ∧ y = x
theorem dsx_raise {c : Addr} (hc : X.calm = true) (hg : Gl X y) (ek : ExK X.K X.mg y c) (ha : DA C X (e :: es) t) (hdb : (y == ("__debug__" : Str)) = false := by decide)
    (he : starEach (e :: es) X.env = (false, eval e X.env) :: starEach es X.env := by rfl) (hpl : (backTo cpos (starEach es X.env)).any (·.1) = false := by rfl) :
    DSx C X x (.Raise (some (.Call (.Name y p) (e :: es) [] cpos)) none pos) (dRaise y x t) := psW (ps_raise hc hg ek ha hdb he hpl) fun D0 σ H ⟨H0, S0, S, env, DD, h1, h2, h3, hF⟩ =>
  ⟨S, env, _, h1.e, h2, fun ds hd vs H' e rv => ⟨by rw [← repA_len rv]; exact hd.1, nmX X.mg x, hF.mono (h1.same.trans e), by unfold nmX; rw [← hd.2]; exact ek.at_⟩⟩
theorem dsx_for {tg iter : Expr} {g : DTG} (hp : PassesOwn (model X.prog X.w) X.A X.env X.xe) (hc : X.calm = true) (hi : DI C X tg iter t) (hg : DG C X tg g) (hb : DSsx C X x sts u)
    (hs : ∀ x, foldedSetIterable iter X.env x = pure x := by intro _; rfl) : DSx C X x (.For tg iter sts [] pos) (dFor t g u) := psW (ps_for hp hc hi hg hb hs) fun D0 σ H ⟨H0, S0, S, env, DD, h1, h2, h3, hF⟩ => by
  refine ⟨S, env, _, h1.e, h2, fun items ⟨α, xs, enc, Pv, hit, p0, turn, fin⟩ J H1 e J1 => ?_⟩
  subst hit
  obtain ⟨G, k1, hG, back, backS, backN⟩ := loop_base (h1.mono e)
  have hFG : Flies X (nmX X.mg x) G := hF.mono (backS (Same.refl _))
  rw [← hG] at J1
  have hlen : (xs.map enc).length = xs.length := List.length_map _
  refine ⟨fun i m σ H => m = xs.length - i ∧ i ≤ xs.length ∧ ∃ S env, SOk X.K C G S0 H S σ env ∧ Pv (xs.take i) env, ⟨xs.length, by simp, Nat.zero_le _, S, env, k1, p0⟩, ?_⟩
  rintro i m σ2 H2 ⟨rfl, hi, S2, env2, k2, p2⟩
  have pr := k2.prot
  by_cases hlt : i < xs.length
  · refine .inr ⟨J1.go i H2 S2 pr (by omega), fun σ' H' => ∃ S env, SOk X.K C G S0 H' S σ' env ∧ Pv (xs.take (i + 1)) env, fun σ' H' z => ⟨xs.length - (i + 1), by omega, rfl, hlt, z⟩, fun x H' y => ?_⟩
    obtain ⟨d, e1, s1, r⟩ := J1.yld i H2 S2 x H' k2.e.dom pr (by omega) y
    rw [List.getElem?_map, List.getElem?_eq_getElem hlt] at e1
    cases e1
    have tk : xs.take (i + 1) = xs.take i ++ [xs[i]] := by rw [List.take_append_getElem]
    refine ⟨G, S0, S2, env2, _, _, k2.mono s1, r, turn _ _ _ env2 (split_at hlt) p2, fun env' z σ' H'' S' k' => ⟨G, S0, S', env', _, k', z, ⟨fun env'' S'' σ'' H3 hx hs => ⟨S'', env'', hs, by rw [tk]; exact hx⟩, fun d v H3 hr hs rv => h3.rt d v H3 hr (backS hs) rv,
      fun env'' S'' σ'' H3 hx hs => h3.nx _ _ _ _ hx (back hs), fun env'' S'' σ'' H3 hx hs => ⟨S'', env'', hs, by rw [tk]; exact hx⟩, fun ds p xs H3 hd hs hp hl rv => h3.rf ds p xs H3 hd (backS hs) (backN hp) hl rv⟩, hFG⟩⟩
  · have e' : i = xs.length := by omega
    subst e'
    rw [List.take_length] at p2
    exact .inl ⟨J1.stop _ H2 S2 pr (by omega), h3.nx _ _ _ _ (fin env2 p2) (back k2)⟩
end
/-! ### a def that raises -/
section
variable {P : Program} {w : World} {K : Frag} {mg : Str → Option Value} {base : Heap} {C : Addr}
theorem fn_r {y qual : Str} {st : Stmt} {f : Addr} {fd : FuncData} {N ps : List Str} {k : Nat} {T : TR} (F : Fun K y qual st f fd) (Sc : FnScope N ps (defScope st)) (len : ∀ ds x, T ds x → ds.length = ps.length)
    (hbody : ∀ (x : Str) (cdv : Value) (A : Around) (outer : List Env) (s : Shared) (H : Hp) (E : XK), Room k (A.deeper (envOfC qual (defScope st) s.heap.objs.size f cdv)) →
      ∃ t, DSsx C (cxOf (CXf P w) P w K mg base N qual (defScope st) f cdv A outer s H E) x (defBody st) t ∧ ∀ ds, T ds x → t { nx := fun _ => False, rt := fun _ => False } (startE N ds)) : FnOk P w K mg base (CXf P w) (k + 1) f fd ps (spR K C mg T) := by
  obtain ⟨oc, od, kV, doc, pm, an, cdv, ct, osl, rfl, lk, hcd⟩ := F.ex
  refine fn_of lk hcd Sc (fun vs H Q E h => ?_) fun A outer s H vs Q E hr hsp => ?_
  · obtain ⟨S, ds, x, dm, r, hT, _⟩ := h
    rw [← repA_len r]
    exact len ds x hT
  · obtain ⟨S, ds, x, dm, r, hT, kE⟩ := hsp
    obtain ⟨t, h1, h2⟩ := hbody x cdv A outer s H E hr
    refine ⟨_, h1, H, S, S, startD N ds, { nx := fun _ => False, rt := fun _ => False }, start_ok dm r, ?_, ⟨fun _ _ _ _ z => z.elim, fun _ _ _ z => z.elim, fun _ _ _ _ z => z.elim, fun _ _ _ _ z => z.elim, fun _ _ _ _ z => z.elim⟩, Flies.body fun c H' hc sm => kE c H' hc sm⟩
    rw [← startE_eq N ds (by rw [len ds x hT]; exact FnScope.le Sc)]
    exact h2 ds hT
end
end L2.DL

set_option Elab.async false
set_option linter.all false
set_option maxRecDepth 100000
set_option maxHeartbeats 4000000
/-! A comprehension in which something raises. -/
namespace L2
open PySem PySem.Spec PyProof.Rows PySem.W
section
variable {X : Cx} {pins : List (Addr × Obj)} {σ : St} {H₂ : Hp} {scope : Scope} {x : Str} {N' : List Str} {caps : List Nat} {XP : Addr → Prop}
-- CORE --
end
end L2

set_option Elab.async false
set_option linter.all false
set_option maxRecDepth 100000
set_option maxHeartbeats 4000000
/-! Over data: a comprehension that raises at some item. -/
namespace L2.DL
open PySem PySem.Spec PyProof.Rows PySem.W
section
variable {C : Addr} {X : Cx} {x : Str} {te : DT1} {t : DTA} {pos : Pos} {scope : Scope} {xv : Str} {N' : List Str} {caps : List Nat} {elt iter : Expr} {px : Pos}
end
end L2.DL

set_option Elab.async false
set_option linter.all false
set_option maxRecDepth 100000
set_option maxHeartbeats 4000000
/-! try, except .. as .. -/
namespace L2
open PySem PySem.Spec PyProof.Rows PySem.W
abbrev cxTry (X : Cx) (pn : List (Addr × Obj)) (E : Value → Shared → Prop) : Cx := { X with pn := pn, xe := E }
abbrev cxEx (X : Cx) (pn : List (Addr × Obj)) (a : Addr) (oe : Obj) (E : Value → Shared → Prop) : Cx := { X with A := X.A.mark (some (.ref a)), calm := false, pn := (a, oe) :: pn, xe := E }
section
variable {X : Cx} {pins pn : List (Addr × Obj)} {σ : St} {H : Hp} {s : Shared} {E : Value → Shared → Prop}
theorem ok_try (ok : X.Ok) : (cxTry X pn E).Ok :=
  ⟨ok.mod, ok.kind, ok.glob, ok.blt, ok.above, ok.inj, ok.has, ok.cab, ok.hd, ok.frames, ok.stk, ok.exf, ok.bs, ok.bsz, ok.noex, ok.exfs, ok.funs, ok.frf⟩
theorem ok_ex {a : Addr} {oe : Obj} (ok : X.Ok) : (cxEx X pn a oe E).Ok :=
  ⟨ok.mod, ok.kind, ok.glob, ok.blt, ok.above, ok.inj, ok.has, ok.cab, (fun z => by cases z), ok.frames, ok.stk, ok.exf, ok.bs, ok.bsz, ok.noex, ok.exfs, ok.funs, ok.frf⟩
theorem inv_to_try (I : Inv X pins σ H s) : Inv (cxTry X (X.pn ++ pins) E) [] σ H s :=
  ⟨ok_try I.ok, I.os, I.bare, I.base, I.loc, I.cell, I.free, I.freeC, fun p hp => I.pin p (by simpa using hp), I.hok, I.len⟩
theorem inv_of_try {pins' : List (Addr × Obj)} (ok : X.Ok) (I : Inv (cxTry X (X.pn ++ pins) E) pins' σ H s) : Inv X pins σ H s :=
  ⟨ok, I.os, I.bare, I.base, I.loc, I.cell, I.free, I.freeC, fun p hp => I.pin p (List.mem_append_left _ hp), I.hok, I.len⟩
theorem inv_to_ex {a : Addr} {oe : Obj} {pins' : List (Addr × Obj)} {E' : Value → Shared → Prop} (I : Inv (cxTry X pn E) pins' σ H s) (ha : s.heap.get? a = some oe ∧ H a = none ∧ a ≠ X.env.locals ∧ a ∉ X.fs ∧ ∀ v, oe.data ≠ .cell v) (ok : X.Ok) : Inv (cxEx X pn a oe E') [] σ H s :=
  ⟨ok_ex ok, I.os, I.bare, I.base, I.loc, I.cell, I.free, I.freeC, fun p hp => by
    have hp' : p ∈ ((a, oe) :: pn) ++ [] := hp
    rw [List.append_nil] at hp'
    rcases List.mem_cons.mp hp' with z | z
    · rw [z]; exact ha
    · exact I.pin p (List.mem_append_left _ z), I.hok, I.len⟩
theorem inv_of_ex {a : Addr} {oe : Obj} {pins' : List (Addr × Obj)} (ok : X.Ok) (I : Inv (cxEx X (X.pn ++ pins) a oe E) pins' σ H s) : Inv X pins σ H s :=
  ⟨ok, I.os, I.bare, I.base, I.loc, I.cell, I.free, I.freeC, fun p hp => I.pin p (List.mem_append_left _ (List.mem_cons_of_mem _ hp)), I.hok, I.len⟩
/-- the name of an except clause goes -/
theorem name_goes {M : Model} {A : Around} {i : Nat} {x : Str} {pos : Pos} {Q : Unit → Shared → Prop} (I : Inv X pins σ H s) (hN : X.N.Nodup) (hi : X.N[i]? = some x) (hk : X.env.scope.names.lookup x = some .local)
    (h : ∀ s', Inv X pins (σ.set i none) H s' → Q () s') : wpAny M A (do bindName X.env x .none; unbindBehindTheSuite X.env x pos) Q E s := by
  obtain ⟨m, hn, hl⟩ := id I.loc
  have hcls : (X.env.scope.kind == .class || (X.env.scope.kind == .module && X.env.locals != X.env.globals)) = false := by rw [I.ok.kind]; rfl
  have cne := I.cne
  have nlo : ∀ b o, X.s₀.heap.get? b = some o → b ≠ X.env.locals := fun b o e => Nat.ne_of_lt (Nat.lt_of_lt_of_le (Heap.lt_size e) I.ok.above)
  refine wpAny_nameGoes_keeps hk hn hcls fun h' v hn' hs => ?_
  refine h _ ⟨I.ok, I.os, I.bare, ⟨fun b o e n hb hx => ?_, fun b o e n hb hx => ?_, I.base.free, fun b o e hx => ?_, I.base.tups, I.base.frzs, I.base.tbls⟩, ⟨_, hn', fun j y v' e1 e2 e3 => ?_⟩, fun y c e => ?_, I.free, I.freeC, fun p hp => ?_, fun b ob e => ?_, by simpa using I.len⟩
  · exact (hs.2 b (nlo b o e)).trans (I.base.keep b o e n hb hx)
  · obtain ⟨sl, e1⟩ := I.base.slot b o e n hb hx
    exact ⟨sl, (hs.2 b (nlo b o e)).trans e1⟩
  · obtain ⟨o', e1⟩ := I.base.there b o e hx
    exact ⟨o', (hs.2 b (nlo b o e)).trans e1⟩
  · by_cases hj : i = j
    · subst hj
      rw [List.getElem?_set] at e2
      rw [if_pos rfl] at e2
      split at e2 <;> cases e2
    · rw [List.getElem?_set_ne hj] at e2
      obtain ⟨u', r', q⟩ := hl j y v' e1 e2 e3
      refine ⟨u', r', ?_⟩
      rcases q with ⟨k, e⟩ | ⟨k, c, e, z⟩
      · have : y ≠ x := fun z => hj (nodup_ix hN (z ▸ hi) e1)
        exact .inl ⟨k, by simp [this, e]⟩
      · exact .inr ⟨k, c, e, z.sameBut hs (cne y c e)⟩
  · obtain ⟨w', z⟩ := I.cell y c e
    exact ⟨w', z.sameBut hs (cne y c e)⟩
  · obtain ⟨e, n, ne, nf, d⟩ := I.pin p hp
    exact ⟨(hs.2 p.1 ne).trans e, n, ne, nf, d⟩
  · refine (I.hok b ob e).stay (fun c w' hc q => (hs.2 c ?_).trans q) (fun _ q => q) fun _ _ q => q
    rintro rfl
    rcases hc with rfl | hc
    · rw [I.free] at e; cases e
    · rw [I.free] at hc; cases hc
/-- what the suite of the clause is to reach -/
def exEnds (D : Ends) (i : Nat) : Ends := { nx := fun σ H => D.nx (σ.set i none) H, rt := D.rt, bk := fun σ H => D.bk (σ.set i none) H, ct := fun σ H => D.ct (σ.set i none) H }
theorem ps_try {tb ts : Cx → TS} {body suite : List Stmt} {b0 : Stmt} {tn en : Str} {np hpos pos : Pos} {i : Nat} {cT : Addr} (hs : X.stack = X.env :: X.outer) (hst : X.env.frame = some X.env.locals) (hN : X.N.Nodup) (hi : X.N[i]? = some en) (hk : X.env.scope.names.lookup en = some .local)
    (hg : Gl X tn) (hm : X.mg tn = some (.ref cT)) (hb : ∀ pn E, PSs (cxTry X pn E) body (tb (cxTry X pn E))) (hsu : ∀ pn a oe E, PSs (cxEx X pn a oe E) (b0 :: suite) (ts (cxEx X pn a oe E))) (hd : (tn == ("__debug__" : Str)) = false := by decide) :
    PS X (.Try body [.ExceptHandler (some (.Name tn np)) (some en) (b0 :: suite) hpos] [] [] pos) (fun D σ H => ∃ XP : Addr → Prop, (∀ c, XP c → exmOne X.K (.ref c) (.ref cT) = some true) ∧
      (∀ pn E, FlyC (cxTry X pn E) XP H → tb (cxTry X pn E) D σ H) ∧
      ∀ c, XP c → ∀ (pn : List (Addr × Obj)) (a : Addr) (oe : Obj) (E : Value → Shared → Prop) (σ' : St) (H' : Hp), oe.cls = .ref c → (∃ vs, oe.data = .fields vs) → (∀ b u, H b = some u → H' b = some u) → H' a = none → σ'.length = X.N.length → ts (cxEx X pn a oe E) (exEnds D i) (σ'.set i (some (.ref a))) H') := by
  intro pins s σ H D I ⟨XP, hx, hbd, hh⟩
  have hfr : X.A.frames = some (X.env :: X.outer) := by rw [← hs]; exact I.ok.frames
  refine wpAny_Try_except (wpAny_mono (hb (X.pn ++ pins) _ [] s σ H D (inv_to_try I) (hbd _ _ ⟨fun pins' σ' H' s1 e s' J sm hq => ?_⟩)) (fun f s1 q => ?_) fun _ _ z => z)
  · obtain ⟨a, c, a0, B, Hn, rfl, os, bare, F, fl, c', ec, hc⟩ := hq
    cases ec
    have fl0 := fl
    have fl : Heap.FlyingW B (X.env :: X.outer) a (.ref c) a0 s'.heap := by rw [← hs]; exact fl0
    refine wpAny_looks_onW hfr hst fl fun h2 held up2 => ?_
    refine wpAny_landsW held fun h3 fl3 up3 => ?_
    have up : s'.heap.UpToSlots h3 := up2.trans up3
    have F3 := F.on (fun b hb => (fl0.2.2.1.mem hb).2) fl3.1 fun b _ o z1 z2 => up b o z1 z2
    have J3 := J.call' (H' := Hn) (s' := { s' with heap := h3 }) (ch := []) os F3.un F3.hok bare (fun b z => absurd z (by simp))
    obtain ⟨oe, vs, hoe, hoc, hod, _⟩ := fl3.first
    have hna : Hn a = none := by
      cases q : Hn a with
      | none => rfl
      | some u => have := F3.trk a u oe q hoe; rw [fl3.2.1] at this; cases this
    have hal : a ≠ X.env.locals := fun z => by
      obtain ⟨m, ⟨oL, es, ep, hoL, hdL, _⟩, _⟩ := J3.loc
      have hoL' : h3.get? X.env.locals = some oL := hoL
      rw [← z, hoe] at hoL'
      rw [← Option.some.inj hoL'] at hdL
      rw [hod] at hdL
      cases hdL
    have haf : a ∉ X.fs := fun z => by
      have z' : a ∈ frs (X.env :: X.outer) := by unfold frs; rw [List.filterMap_cons, hst]; exact List.mem_cons_of_mem _ z
      obtain ⟨_, o, ho, hd⟩ := fl3.2.2.1.mem z'
      rw [hoe] at ho
      exact hd vs (by rw [← Option.some.inj ho]; exact hod)
    have hpin : h3.get? a = some oe ∧ Hn a = none ∧ a ≠ X.env.locals ∧ a ∉ X.fs ∧ ∀ v, oe.data ≠ .cell v := ⟨hoe, hna, hal, haf, fun v z => by rw [hod] at z; cases z⟩
    have LT : Looks (model X.prog X.w) h3 (typeOf (.ref a)) (.ref c) := hoc ▸ (Looks.ld hoe).andThen .now
    refine wpAny_handleBy_cons (codeAny_handlers_test ?_) (by intro q; cases q)
    refine ld_glob (X := cxEx X (X.pn ++ pins) a oe fun _ _ => False) (inv_to_ex J3 hpin I.ok) hg hm ?_ hd
    refine (exm_one (J3.kIn) LT (hx c hc)).here ?_
    refine codeAny_handlers_suite_as ?_
    refine lands_againW fl3 fun h4 fl4 up4 => ?_
    have F4 := F.on (fun b hb => (fl0.2.2.1.mem hb).2) fl4.1 fun b _ o z1 z2 => (up.trans up4) b o z1 z2
    have J4 := J.call' (H' := Hn) (s' := { s' with heap := h4 }) (ch := []) os F4.un F4.hok bare (fun b z => absurd z (by simp))
    obtain ⟨oe4, vs4, hoe4, hoc4, hod4, _⟩ := fl4.first
    have haf4 : ∀ v, oe4.data ≠ .cell v := fun v z => by rw [hod4] at z; cases z
    refine store_ok (X := cxEx X (X.pn ++ pins) a oe4 fun _ _ => False) (i := i) (inv_to_ex J4 ⟨hoe4, hna, hal, haf, haf4⟩ I.ok) hN hi (.inl hk) (v := .ref a) rfl (fun s5 I5 => ?_) (.inr hk)
    refine wpAny_mono (hsu (X.pn ++ pins) a oe4 (fun _ _ => False) [] s5 _ Hn (exEnds D i) I5 (hh c hc _ a oe4 _ σ' Hn hoc4 ⟨vs4, hod4⟩ (fun b u z => F.same b u (sm b u z)) hna J.len)) (fun f s6 q6 => ?_) fun _ _ z => False.elim z
    cases f with
    | next =>
      obtain ⟨σ6, H6, I6, q⟩ := q6
      exact name_goes (inv_of_ex I.ok I6) hN hi hk fun s7 I7 => ⟨_, H6, I7, q⟩
    | brk =>
      obtain ⟨σ6, H6, I6, q⟩ := q6
      exact name_goes (inv_of_ex I.ok I6) hN hi hk fun s7 I7 => ⟨_, H6, I7, q⟩
    | cont =>
      obtain ⟨σ6, H6, I6, q⟩ := q6
      exact name_goes (inv_of_ex I.ok I6) hN hi hk fun s7 I7 => ⟨_, H6, I7, q⟩
    | ret u =>
      obtain ⟨v, σ6, H6, I6, r, q⟩ := q6
      exact name_goes (inv_of_ex I.ok I6) hN hi hk fun s7 I7 => ⟨v, _, H6, I7, r, q⟩
  · cases f with
    | next =>
      obtain ⟨σ6, H6, I6, q⟩ := q
      exact wpAny_execs_nil ⟨σ6, H6, inv_of_try I.ok I6, q⟩
    | brk =>
      obtain ⟨σ6, H6, I6, q⟩ := q
      exact ⟨σ6, H6, inv_of_try I.ok I6, q⟩
    | cont =>
      obtain ⟨σ6, H6, I6, q⟩ := q
      exact ⟨σ6, H6, inv_of_try I.ok I6, q⟩
    | ret u =>
      obtain ⟨v, σ6, H6, I6, r, q⟩ := q
      exact ⟨v, σ6, H6, inv_of_try I.ok I6, r, q⟩
end
end L2

set_option Elab.async false
set_option linter.all false
set_option maxRecDepth 100000
set_option maxHeartbeats 4000000
/-! isinstance of a caught exception. -/
namespace L2
open PySem PySem.Spec PySem.Calls PyProof.Rows PySem.W Builtin Builtin.ObjectAttr Builtin.Getset_descriptor
section
variable {prog : Program} {w : World} {A : Around} {E : Value → Shared → Prop} {R : Result → Shared → Prop} {s : Shared} {K : Frag} {x D : Addr}
theorem xc_get {tp : Value} (XI : K.In s.heap) (LX : ∀ M, Looks M s.heap (typeOf (.ref x)) (.ref D)) (hm : mroIn K D (.type "object") = some true)
    (h : R (.ok (.ret (.ref D))) s) : codeAny (model prog w) A (.call (.builtin "getset_descriptor.__get__") ⟨[.builtin "object.__class__", .ref x, tp], []⟩) R s := by
  obtain ⟨hh, gg, dr, tt, oo⟩ := s
  have L0 := LX (model prog w)
  have L1 := looks_mroIn (M := model prog w) XI hm
  refine codeAny_call_builtin KF.slot_gs.plain KF.entry_gs (KF.slot_gs.check _ _ _ _ _ _ _ _ KF.type_class (KF.args_gs _ _ _) ?_)
  unfold Builtin.«getset_descriptor.__get__»; unfold descrGet; rw [dga_obj]
  refine wpAny_bind (wpAny_pure ?_)
  unfold descrGetter; unfold descrCheckInstance; unfold descrNameAndClass; unfold isInstance
  simp only [KF.owner_class]
  repeat lk
  refine ⟨Code.quiet_builtin _ (by decide +kernel), codeAny_builtin KF.entry_class ?_⟩
  unfold Builtin.«object.__class__»; unfold shownTypeOf
  repeat lk
  exact h
/-- the facts of an exception class that isinstance needs -/
structure ExI (K : Frag) (D : Addr) : Prop where
  cls : (clsIn K D).isSome = true
  ga : findIn K (.ref D) "__getattribute__" = some (some (.builtin "BaseException.__getattribute__"))
  hk : findIn K (.ref D) "__getattr__" = some none
  at_ : findIn K (.ref D) "__class__" = some (some (.builtin "object.__class__"))
  gt : specialIn K (.builtin "object.__class__") "__get__" = some (some (.builtin "getset_descriptor.__get__"))
  tk : takesIn K (.builtin "object.__class__") = some true
  ob : mroIn K D (.type "object") = some true
  be : mroIn K D (.type "BaseException") = some true
theorem xc_find {M : Model} {h : Heap} (XI : K.In h) (q : ExI K D) : Looks M h (find (.ref x) (.ref D) "__class__") (.bind (.builtin "getset_descriptor.__get__") (.builtin "object.__class__")) := by
  have L1 := looks_findIn (M := M) XI q.at_
  have L2 := looks_specialIn (M := M) XI q.gt
  have L3 := looks_takesIn (M := M) XI q.tk
  have L2' : Looks M h (getOf (some (.builtin "object.__class__"))) (some (.builtin "getset_descriptor.__get__")) := L2
  refine L1.andThen (L2'.andThen ?_)
  exact (show Looks M h (dataDescriptor? (some (.builtin "object.__class__")) (some (.builtin "getset_descriptor.__get__"))) (some (.builtin "getset_descriptor.__get__", .builtin "object.__class__")) from L3.andThen .now).andThen (Looks.tag .now)
theorem xc_entry {tk : Tok} {Q : Fin → Shared → Prop} (XI : K.In s.heap) (LX : ∀ M, Looks M s.heap (typeOf (.ref x)) (.ref D)) (q : ExI K D) (h : Q (.done (.ret (.ref D))) s) :
    wpAny (model prog w) A (Builtin.«object.__getattribute__» ⟨[.ref x, .str "__class__" tk], []⟩) Q E s := by
  obtain ⟨hh, gg, dr, tt, oo⟩ := s
  have L0 := LX (model prog w)
  have L1 := xc_find (M := model prog w) (x := x) XI q
  unfold Builtin.«object.__getattribute__»
  iterate 14 lk
  refine wpAny_bind (L0.at (wpAny_bind (L1.at ?_)))
  show wpAny _ _ (holding [.builtin "object.__class__"] (call (.builtin "getset_descriptor.__get__") [.builtin "object.__class__", .ref x, .ref D]) >>= ret) _ _ _
  exact wpAny_bind (wpAny_holding (wpAny_call (xc_get (s := ⟨hh, gg, dr, tt, oo⟩) XI LX q.ob (wpAny_pure h))))
theorem xc_call {tk : Tok} (XI : K.In s.heap) (LX : ∀ M, Looks M s.heap (typeOf (.ref x)) (.ref D)) (q : ExI K D) (h : R (.ok (.ret (.ref D))) s) :
    codeAny (model prog w) A (.call (.builtin "BaseException.__getattribute__") ⟨[.ref x, .str "__class__" tk], []⟩) R s := by
  refine codeAny_call_builtin PySem.F.attrBase_ValueError.ga.plain PySem.F.entry_bexc_ga ?_
  obtain ⟨hh, gg, dr, tt, oo⟩ := s
  have L0 := LX (model prog w)
  have L1 := looks_mroIn (M := model prog w) XI q.be
  have hk1 : builtinKind "BaseException.__getattribute__" = some .slot := by decide +kernel
  have hk2 : splitId "BaseException.__getattribute__" = some ("BaseException", "__getattribute__") := by decide +kernel
  have ha := PySem.F.args_bexc_ga (.ref x) (.str "__class__" tk)
  simp only [checkBuiltinCall, hk1, hk2]
  refine wpAny_bind ((show Looks (model prog w) hh (isInstance (.ref x) (.type "BaseException")) true from L0.andThen L1).at ?_)
  simp only [Bool.not_true, Bool.false_eq_true, if_false]
  exact wpAny_of_eq (a := ()) ha (xc_entry (s := ⟨hh, gg, dr, tt, oo⟩) XI LX q h)
theorem xc_class {Q : Option Value → Shared → Prop} (XI : K.In s.heap) (LX : ∀ M, Looks M s.heap (typeOf (.ref x)) (.ref D)) (q : ExI K D) (h : Q (some (.ref D)) { s with toks := s.toks + 1 }) : wpAny (model prog w) A (getAttr? (.ref x) "__class__") Q E s := by
  obtain ⟨hh, gg, dr, tt, oo⟩ := s
  have L0 := LX (model prog w)
  have L1 := looks_findIn (M := model prog w) XI q.ga
  have L2 := looks_findIn (M := model prog w) XI q.hk
  have hb := PySem.F.attrBase_ValueError.ga.bind (.ref x)
  unfold getAttr?; unfold getAttrBy?; unfold getAttrBy
  refine wpAny_bind (wpAny_mkText (wpAny_bind (wpAny_attempt (wpAny_holding (wpAny_bind (L0.at (wpAny_bind (L1.at ?_))))))))
  dsimp only
  have hne : (Value.builtin "BaseException.__getattribute__" == Value.builtin "object.__getattribute__") = false := by decide +kernel
  rw [if_neg (by rw [hne, Bool.and_false]; exact Bool.false_ne_true)]
  unfold getAttrByItsOwn hookBefore
  simp only [onTheHeap, if_true]
  refine wpAny_bind (L2.at (wpAny_bind (wpAny_attempt (wpAny_holding ?_))))
  unfold callGetattribute boundAndCalled
  simp only [Bool.false_and, Bool.false_eq_true, if_false]
  rw [hb]
  refine wpAny_bind (wpAny_pure ?_)
  refine wpAny_call (xc_call (s := ⟨hh, gg, dr, tt + 1, oo⟩) XI LX q ?_)
  exact wpAny_of_eq (a := .ref D) rfl (wpAny_pure h)
/-- isinstance of an exception of the class at D -/
theorem xc_kit {oe : Obj} (hc : oe.cls = .ref D) (q : ExI K D) : KitX K (.ref x) (.ref D) (fun h => h.get? x = some oe) where
  ty := fun M h _ p => hc ▸ (Looks.ld p).andThen .now
  it := fun _ _ XI _ => by
    obtain ⟨cdD, hcD⟩ := Option.isSome_iff_exists.mp q.cls
    unfold clsIn at hcD
    split at hcD
    · rename_i ho
      intro A' Q' E' s' k z
      unfold isType loadHead
      exact wpAny_bind (wpAny_loadPart (k _ _ (XI _ _ ho)) (wpAny_pure z))
    · cases hcD
  ne := fun h tp dd its n sl XI htp => by
    obtain ⟨cdD, hcD⟩ := Option.isSome_iff_exists.mp q.cls
    refine Bool.eq_false_iff.mpr fun z => ?_
    have e : D = tp := Value.ref.inj (beq_iff_eq.mp z)
    subst e
    unfold clsIn at hcD
    split at hcD
    · rename_i ho
      have y := (XI _ _ ho).symm.trans htp
      cases y
    · cases hcD
  ca := fun XI p k => xc_class XI (fun M => hc ▸ (Looks.ld p).andThen .now) q k
end
end L2

set_option Elab.async false
set_option linter.all false
set_option maxRecDepth 100000
set_option maxHeartbeats 4000000
/-! Over data: try, except .. as .., isinstance of what was caught. -/
namespace L2.DL
open PySem PySem.Spec PyProof.Rows PySem.W
section
variable {C : Addr} {X : Cx} {x : Str} {e : Expr} {te : DT1} {t : DTA} {pos p : Pos} {st : Stmt}
def rSc (X : Cx) (x : Str) (C : Addr) (t : DTS) : TS := fun D0 σ H => ∃ H0 S0 S env DD, SOk X.K C H0 S0 H S σ env ∧ t DD env ∧ EndsOk X.K C H0 S0 DD D0 ∧ FlyC X (nmX X.mg x) H
/-- an exception's class as a value -/
theorem de_clsN {y : Str} {c : Addr} (hg : Gl X y) (hm : X.mg y = some (.ref c)) (hd : (y == ("__debug__" : Str)) = false := by decide) : DE C X (.Name y pos) (dC (.cls c)) :=
  de_of_c (pe_glob (v := .ref c) hg hm rfl hd) fun _ => rep_cls
def rcInstX (K : Frag) (a : Addr) (oe : Obj) : List D → (D → Prop) → Prop := fun xs Q => ∃ D0 b, oe.cls = .ref D0 ∧ ExI K D0 ∧ ((∃ c, xs = [.cls a, .cls c] ∧ kitOne K (.ref D0) (.ref c) = some b) ∨ (∃ n, xs = [.cls a, .ty n] ∧ kitOne K (.ref D0) (.type n) = some b)) ∧ Q (.bl b)
theorem call_instX {pn : List (Addr × Obj)} {a : Addr} {oe : Obj} {E : Value → Shared → Prop} : CallR (cxEx X pn a oe E) (.builtin "isinstance") (fun xs H Q => ∃ D0 c u b, oe.cls = .ref D0 ∧ ExI X.K D0 ∧ xs = [.ref a, c] ∧ RelV c u ∧ (∀ u', RelV c u' → u' = u) ∧ kitOne X.K (.ref D0) u = some b ∧ Q (.bl b) H) := by
  intro pins s σ H xs us Q I r hh
  obtain ⟨D0, c, u, b, hc, q, e, ru, hu, hk, hQ⟩ := hh
  subst e
  obtain ⟨v, w', rfl, rx, rc⟩ := vals2 r
  cases rx
  rw [hu w' rc]
  have hp := (I.pin (a, oe) (List.mem_append_left _ List.mem_cons_self)).1
  exact kia_one (xc_kit hc q) I.kIn hp hk (fun z => nomatch z) fun tk => ⟨.bl b, H, I.tok tk, rfl, hQ⟩
theorem l_instX {pn : List (Addr × Obj)} {a : Addr} {oe : Obj} {E : Value → Shared → Prop} : LiftN (cxEx X pn a oe E).K C (fun xs H Q => ∃ D0 c u b, oe.cls = .ref D0 ∧ ExI X.K D0 ∧ xs = [.ref a, c] ∧ RelV c u ∧ (∀ u', RelV c u' → u' = u) ∧ kitOne X.K (.ref D0) u = some b ∧ Q (.bl b) H) (rcInstX X.K a oe) := by
  intro H S ds vs P Q dm r ⟨D0, b, hc, q, h, hQ⟩ k
  have kf := k.flat hQ (rep_bl (K := X.K) (C := C) (H := less H S))
  rcases h with ⟨c, rfl, hk⟩ | ⟨n, rfl, hk⟩
  · obtain ⟨v, w, rfl, r1, r2⟩ := repA_two r
    unfold Rep at r1 r2
    subst r1 r2
    exact ⟨D0, .ref c, .ref c, b, hc, q, rfl, rfl, fun u' z => z, hk, kf⟩
  · obtain ⟨v, w, rfl, r1, r2⟩ := repA_two r
    unfold Rep at r1 r2
    subst r1 r2
    exact ⟨D0, .ty n, .type n, b, hc, q, rfl, rfl, fun u' z => z, hk, kf⟩
theorem SOk.goes {K : Frag} {H0 H : Hp} {S0 S : Addr → Prop} {σ : L2.St} {env : En} (h : SOk K C H0 S0 H S σ env) (i : Nat) : SOk K C H0 S0 H S (σ.set i none) (env.set i none) := by
  have g : ∀ {j : Nat} {sv : SV}, (env.set i none)[j]? = some (some sv) → i ≠ j ∧ env[j]? = some (some sv) := fun {j sv} z => by
    rcases set_get z with ⟨_, e, _⟩ | ⟨n, z⟩
    · cases e
    · exact ⟨n, z⟩
  refine ⟨⟨by rw [List.length_set, List.length_set]; exact h.e.len, fun j sv z => ?_, fun j k p ds es h1 h2 => h.e.inj j k p ds es (g h1).2 (g h2).2, h.e.dom⟩, h.same, h.sub, h.hid, fun j p ds z => h.own j p ds (g z).2, h.dom0⟩
  obtain ⟨n, z⟩ := g z
  rw [List.getElem?_set_ne n]
  exact h.e.slot j sv z
theorem rep_none {n : Nat} {i j : Nat} {d : D} {sv : SV} (z : ((List.replicate n (none : Option SV)).set i (some (.sh d)))[j]? = some (some sv)) : i = j ∧ sv = .sh d ∧ i < n := by
  rcases set_get z with ⟨q, e, l⟩ | ⟨q, z⟩
  · exact ⟨q, (Option.some.inj e).symm, by simpa using l⟩
  · rw [List.getElem?_replicate] at z
    split at z <;> cases z
/-- what the suite of the clause starts from -/
theorem SOk.caught {K : Frag} {H0 H H' : Hp} {S0 S : Addr → Prop} {σ σ' : L2.St} {env : En} {n i : Nat} {a : Addr} (h : SOk K C H0 S0 H S σ env) (sm : Same H H') (hl : σ'.length = n) : SOk K C H0 S0 H' S (σ'.set i (some (.ref a))) ((List.replicate n none).set i (some (.sh (.cls a)))) := by
  refine ⟨⟨by rw [List.length_set, List.length_set, List.length_replicate]; exact hl, fun j sv z => ?_, fun j k p ds es z1 _ => ?_, h.e.dom.mono sm⟩, h.same.trans sm, h.sub, h.hid, fun j p ds z1 => ?_, h.dom0⟩
  · obtain ⟨rfl, rfl, hi⟩ := rep_none z
    refine ⟨.ref a, ?_, rep_cls (K := K) (C := C) (H := less H' S)⟩
    rw [List.getElem?_set, if_pos rfl, if_pos (by omega)]
  · have := (rep_none z1).2.1
    cases this
  · have := (rep_none z1).2.1
    cases this
def caughtD (DD : DEnds) (i : Nat) : DEnds := { nx := fun env => DD.nx (env.set i none), rt := DD.rt, bk := fun env => DD.bk (env.set i none), ct := fun env => DD.ct (env.set i none), rf := DD.rf }
def dTry (K : Frag) (mg : Str → Option Value) (cT : Addr) (n i : Nat) (u0 : DTS) (uX : Str → DTS) (us : Addr → Obj → DTS) : DTS := fun DD env => u0 DD env ∨ ∃ x, uX x DD env ∧ ∀ c, mg x = some (.ref c) → exmOne K (.ref c) (.ref cT) = some true ∧
  ∀ (a : Addr) (oe : Obj), oe.cls = .ref c → us a oe (caughtD DD i) ((List.replicate n none).set i (some (.sh (.cls a))))
theorem ds_try {suite : List Stmt} {b0 : Stmt} {tn en : Str} {np hpos : Pos} {i n : Nat} {cT : Addr} {u0 : DTS} {uX : Str → DTS} {us : Addr → Obj → DTS} (hs : X.stack = X.env :: X.outer) (hst : X.env.frame = some X.env.locals) (hN : X.N.Nodup) (hn : X.N.length = n) (hi : X.N[i]? = some en) (hk : X.env.scope.names.lookup en = some .local)
    (hg : Gl X tn) (hm : X.mg tn = some (.ref cT)) (h0 : ∀ pn E, DS C (cxTry X pn E) st u0) (hX : ∀ pn E x, PS (cxTry X pn E) st (rSc (cxTry X pn E) x C (uX x))) (hsu : ∀ pn a oe E, DSs C (cxEx X pn a oe E) (b0 :: suite) (us a oe)) (hd : (tn == ("__debug__" : Str)) = false := by decide) :
    DS C X (.Try [st] [.ExceptHandler (some (.Name tn np)) (some en) (b0 :: suite) hpos] [] [] pos) (dTry X.K X.mg cT n i u0 uX us) := by
  refine psW (ps_try (tb := fun Y D0 σ H => rS Y.K C u0 D0 σ H ∨ ∃ x, rSc Y x C (uX x) D0 σ H) (ts := fun Y D0 σ H => ∃ a oe, rS Y.K C (us a oe) D0 σ H ∧ ∃ pn E, Y = cxEx X pn a oe E) (i := i) hs hst hN hi hk hg hm (fun pn E => ?_) (fun pn a oe E => ?_) hd) fun D0 σ H ⟨H0, S0, S, env, DD, h1, h2, h3⟩ => ?_
  · refine pss_one fun pins s σ H D0 I q => ?_
    rcases q with q | ⟨x, q⟩
    · exact h0 pn E pins s σ H D0 I q
    · exact hX pn E x pins s σ H D0 I q
  · intro pins s σ H D0 I ⟨a', oe', q, pn', E', hY⟩
    have ha : (a, oe) = (a', oe') := by
      have := congrArg Cx.pn hY
      exact (List.cons.inj this).1
    cases ha
    exact hsu pn a oe E pins s σ H D0 I q
  · rcases h2 with h2 | ⟨x, h2, h4⟩
    · exact ⟨fun _ => False, fun _ z => z.elim, fun pn E _ => .inl ⟨H0, S0, S, env, DD, h1, h2, h3⟩, fun _ z => z.elim⟩
    · refine ⟨nmX X.mg x, fun c hc => (h4 c hc).1, fun pn E hF => .inr ⟨x, H0, S0, S, env, DD, h1, h2, h3, hF⟩, fun c hc pn a oe E σ' H' e1 _ sm ha hl => ⟨a, oe, ⟨H0, S0, S, _, caughtD DD i, h1.caught sm (hl.trans hn), (h4 c hc).2 a oe e1, ?_⟩, pn, E, rfl⟩⟩
      exact ⟨fun env' S' σ2 H2 z k => h3.nx _ _ _ _ z (k.goes i), h3.rt, fun env' S' σ2 H2 z k => h3.bk _ _ _ _ z (k.goes i), fun env' S' σ2 H2 z k => h3.ct _ _ _ _ z (k.goes i), h3.rf⟩
end
end L2.DL

set_option Elab.async false
set_option linter.all false
set_option maxRecDepth 100000
set_option maxHeartbeats 4000000
/-! What is written while an exception is noted leaves every record's third field. -/
namespace L2
open PySem PySem.Spec PyProof.Rows PySem.W
def F2 (h : Heap) (a : Addr) (v : Value) : Prop := ∃ o vs, h.get? a = some o ∧ o.data = .fields vs ∧ vs[2]? = some v
def Pr2 (f : Obj → Obj) : Prop := ∀ o vs v, o.data = .fields vs → vs[2]? = some v → ∃ vs', (f o).data = .fields vs' ∧ vs'[2]? = some v
def q2 {α : Type} : Sem α → Prop
  | .pure _ => True
  | .raise _ => True
  | .unsupported _ => True
  | .finish _ => True
  | .rule _ k => q2 (k ())
  | .at _ k => q2 (k ())
  | .load _ _ k => ∀ o, q2 (k o)
  | .update _ _ f k => Pr2 f ∧ q2 (k ())
  | .alloc _ k => ∀ a, q2 (k a)
  | .loadIfAlive _ k => ∀ o, q2 (k o)
  | .point _ k => q2 (k ())
  | .fresh k => ∀ t, q2 (k t)
  | .ask k => ∀ t, q2 (k t)
  | .handled _ k => ∀ t, q2 (k t)
  | .stack k => ∀ t, q2 (k t)
  | .thread k => ∀ t, q2 (k t)
  | _ => False
theorem q2_bind {α β : Type} {m : Sem α} {f : α → Sem β} (h : q2 m) (hf : ∀ a, q2 (f a)) : q2 (m >>= f) := by
  show q2 (m.bind f)
  induction m with
  | pure a => exact hf a
  | raise e => trivial
  | unsupported w => trivial
  | finish e => trivial
  | rule t k ih => exact ih () h
  | «at» p k ih => exact ih () h
  | load a p k ih => exact fun o => ih o (h o)
  | update a p g k ih => exact ⟨h.1, ih () h.2⟩
  | alloc o k ih => exact fun o => ih o (h o)
  | loadIfAlive a k ih => exact fun o => ih o (h o)
  | point l k ih => exact ih () h
  | register a k ih => exact False.elim h
  | fresh k ih => exact fun o => ih o (h o)
  | ask k ih => exact fun o => ih o (h o)
  | choose s n k ih => exact False.elim h
  | os r l k ih => exact False.elim h
  | call c hh g l k ih => exact False.elim h
  | handled o k ih => exact fun o => ih o (h o)
  | newGen c k ih => exact False.elim h
  | genState g k ih => exact False.elim h
  | resume g r l k ih => exact False.elim h
  | yield v g l k ih => exact False.elim h
  | stack k ih => exact fun o => ih o (h o)
  | fork c k ih => exact False.elim h
  | thread k ih => exact fun o => ih o (h o)
  | await a t ti l k ih => exact False.elim h
def Up2 (h h' : Heap) : Prop := ∀ a v, F2 h a v → F2 h' a v
theorem up2_update {h : Heap} {a : Addr} {f : Obj → Obj} (p : Pr2 f) : Up2 h (h.update a f) := fun b v ⟨o, vs, e, d, z⟩ => by
  by_cases hb : a = b
  · subst hb
    obtain ⟨vs', d', z'⟩ := p o vs v d z
    exact ⟨f o, vs', Heap.get?_update_self _ e (Obj.isFreed_of_fields d'), d', z'⟩
  · exact ⟨o, vs, (Heap.get?_update_other _ _ hb).trans e, d, z⟩
theorem up2_push {h : Heap} {o : Obj} : Up2 h (h.push o) := fun b v ⟨ob, vs, e, d, z⟩ => ⟨ob, vs, Heap.get?_push_of_some _ e, d, z⟩
theorem q2_wp {α : Type} {M : Model} {Γ : PySem.Ctx} {h0 : Heap} {m : Sem α} : ∀ {Q : α → Pos → Shared → Prop} {E : Value → Pos → Shared → Prop} {p : Pos} {s : Shared}, q2 m → Up2 h0 s.heap → Sem.wp M Γ m Q E p s →
    Sem.wp M Γ m (fun x p s' => Q x p s' ∧ Up2 h0 s'.heap) (fun x p s' => E x p s' ∧ Up2 h0 s'.heap) p s := by
  induction m with
  | pure a => intro Q E p s h u w; exact ⟨w, u⟩
  | raise e => intro Q E p s h u w; exact ⟨w, u⟩
  | unsupported w => intro Q E p s h u w; exact w
  | finish e => intro Q E p s h u w; exact w
  | rule t k ih => intro Q E p s h u w; exact ih () h u w
  | «at» p k ih => intro Q E p s h u w; exact ih () h u w
  | load a p k ih =>
    intro Q E p s h u w
    obtain ⟨o, e, w⟩ := w
    exact ⟨o, e, ih o (h o) u w⟩
  | update a p g k ih =>
    intro Q E p s h u w
    exact ⟨w.1, ih () h.2 (fun b v z => up2_update h.1 b v (u b v z)) w.2⟩
  | alloc o k ih => intro Q E p s h u w; exact ih _ (h _) (fun b v z => up2_push b v (u b v z)) w
  | loadIfAlive a k ih => intro Q E p s h u w; exact ih _ (h _) u w
  | point l k ih => intro Q E p s h u w; exact ih () h u w
  | register a k ih => intro Q E p s h u w; exact False.elim h
  | fresh k ih => intro Q E p s h u w; exact ih _ (h _) u w
  | ask k ih => intro Q E p s h u w; exact ih _ (h _) u w
  | choose s n k ih => intro Q E p s h u w; exact False.elim h
  | os r l k ih => intro Q E p s h u w; exact False.elim h
  | call c hh g l k ih => intro Q E p s h u w; exact False.elim h
  | handled o k ih => intro Q E p s h u w; exact ih _ (h _) u w
  | newGen c k ih => intro Q E p s h u w; exact False.elim h
  | genState g k ih => intro Q E p s h u w; exact False.elim h
  | resume g r l k ih => intro Q E p s h u w; exact False.elim h
  | yield v g l k ih => intro Q E p s h u w; exact False.elim h
  | stack k ih => intro Q E p s h u w; exact ih _ (h _) u w
  | fork c k ih => intro Q E p s h u w; exact False.elim h
  | thread k ih => intro Q E p s h u w; exact ih _ (h _) u w
  | await a t ti l k ih => intro Q E p s h u w; exact False.elim h
theorem q2_any {α : Type} {M : Model} {A : Around} {m : Sem α} {Q : α → Shared → Prop} {E : Value → Shared → Prop} {s : Shared} (h : q2 m) (w : wpAny M A m Q E s) :
    wpAny M A m (fun x s' => Q x s' ∧ Up2 s.heap s'.heap) (fun x s' => E x s' ∧ Up2 s.heap s'.heap) s := fun Γ p hΓ => q2_wp h (fun _ _ z => z) (w Γ p hΓ)
theorem q2_load {a : Addr} : q2 (load a) := fun _ => trivial
theorem q2_field {v : Value} {i : Nat} : q2 (field v i) := by
  unfold field
  refine q2_bind ?_ fun x => ?_
  · unfold fieldsOf
    cases v <;> first | trivial | skip
    all_goals (refine q2_bind q2_load fun o => ?_; cases o.data <;> trivial)
  · cases x[i]? <;> trivial
theorem pr2_set {i : Nat} {v : Value} (hi : i ≠ 2) : Pr2 (Obj.mapFields (·.setIfInBounds i v)) := fun o vs w d z => ⟨_, Obj.data_mapFields d _, by rw [Array.getElem?_setIfInBounds_ne hi]; exact z⟩
theorem q2_setField {v x : Value} {i : Nat} (hi : i ≠ 2) : q2 (setField v i x) := by
  unfold setField
  cases v <;> first | trivial | skip
  rename_i a
  show q2 (updateField a i x)
  unfold updateField
  refine q2_bind q2_load fun o => ?_
  cases hd : o.data <;> first | trivial | skip
  rename_i vs
  show q2 (if i < vs.size then update a (Obj.mapFields (·.setIfInBounds i x)) else unsupported "internal:no-such-field")
  by_cases h : i < vs.size
  · rw [if_pos h]; exact ⟨pr2_set hi, trivial⟩
  · rw [if_neg h]; trivial
theorem q2_ite {α : Type} {c : Prop} [Decidable c] {a b : Sem α} (ha : q2 a) (hb : q2 b) : q2 (if c then a else b) := by
  by_cases h : c
  · rw [if_pos h]; exact ha
  · rw [if_neg h]; exact hb
theorem q2_setFlight {e : Value} {f : Option Addr} : q2 (setFlight e f) := by
  unfold setFlight
  exact q2_bind q2_field fun tb => q2_ite (q2_setField (by decide)) trivial
theorem q2_ready : ∀ l : List Env, q2 (readyFrames l)
  | [] => trivial
  | env :: outer => by
    unfold readyFrames
    cases env.frame with
    | none => trivial
    | some f =>
      refine q2_bind q2_load fun o => q2_ite trivial (q2_bind ?_ fun im => q2_bind ?_ fun back => q2_bind ⟨fun o vs v d z => ⟨vs, d, z⟩, trivial⟩ fun _ => q2_ready outer)
      · unfold behindIsImport
        refine q2_ite trivial (q2_ite trivial (q2_bind q2_field fun _ => trivial))
      · unfold keptBack
        cases outer with
        | nil =>
          refine q2_ite trivial (q2_bind ?_ fun _ => trivial)
          unfold underTheClaimsCaller
          exact q2_bind (fun _ => trivial) fun _ => trivial
        | cons c r => trivial
theorem q2_entry {n f l fl la : Value} {pl : List Value} : q2 (EntryCells.newEntry n f l fl la pl) := by
  unfold EntryCells.newEntry newFields newObj
  exact q2_ite (q2_bind trivial fun _ => fun _ => trivial) fun _ => trivial
theorem q2_place {f : Addr} {b : Bool} : q2 (entryPlaceOf f b) := by
  unfold entryPlaceOf
  refine q2_bind (fun _ => trivial) fun acts => ?_
  cases (acts.find? fun (c, _) => c.env?.bind (·.frame) == some f) <;> trivial
theorem q2_frameOf {env : Env} : q2 (PySem.frameOf env) := by
  unfold PySem.frameOf
  refine q2_bind (q2_bind (fun _ => trivial) fun _ => trivial) fun acts => q2_bind ?_ fun o => ?_
  · unfold frameObject
    split
    · trivial
    · exact q2_bind (q2_ready _) fun _ => trivial
  · cases o <;> trivial
theorem q2_note {e : Value} {env : Env} : q2 (noteFrame e env) := by
  unfold noteFrame
  cases env.frame with
  | none => trivial
  | some f =>
    refine q2_bind q2_field fun hd => ?_
    have rest : q2 (do setField e 1 (← EntryCells.newEntry hd (← PySem.frameOf env) .none (rawInt f) .none (← entryPlaceOf f (hd != .none)))) :=
      q2_bind q2_frameOf fun _ => q2_bind q2_place fun _ => q2_bind q2_entry fun _ => q2_setField (by decide)
    exact q2_ite (q2_bind q2_field fun _ => q2_ite trivial (q2_bind (q2_setField (by decide)) fun _ => rest)) rest
theorem q2_leaving {e : Value} {env : Env} : q2 (leaving env e) := by
  unfold leaving
  exact q2_bind q2_note fun _ => q2_setFlight
end L2

set_option Elab.async false
set_option linter.all false
set_option maxRecDepth 100000
set_option maxHeartbeats 4000000
/-! An exception leaves a def: what hangs behind it is known. -/
namespace L2
open PySem PySem.Spec PyProof.Rows PySem.W
/-- behind the exception hangs nothing -/
def Chn (h : Heap) (a : Addr) : Prop := F2 h a .none
theorem Chn.up {h h' : Heap} {a : Addr} (u : Up2 h h') (c : Chn h a) : Chn h' a := u _ _ c
theorem made_chn {h h' : Heap} {a : Addr} {cls : Value} {args : List Value} (m : Heap.MadeExcOf h h' a cls args) : Chn h' a := by
  obtain ⟨t, e, _⟩ := m.there
  exact ⟨_, _, e, rfl, rfl⟩
theorem on2 {M : Model} {A : Around} {env : Env} {a : Addr} {Q : Unit → Shared → Prop} {E : Value → Shared → Prop} {s : Shared} (c : Chn s.heap a) (w : wpAny M A (leaving env (.ref a)) (fun x s' => Chn s'.heap a → Q x s') E s) : wpAny M A (leaving env (.ref a)) Q E s :=
  wpAny_mono (q2_any q2_leaving w) (fun _ _ z => z.1 (c.up z.2)) fun _ _ z => z.1
def CXg (P : Program) (w : World) : CXT := fun outer H s E e s' => ∃ (a c : Addr) (a0 : Value) (B : Heap) (Hn : Hp), e = .ref a ∧ s'.os = s.os ∧ AllBare s'.gens ∧ Fl P w (frs outer) H Hn s.heap s'.heap B ∧ Heap.FlyingW B outer a (.ref c) a0 s'.heap ∧ E (.ref c) none Hn ∧ Chn s'.heap a
/-- what a context wants of exceptions of the classes XP: since H -/
structure FlyG (X : Cx) (XP : Addr → Prop) (H : Hp) : Prop where
  fly : ∀ (pins : List (Addr × Obj)) (σ : St) (H' : Hp) (s : Shared) (e : Value) (s' : Shared), Inv X pins σ H' s → (∀ b u, H b = some u → H' b = some u) → CXg X.prog X.w X.stack H' s (fun cls _ _ => ∃ c, cls = .ref c ∧ XP c) e s' → X.xe e s'
structure FliesG (X : Cx) (XP : Addr → Prop) (H : Hp) : Prop where
  made : ∀ (pins : List (Addr × Obj)) (σ : St) (H' : Hp) (s : Shared) (h1 : Heap) (a c : Addr) (args : List Value), Inv X pins σ H' s → (∀ b u, H b = some u → H' b = some u) → XP c → Heap.MadeExcOf s.heap h1 a (.ref c) args → X.xe (.ref a) { s with heap := h1 }
  c : FlyG X XP H
  any : ∀ (s' : Shared) (a c : Addr) (a0 fl : Value) (B : Heap) (Hn : Hp), s'.os = X.s₀.os → AllBare s'.gens → Fl X.prog X.w X.fs X.H₀ Hn X.s₀.heap s'.heap B → B.StaysIn s'.heap → B.get? a = none → s'.heap.FunFrames B X.stack → s'.heap.TracedAtW B a (.ref c) a0 fl → XP c → X.A.frames = some X.stack → Chn s'.heap a → X.xe (.ref a) s'
  hs : X.stack = X.env :: X.outer
  hex : X.ex = []
  hst : X.env.frame = some X.env.locals
  ent : ∀ b u, X.H₀ b = some u → H b = some u
theorem FlyG.mono {X : Cx} {XP : Addr → Prop} {H H' : Hp} (F : FlyG X XP H) (e : ∀ b u, H b = some u → H' b = some u) : FlyG X XP H' :=
  ⟨fun pins σ H2 s x s' I z => F.fly pins σ H2 s x s' I fun b u q => z b u (e b u q)⟩
theorem FliesG.mono {X : Cx} {XP : Addr → Prop} {H H' : Hp} (F : FliesG X XP H) (e : ∀ b u, H b = some u → H' b = some u) : FliesG X XP H' :=
  ⟨fun pins σ H2 s h1 a c args I z => F.made pins σ H2 s h1 a c args I fun b u q => z b u (e b u q), F.c.mono e, F.any, F.hs, F.hex, F.hst, fun b u q => e b u (F.ent b u q)⟩
theorem FliesG.body {P : Program} {w : World} {K : PySem.W.Frag} {mg : Str → Option Value} {base : Heap} {N : List Str} {qual : Str} {scope : Scope} {f : Addr} {cd : Value} {A : Around} {outer : List Env} {s : Shared} {H : Hp} {E : XK} {XP : Addr → Prop}
    (hE : ∀ c H', XP c → (∀ b u, H b = some u → H' b = some u) → E (.ref c) none H') : FliesG (cxOf (CXg P w) P w K mg base N qual scope f cd A outer s H E) XP H := by
  refine ⟨fun pins σ H' s1 h1 a c args I sm hc hx => ?_, ⟨fun pins σ H' s1 e s' I sm hq => ?_⟩, fun s' a c a0 fl B Hn os bare F k1 k2 k3 k4 hc hfr hch => ?_, rfl, rfl, rfl, fun _ _ z => z⟩
  · have F := Fl.made I hx
    have fr : s1.heap.FunFrames (hideAll s1.heap (frs (cxOf (CXg P w) P w K mg base N qual scope f cd A outer s H E).stack)) (envOfC qual scope s.heap.objs.size f cd :: outer) := funFrames_hide I.stack fun env he b hb => List.mem_filterMap.mpr ⟨env, he, hb⟩
    refine on2 (made_chn hx) (wpAny_leaves_madeW I.ok.frames rfl (fun b o q => of_hideAll _ q) fr hx fun h' t fl tp hn up ch => ?_)
    exact ⟨a, c, _, _, _, rfl, I.os, I.bare, F.leave I rfl rfl rfl sm fl.1 up, fl, hE c _ hc sm, ch⟩
  · obtain ⟨a, c, a0, B, Hn, rfl, os, bare, F, fl, ⟨c', ec, hc⟩, ch0⟩ := hq
    cases ec
    refine on2 ch0 (wpAny_leaves_onW I.ok.frames rfl fl fun h' fl' up ch => ?_)
    exact ⟨a, c, a0, B, Hn, rfl, os.trans I.os, bare, F.leave I rfl rfl rfl sm fl'.1 up, fl', hE c _ hc fun b u q => F.same b u (sm b u q), ch⟩
  · refine on2 hch (leaves_any hfr rfl k1 k2 k3 k4 fun h' fl' up ch => ?_)
    exact ⟨a, c, a0, B, Hn, rfl, os, bare, F.on (fun b hb => (k3.mem (by obtain ⟨v, v1, v2⟩ := List.mem_filterMap.mp hb; exact List.mem_filterMap.mpr ⟨v, List.mem_cons_of_mem _ v1, v2⟩)).2) fl'.1 fun b _ o z1 z2 => up b o z1 z2, fl', hE c _ hc F.same, ch⟩
end L2

set_option Elab.async false
set_option linter.all false
set_option maxRecDepth 100000
set_option maxHeartbeats 4000000
/-! raise .. from the exception that is being handled. -/
namespace L2
open PySem PySem.Spec PyProof.Rows PySem.W
/-- an exception class's own object -/
def ExcAt (h : Heap) (c : Addr) : Prop := ∃ nm q N bs bm b2 sn sub ab col dd k0 k1 k2 k3 k5 id, h.get? c = some (excClassObj nm q c N bs bm b2 sn sub ab col dd k0 k1 k2 k3 k5 id) ∧ bm.contains (.type "BaseException") = true
theorem ExcAt.keeps {h h' : Heap} {c : Addr} (x : ExcAt h c) (k : ∀ b o, h.get? b = some o → (∀ vs, o.data ≠ .fields vs) → h'.get? b = some o) : ExcAt h' c := by
  obtain ⟨nm, q, N, bs, bm, b2, sn, sub, ab, col, dd, k0, k1, k2, k3, k5, id, e, z⟩ := x
  exact ⟨nm, q, N, bs, bm, b2, sn, sub, ab, col, dd, k0, k1, k2, k3, k5, id, k _ _ e (fun vs y => by cases y), z⟩
section
variable {prog : Program} {w : World} {A : Around} {E : Value → Shared → Prop} {env : Env} {h : Heap} {g : Array GenState} {d : Drawn} {t : Nat} {os : OsState} {e C a : Addr} {vs : Array Value} {od : Option Addr} {sl : Array (Option Value)}
theorem exc_from {msg : String} {Q : Value → Shared → Prop} (he : h.get? e = some ⟨.ref C, od, .fields vs, sl⟩) (hC : ExcAt h C) (hq : Q (.ref e) ⟨h, g, d, t, os⟩) : wpAny (model prog w) A (excFromValue (.ref e) msg) Q E ⟨h, g, d, t, os⟩ := by
  obtain ⟨nm, q, N, bs, bm, b2, sn, sub, ab, col, dd, k0, k1, k2, k3, k5, id, hC, hb⟩ := hC
  have hcB : (Value.ref C :: bm).contains (.type "BaseException") = true := by rw [List.contains_cons, hb, Bool.or_true]
  unfold excFromValue
  repeat (first | with_reducible refine wpAny_loadPart_at he ?_ | with_reducible refine wpAny_loadPart_at hC ?_ | (with_reducible refine wpAny_isSubtype_exc hC ?_; rw [hcB]) | wp_step)
  exact hq
theorem raised_inst {Q : Value → Shared → Prop} (he : h.get? e = some ⟨.ref C, od, .fields vs, sl⟩) (hC : ExcAt h C) (hq : Q (.ref e) ⟨h, g, d, t, os⟩) : wpAny (model prog w) A (raisedInstance (.ref e)) Q E ⟨h, g, d, t, os⟩ := by
  obtain ⟨nm, q, N, bs, bm, b2, sn, sub, ab, col, dd, k0, k1, k2, k3, k5, id, hC, hb⟩ := hC
  unfold raisedInstance
  repeat (first | with_reducible refine wpAny_loadPart_at he ?_ | with_reducible refine wpAny_loadPart_at hC ?_ | wp_step)
  exact hq
theorem is_type_no {Q : Bool → Shared → Prop} (he : h.get? e = some ⟨.ref C, od, .fields vs, sl⟩) (hq : Q false ⟨h, g, d, t, os⟩) : wpAny (model prog w) A (isType (.ref e)) Q E ⟨h, g, d, t, os⟩ := by
  unfold isType
  repeat (first | with_reducible refine wpAny_loadPart_at he ?_ | wp_step)
  exact hq
theorem entry_unchain : entryFor table "proto.unchain" = some Builtin.«proto.unchain» := entryFor_of_fast (by kernel_rfl)
theorem unchain_none {va : Array Value} {oa : Obj} {Q : Value → Shared → Prop} {v : Value} (ha : h.get? a = some oa) (hd : oa.data = .fields va) (h2 : va[2]? = some .none) (hq : ∀ x, Q x ⟨h, g, d, t, os⟩) :
    wpAny (model prog w) A (runValue (.builtin "proto.unchain" ⟨[v, .ref a, .ref a, .bool false], []⟩)) Q E ⟨h, g, d, t, os⟩ := by
  refine runValue_entry entry_unchain ?_
  unfold Builtin.«proto.unchain»
  dsimp only
  refine wpAny_bind (wpAny_field ha hd h2 ?_)
  rw [if_pos (by decide : (Value.none == Value.none) = true)]
  exact wpAny_pure ⟨.none, rfl, hq _⟩
/-- the heap behind raise e from a -/
def fromHeap (h : Heap) (e a : Addr) : Heap := ((h.update e (Obj.mapFields (·.setIfInBounds 3 (.ref a)))).update e (Obj.mapFields (·.setIfInBounds 4 (.bool true)))).update e (Obj.mapFields (·.setIfInBounds 2 (.ref a)))
theorem upd_get {h : Heap} {e b : Addr} {f : Obj → Obj} (hb : b ≠ e) : (h.update e f).get? b = h.get? b := Heap.get?_update_other _ _ (Ne.symm hb)
theorem from_get {h : Heap} {e a b : Addr} (hb : b ≠ e) : (fromHeap h e a).get? b = h.get? b := by
  unfold fromHeap
  rw [upd_get hb, upd_get hb, upd_get hb]
theorem raise_from {x cs : Sem Value} {Q : Flow → Shared → Prop} {s : Shared} (hh : A.handled = some (.ref a))
    (hx : wpAny (model prog w) A x (fun v s₁ => ∃ (e : Addr) (t0 : Addr), v = .ref e ∧ s₁.heap.get? e = some ⟨.ref C, none, .fields #[.ref t0, .none, .none, .none, .bool false, .none], #[]⟩ ∧ ExcAt s₁.heap C ∧ e ≠ a ∧ C ≠ e ∧
      wpAny (model prog w) A cs (fun cv s₂ => cv = .ref a ∧ s₂ = s₁ ∧ (∃ c od va sl, s₁.heap.get? a = some ⟨.ref c, od, .fields va, sl⟩ ∧ ExcAt s₁.heap c ∧ va[2]? = some .none) ∧ E (.ref e) { s₁ with heap := fromHeap s₁.heap e a }) E s₁) E s) :
    wpAny (model prog w) A (raiseStmt env (some x) (some cs)) Q E s := by
  unfold raiseStmt
  refine wpAny_bind (wpAny_mono hx (fun v s₁ h₁ => ?_) fun _ _ z => z)
  obtain ⟨e, t0, rfl, he, hC, hea, hCe, h₂⟩ := h₁
  refine wpAny_bind (wpAny_holding (wpAny_mono h₂ (fun cv s₂ h₃ => wpAny_bind (wpAny_pure ?_)) fun _ _ z => z))
  obtain ⟨rfl, rfl, ⟨c, od, va, sl, ha, hc, hva⟩, hE⟩ := h₃
  obtain ⟨hp, gg, dd, tt, oo⟩ := s₂
  have ha : hp.get? a = some ⟨.ref c, od, .fields va, sl⟩ := ha
  have he : hp.get? e = some ⟨.ref C, none, .fields #[.ref t0, .none, .none, .none, .bool false, .none], #[]⟩ := he
  have hC : ExcAt hp C := hC
  have hc : ExcAt hp c := hc
  refine wpAny_bind (wpAny_holding (exc_from he hC ?_))
  dsimp only
  rw [if_neg (by simp : ¬ (Value.ref a == Value.none) = true)]
  refine wpAny_bind (wpAny_holding (exc_from ha hc ?_))
  have z1 := Heap.get?_update_self (h := hp) (Obj.mapFields (·.setIfInBounds 3 (.ref a))) he rfl
  have z2 := Heap.get?_update_self (Obj.mapFields (·.setIfInBounds 4 (.bool true))) z1 rfl
  have z3 := Heap.get?_update_self (Obj.mapFields (·.setIfInBounds 2 (.ref a))) z2 rfl
  refine wpAny_bind (wpAny_setField he rfl (show 3 < 6 by decide) ?_)
  refine wpAny_bind (wpAny_setField z1 rfl (show 4 < 6 by decide) ?_)
  refine wpAny_bind (is_type_no z2 ?_)
  rw [if_neg (by decide)]
  have hC2 : ExcAt ((hp.update e (Obj.mapFields (·.setIfInBounds 3 (.ref a)))).update e (Obj.mapFields (·.setIfInBounds 4 (.bool true)))) C := by
    obtain ⟨nm, q, N, bs, bm, b2, sn, sub, ab, col, dd, k0, k1, k2, k3, k5, id, e1, z⟩ := hC
    exact ⟨nm, q, N, bs, bm, b2, sn, sub, ab, col, dd, k0, k1, k2, k3, k5, id, by rw [upd_get hCe, upd_get hCe]; exact e1, z⟩
  have ha2 : ((hp.update e (Obj.mapFields (·.setIfInBounds 3 (.ref a)))).update e (Obj.mapFields (·.setIfInBounds 4 (.bool true)))).get? a = some ⟨.ref c, od, .fields va, sl⟩ := by rw [upd_get (Ne.symm hea), upd_get (Ne.symm hea)]; exact ha
  refine wpAny_bind (raised_inst z2 hC2 ?_)
  refine wpAny_bind ?_
  unfold setFlight
  refine wpAny_bind (wpAny_field z2 rfl (x := .none) rfl ?_)
  rw [if_neg (by decide : ¬ (Value.none != Value.none) = true)]
  refine wpAny_pure ?_
  unfold raiseNew
  refine wpAny_bind (wpAny_handled ?_)
  rw [hh]
  dsimp only
  rw [if_pos (by simp [Ne.symm hea] : (Value.ref a != Value.ref e) = true)]
  refine wpAny_bind (wpAny_holding (unchain_none ha2 rfl hva fun _ => ?_))
  show wpAny _ _ (do setField (.ref e) 2 (.ref a); throw (Value.ref e)) Q E _
  refine wpAny_bind (wpAny_setField z2 rfl (show 2 < 6 by decide) (wpAny_throw ?_))
  exact hE
end
end L2

set_option Elab.async false
set_option linter.all false
set_option maxRecDepth 100000
set_option maxHeartbeats 4000000
/-! try, except .. as .. -/
namespace L2
open PySem PySem.Spec PyProof.Rows PySem.W
section
variable {X : Cx} {pins pn : List (Addr × Obj)} {σ : St} {H : Hp} {s : Shared} {E : Value → Shared → Prop}
/-- the name of an except clause goes -/
theorem name_goes2 {M : Model} {A : Around} {i : Nat} {x : Str} {pos : Pos} {Q : Unit → Shared → Prop} (I : Inv X pins σ H s) (hN : X.N.Nodup) (hi : X.N[i]? = some x) (hk : X.env.scope.names.lookup x = some .local)
    (h : ∀ h' tk, Inv X pins (σ.set i none) H { s with heap := h', toks := tk } → Heap.SameBut X.env.locals s.heap h' → (∃ m, h'.Ns X.env.locals m) → Q () { s with heap := h', toks := tk }) : wpAny M A (do bindName X.env x .none; unbindBehindTheSuite X.env x pos) Q E s := by
  obtain ⟨m, hn, hl⟩ := id I.loc
  have hcls : (X.env.scope.kind == .class || (X.env.scope.kind == .module && X.env.locals != X.env.globals)) = false := by rw [I.ok.kind]; rfl
  have cne := I.cne
  have nlo : ∀ b o, X.s₀.heap.get? b = some o → b ≠ X.env.locals := fun b o e => Nat.ne_of_lt (Nat.lt_of_lt_of_le (Heap.lt_size e) I.ok.above)
  refine wpAny_nameGoes_keeps hk hn hcls fun h' v hn' hs => ?_
  refine h h' _ ⟨I.ok, I.os, I.bare, ⟨fun b o e n hb hx => ?_, fun b o e n hb hx => ?_, I.base.free, fun b o e hx => ?_, I.base.tups, I.base.frzs, I.base.tbls⟩, ⟨_, hn', fun j y v' e1 e2 e3 => ?_⟩, fun y c e => ?_, I.free, I.freeC, fun p hp => ?_, fun b ob e => ?_, by simpa using I.len⟩ hs ⟨_, hn'⟩
  · exact (hs.2 b (nlo b o e)).trans (I.base.keep b o e n hb hx)
  · obtain ⟨sl, e1⟩ := I.base.slot b o e n hb hx
    exact ⟨sl, (hs.2 b (nlo b o e)).trans e1⟩
  · obtain ⟨o', e1⟩ := I.base.there b o e hx
    exact ⟨o', (hs.2 b (nlo b o e)).trans e1⟩
  · by_cases hj : i = j
    · subst hj
      rw [List.getElem?_set] at e2
      rw [if_pos rfl] at e2
      split at e2 <;> cases e2
    · rw [List.getElem?_set_ne hj] at e2
      obtain ⟨u', r', q⟩ := hl j y v' e1 e2 e3
      refine ⟨u', r', ?_⟩
      rcases q with ⟨k, e⟩ | ⟨k, c, e, z⟩
      · have : y ≠ x := fun z => hj (nodup_ix hN (z ▸ hi) e1)
        exact .inl ⟨k, by simp [this, e]⟩
      · exact .inr ⟨k, c, e, z.sameBut hs (cne y c e)⟩
  · obtain ⟨w', z⟩ := I.cell y c e
    exact ⟨w', z.sameBut hs (cne y c e)⟩
  · obtain ⟨e, n, ne, nf, d⟩ := I.pin p hp
    exact ⟨(hs.2 p.1 ne).trans e, n, ne, nf, d⟩
  · refine (I.hok b ob e).stay (fun c w' hc q => (hs.2 c ?_).trans q) (fun _ q => q) fun _ _ q => q
    rintro rfl
    rcases hc with rfl | hc
    · rw [I.free] at e; cases e
    · rw [I.free] at hc; cases hc
end
end L2

set_option Elab.async false
set_option linter.all false
set_option maxRecDepth 100000
set_option maxHeartbeats 4000000
/-! try, and a clause that raises another exception from the one it took. -/
namespace L2
open PySem PySem.Spec PyProof.Rows PySem.W
theorem excAt_of {K : Frag} {h : Heap} {c : Addr} (XI : K.In h) (qq : excIn K c bmV "ValueError.__new__" = true) : ExcAt h c := by
  obtain ⟨tl, nsA, n1, n2, b1, b2, b3, b4, b5, b6, b7, s0, s1, s2, s3, s5, mm, hC, hN, hni, hT⟩ := exc_obj XI qq
  exact ⟨_, _, _, _, _, _, _, _, _, _, _, _, _, _, _, _, _, hC, hT.hasType PySem.F.excBase_ValueError.hasBase⟩
section
variable {X : Cx} {pins pn : List (Addr × Obj)} {σ : St} {H Hn : Hp} {s : Shared} {E : Value → Shared → Prop} {B h1 h' : Heap}
theorem Fl.keptB (I : Inv X pins σ H s) (k : ∀ b o, s.heap.get? b = some o → h1.get? b = some o) : Fl X.prog X.w (frs X.stack) H H s.heap h1 (hideAll s.heap (frs X.stack)) := by
  refine ⟨Un.kept k, I.hok.kept k, fun _ _ e => e, fun b u o e q => ?_, fun b o e n hf => hideAll_get _ e hf⟩
  obtain ⟨o1, e1⟩ := ob_there (I.hok b u e)
  have := k b o1 e1
  rw [q] at this
  cases this
  exact hideAll_get _ e1 fun hf => by
    have := I.stkFree b hf
    rw [e] at this
    cases this
theorem Fl.local {P : Program} {w : World} {fs : List Addr} {H0 : Hp} {h0 : Heap} {L : Addr} (F : Fl P w fs H0 Hn h0 h1 B) (hs : Heap.SameBut L h1 h') (hL : ∀ b o, h0.get? b = some o → b ≠ L) (hn : Hn L = none) : Fl P w fs H0 Hn h0 h' B := by
  refine ⟨⟨fun b o e n hb hx => (hs.2 b (hL b o e)).trans (F.un.keep b o e n hb hx), fun b o e n hb hx => ?_, F.un.free, fun b o e hx => ?_, F.un.tups, F.un.frzs, F.un.tbls⟩, fun b u e => ?_, F.same, fun b u o e q => ?_, F.old⟩
  · obtain ⟨sl, e1⟩ := F.un.slot b o e n hb hx
    exact ⟨sl, (hs.2 b (hL b o e)).trans e1⟩
  · obtain ⟨o', e1⟩ := F.un.there b o e hx
    exact ⟨o', (hs.2 b (hL b o e)).trans e1⟩
  · refine (F.hok b u e).stay (fun c v hc q => (hs.2 c ?_).trans q) (fun _ q => q) fun _ _ q => q
    rintro rfl
    rcases hc with rfl | hc
    · rw [hn] at e; cases e
    · rw [hn] at hc; cases hc
  · refine F.trk b u o e ?_
    rw [← hs.2 b (fun z => by rw [z, hn] at e; cases e)]
    exact q
theorem funFrames_but {L : Addr} {m : Str → Option Value} : ∀ {l : List Env}, h1.FunFrames B l → Heap.SameBut L h1 h' → h'.Ns L m → h'.FunFrames B l
  | [], _, _, _ => trivial
  | env :: r, ⟨k1, ⟨L', o, e1, e2, e3, e4⟩, k3⟩, hs, hn => by
    refine ⟨k1, ?_, funFrames_but k3 hs hn⟩
    by_cases z : L' = L
    · subst z
      obtain ⟨oL, es, ep, hoL, hdL, _⟩ := hn
      exact ⟨L', oL, e1, e2, hoL, fun vs q => by rw [hdL] at q; cases q⟩
    · exact ⟨L', o, e1, e2, (hs.2 L' z).trans e3, e4⟩
theorem traced_but {L a : Addr} {cls a0 fl : Value} {m : Str → Option Value} (x : h1.TracedAtW B a cls a0 fl) (hs : Heap.SameBut L h1 h') (hn : h1.Ns L m) : h'.TracedAtW B a cls a0 fl := by
  obtain ⟨oa, ws, T, ot, us, g1, g2, g4, g5, g6, g7, g8, g9, g10⟩ := x
  have ne : ∀ {b o vs}, h1.get? b = some o → o.data = .fields vs → b ≠ L := fun {b o vs} e d z => by
    obtain ⟨oL, es, ep, hoL, hdL, _⟩ := hn
    rw [z, hoL] at e
    rw [Option.some.inj e, d] at hdL
    cases hdL
  exact ⟨oa, ws, T, ot, us, (hs.2 a (ne g1 g4)).trans g1, g2, g4, g5, g6, g7, (hs.2 T (ne g8 g9)).trans g8, g9, g10⟩
/-- the note of the frame is set: to what -/
theorem setFlight_is {M : Model} {A : Around} {f : Option Addr} {a : Addr} {cls a0 fl : Value} {Q : Unit → Shared → Prop} (kb : B.StaysIn s.heap) {l : List Env} (kl : s.heap.FunFrames B l) (kt : s.heap.TracedAtW B a cls a0 fl)
    (hQ : ∀ h', B.StaysIn h' → h'.FunFrames B l → h'.TracedAtW B a cls a0 (f.elim Value.none fun f => rawInt f) → s.heap.UpToSlots h' → Q () { s with heap := h' }) : wpAny M A (setFlight (.ref a) f) Q E s := by
  obtain ⟨oa, ws, T, ot, us, g1, g2, g4, g5, g6, g7, g8, g9, g10⟩ := kt
  have sz : 3 < us.size := (Array.getElem?_eq_some_iff.mp g10).1
  have oth : ∀ v b, b ≠ T → (s.heap.update T (Obj.mapFields (·.setIfInBounds 3 v))).get? b = s.heap.get? b := fun v b z => Heap.get?_update_other _ _ (Ne.symm z)
  have nor : ∀ b o, s.heap.get? b = some o → (∀ vs, o.data ≠ .fields vs) → b ≠ T := fun b o z1 z2 z3 => by
    rw [z3, g8] at z1
    exact z2 us (by rw [← Option.some.inj z1]; exact g9)
  unfold setFlight
  refine wpAny_bind (wpAny_field g1 g4 g5 ?_)
  rw [if_pos (by simp : (Value.ref T != Value.none) = true)]
  refine wpAny_setField g8 g9 sz (hQ _ (fun b o z => (oth _ b fun y => by rw [y, g6] at z; cases z).trans (kb b o z))
    (kl.of_keeps fun b o z1 z2 => ⟨o, (oth _ b (nor b o z1 z2)).trans z1, rfl⟩) ?_ (fun b o y1 y2 => ⟨o.slots, (oth _ b (nor b o y1 y2)).trans y1⟩))
  exact ⟨oa, ws, T, _, _, (oth _ a (Ne.symm g7)).trans g1, g2, g4, g5, g6, g7, Heap.get?_update_self _ g8 (Obj.isFreed_of_fields (Obj.data_mapFields g9 _)), Obj.data_mapFields g9 _, by simp [sz]⟩
end
end L2

set_option Elab.async false
set_option linter.all false
set_option maxRecDepth 100000
set_option maxHeartbeats 4000000
/-! raise, and calls that raise. -/
namespace L2.G
open L2 PySem PySem.Spec PyProof.Rows PySem.W
section
variable {X : Cx} {pins : List (Addr × Obj)} {σ : St} {H : Hp} {s : Shared} {x : Str} {c : Addr} {e : Expr} {es : List Expr} {t : TA} {p pos cpos : Pos}
def tRaise (X : Cx) (c : Addr) (t : TA) : TS := fun _ σ H => t σ H fun vs H1 => vs.length ≤ 1000 ∧ ∃ XP : Addr → Prop, FliesG X XP H1 ∧ XP c
/-- raise x(e) -/
theorem ps_raise (hc : X.calm = true) (hg : Gl X x) (ek : ExK X.K X.mg x c) (ha : PA X (e :: es) t) (hdb : (x == ("__debug__" : Str)) = false := by decide)
    (he : starEach (e :: es) X.env = (false, eval e X.env) :: starEach es X.env := by rfl) (hpl : (backTo cpos (starEach es X.env)).any (·.1) = false := by rfl) :
    PS X (.Raise (some (.Call (.Name x p) (e :: es) [] cpos)) none pos) (tRaise X c t) := by
  intro pins s σ H D I h
  obtain ⟨tl, nsA, n1, n2, b1, b2, b3, b4, b5, b6, b7, s0, s1, s2, s3, s5, mm, hC, hN, hni, hT⟩ := exc_obj I.ok.mod.kin ek.exc
  refine wpAny_Raise_call_subT (C := c) (nm := n1) (q := n2) (N := nsA) (bs := b1) (bm := tl) (hdct := b2) (sn := b3) (sub := b4) (ab := b5) (col := b6) (dd := b7) (k0 := s0) (k1 := s1) (k2 := s2) (k3 := s3) (k5 := s5)
    PySem.F.excBase_ValueError (mN := mm) (hT.hasType PySem.F.excBase_ValueError.hasBase) (I.ok.hd hc) (by rw [he]; show (false || (backTo cpos (starEach es X.env)).any (·.1)) = false; rw [hpl]; rfl) hni (ld_glob I hg ek.at_ ⟨rfl, ?_⟩ hdb)
  have q := ha cpos pins s σ H _ I h
  rw [he] at q ⊢
  refine Calls.evalArgs_plain (wpAny_mono q (fun us s2 ⟨vs, H2, I2, r, hz, XP, hF, hx⟩ => ⟨rfl, ?_, I2.bk _ _ hC, hN.keeps I2.bk, hT.keeps I2.bk, fun h' a hm => ?_⟩) fun _ _ z => z)
  · show us.length ≤ sizeLine
    rw [← r.length]
    exact Nat.le_trans hz (by decide)
  · exact hF.made pins σ H2 s2 h' a c us I2 (fun _ _ z => z) hx hm
variable {k : Nat} {f C : Addr} {fd : FuncData} {ps : List Str} {sp : Sp} {Q : VK} {us : List Value} {vs : List V} {m : Str} {o : Expr} {ta : TE} {apos : Pos}
abbrev XE (XP : Addr → Prop) : XK := fun cls _ _ => ∃ c, cls = .ref c ∧ XP c
theorem run_fnX {XP : Addr → Prop} (F : FnOk X.prog X.w X.K X.mg X.base (CXg X.prog X.w) k f fd ps sp) (hr : Room k X.A) (hb : Binds X.K fd ps []) (hF : FlyG X XP H) (I : Inv X pins σ H s) (r : Vals vs us) (h : sp vs H Q (XE XP)) :
    wpAny (model X.prog X.w) X.A (call (.ref f) us) (EP X pins σ Q) X.xe s := by
  have hl : us.length = ps.length := by rw [← r.length]; exact F.len _ _ _ _ h
  have hb' := hb s us I.kIn (by rw [List.append_nil]; exact hl)
  rw [List.append_nil] at hb'
  refine wpAny_call (codeAny_mono (F.run X.A X.stack s H ⟨us, []⟩ us vs Q (XE XP) hr I.env0 hb' r h) fun r s' hq => ?_)
  cases r with
  | error e => exact hF.fly pins σ H s e s' I (fun _ _ z => z) hq
  | ok fl =>
    cases fl with
    | ret u => exact I.after hq
    | next => exact False.elim hq
    | brk => exact False.elim hq
    | cont => exact False.elim hq
def tCallX (X : Cx) (sp : Sp) (t : TA) : TE := fun σ H Q => t σ H fun vs H1 => ∃ XP : Addr → Prop, FlyG X XP H1 ∧ sp vs H1 Q (XE XP)
theorem pe_callX (F : FnOk X.prog X.w X.K X.mg X.base (CXg X.prog X.w) k f fd ps sp) (hr : Room k X.A) (hg : Gl X x) (hm : X.mg x = some (.ref f)) (hk : PySem.W.keepIn X.K (.ref f) = true) (hb : Binds X.K fd ps [])
    (ha : PA X (e :: es) t) (hdb : (x == ("__debug__" : Str)) = false := by decide) (he : starEach (e :: es) X.env = (false, eval e X.env) :: starEach es X.env := by rfl) (hpl : (backTo pos (starEach es X.env)).any (·.1) = false := by rfl) :
    PE X (.Call (.Name x p) (e :: es) [] pos) (tCallX X sp t) := by
  intro pins s σ H Q I h
  refine wpAny_Call_Name_kw (ld_glob I hg hm ?_ hdb)
  refine PySem.W.callWith_K (h₀ := X.base) I.ok.mod.kin hk (thn (ha pos pins s σ H _ I h) fun us s1 ⟨vs, H1, I1, r, XP, hF, q⟩ => ⟨I1.kIn, ?_⟩) he hpl
  exact run_fnX F hr hb hF I1 r q
def tMakeX (X : Cx) (C : Addr) (sp : Sp) (t : TA) : TE := fun σ H Q => t σ H fun vs H1 => ∃ XP : Addr → Prop, FlyG X XP H1 ∧ ∀ x dx, H1 x = none → H1 dx = none → dx ≠ x →
  sp (.ref x :: vs) (upd (upd H1 dx (.own x)) x (.ins C dx [])) (fun v H2 => v = .non ∧ Q (.ref x) H2) (XE XP)
theorem pe_makeX (M : Mk X.K C f) (F : FnOk X.prog X.w X.K X.mg X.base (CXg X.prog X.w) k f fd ps sp) (hr : Room (k + 1) X.A) (hg : Gl X x) (hm : X.mg x = some (.ref C)) (hb : Binds X.K fd ps [])
    (ha : PA X (e :: es) t) (hdb : (x == ("__debug__" : Str)) = false := by decide) (he : starEach (e :: es) X.env = (false, eval e X.env) :: starEach es X.env := by rfl) (hpl : (backTo pos (starEach es X.env)).any (·.1) = false := by rfl) :
    PE X (.Call (.Name x p) (e :: es) [] pos) (tMakeX X C sp t) := by
  intro pins s σ H Q I h
  refine wpAny_Call_Name_kw (ld_glob I hg hm ?_ hdb)
  refine PySem.W.callWith_K (h₀ := X.base) I.ok.mod.kin M.kp (thn (ha pos pins s σ H _ I h) fun us s1 ⟨vs, H1, I1, r, XP, hF, q⟩ => ⟨I1.kIn, ?_⟩) he hpl
  have hq := q (s1.heap.objs.size + 1) s1.heap.objs.size (I1.hok.fresh (Nat.le_succ _)) (I1.hok.fresh (Nat.le_refl _)) (Nat.ne_of_lt (Nat.lt_succ_self _))
  have I2 := Inv.made (C := C) I1
  have r2 : Vals (V.ref (s1.heap.objs.size + 1) :: vs) (Value.ref (s1.heap.objs.size + 1) :: us) := .cons rfl r
  have hl : (Value.ref (s1.heap.objs.size + 1) :: us).length = ps.length := by
    have e := r2.length
    rw [F.len _ _ _ _ hq] at e
    exact e.symm
  have hb' := hb _ (Value.ref (s1.heap.objs.size + 1) :: us) I2.kIn (by rw [List.append_nil]; exact hl)
  rw [List.append_nil] at hb'
  refine wpAny_call (make_map (f := f) I1.kIn M.makes M.init (beq_iff_eq.mp M.fn) (codeAny_mono (F.run _ X.stack _ _ ⟨Value.ref (s1.heap.objs.size + 1) :: us, []⟩ (Value.ref (s1.heap.objs.size + 1) :: us) _ _ (XE XP) (hr.make C us [])
    (I2.env0.make C us []) hb' r2 hq) fun r s' hq' => ?_))
  cases r with
  | error e => exact hF.fly pins σ _ _ e s' I2 (fun b u z => by rw [upd_ne (ne_of_none z (I1.hok.fresh (Nat.le_succ _))), upd_ne (ne_of_none z (I1.hok.fresh (Nat.le_refl _)))]; exact z) hq'
  | ok fl =>
    cases fl with
    | ret u =>
      obtain ⟨v, H', I3, rv, ev, q3⟩ := I2.after hq'
      subst ev
      exact ⟨rv, ⟨V.ref (s1.heap.objs.size + 1), H', I3, rfl, q3⟩⟩
    | next => exact False.elim hq'
    | brk => exact False.elim hq'
    | cont => exact False.elim hq'
end
end L2.G

set_option Elab.async false
set_option linter.all false
set_option maxRecDepth 100000
set_option maxHeartbeats 4000000
/-! Over data: what raises. -/
namespace L2.DL.G
open L2 L2.G L2.DL PySem PySem.Spec PyProof.Rows PySem.W
abbrev TR := List D → Str → Prop
def nmX (mg : Str → Option Value) (x : Str) : Addr → Prop := fun c => mg x = some (.ref c)
def spR (K : Frag) (C : Addr) (mg : Str → Option Value) (T : TR) : Sp := fun vs H _ E => ∃ S ds x, Dom H S ∧ RepA K C (less H S) ds vs ∧ T ds x ∧ ∀ c H', mg x = some (.ref c) → Same H H' → E (.ref c) none H'
def rEx (X : Cx) (x : Str) (C : Addr) (t : DT1) : TE := fun σ H Q => rE X.K C t σ H Q ∧ FlyG X (nmX X.mg x) H
def DEx (C : Addr) (X : Cx) (x : Str) (e : Expr) (t : DT1) : Prop := PE X e (rEx X x C t)
def rSx (X : Cx) (x : Str) (C : Addr) (t : DTS) : TS := fun D0 σ H => ∃ H0 S0 S env DD, SOk X.K C H0 S0 H S σ env ∧ t DD env ∧ EndsOk X.K C H0 S0 DD D0 ∧ FliesG X (nmX X.mg x) H0
def DSx (C : Addr) (X : Cx) (x : Str) (st : Stmt) (t : DTS) : Prop := PS X st (rSx X x C t)
def DSsx (C : Addr) (X : Cx) (x : Str) (st : List Stmt) (t : DTS) : Prop := PSs X st (rSx X x C t)
def DnR (P : Program) (w : World) (K : Frag) (mg : Str → Option Value) (base : Heap) (x : Str) (ps : List Str) (k : Nat) (sp : Sp) : Prop :=
  ∃ f fd, FnOk P w K mg base (CXg P w) k f fd ps sp ∧ mg x = some (.ref f) ∧ keepIn K (.ref f) = true ∧ Binds K fd ps []
def DnIR (P : Program) (w : World) (K : Frag) (mg : Str → Option Value) (base : Heap) (C : Addr) (x : Str) (ps : List Str) (k : Nat) (sp : Sp) : Prop :=
  ∃ f fd, FnOk P w K mg base (CXg P w) k f fd ps sp ∧ mg x = some (.ref C) ∧ Mk K C f ∧ Binds K fd ps []
section
variable {C : Addr} {X : Cx} {x y : Str} {a b c e o : Expr} {es : List Expr} {st : Stmt} {sts sts2 : List Stmt} {ta tb tc te : DT1} {t : DTA} {tt : DTT} {u w : DTS} {pos apos p cpos : Pos}
theorem dex_of (h : DE C X e te) : DEx C X x e te := peW h fun σ H Q z => z.1
theorem dex_or (h : DEx C X x e ta) (h' : DEx C X x e tb) : DEx C X x e (fun env Q => ta env Q ∨ tb env Q) := fun pins s σ H Q I ⟨⟨S, env, P, h1, h2, h3⟩, hF⟩ => by
  rcases h2 with h2 | h2
  · exact h pins s σ H Q I ⟨⟨S, env, P, h1, h2, h3⟩, hF⟩
  · exact h' pins s σ H Q I ⟨⟨S, env, P, h1, h2, h3⟩, hF⟩
def dCallR (T : TR) (x : Str) (t : DTA) : DT1 := fun env _ => t env fun ds => T ds x
def dMakeR (T : TR) (x : Str) (t : DTA) : DT1 := fun env _ => t env fun ds => ∀ a, T (.cls a :: ds) x
theorem spR_of {T : TR} {K : Frag} {mg : Str → Option Value} {H : Hp} {S : Addr → Prop} {ds : List D} {vs : List V} {Q : VK} (dm : Dom H S) (r : RepA K C (less H S) ds vs) (hT : T ds x) : spR K C mg T vs H Q (L2.G.XE (nmX mg x)) :=
  ⟨S, ds, x, dm, r, hT, fun c H' hc _ => ⟨c, rfl, hc⟩⟩
theorem dex_dn {T : TR} {ps : List Str} {k k' : Nat} (Df : DnR X.prog X.w X.K X.mg X.base y ps k (spR X.K C X.mg T)) (hr : Room k' X.A) (hg : Gl X y) (ha : DA C X (e :: es) t) (hk : k ≤ k' := by decide)
    (hdb : (y == ("__debug__" : Str)) = false := by decide) (he : starEach (e :: es) X.env = (false, eval e X.env) :: starEach es X.env := by rfl) (hpl : (backTo pos (starEach es X.env)).any (·.1) = false := by rfl) :
    DEx C X x (.Call (.Name y p) (e :: es) [] pos) (dCallR T x t) := by
  obtain ⟨f, fd, F, hm, hkp, hb⟩ := Df
  refine peW (L2.G.pe_callX (F.mono hk) hr hg hm hkp hb ha hdb he hpl) fun σ H Q ⟨⟨S, env, P, h1, h2, h3⟩, hF⟩ => ?_
  exact ⟨S, env, _, h1, h2, fun ds hd vs H' e rv => ⟨nmX X.mg x, hF.mono e, spR_of (h1.dom.mono e) rv hd⟩⟩
theorem dex_make {T : TR} {ps : List Str} {k k' : Nat} (q : CrK X.K C) (Df : DnIR X.prog X.w X.K X.mg X.base C y ps k (spR X.K C X.mg T)) (hr : Room (k' + 1) X.A) (hg : Gl X y) (ha : DA C X (e :: es) t) (hk : k ≤ k' := by decide)
    (hdb : (y == ("__debug__" : Str)) = false := by decide) (he : starEach (e :: es) X.env = (false, eval e X.env) :: starEach es X.env := by rfl) (hpl : (backTo pos (starEach es X.env)).any (·.1) = false := by rfl) :
    DEx C X x (.Call (.Name y p) (e :: es) [] pos) (dMakeR T x t) := by
  obtain ⟨f, fd, F, hm, M, hb⟩ := Df
  refine peW (L2.G.pe_makeX M (F.mono hk) hr hg hm hb ha hdb he hpl) fun σ H Q ⟨⟨S, env, P, h1, h2, h3⟩, hF⟩ => ?_
  refine ⟨S, env, _, h1, h2, fun ds hd vs H' e rv => ⟨nmX X.mg x, hF.mono e, fun x' dx hx hdx hne => ?_⟩⟩
  have sm0 : Same H' (upd (upd H' dx (.own x')) x' (.ins C dx [])) := fun b o e => by
    rw [upd_ne (ne_of_none e hx), upd_ne (ne_of_none e hdx)]
    exact e
  exact spR_of ((h1.dom.mono e).mono sm0) (repA_cons rep_cls (RepA.mono (same_less sm0) _ _ rv)) (hd x')
/-! ### statements -/
theorem dsx_of (h : DS C X st u) : DSx C X x st u := psW h fun D0 σ H ⟨H0, S0, S, env, DD, h1, h2, h3, _⟩ => ⟨H0, S0, S, env, DD, h1, h2, h3⟩
theorem dssx_of (h : DSs C X sts u) : DSsx C X x sts u := pssW h fun D0 σ H ⟨H0, S0, S, env, DD, h1, h2, h3, _⟩ => ⟨H0, S0, S, env, DD, h1, h2, h3⟩
theorem dssx_cons (h1 : DSx C X x st w) (h2 : DSsx C X x sts u) : DSsx C X x (st :: sts) (dSeq w u) := pssW (pss_cons h1 h2) fun D0 σ H ⟨H0, S0, S, env, DD, h1, h2, h3, hF⟩ =>
  ⟨H0, S0, S, env, _, h1, h2, ⟨fun env S σ H hx hs => ⟨H0, S0, S, env, DD, hs, hx, h3, hF⟩, h3.rt, h3.bk, h3.ct, h3.rf⟩, hF⟩
theorem dssx_one (h1 : DSx C X x st w) : DSsx C X x [st] w := pss_one h1
theorem dsx_if (hc : DB C X c tt) (ha : DSsx C X x sts u) (hb : DSsx C X x sts2 w) : DSx C X x (.If c sts sts2 pos) (dIfS tt u w) := psW (ps_if hc ha hb) fun D0 σ H ⟨H0, S0, S, env, DD, h1, h2, h3, hF⟩ =>
  ⟨S, env, _, h1.e, h2, fun d hd H' e => by
    cases d with
    | true => exact ⟨H0, S0, S, env, DD, h1.mono e, hd, h3, hF⟩
    | false => exact ⟨H0, S0, S, env, DD, h1.mono e, hd, h3, hF⟩⟩
theorem dsx_expr (he : DEx C X x e te) (hs : swapsWith e none pos.line X.env = pure false := by rfl) : DSx C X x (.Expr e pos) (dDo te) := psW (ps_expr he hs) fun D0 σ H ⟨H0, S0, S, env, DD, h1, h2, h3, hF⟩ =>
  ⟨⟨S, env, _, h1.e, h2, fun d hd v H' e rv => h3.nx _ _ _ _ hd (h1.mono e)⟩, hF.c.mono h1.same⟩
def dRaise (y x : Str) (t : DTA) : DTS := fun _ env => t env fun ds => ds.length ≤ 1000 ∧ y = x
theorem dsx_raise {c : Addr} (hc : X.calm = true) (hg : Gl X y) (ek : ExK X.K X.mg y c) (ha : DA C X (e :: es) t) (hdb : (y == ("__debug__" : Str)) = false := by decide)
    (he : starEach (e :: es) X.env = (false, eval e X.env) :: starEach es X.env := by rfl) (hpl : (backTo cpos (starEach es X.env)).any (·.1) = false := by rfl) :
    DSx C X x (.Raise (some (.Call (.Name y p) (e :: es) [] cpos)) none pos) (dRaise y x t) := psW (L2.G.ps_raise hc hg ek ha hdb he hpl) fun D0 σ H ⟨H0, S0, S, env, DD, h1, h2, h3, hF⟩ =>
  ⟨S, env, _, h1.e, h2, fun ds hd vs H' e rv => ⟨by rw [← repA_len rv]; exact hd.1, nmX X.mg x, hF.mono (h1.same.trans e), by unfold nmX; rw [← hd.2]; exact ek.at_⟩⟩
theorem dsx_for {tg iter : Expr} {g : DTG} (hp : PassesOwn (model X.prog X.w) X.A X.env X.xe) (hc : X.calm = true) (hi : DI C X tg iter t) (hg : DG C X tg g) (hb : DSsx C X x sts u)
    (hs : ∀ x, foldedSetIterable iter X.env x = pure x := by intro _; rfl) : DSx C X x (.For tg iter sts [] pos) (dFor t g u) := psW (ps_for hp hc hi hg hb hs) fun D0 σ H ⟨H0, S0, S, env, DD, h1, h2, h3, hF⟩ => by
  refine ⟨S, env, _, h1.e, h2, fun items ⟨α, xs, enc, Pv, hit, p0, turn, fin⟩ J H1 e J1 => ?_⟩
  subst hit
  obtain ⟨G, k1, hG, back, backS, backN⟩ := loop_base (h1.mono e)
  have hFG : FliesG X (nmX X.mg x) G := hF.mono (backS (Same.refl _))
  rw [← hG] at J1
  have hlen : (xs.map enc).length = xs.length := List.length_map _
  refine ⟨fun i m σ H => m = xs.length - i ∧ i ≤ xs.length ∧ ∃ S env, SOk X.K C G S0 H S σ env ∧ Pv (xs.take i) env, ⟨xs.length, by simp, Nat.zero_le _, S, env, k1, p0⟩, ?_⟩
  rintro i m σ2 H2 ⟨rfl, hi, S2, env2, k2, p2⟩
  have pr := k2.prot
  by_cases hlt : i < xs.length
  · refine .inr ⟨J1.go i H2 S2 pr (by omega), fun σ' H' => ∃ S env, SOk X.K C G S0 H' S σ' env ∧ Pv (xs.take (i + 1)) env, fun σ' H' z => ⟨xs.length - (i + 1), by omega, rfl, hlt, z⟩, fun x H' y => ?_⟩
    obtain ⟨d, e1, s1, r⟩ := J1.yld i H2 S2 x H' k2.e.dom pr (by omega) y
    rw [List.getElem?_map, List.getElem?_eq_getElem hlt] at e1
    cases e1
    have tk : xs.take (i + 1) = xs.take i ++ [xs[i]] := by rw [List.take_append_getElem]
    refine ⟨G, S0, S2, env2, _, _, k2.mono s1, r, turn _ _ _ env2 (split_at hlt) p2, fun env' z σ' H'' S' k' => ⟨G, S0, S', env', _, k', z, ⟨fun env'' S'' σ'' H3 hx hs => ⟨S'', env'', hs, by rw [tk]; exact hx⟩, fun d v H3 hr hs rv => h3.rt d v H3 hr (backS hs) rv,
      fun env'' S'' σ'' H3 hx hs => h3.nx _ _ _ _ hx (back hs), fun env'' S'' σ'' H3 hx hs => ⟨S'', env'', hs, by rw [tk]; exact hx⟩, fun ds p xs H3 hd hs hp hl rv => h3.rf ds p xs H3 hd (backS hs) (backN hp) hl rv⟩, hFG⟩⟩
  · have e' : i = xs.length := by omega
    subst e'
    rw [List.take_length] at p2
    exact .inl ⟨J1.stop _ H2 S2 pr (by omega), h3.nx _ _ _ _ (fin env2 p2) (back k2)⟩
end
/-! ### a def that raises -/
section
variable {P : Program} {w : World} {K : Frag} {mg : Str → Option Value} {base : Heap} {C : Addr}
theorem fn_r {y qual : Str} {st : Stmt} {f : Addr} {fd : FuncData} {N ps : List Str} {k : Nat} {T : TR} (F : Fun K y qual st f fd) (Sc : FnScope N ps (defScope st)) (len : ∀ ds x, T ds x → ds.length = ps.length)
    (hbody : ∀ (x : Str) (cdv : Value) (A : Around) (outer : List Env) (s : Shared) (H : Hp) (E : XK), Room k (A.deeper (envOfC qual (defScope st) s.heap.objs.size f cdv)) →
      ∃ t, DSsx C (cxOf (CXg P w) P w K mg base N qual (defScope st) f cdv A outer s H E) x (defBody st) t ∧ ∀ ds, T ds x → t { nx := fun _ => False, rt := fun _ => False } (startE N ds)) : FnOk P w K mg base (CXg P w) (k + 1) f fd ps (spR K C mg T) := by
  obtain ⟨oc, od, kV, doc, pm, an, cdv, ct, osl, rfl, lk, hcd⟩ := F.ex
  refine fn_of lk hcd Sc (fun vs H Q E h => ?_) fun A outer s H vs Q E hr hsp => ?_
  · obtain ⟨S, ds, x, dm, r, hT, _⟩ := h
    rw [← repA_len r]
    exact len ds x hT
  · obtain ⟨S, ds, x, dm, r, hT, kE⟩ := hsp
    obtain ⟨t, h1, h2⟩ := hbody x cdv A outer s H E hr
    refine ⟨_, h1, H, S, S, startD N ds, { nx := fun _ => False, rt := fun _ => False }, start_ok dm r, ?_, ⟨fun _ _ _ _ z => z.elim, fun _ _ _ z => z.elim, fun _ _ _ _ z => z.elim, fun _ _ _ _ z => z.elim, fun _ _ _ _ z => z.elim⟩, FliesG.body fun c H' hc sm => kE c H' hc sm⟩
    rw [← startE_eq N ds (by rw [len ds x hT]; exact FnScope.le Sc)]
    exact h2 ds hT
end
end L2.DL.G

set_option Elab.async false
set_option linter.all false
set_option maxRecDepth 100000
set_option maxHeartbeats 4000000
/-! try: return ..; except .. as e: raise .. from e -/
namespace L2
open PySem PySem.Spec PyProof.Rows PySem.W
section
variable {X : Cx} {pins pn : List (Addr × Obj)} {σ : St} {H : Hp} {s : Shared} {E : Value → Shared → Prop}
/-- the exception leaves the clause -/
theorem clause_out {A' : Around} {i : Nat} {en : Str} {hpos : Pos} {a e cN : Addr} {a0 : Value} {H2 : Hp} {s2 : Shared} {h3 : Heap} {σ5 : St} {XP2 : Addr → Prop} {oa : Obj} {E0 : Value → Shared → Prop} {R : Result → Shared → Prop} {va : Array Value}
    (hs : X.stack = X.env :: X.outer) (hst : X.env.frame = some X.env.locals) (hN : X.N.Nodup) (hi : X.N[i]? = some en) (hk : X.env.scope.names.lookup en = some .local)
    (hA : A' = X.A.mark (some (.ref a)))
    (hF : Flies X XP2 H) (hX : XP2 cN) (sm : ∀ b u, H b = some u → H2 b = some u)
    (I2 : Inv (cxEx X (X.pn ++ pins) a oa E0) [] σ5 H2 s2) (k3 : ∀ b o, s2.heap.get? b = some o → h3.get? b = some o) (new : s2.heap.get? e = none)
    (he : h3.get? e = some ⟨.ref cN, none, .fields va, #[]⟩) (hv0 : va[0]? = some a0) (hv1 : va[1]? = some .none) (hR : ∀ s', cameBackBy (model X.prog X.w) X.A X.env X.xe (.ref e) s' → R (.error (.ref e)) s') (t3 : Nat) :
    wpAny (model X.prog X.w) A' (noteFrame (.ref e) X.env) (fun _ s₃' => wpAny (model X.prog X.w) A' (do bindName X.env en .none; unbindBehindTheSuite X.env en hpos)
      (fun _ s₄ => wpAny (model X.prog X.w) A' (PySem.passOn "try.except-as" (.ref e) X.env : Sem Flow) (fun _ _ => False) (notedBy (model X.prog X.w) A' X.env fun x s' => R (.error x) s') s₄)
      (fun y s₄ => wpAny (model X.prog X.w) A' (setFlight (.ref e) none) (fun _ s₅ => (notedBy (model X.prog X.w) A' X.env fun x s' => R (.error x) s') y s₅) (notedBy (model X.prog X.w) A' X.env fun x s' => R (.error x) s') s₄) s₃')
      (notedBy (model X.prog X.w) A' X.env fun x s' => R (.error x) s') { s2 with heap := h3, toks := t3 } := by
  subst hA
  have hfr : (X.A.mark (some (.ref a))).frames = some (X.env :: X.outer) := by rw [← hs]; exact I2.ok.frames
  have fse : frs X.stack = X.env.locals :: X.fs := by
    rw [hs]
    unfold frs
    rw [List.filterMap_cons, hst]
    rfl
  have F3 : Fl X.prog X.w (frs X.stack) H2 H2 s2.heap h3 (hideAll s2.heap (frs X.stack)) := Fl.keptB (X := cxEx X (X.pn ++ pins) a oa E0) I2 k3
  have fr0 : s2.heap.FunFrames (hideAll s2.heap (frs X.stack)) (X.env :: X.outer) := by
    rw [← hs]
    exact funFrames_hide I2.stack fun env he b hb => List.mem_filterMap.mpr ⟨env, he, hb⟩
  have fr3 : h3.FunFrames (hideAll s2.heap (frs X.stack)) (X.env :: X.outer) := fr0.of_keeps fun b o hb _ => ⟨o, k3 b o hb, rfl⟩
  have Bn : (hideAll s2.heap (frs X.stack)).get? e = none := by
    cases q : (hideAll s2.heap (frs X.stack)).get? e with
    | none => rfl
    | some o => rw [of_hideAll _ q] at new; cases new
  have kb3 : (hideAll s2.heap (frs X.stack)).StaysIn h3 := fun b o q => k3 b o (of_hideAll _ q)
  generalize hideAll s2.heap (frs X.stack) = B at *
  unfold noteFrame
  simp only [hst]
  refine wpAny_bind (wpAny_field he rfl hv1 ?_)
  rw [if_neg (by decide : ¬ (Value.none != Value.none) = true)]
  refine wpAny_entryW hfr fr3 hst he kb3 Bn rfl (Array.getElem?_eq_some_iff.mp hv1).1 hv0 fun h4 ⟨n1, n2, n3, n4⟩ => ?_
  have F4 := F3.on (fun b hb => (fr3.mem (by rw [hs] at hb; exact hb)).2) n1 fun b _ o z1 z2 => n4 b o z1 z2
  have J4 : Inv (cxEx X (X.pn ++ pins) a oa E0) [] σ5 H2 { s2 with heap := h4, toks := t3 } := I2.call' (H' := H2) (s' := { s2 with heap := h4, toks := t3 }) (ch := []) rfl F4.un F4.hok I2.bare (fun b z => absurd z (by simp))
  have hex : X.ex = [] := hF.hex
  have G4 : Fl X.prog X.w X.fs X.H₀ H2 X.s₀.heap h4 B := Fl.leave (X := cxEx X (X.pn ++ pins) a oa E0) I2 hs hex hst (fun b u q => sm b u (hF.ent b u q)) F3 n1 n4
  refine name_goes2 (X := cxEx X (X.pn ++ pins) a oa E0) J4 hN hi hk fun h5 tk J5 sb ⟨m5, ns5⟩ => ?_
  obtain ⟨m4, ns4, _⟩ := J4.loc
  have G5 : Fl X.prog X.w X.fs X.H₀ H2 X.s₀.heap h5 B := G4.local sb (fun b o q => Nat.ne_of_lt (Nat.lt_of_lt_of_le (Heap.lt_size q) I2.ok.above)) I2.free
  have fr5 := funFrames_but n2 sb ns5
  have tr5 := traced_but n3 sb ns4
  have kb5 : B.StaysIn h5 := fun b o q => by
    have e4 := n1 b o q
    refine (sb.2 b ?_).trans e4
    intro z
    obtain ⟨L', oL, y1, y2, _⟩ := n2.2.1
    rw [hst] at y1
    cases y1
    rw [z] at q
    have : B.get? X.env.locals = some o := q
    rw [y2] at this
    cases this
  unfold PySem.passOn
  obtain ⟨o5, w5, T5, ot5, u5, g1, g2, g4, g5, g6, g7, g8, g9, g10⟩ := id tr5
  refine wpAny_bind (wpAny_field g1 g4 g5 ?_)
  rw [if_neg (by simp : ¬ (Value.ref T5 == Value.none) = true)]
  refine wpAny_bind (setFlight_is (f := X.env.frame) kb5 fr5 tr5 fun h6 kb6 fr6 tr6 up6 => wpAny_throw ?_)
  rw [hst] at tr6
  refine wpAny_noteFrame_againW hst tr6 (hR _ ?_)
  unfold cameBackBy
  obtain ⟨o6, w6, T6, ot6, u6, q1, q2, q4, q5, q6, q7, q8, q9, q10⟩ := id tr6
  refine wpAny_bind (wpAny_field q1 q4 q5 ?_)
  rw [if_neg (by simp : ¬ (Value.ref T6 == Value.none) = true)]
  refine setFlight_is (f := X.env.frame) kb6 fr6 tr6 fun h7 kb7 fr7 tr7 up7 => ?_
  have inS : ∀ b ∈ X.fs, b ∈ (X.env :: X.outer).filterMap (·.frame) := fun b hb => by
    obtain ⟨v, v1, v2⟩ := List.mem_filterMap.mp hb
    exact List.mem_filterMap.mpr ⟨v, List.mem_cons_of_mem _ v1, v2⟩
  have G6 := G5.on (fun b hb => (fr5.mem (inS b hb)).2) kb6 fun b _ o z1 z2 => up6 b o z1 z2
  have G7 := G6.on (fun b hb => (fr6.mem (inS b hb)).2) kb7 fun b _ o z1 z2 => up7 b o z1 z2
  exact hF.any _ e cN a0 _ B H2 I2.os I2.bare G7 kb7 Bn (by rw [hs]; exact fr7) tr7 hX I2.ok.frames
end
end L2

set_option Elab.async false
set_option linter.all false
set_option maxRecDepth 100000
set_option maxHeartbeats 4000000
namespace L2
open PySem PySem.Spec PyProof.Rows PySem.W
section
variable {X : Cx} {pins pn : List (Addr × Obj)} {σ : St} {H : Hp} {s : Shared} {E : Value → Shared → Prop}
theorem on2N {M : Model} {A : Around} {env : Env} {v : Value} {a : Addr} {Q : Unit → Shared → Prop} (c : Chn s.heap a) (w : wpAny M A (noteFrame v env) (fun x s' => Chn s'.heap a → Q x s') E s) : wpAny M A (noteFrame v env) Q E s :=
  wpAny_mono (q2_any q2_note w) (fun _ _ z => z.1 (c.up z.2)) fun _ _ z => z.1
theorem on2F {M : Model} {A : Around} {f : Option Addr} {v : Value} {a : Addr} {Q : Unit → Shared → Prop} (c : Chn s.heap a) (w : wpAny M A (setFlight v f) (fun x s' => Chn s'.heap a → Q x s') E s) : wpAny M A (setFlight v f) Q E s :=
  wpAny_mono (q2_any q2_setFlight w) (fun _ _ z => z.1 (c.up z.2)) fun _ _ z => z.1
theorem ps_tryF {tb : Cx → TS} {body : List Stmt} {tn en y : Str} {np hpos pos p cpos rpos p2 : Pos} {i : Nat} {cT cN : Addr} {e0 : Expr} {es : List Expr} {ta : TA} (hs : X.stack = X.env :: X.outer) (hst : X.env.frame = some X.env.locals) (hN : X.N.Nodup) (hi : X.N[i]? = some en) (hk : X.env.scope.names.lookup en = some .local)
    (hg : Gl X tn) (hm : X.mg tn = some (.ref cT)) (hgy : Gl X y) (ek : ExK X.K X.mg y cN) (hb : ∀ pn E, PSs (cxTry X pn E) body (tb (cxTry X pn E))) (ha : ∀ pn a oe E, PA (cxEx X pn a oe E) (e0 :: es) ta) (hd : (tn == ("__debug__" : Str)) = false := by decide)
    (hdy : (y == ("__debug__" : Str)) = false := by decide) (hde : (en == ("__debug__" : Str)) = false := by decide) (he : starEach (e0 :: es) X.env = (false, eval e0 X.env) :: starEach es X.env := by rfl) (hpl : (backTo cpos (starEach es X.env)).any (·.1) = false := by rfl) :
    PS X (.Try body [.ExceptHandler (some (.Name tn np)) (some en) [.Raise (some (.Call (.Name y p) (e0 :: es) [] cpos)) (some (.Name en p2)) rpos] hpos] [] [] pos) (fun D σ H => ∃ XP XP2 : Addr → Prop, (∀ c, XP c → exmOne X.K (.ref c) (.ref cT) = some true ∧ excIn X.K c bmV "ValueError.__new__" = true) ∧
      Flies X XP2 H ∧ XP2 cN ∧ (∀ pn E, FlyG (cxTry X pn E) XP H → tb (cxTry X pn E) D σ H) ∧
      ∀ (a : Addr) (σ' : St) (H' : Hp), (∀ b u, H b = some u → H' b = some u) → H' a = none → σ'.length = X.N.length → ta (σ'.set i (some (.ref a))) H' fun vs H2 => vs.length ≤ 1000 ∧ ∀ b u, H' b = some u → H2 b = some u) := by
  intro pins s σ H D I ⟨XP, XP2, hx, hF, hX, hbd, hh⟩
  have hfr : X.A.frames = some (X.env :: X.outer) := by rw [← hs]; exact I.ok.frames
  refine wpAny_Try_except (wpAny_mono (hb (X.pn ++ pins) _ [] s σ H D (inv_to_try I) (hbd _ _ ⟨fun pins' σ' H' s1 e s' J sm hq => ?_⟩)) (fun f s1 q => ?_) fun _ _ z => z)
  · obtain ⟨a, c, a0, B, Hn, rfl, os, bare, F, fl, ⟨c', ec, hc⟩, ch0⟩ := hq
    cases ec
    have fl0 := fl
    have fl : Heap.FlyingW B (X.env :: X.outer) a (.ref c) a0 s'.heap := by rw [← hs]; exact fl0
    refine on2N ch0 (wpAny_looks_onW hfr hst fl fun h2 held up2 ch2 => ?_)
    refine on2F ch2 (wpAny_landsW held fun h3 fl3 up3 ch3 => ?_)
    have up : s'.heap.UpToSlots h3 := up2.trans up3
    have F3 := F.on (fun b hb => (fl0.2.2.1.mem hb).2) fl3.1 fun b _ o z1 z2 => up b o z1 z2
    have J3 := J.call' (H' := Hn) (s' := { s' with heap := h3 }) (ch := []) os F3.un F3.hok bare (fun b z => absurd z (by simp))
    obtain ⟨oe, vs, hoe, hoc, hod, _⟩ := fl3.first
    have hna : Hn a = none := by
      cases q : Hn a with
      | none => rfl
      | some u => have := F3.trk a u oe q hoe; rw [fl3.2.1] at this; cases this
    have hal : a ≠ X.env.locals := fun z => by
      obtain ⟨m, ⟨oL, es, ep, hoL, hdL, _⟩, _⟩ := J3.loc
      have hoL' : h3.get? X.env.locals = some oL := hoL
      rw [← z, hoe] at hoL'
      rw [← Option.some.inj hoL'] at hdL
      rw [hod] at hdL
      cases hdL
    have haf : a ∉ X.fs := fun z => by
      have z' : a ∈ frs (X.env :: X.outer) := by unfold frs; rw [List.filterMap_cons, hst]; exact List.mem_cons_of_mem _ z
      obtain ⟨_, o, ho, hd⟩ := fl3.2.2.1.mem z'
      rw [hoe] at ho
      exact hd vs (by rw [← Option.some.inj ho]; exact hod)
    have hpin : h3.get? a = some oe ∧ Hn a = none ∧ a ≠ X.env.locals ∧ a ∉ X.fs ∧ ∀ v, oe.data ≠ .cell v := ⟨hoe, hna, hal, haf, fun v z => by rw [hod] at z; cases z⟩
    have LT : Looks (model X.prog X.w) h3 (typeOf (.ref a)) (.ref c) := hoc ▸ (Looks.ld hoe).andThen .now
    refine wpAny_handleBy_cons (codeAny_handlers_test ?_) (by intro q; cases q)
    refine ld_glob (X := cxEx X (X.pn ++ pins) a oe fun _ _ => False) (inv_to_ex J3 hpin I.ok) hg hm ?_ hd
    refine (exm_one (J3.kIn) LT (hx c hc).1).here ?_
    refine codeAny_handlers_suite_as ?_
    refine on2F ch3 (lands_againW fl3 fun h4 fl4 up4 ch4 => ?_)
    have F4 := F.on (fun b hb => (fl0.2.2.1.mem hb).2) fl4.1 fun b _ o z1 z2 => (up.trans up4) b o z1 z2
    have J4 := J.call' (H' := Hn) (s' := { s' with heap := h4 }) (ch := []) os F4.un F4.hok bare (fun b z => absurd z (by simp))
    obtain ⟨oe4, vs4, hoe4, hoc4, hod4, _⟩ := fl4.first
    have haf4 : ∀ v, oe4.data ≠ .cell v := fun v z => by rw [hod4] at z; cases z
    have hv4 : vs4[2]? = some .none := by
      obtain ⟨o, ws, e1, e2, e3⟩ := ch4
      have e1' : h4.get? a = some o := e1
      rw [hoe4] at e1'
      cases e1'
      rw [hod4] at e2
      cases e2
      exact e3
    refine store_ok (X := cxEx X (X.pn ++ pins) a oe4 fun _ _ => False) (i := i) (inv_to_ex J4 ⟨hoe4, hna, hal, haf, haf4⟩ I.ok) hN hi (.inl hk) (v := .ref a) rfl (fun s5 I5 => ?_) (.inr hk)
    obtain ⟨tl, nsA, n1, n2, b1, b2, b3, b4, b5, b6, b7, s0, s1', s2', s3', s5', mm, hC, hNs, hni, hT⟩ := exc_obj I.ok.mod.kin ek.exc
    have hbx : tl.contains (.type "BaseException") = true := hT.hasType PySem.F.excBase_ValueError.hasBase
    have hplain : (backTo cpos (starEach (e0 :: es) X.env)).any (·.1) = false := by rw [he]; show (false || (backTo cpos (starEach es X.env)).any (·.1)) = false; rw [hpl]; rfl
    refine wpAny_bind (wpAny_mono (Q := fun _ _ => False) ?_ (fun _ _ z => z.elim) fun _ _ z => z)
    rw [arm_exec_Raise]
    refine wpAny_bind (wpAny_standAt ?_)
    simp only [evalOpt, Option.map]
    refine raise_from (C := cN) (a := a) rfl (wpAny_bind (wpAny_mono (wpAny_Call_ofName (ld_glob I5 hgy ek.at_ ?_ hdy)) (fun v s₃ h₃ => wpAny_bind (wpAny_standAt (wpAny_pure h₃))) fun _ _ z => z))
    unfold callWith
    have q := ha (X.pn ++ pins) a oe4 (fun _ _ => False) cpos [] s5 _ Hn _ I5 (hh a σ' Hn (fun b u z => F.same b u (sm b u z)) hna J.len)
    have he' : starEach (e0 :: es) (cxEx X (X.pn ++ pins) a oe4 fun _ _ => False).env = (false, eval e0 X.env) :: starEach es X.env := he
    rw [he'] at q
    rw [he] at hplain ⊢
    refine wpAny_bind (wpAny_holding (Calls.evalArgs_plain (wpAny_mono q (fun us s2 ⟨vs, H2, I2, r, hz, sm2⟩ => wpAny_bind (wpAny_standAt ?_)) fun _ _ z => z.elim)))
    have hC2 := I2.bk _ _ hC
    have hn2 := hNs.keeps I2.bk
    have hT2 := hT.keeps I2.bk
    have hlen : us.length ≤ sizeLine := by rw [← r.length]; exact Nat.le_trans hz (by decide)
    have hEx := excAt_of (I2.kIn) ek.exc
    have hEc := excAt_of (I2.kIn) (hx c hc).2
    obtain ⟨hp, g, dd, tk, os2⟩ := s2
    simp only [hplain]
    refine wpAny_bind (wpAny_keeperOf_exc hC2 ?_)
    refine wpAny_bind (wpAny_call_exc_subT (hrest := hlen) PySem.F.excBase_ValueError hT2 hC2 hn2 hni fun h' e hm => wpAny_bind (wpAny_holding (wpAny_point (wpAny_pure ?_))))
    obtain ⟨t0, ht0, _, _⟩ := hm.there
    have I3 : Inv (cxEx X (X.pn ++ pins) a oe4 fun _ _ => False) [] (σ'.set i (some (.ref a))) H2 ⟨h', g, dd, tk, os2⟩ := I2.kept (t' := tk) hm.keeps
    have pa := I2.pin (a, oe4) (List.mem_append_left _ List.mem_cons_self)
    have pa' : hp.get? a = some oe4 := pa.1
    have hea : e ≠ a := fun z => by
      have := hm.new
      rw [z] at this
      have pa'' : hp.get? a = none := this
      rw [pa'] at pa''
      cases pa''
    have hCe : cN ≠ e := fun z => by
      have h1 := hm.new
      rw [← z] at h1
      have h1' : hp.get? cN = none := h1
      have h2 : hp.get? cN = some _ := hC2
      rw [h2] at h1'
      cases h1'
    have kex : ∀ {d : Addr}, ExcAt hp d → ExcAt h' d := fun {d} z => z.keeps fun b o q _ => hm.keeps b o q
    refine ⟨e, t0, rfl, ht0, kex hEx, hea, hCe, ?_⟩
    obtain ⟨m3, hn3, hl3⟩ := I3.loc
    have hlen5 : i < (σ'.set i (some (V.ref a))).length := by
      have h1 := I2.len
      rw [h1]
      exact (List.getElem?_eq_some_iff.mp hi).1
    obtain ⟨u, ru, lu⟩ := hl3 i en (.ref a) hi (by rw [List.getElem?_set, if_pos rfl, if_pos (by simpa using hlen5)]) (.inl hk)
    obtain rfl : u = Value.ref a := ru
    have hme : m3 en = some (.ref a) := by
      rcases lu with ⟨_, z⟩ | ⟨z, _⟩
      · exact z
      · have hk' : (cxEx X (X.pn ++ pins) a oe4 fun _ _ => False).env.kindOf en = some .local := hk
        rw [hk'] at z
        rcases z with z | z <;> cases z
    refine wpAny_bind (wpAny_Name (wpAny_loadName_local I.ok.kind hk hn3 hme (wpAny_bind (wpAny_standAt (wpAny_pure ⟨rfl, rfl, ?_, ?_⟩)))) hde)
    · obtain ⟨oc, od, oda, osl⟩ := oe4
      cases hoc4
      cases hod4
      exact ⟨c, od, vs4, osl, hm.keeps _ _ pa', kex hEc, hv4⟩
    · have z1 := Heap.get?_update_self (h := h') (Obj.mapFields (·.setIfInBounds 3 (.ref a))) ht0 rfl
      have z2 := Heap.get?_update_self (Obj.mapFields (·.setIfInBounds 4 (.bool true))) z1 rfl
      have z3 := Heap.get?_update_self (Obj.mapFields (·.setIfInBounds 2 (.ref a))) z2 rfl
      have k3 : ∀ b o, hp.get? b = some o → (fromHeap h' e a).get? b = some o := fun b o q => by
        have hb : b ≠ e := fun z => by
          have h1 : hp.get? e = none := hm.new
          rw [← z, q] at h1
          cases h1
        rw [from_get hb]
        exact hm.keeps b o q
      exact clause_out (R := fun r s₂ => match r with
          | .ok f => (match some en with
            | none => SP X pins D f s₂
            | some n => wpAny (model X.prog X.w) X.A (do bindName X.env n .none; unbindBehindTheSuite X.env n hpos) (fun _ s₃ => SP X pins D f s₃) X.xe s₂)
          | .error x => cameBackBy (model X.prog X.w) X.A X.env X.xe x s₂) hs hst hN hi hk rfl hF hX (fun b u z => sm2 b u (F.same b u (sm b u z))) I2 k3 hm.new z3 rfl rfl (fun s' z => z) tk
  · cases f with
    | next =>
      obtain ⟨σ6, H6, I6, q⟩ := q
      exact wpAny_execs_nil ⟨σ6, H6, inv_of_try I.ok I6, q⟩
    | brk =>
      obtain ⟨σ6, H6, I6, q⟩ := q
      exact ⟨σ6, H6, inv_of_try I.ok I6, q⟩
    | cont =>
      obtain ⟨σ6, H6, I6, q⟩ := q
      exact ⟨σ6, H6, inv_of_try I.ok I6, q⟩
    | ret u =>
      obtain ⟨v, σ6, H6, I6, r, q⟩ := q
      exact ⟨v, σ6, H6, inv_of_try I.ok I6, r, q⟩
end
end L2

set_option Elab.async false
set_option linter.all false
set_option maxRecDepth 100000
set_option maxHeartbeats 4000000
/-! Over data: a clause that raises from what it took; sets and pairs whose making raises. -/
namespace L2.DL
open PySem PySem.Spec PyProof.Rows PySem.W
section
variable {C : Addr} {X : Cx} {x y : Str} {e e0 : Expr} {es : List Expr} {te : DT1} {t : DTA} {pos p tp : Pos} {st : Stmt}
def rScG (X : Cx) (x : Str) (C : Addr) (t : DTS) : TS := fun D0 σ H => ∃ H0 S0 S env DD, SOk X.K C H0 S0 H S σ env ∧ t DD env ∧ EndsOk X.K C H0 S0 DD D0 ∧ FlyG X (nmX X.mg x) H
theorem dsg_ret (he : L2.DL.G.DEx C X x e te) : PS X (.Return (some e) pos) (rScG X x C (dRet te)) := psW (ps_ret he) fun D0 σ H ⟨H0, S0, S, env, DD, h1, h2, h3, hF⟩ =>
  ⟨⟨S, env, _, h1.e, h2, fun d hd v H' e rv => h3.rt d v H' hd (h1.same.trans e) (Rep.mono (less_sub h1.sub) _ _ rv)⟩, hF⟩
theorem dsc_never : PS X st (rSc X x C dNever) := fun _ _ _ _ _ _ ⟨_, _, _, _, _, _, h2, _⟩ => h2.elim
def dTryF (K : Frag) (mg : Str → Option Value) (cT : Addr) (n i : Nat) (y x : Str) (uX : Str → DTS) (t : DTA) : DTS := fun DD env => y = x ∧ (∃ x', uX x' DD env ∧ ∀ c, mg x' = some (.ref c) → exmOne K (.ref c) (.ref cT) = some true ∧ excIn K c bmV "ValueError.__new__" = true) ∧
  ∀ a, t ((List.replicate n none).set i (some (.sh (.cls a)))) fun ds => ds.length ≤ 1000
theorem dsx_tryF {tn en : Str} {np hpos cpos rpos p2 : Pos} {i n : Nat} {cT cN : Addr} {uX : Str → DTS} (hs : X.stack = X.env :: X.outer) (hst : X.env.frame = some X.env.locals) (hN : X.N.Nodup) (hn : X.N.length = n) (hi : X.N[i]? = some en) (hk : X.env.scope.names.lookup en = some .local)
    (hg : Gl X tn) (hm : X.mg tn = some (.ref cT)) (hgy : Gl X y) (ek : ExK X.K X.mg y cN) (hX : ∀ pn E x', PS (cxTry X pn E) st (rScG (cxTry X pn E) x' C (uX x'))) (ha : ∀ pn a oe E, DA C (cxEx X pn a oe E) (e0 :: es) t) (hd : (tn == ("__debug__" : Str)) = false := by decide)
    (hdy : (y == ("__debug__" : Str)) = false := by decide) (hde : (en == ("__debug__" : Str)) = false := by decide) (he : starEach (e0 :: es) X.env = (false, eval e0 X.env) :: starEach es X.env := by rfl) (hpl : (backTo cpos (starEach es X.env)).any (·.1) = false := by rfl) :
    DSx C X x (.Try [st] [.ExceptHandler (some (.Name tn np)) (some en) [.Raise (some (.Call (.Name y p) (e0 :: es) [] cpos)) (some (.Name en p2)) rpos] hpos] [] [] pos) (dTryF X.K X.mg cT n i y x uX t) := by
  refine psW (ps_tryF (tb := fun Y D0 σ H => ∃ x', rScG Y x' C (uX x') D0 σ H) (ta := rA X.K C t) (i := i) hs hst hN hi hk hg hm hgy ek (fun pn E => ?_) (fun pn a oe E => ha pn a oe E) hd hdy hde he hpl) fun D0 σ H ⟨H0, S0, S, env, DD, h1, ⟨hy, ⟨x', h2, h4⟩, h5⟩, h3, hF⟩ => ?_
  · refine pss_one fun pins s σ H D0 I ⟨x', q⟩ => hX pn E x' pins s σ H D0 I q
  · refine ⟨nmX X.mg x', nmX X.mg x, h4, hF.mono h1.same, by unfold nmX; rw [← hy]; exact ek.at_, fun pn E hG => ⟨x', H0, S0, S, env, DD, h1, h2, h3, hG⟩, fun a σ' H' sm ha hl => ?_⟩
    exact ⟨S, _, _, (h1.caught sm (hl.trans hn)).e, h5 a, fun ds hd vs H2 e rv => ⟨by rw [← repA_len rv]; exact hd, e⟩⟩
/-- x = e, where e raises -/
theorem dsx_set {i : Nat} {v : Str} {pos' : Pos} (hN : X.N.Nodup) (hi : X.N[i]? = some v) (hx : Loc X.env.scope v) (he : DEx C X x e te) (hs : swapsWith e (some (.Name v pos')) pos.line X.env = pure false := by rfl) (hf : X.fn v = true ∨ X.env.scope.names.lookup v = some .local := by first | exact .inl rfl | exact .inr rfl | assumption) :
    DSx C X x (.Assign [.Name v pos'] e pos) (dSet i te) := psW (ps_set hN hi hx he hs hf) fun D0 σ H ⟨H0, S0, S, env, DD, h1, h2, h3, hF⟩ =>
  ⟨⟨S, env, _, h1.e, h2, fun d hd v H' e rv => h3.nx _ _ _ _ hd ((h1.mono e).set rv i)⟩, hF.c.mono h1.same⟩
/-- ('..', e), where e raises -/
theorem dex_pair {s : Str} {k : Nat} {cp : Pos} {x1} (he : DEx C X x e te) (hs : starEach [.Constant (.str s) k cp, e] X.env = (false, eval (.Constant (.str s) k cp) X.env) :: starEach [e] X.env := by rfl) (hs2 : starEach [e] X.env = (false, eval e X.env) :: starEach [] X.env := by rfl) :
    DEx C X x (.Tuple [.Constant (.str s) k cp, e] x1 tp) (fun env _ => te env fun _ => False) :=
  peW (pe_tup (pa_cons pe_str (pa_cons he pa_nil hs2) hs)) fun σ H Q ⟨⟨S, env, P, h1, h2, h3⟩, hF⟩ => ⟨⟨S, env, fun _ => False, h1, h2, fun _ z => z.elim⟩, hF⟩
/-- x = e in the body of a try, where e raises -/
theorem dsc_set {i : Nat} {v : Str} {pos' : Pos} (hN : X.N.Nodup) (hi : X.N[i]? = some v) (hx : Loc X.env.scope v) (he : DEx C X x e te) (hs : swapsWith e (some (.Name v pos')) pos.line X.env = pure false := by rfl) (hf : X.fn v = true ∨ X.env.scope.names.lookup v = some .local := by first | exact .inl rfl | exact .inr rfl | assumption) :
    PS X (.Assign [.Name v pos'] e pos) (rSc X x C (dSet i te)) := psW (ps_set hN hi hx he hs hf) fun D0 σ H ⟨H0, S0, S, env, DD, h1, h2, h3, hF⟩ =>
  ⟨⟨S, env, _, h1.e, h2, fun d hd v H' e rv => h3.nx _ _ _ _ hd ((h1.mono e).set rv i)⟩, hF⟩
end
end L2.DL

set_option Elab.async false
set_option linter.all false
set_option maxRecDepth 100000
set_option maxHeartbeats 4000000
/-! Strings: cut, put together, searched. -/
namespace L2
open PySem PySem.Spec PyProof.Rows PySem.W
open Builtin Builtin.Str
section
variable {X : Cx}
def rSlS : V → Option Int → Option Int → Hp → VK → Prop := fun x lo hi H Q => ∃ z, x = .str z ∧ z.length ≤ sizeLine ∧ Q (.str (Txt.slice z lo hi)) H
theorem part_is {v : Value} {o : Option Int} (p : IsPart v o) : ∃ l : Option (Int × Tok), v = partValue l ∧ l.map (·.1) = o := by
  cases p with
  | none => exact ⟨none, rfl, rfl⟩
  | int i t => exact ⟨some (i, t), rfl, rfl⟩
theorem sl_str : SlR X rSlS := by
  intro pins s σ H x v vl vu lo hi sl Q I rx hs pl pu h
  obtain ⟨z, rfl, hz, q⟩ := h
  obtain ⟨t, rfl⟩ := rx
  obtain ⟨l, rfl, rfl⟩ := part_is pl
  obtain ⟨u, rfl, rfl⟩ := part_is pu
  refine ⟨"str", _, F.slot_str_getitem.lookup, typeIs_str _ _ _, ?_⟩
  obtain ⟨o, h1, h2, h3⟩ := hs
  refine wpAny_getItem_str_slice (l := l) (u := u) (st := none) ⟨o, h1, h2, h3⟩ rfl ?_
  exact post_val_or_str ⟨Nat.le_trans (Txt.slice_le z _ _) hz, fun t' k => ⟨.str _, H, I.tok _, ⟨_, rfl⟩, q⟩⟩
theorem mt_find : MtR X "str.find" (fun x xs H Q => ∃ z y, x = .str z ∧ xs = [.str y] ∧ Q (.int (Txt.find z y)) H) := by
  intro pins s σ H x xs v us Q I rx rs h
  obtain ⟨z, y, rfl, rfl, q⟩ := h
  obtain ⟨t, rfl⟩ := rx
  obtain ⟨u, rfl, t', rfl⟩ := vals1 rs
  exact SC.find ⟨.int _, H, I.tok _, ⟨_, rfl⟩, q⟩
theorem mt_index : MtR X "str.index" (fun x xs H Q => ∃ z y i rest, x = .str z ∧ xs = [.str y] ∧ occurrences z y 0 z.length 1 = i :: rest ∧ Q (.int (i : Nat)) H) := by
  intro pins s σ H x xs v us Q I rx rs h
  obtain ⟨z, y, i, rest, rfl, rfl, ho, q⟩ := h
  obtain ⟨t, rfl⟩ := rx
  obtain ⟨u, rfl, t', rfl⟩ := vals1 rs
  exact SC.index ho ⟨.int _, H, I.tok _, ⟨_, rfl⟩, q⟩
end
end L2
namespace L2.DL
open PySem PySem.Spec PyProof.Rows PySem.W
open Builtin Builtin.Str
section
variable {C : Addr} {X : Cx} {a b e o : Expr} {ta tb te to : DT1} {t : DTA} {pos p apos cpos : Pos}
def rdS2 : D → D → (D → Prop) → Prop := fun d e Q => match d, e with
  | .str i, .str j => i.length + j.length ≤ sizeLine ∧ Q (.str (i ++ j))
  | _, _ => False
theorem de_adds (ha : DE C X a ta) (hb : DE C X b tb) : DE C X (.BinOp a .Add b pos) (d2 rdS2 ta tb) := de_op op_add_str (fun H S d v e u P Q dm r1 r2 h k => by
  unfold rdS2 at h
  split at h
  · unfold Rep at r1 r2
    exact ⟨_, _, r1, r2, h.1, k.flat h.2 rep_str⟩
  · exact h.elim) ha hb
def rdIxS : D → D → (D → Prop) → Prop := fun d e Q => match d, e with
  | .str z, .int i => z.length ≤ sizeLine ∧ match atI z.cps.toList i with
    | some c => Q (.str ⟨#[c]⟩)
    | none => False
  | _, _ => False
theorem de_ixS (ha : DE C X a ta) (hb : DE C X b tb) (hs : PlainIx b) : DE C X (.Subscript a b pos) (d2 rdIxS ta tb) := peW (pe_ix ix_str ha hb hs) (top_of (fun H S d v e u P Q dm r1 r2 h k => by
  unfold rdIxS at h
  split at h
  · obtain ⟨hz, h⟩ := h
    split at h
    · next c hc =>
      unfold Rep at r1 r2
      exact ⟨_, _, c, r1, r2, hz, hc, k.flat h rep_str⟩
    · exact h.elim
  · exact h.elim))
def dSlS (te : DT1) (tl th : En → (Option Int → Prop) → Prop) : DT1 := fun env Q => te env fun x => tl env fun l => th env fun u => match x with
  | .str z => z.length ≤ sizeLine ∧ Q (.str (Txt.slice z l u))
  | _ => False
theorem de_sliceS {lo hi : Option Expr} {tl th : En → (Option Int → Prop) → Prop} {p2 : Pos} (he : DE C X e te) (hl : DO C X lo tl) (hu : DO C X hi th) : DE C X (.Subscript e (.Slice lo hi none p2) pos) (dSlS te tl th) :=
  peW (pe_slice sl_str he hl hu) fun σ H Q ⟨S, env, P, h1, h2, h3⟩ => ⟨S, env, _, h1, h2, fun d hd v H' e rv => ⟨S, env, _, h1.mono e, hd, fun l hl H2 e2 => ⟨S, env, _, h1.mono (e.trans e2), hl, fun u hu H3 e3 => by
    cases d with
    | str z =>
      unfold Rep at rv
      subst rv
      exact ⟨z, rfl, hu.1, (h3.mono (e.trans (e2.trans e3))).flat hu.2 rep_str⟩
    | _ => exact hu.elim⟩⟩⟩
def rcLenS : List D → (D → Prop) → Prop := fun ds Q => match ds with
  | [.str z] => z.length ≤ sizeLine ∧ Q (.int z.length)
  | _ => False
theorem l_lens : LiftN X.K C (fun xs H Q => ∃ z, xs = [.str z] ∧ z.length ≤ sizeLine ∧ Q (.int z.length) H) rcLenS := by
  intro H S ds vs P Q dm r h k
  unfold rcLenS at h
  split at h
  · obtain ⟨v, rfl, r'⟩ := repA_one r
    unfold Rep at r'
    subst r'
    exact ⟨_, rfl, h.1, k.flat h.2 rep_int⟩
  · exact h.elim
def rcStrI : List D → (D → Prop) → Prop := fun ds Q => match ds with
  | [.int i] => i.natAbs.log2 < 1920 ∧ Q (.str (toString i))
  | _ => False
theorem l_strI : LiftN X.K C (fun xs H Q => ∃ i, xs = [.int i] ∧ i.natAbs.log2 < 1920 ∧ Q (.str (toString i)) H) rcStrI := by
  intro H S ds vs P Q dm r h k
  unfold rcStrI at h
  split at h
  · obtain ⟨v, rfl, r'⟩ := repA_one r
    unfold Rep at r'
    subst r'
    exact ⟨_, rfl, h.1, k.flat h.2 rep_str⟩
  · exact h.elim
def rdInS (f : Bool → Bool) : D → D → (D → Prop) → Prop := fun d e Q => match d, e with
  | .str i, .str j => Q (.bl (f (!(occurrences j i 0 j.length 1).isEmpty)))
  | _, _ => False
theorem l_notins : Lift2 X.K C (fun x y H Q => ∃ i j, x = .str i ∧ y = .str j ∧ Q (.bl (!(!(occurrences j i 0 j.length 1).isEmpty))) H) (rdInS (fun b => !b)) := by
  intro H S d v e u P Q dm r1 r2 h k
  unfold rdInS at h
  split at h
  · unfold Rep at r1 r2
    exact ⟨_, _, r1, r2, k.flat h rep_bl⟩
  · exact h.elim
/-- s.find(t), s.index(t) -/
def dFind (to te : DT1) : DT1 := fun env Q => to env fun x => match x with
  | .str z => te env fun y => match y with
    | .str w => Q (.int (Txt.find z w))
    | _ => False
  | _ => False
def dIndex (to te : DT1) : DT1 := fun env Q => to env fun x => match x with
  | .str z => te env fun y => match y with
    | .str w => ∃ i rest, occurrences z w 0 z.length 1 = i :: rest ∧ Q (.int (i : Nat))
    | _ => False
  | _ => False
theorem de_find (ho : DE C X o to) (he : DE C X e te) (hbase : attributeBase o "find" X.env (eval o X.env) = eval o X.env := by rfl)
    (hfew : ((backTo cpos (starEach [e] X.env)).all (fun x => !x.1) && (backToKw cpos (keywordEach [] X.env)).all (fun x => x.1.isSome) && decide ([e].length + ([] : List Keyword).length + (if ([] : List Keyword).isEmpty then 0 else 1) < 30)) = true := by rfl)
    (hline : (apos.endLine == cpos.line) = true := by rfl) (hs : starEach [e] X.env = (false, eval e X.env) :: starEach [] X.env := by rfl) (hplain : (backTo cpos (starEach [] X.env)).any (·.1) = false := by rfl) : DE C X (.Call (.Attribute o "find" apos) [e] [] cpos) (dFind to te) :=
  peW (pe_bm PySem.F.plainAttrs_str PySem.F.slot_str_find PySem.F.type_str_find mt_find ho (da_cons he da_nil hs) hbase hfew hline hs hplain) fun σ H Q ⟨S, env, P, h1, h2, h3⟩ => ⟨S, env, _, h1, h2, fun d hd v H' e rv => by
    cases d with
    | str z =>
      unfold Rep at rv
      subst rv
      refine ⟨rfl, S, env, oneIs _, h1.mono e, hd, fun ds hds vs H2 e2 rvs => ?_⟩
      obtain ⟨y, rfl, hy⟩ := oneIs_inv hds
      obtain ⟨v, rfl, rv⟩ := repA_one rvs
      cases y with
      | str w =>
        unfold Rep at rv
        subst rv
        exact ⟨z, w, rfl, rfl, (h3.mono (e.trans e2)).flat hy rep_int⟩
      | _ => exact hy.elim
    | _ => exact hd.elim⟩
theorem de_index (ho : DE C X o to) (he : DE C X e te) (hbase : attributeBase o "index" X.env (eval o X.env) = eval o X.env := by rfl)
    (hfew : ((backTo cpos (starEach [e] X.env)).all (fun x => !x.1) && (backToKw cpos (keywordEach [] X.env)).all (fun x => x.1.isSome) && decide ([e].length + ([] : List Keyword).length + (if ([] : List Keyword).isEmpty then 0 else 1) < 30)) = true := by rfl)
    (hline : (apos.endLine == cpos.line) = true := by rfl) (hs : starEach [e] X.env = (false, eval e X.env) :: starEach [] X.env := by rfl) (hplain : (backTo cpos (starEach [] X.env)).any (·.1) = false := by rfl) : DE C X (.Call (.Attribute o "index" apos) [e] [] cpos) (dIndex to te) :=
  peW (pe_bm PySem.F.plainAttrs_str PySem.F.slot_str_index PySem.F.type_str_index mt_index ho (da_cons he da_nil hs) hbase hfew hline hs hplain) fun σ H Q ⟨S, env, P, h1, h2, h3⟩ => ⟨S, env, _, h1, h2, fun d hd v H' e rv => by
    cases d with
    | str z =>
      unfold Rep at rv
      subst rv
      refine ⟨rfl, S, env, oneIs _, h1.mono e, hd, fun ds hds vs H2 e2 rvs => ?_⟩
      obtain ⟨y, rfl, hy⟩ := oneIs_inv hds
      obtain ⟨v, rfl, rv⟩ := repA_one rvs
      cases y with
      | str w =>
        unfold Rep at rv
        subst rv
        obtain ⟨i, rest, ho, hy⟩ := hy
        exact ⟨z, w, i, rest, rfl, rfl, ho, (h3.mono (e.trans e2)).flat hy rep_int⟩
      | _ => exact hy.elim
    | _ => exact hd.elim⟩
end
end L2.DL

set_option Elab.async false
set_option linter.all false
set_option maxRecDepth 100000
set_option maxHeartbeats 4000000
/-! Strings: split, join, f'..'. -/
namespace L2
open PySem PySem.Spec PyProof.Rows PySem.W
open Builtin Builtin.Str
section
variable {X : Cx}
theorem strs_vals : ∀ {l : List (Str × Tok)}, Vals ((l.map (·.1)).map V.str) (strValues l)
  | [] => .nil
  | (x, t) :: r => .cons ⟨t, rfl⟩ strs_vals
theorem vals_strs : ∀ {ss : List Str} {us : List Value}, Vals (ss.map V.str) us → ∃ l : List (Str × Tok), us = strValues l ∧ l.map (·.1) = ss
  | [], us, r => by cases r; exact ⟨[], rfl, rfl⟩
  | x :: ss, us, r => by
    cases r with
    | cons r1 r2 =>
      obtain ⟨t, rfl⟩ := r1
      obtain ⟨l, rfl, rfl⟩ := vals_strs r2
      exact ⟨(x, t) :: l, rfl, rfl⟩
theorem split_short (x y : Str) (h : x.length ≤ 1000000) : (Txt.split x y).length ≤ sizeLine := Nat.le_trans (PyProof.Rows.split_le x y) (by have : sizeLine = 16777216 := sizeLine_eq; omega)
theorem mt_split : MtR X "str.split" (fun x xs H Q => ∃ z y, x = .str z ∧ xs = [.str y] ∧ 1 ≤ y.length ∧ z.length ≤ 1000000 ∧ ∀ p, H p = none → Q (.ref p) (upd H p (.lst ((Txt.split z y).map V.str)))) := by
  intro pins s σ H x xs v us Q I rx rs h
  obtain ⟨z, y, rfl, rfl, hy, hz, q⟩ := h
  obtain ⟨t, rfl⟩ := rx
  obtain ⟨u, rfl, t', rfl⟩ := vals1 rs
  have hsz : z.length ≤ sizeLine := Nat.le_trans hz (by decide)
  have hsp := split_short z y hz
  have hy' : (y.length == 0) = false := by simp; omega
  have fin : ∀ (l : List (Str × Tok)) (tk : Nat), l.map (·.1) = Txt.split z y → EP X pins σ Q (.ref s.heap.objs.size) { s with heap := s.heap.push { cls := .type "list", data := .seq (strValues l).toArray }, toks := tk } := fun l tk e => by
    refine ⟨.ref s.heap.objs.size, upd H s.heap.objs.size (.lst ((Txt.split z y).map V.str)), I.laid (fun b o e => Heap.get?_push_of_some _ e) (Nat.le_refl _) ?_, rfl, q _ (I.hok.fresh (Nat.le_refl _))⟩
    refine ⟨by rw [List.length_map]; exact hsp, strValues l, 0, ?_, ?_⟩
    · rw [← e]; exact strs_vals
    · exact Heap.get?_push_size _ rfl
  cases h1 : (decide (z.length < y.length) || decide (strKind z < strKind y))
  · cases hf : (occurrences z y 0 z.length (z.length + 1)).isEmpty
    · have es : Txt.split z y = partsBetween z (occurrences z y 0 z.length (z.length + 1)) y.length := (if_neg (ne_true_of_eq_false h1)).trans (if_neg (ne_true_of_eq_false hf))
      refine call_meets F.slot_str_split (typeIs_str _ _ _) F.entry_str_split (F.args_str_split_2 _ _) (meets_str_split_sep z y t t' h1 hy' hf hsz (by rw [← es]; exact hsp)) ?_
      show wants _ _ _ _
      rw [strsFrom_eq]
      exact fin _ _ ((numbered_texts _ _).trans es.symm)
    · exact call_meets F.slot_str_split (typeIs_str _ _ _) F.entry_str_split (F.args_str_split_2 _ _) (meets_str_split_not_found z y t t' h1 hy' hf)
        (fin [(z, t)] s.toks ((if_neg (ne_true_of_eq_false h1)).trans (if_pos hf)).symm)
  · exact call_meets F.slot_str_split (typeIs_str _ _ _) F.entry_str_split (F.args_str_split_2 _ _) (meets_str_split_cannot_occur z y t t' h1)
      (fin [(z, t)] s.toks (if_pos h1).symm)
theorem mt_join : MtR X "str.join" (fun x xs H Q => ∃ z p ss, x = .str z ∧ xs = [.ref p] ∧ SqL X.K H p (ss.map V.str) ∧ JoinOk z ss = true ∧ Q (.str (Txt.join z ss)) H) := by
  intro pins s σ H x xs v us Q I rx rs h
  obtain ⟨z, p, ss, rfl, rfl, hp, hj, q⟩ := h
  obtain ⟨t, rfl⟩ := rx
  obtain ⟨u, rfl, ru⟩ := vals1 rs
  cases ru
  obtain ⟨its, r, pl, _⟩ := I.list hp
  obtain ⟨l, rfl, rfl⟩ := vals_strs r
  exact SC.join pl.isList rfl hj fun t' k => ⟨.str _, H, I.tok _, ⟨_, rfl⟩, q⟩
/-- f'c{a}d{b}' of ints -/
def tFs (c d : Str) (ta tb : TE) : TE := fun σ H Q => ta σ H fun x H1 => ∃ i, x = .int i ∧ i.natAbs.log2 < 1920 ∧ tb σ H1 fun y H2 => ∃ j, y = .int j ∧ j.natAbs.log2 < 1920 ∧ Q (.str (c ++ toString i ++ d ++ toString j)) H2
theorem pe_fs {c d : Str} {k1 k2 : Nat} {a b : Expr} {ta tb : TE} {p1 p2 p3 p4 pos : Pos} (hcl : c.length ≤ 1000) (hdl : d.length ≤ 1000) (ha : PE X a ta) (hb : PE X b tb) : PE X (.JoinedStr [.Constant (.str c) k1 p1, .FormattedValue a (-1) none p2, .Constant (.str d) k2 p3, .FormattedValue b (-1) none p4] pos) (tFs c d ta tb) := by
  intro pins s σ H Q I h
  refine JoinedStr_many ?_
  have I0 := I.tok (s.toks + 1)
  have hz : (1000000 : Nat) ≤ sizeLine := by decide
  have he : Str.empty.length = 0 := rfl
  have hl : ∀ {i : Int}, i.natAbs.log2 < 1920 → (Str.ofString (toString i)).length ≤ 2000 := fun {i} h => by
    rw [PySem.ofString_length]
    exact Nat.le_trans (int_text_length_le (by decide) h) (by decide)
  refine joinParts_cons (Calls.Constant_str ?_)
  show (Str.empty ++ c).length ≤ sizeLine ∧ _
  have run := ha pins { s with toks := s.toks + 1 } σ H _ I0 h
  refine ⟨by rw [Str.length_append]; omega, ?_⟩
  refine joinParts_cons (FormattedValue_plain (thn run fun v s1 ⟨x, H1, I1, r1, i, e, hi, q1⟩ => ?_))
  subst e
  obtain ⟨t1, rfl⟩ := r1
  have hi' := hl hi
  refine wpAny_formatField_int hi ?_
  show (Str.empty ++ c ++ toString i).length ≤ sizeLine ∧ _
  refine ⟨by rw [Str.length_append, Str.length_append]; omega, ?_⟩
  refine joinParts_cons (Calls.Constant_str ?_)
  show (Str.empty ++ c ++ toString i ++ d).length ≤ sizeLine ∧ _
  refine ⟨by rw [Str.length_append, Str.length_append, Str.length_append]; omega, ?_⟩
  have run2 := hb pins { s1 with toks := s1.toks + 1 + 1 + 1 } σ H1 _ (I1.tok _) q1
  refine joinParts_cons (FormattedValue_plain (thn run2 fun v s2 ⟨y, H2, I2, r2, j, e, hj, q2⟩ => ?_))
  subst e
  obtain ⟨t2, rfl⟩ := r2
  have hj' := hl hj
  refine wpAny_formatField_int hj ?_
  show (Str.empty ++ c ++ toString i ++ d ++ toString j).length ≤ sizeLine ∧ _
  have hf : (Str.empty ++ c ++ toString i ++ d ++ toString j : Str).length ≤ sizeLine := by rw [Str.length_append, Str.length_append, Str.length_append, Str.length_append]; omega
  refine ⟨hf, joinParts_nil ?_ hf⟩
  rw [Str.empty_append]
  exact ⟨.str _, H2, I2.tok _, ⟨_, rfl⟩, q2⟩
end
end L2
namespace L2.DL
open PySem PySem.Spec PyProof.Rows PySem.W
open Builtin Builtin.Str
section
variable {C : Addr} {X : Cx} {a b e o : Expr} {ta tb te to : DT1} {t : DTA} {pos p apos cpos : Pos}
theorem strs_rep {K : Frag} {H : Hp} : ∀ {ss : List Str}, RepA K C H (ss.map D.str) (ss.map V.str)
  | [] => repA_nil
  | x :: ss => repA_cons rep_str strs_rep
theorem rep_strs {K : Frag} {H : Hp} : ∀ {ss : List Str} {vs : List V}, RepA K C H (ss.map D.str) vs → vs = ss.map V.str
  | [], vs, r => by
    have := repA_len r
    cases vs with
    | nil => rfl
    | cons v r => simp at this
  | x :: ss, vs, r => by
    rw [List.map_cons] at r
    unfold RepA at r
    obtain ⟨v, vs', rfl, r1, r2⟩ := r
    unfold Rep at r1
    rw [r1, rep_strs r2]
    rfl
/-- s.split(t): a list of one's own -/
def dSplit (to te : DT1) : DTA := fun env Q => to env fun x => match x with
  | .str z => te env fun y => match y with
    | .str w => 1 ≤ w.length ∧ z.length ≤ 1000000 ∧ Q ((Txt.split z w).map D.str)
    | _ => False
  | _ => False
theorem df_split (ho : DE C X o to) (he : DE C X e te) (hbase : attributeBase o "split" X.env (eval o X.env) = eval o X.env := by rfl)
    (hfew : ((backTo cpos (starEach [e] X.env)).all (fun x => !x.1) && (backToKw cpos (keywordEach [] X.env)).all (fun x => x.1.isSome) && decide ([e].length + ([] : List Keyword).length + (if ([] : List Keyword).isEmpty then 0 else 1) < 30)) = true := by rfl)
    (hline : (apos.endLine == cpos.line) = true := by rfl) (hs : starEach [e] X.env = (false, eval e X.env) :: starEach [] X.env := by rfl) (hplain : (backTo cpos (starEach [] X.env)).any (·.1) = false := by rfl) : DF C X (.Call (.Attribute o "split" apos) [e] [] cpos) (dSplit to te) :=
  peW (pe_bm PySem.F.plainAttrs_str PySem.F.slot_str_split PySem.F.type_str_split mt_split ho (da_cons he da_nil hs) hbase hfew hline hs hplain) fun σ H Q ⟨S, env, P, h1, h2, h3⟩ => ⟨S, env, _, h1, h2, fun d hd v H' e rv => by
    cases d with
    | str z =>
      unfold Rep at rv
      subst rv
      refine ⟨rfl, S, env, oneIs _, h1.mono e, hd, fun ds hds vs H2 e2 rvs => ?_⟩
      obtain ⟨y, rfl, hy⟩ := oneIs_inv hds
      obtain ⟨v, rfl, rv⟩ := repA_one rvs
      cases y with
      | str w =>
        unfold Rep at rv
        subst rv
        exact ⟨z, w, rfl, rfl, hy.1, hy.2.1, fun p hp => (h3.mono (e.trans e2)).new hy.2.2 strs_rep hp⟩
      | _ => exact hy.elim
    | _ => exact hd.elim⟩
/-- s.join(a list of strings) -/
def dJoin (to te : DT1) : DT1 := fun env Q => to env fun x => match x with
  | .str z => te env fun y => match y with
    | .lst l => ∃ ss : List Str, l = ss.map D.str ∧ JoinOk z ss = true ∧ Q (.str (Txt.join z ss))
    | _ => False
  | _ => False
theorem de_join (ho : DE C X o to) (he : DE C X e te) (hbase : attributeBase o "join" X.env (eval o X.env) = eval o X.env := by rfl)
    (hfew : ((backTo cpos (starEach [e] X.env)).all (fun x => !x.1) && (backToKw cpos (keywordEach [] X.env)).all (fun x => x.1.isSome) && decide ([e].length + ([] : List Keyword).length + (if ([] : List Keyword).isEmpty then 0 else 1) < 30)) = true := by rfl)
    (hline : (apos.endLine == cpos.line) = true := by rfl) (hs : starEach [e] X.env = (false, eval e X.env) :: starEach [] X.env := by rfl) (hplain : (backTo cpos (starEach [] X.env)).any (·.1) = false := by rfl) : DE C X (.Call (.Attribute o "join" apos) [e] [] cpos) (dJoin to te) :=
  peW (pe_bm PySem.F.plainAttrs_str PySem.F.slot_str_join PySem.F.type_str_join mt_join ho (da_cons he da_nil hs) hbase hfew hline hs hplain) fun σ H Q ⟨S, env, P, h1, h2, h3⟩ => ⟨S, env, _, h1, h2, fun d hd v H' e rv => by
    cases d with
    | str z =>
      unfold Rep at rv
      subst rv
      refine ⟨rfl, S, env, oneIs _, h1.mono e, hd, fun ds hds vs H2 e2 rvs => ?_⟩
      obtain ⟨y, rfl, hy⟩ := oneIs_inv hds
      obtain ⟨v, rfl, rv⟩ := repA_one rvs
      cases y with
      | lst l =>
        obtain ⟨ss, rfl, hj, hy⟩ := hy
        unfold Rep at rv
        obtain ⟨a, xs, rfl, r1, r2⟩ := rv
        cases rep_strs r2
        exact ⟨z, a, ss, rfl, rfl, SqL.of (less_same _ _ r1), hj, (h3.mono (e.trans e2)).flat hy rep_str⟩
      | _ => exact hy.elim
    | _ => exact hd.elim⟩
/-- f'c{a}d{b}' of ints -/
def dFs (c d : Str) (ta tb : DT1) : DT1 := fun env Q => ta env fun x => match x with
  | .int i => i.natAbs.log2 < 1920 ∧ tb env fun y => match y with
    | .int j => j.natAbs.log2 < 1920 ∧ Q (.str (c ++ toString i ++ d ++ toString j))
    | _ => False
  | _ => False
theorem de_fs {c d : Str} {k1 k2 : Nat} {p1 p2 p3 p4 : Pos} (ha : DE C X a ta) (hb : DE C X b tb) (hcl : c.length ≤ 1000 := by decide) (hdl : d.length ≤ 1000 := by decide) : DE C X (.JoinedStr [.Constant (.str c) k1 p1, .FormattedValue a (-1) none p2, .Constant (.str d) k2 p3, .FormattedValue b (-1) none p4] pos) (dFs c d ta tb) :=
  peW (pe_fs hcl hdl ha hb) fun σ H Q ⟨S, env, P, h1, h2, h3⟩ => ⟨S, env, _, h1, h2, fun d hd v H' e rv => by
    cases d with
    | int i =>
      unfold Rep at rv
      subst rv
      refine ⟨i, rfl, hd.1, S, env, _, h1.mono e, hd.2, fun d hd v H2 e2 rv => ?_⟩
      cases d with
      | int j =>
        unfold Rep at rv
        subst rv
        exact ⟨j, rfl, hd.1, (h3.mono (e.trans e2)).flat hd.2 rep_str⟩
      | _ => exact hd.elim
    | _ => exact hd.elim⟩
end
end L2.DL

set_option Elab.async false
set_option linter.all false
set_option maxRecDepth 100000
set_option maxHeartbeats 4000000
/-! range(a, b, c); reversed(a list) walked. -/
namespace L2
open PySem PySem.Spec PyProof.Rows PySem.W
def Itrs (lo c : Int) (n : Nat) : It := ⟨fun i _ => i < n, fun i H x H' => H' = H ∧ x = .int (lo + i * c), fun i _ => n ≤ i⟩
theorem turn_rangeS {P : Program} {w : World} {K : PySem.W.Frag} {tg : Expr} (it : Addr) (lo c : Int) (n : Nat) : Turn P w K tg (Itrs lo c n) [it] it (fun i h => IsRangeIter h it (lo + (i : Nat) * c) ((n : Int) - (i : Nat)) c) where
  mem := by simp
  obj := fun i h st b hb => by
    have e : b = it := by simpa using hb
    subst e
    exact ⟨_, st, fun v z => by
      have z' : Data.fields _ = Data.cell v := z
      cases z'⟩
  keep := fun i h h' st k => k it (by simp) _ st
  item := by
    intro X hP hw hK hc i pins s σ H E I hf st hg
    subst hP hw hK
    obtain ⟨f0, f1, f2, f3, f4, f5⟩ := hf it (by simp)
    have W := Walks.range (prog := X.prog) (w := X.w) (I.ok.hd hc) it lo c n
    refine W.item i s _ _ hg st fun v h' tk hv st' kk => ?_
    obtain ⟨t, rfl⟩ := hv
    have I1 : Inv X pins σ H { s with heap := h', toks := tk } := I.turned (fun b o hb e => kk b o (by simpa using hb) e) f0 f1 f3 f4 f5
    exact ⟨_, rfl, go_of (s := { s with heap := h', toks := tk }) (n := "range_iterator") st' rfl rfl (by decide) ⟨.int (lo + i * c), H, I1, ⟨t, rfl⟩, ⟨rfl, rfl⟩, st', fun b hb => (hf b hb).1⟩⟩
  done := by
    intro X hP hw hK hc i pins s σ H E I hf st hg
    subst hP hw hK
    obtain ⟨f0, f1, f2, f3, f4, f5⟩ := hf it (by simp)
    exact wpAny_pyNext_range_end (I.ok.hd hc) st (by have : n ≤ i := hg; omega) fun h' eb => ⟨rfl, I.turned (t' := s.toks) (fun b o hb e => eb b o hb e) f0 f1 f3 f4 f5⟩
  self := fun _ _ _ _ _ st h => wpAny_pyIter_rangeiter st h
def Itv (K : PySem.W.Frag) (a : Addr) (n : Nat) : It :=
  ⟨fun i H => i < n ∧ ∃ xs, SqL K H a xs ∧ xs.length = n, fun i H x H' => H' = H ∧ ∀ xs, SqL K H a xs → xs[n - 1 - i]? = some x, fun i _ => n ≤ i⟩
theorem turn_rev {P : Program} {w : World} {K : PySem.W.Frag} {tg : Expr} (a it : Addr) (n : Nat) : Turn P w K tg (Itv K a n) [it] it (fun i h => i ≤ n ∧ h.IsRevIter it a ((n : Int) - 1 - (i : Nat))) where
  mem := by simp
  obj := fun i h st b hb => by
    have e : b = it := by simpa using hb
    subst e
    obtain ⟨_, o, e, c, d⟩ := st
    exact ⟨o, e, fun v z => by rw [d] at z; cases z⟩
  keep := fun i h h' st k => ⟨st.1, st.2.at fun o e => k it (by simp) o e⟩
  item := by
    intro X hP hw hK hc i pins s σ H E I hf st hg
    subst hP hw hK
    obtain ⟨hi, xs, hq, hn⟩ := hg
    obtain ⟨its, rv, p, hz⟩ := I.list hq
    have hx : xs[n - 1 - i]? = some (xs[n - 1 - i]'(by omega)) := List.getElem?_eq_getElem (by omega)
    obtain ⟨u, hu, ru⟩ := rv.get hx
    obtain ⟨f0, f1, f2, f3, f4, f5⟩ := hf it (by simp)
    have e1 : (n : Int) - 1 - (i : Nat) = ((n - 1 - i : Nat) : Int) := by omega
    have st2 := st.2
    rw [e1] at st2
    refine wpAny_pyNext_rev_item st2 p.isList (x := u) (by simpa using hu) fun h' st' sb => ?_
    have I1 : Inv X pins σ H { s with heap := h' } := I.turned (t' := s.toks) (fun b o hb e => (sb.2 b hb).trans e) f0 f1 f3 f4 f5
    have e2 : ((n - 1 - i : Nat) : Int) - 1 = (n : Int) - 1 - ((i + 1 : Nat) : Int) := by omega
    rw [e2] at st'
    obtain ⟨o, e, c, d⟩ := id st'
    exact ⟨u, rfl, go_of (s := { s with heap := h' }) e c d (by decide) ⟨_, H, I1, ru, ⟨rfl, fun ys hy => by rw [I.list_inj hy hq]; exact hx⟩, ⟨hi, st'⟩, fun b hb => (hf b hb).1⟩⟩
  done := by
    intro X hP hw hK hc i pins s σ H E I hf st hg
    subst hP hw hK
    obtain ⟨f0, f1, f2, f3, f4, f5⟩ := hf it (by simp)
    have hg' : n ≤ i := hg
    have e1 : (n : Int) - 1 - (i : Nat) = -1 := by have := st.1; omega
    have st2 := st.2
    rw [e1] at st2
    exact wpAny_pyNext_rev_end (I.ok.hd hc) st2 fun h' eb => ⟨rfl, I.turned (t' := s.toks) (fun b o hb e => eb b o hb e) f0 f1 f3 f4 f5⟩
  self := fun _ _ _ _ _ st h => wpAny_pyIter_revIter st.2 h
section
variable {X : Cx} {tg : Expr}
def iRng3 (ta : TA) : TI := fun σ H R => ta σ H fun vs H1 => ∃ i j c : Int, vs = [.int i, .int j, .int c] ∧ 0 < c ∧ Builtin.Range.small i j c = true ∧ Builtin.Int.intBits c ≤ 8000 ∧ R (Itrs i c (Builtin.Range.rangeSize i j c).toNat) H1
theorem pi_range3 {a b d : Expr} {ta : TA} {p pos : Pos} (hg : Gl X "range") (hm : X.mg "range" = none) (ha : PA X [a, b, d] ta) (hs : starEach [a, b, d] X.env = (false, eval a X.env) :: starEach [b, d] X.env := by rfl) (hp : (backTo pos (starEach [b, d] X.env)).any (·.1) = false := by rfl) :
    PI X tg (.Call (.Name "range" p) [a, b, d] [] pos) (iRng3 ta) := by
  intro pins s σ H R I h
  refine Call_ (ld_blt I hg hm boot_range (PyProof.Rows.callWith_type1 (thn (ha pos pins s σ H _ I h) fun us s1 ⟨vs, H1, I1, r1, q1⟩ => ?_) hs hp))
  obtain ⟨i, j, c, e, hc, hsm, hb, q⟩ := q1
  subst e
  cases r1 with
  | cons r rr =>
    cases rr with
    | cons r' rr =>
      cases rr with
      | cons r'' rr =>
        cases rr
        obtain ⟨t, rfl⟩ := r
        obtain ⟨t', rfl⟩ := r'
        obtain ⟨t'', rfl⟩ := r''
        refine call_range_3 (by omega) ?_ (.inl (PyProof.noPylong_of_log2 (bits_log2 (by omega) hb)))
        refine wpAny_pyIter_range (IsRange.new ..) hsm ?_
        have I2 : Inv X pins σ H1 { s1 with heap := s1.heap.push { cls := .type "range", data := .fields #[.int i t, .int j t', .int c t''] }, toks := s1.toks } := I1.kept fun b o e => Heap.get?_push_of_some _ e
        refine ⟨_, [(s1.heap.push { cls := .type "range", data := .fields #[.int i t, .int j t', .int c t''] }).objs.size], _, _, H1, rfl, I2.kept (t' := s1.toks) fun b o e => Heap.get?_push_of_some _ e, turn_rangeS _ i c (Builtin.Range.rangeSize i j c).toNat, ?_, fun b hb => ?_, q⟩
        · have e1 : i + ((0 : Nat) : Int) * c = i := by simp
          have e2 : (((Builtin.Range.rangeSize i j c).toNat : Nat) : Int) - ((0 : Nat) : Int) = Builtin.Range.rangeSize i j c := by
            have : 0 ≤ Builtin.Range.rangeSize i j c := by
              unfold Builtin.Range.rangeSize
              rw [if_pos (by omega)]
              split
              · have := Int.ediv_nonneg (show 0 ≤ j - i - 1 by omega) (show 0 ≤ c by omega)
                omega
              · omega
            omega
          show IsRangeIter _ _ (i + ((0 : Nat) : Int) * c) ((((Builtin.Range.rangeSize i j c).toNat : Nat) : Int) - ((0 : Nat) : Int)) c
          rw [e1, e2]
          exact Heap.get?_push_size _ rfl
        · have e : b = (s1.heap.push { cls := .type "range", data := .fields #[.int i t, .int j t', .int c t''] }).objs.size := by simpa using hb
          subst e
          exact I2.fpOk (Nat.le_refl _) (I2.hok.fresh (Nat.le_refl _))
def iRev (K : PySem.W.Frag) (ta : TA) : TI := fun σ H R => ta σ H fun vs H1 => ∃ a xs, vs = [.ref a] ∧ SqL K H1 a xs ∧ R (Itv K a xs.length) H1
theorem pi_rev {a : Expr} {ta : TA} {p pos : Pos} (hg : Gl X "reversed") (hm : X.mg "reversed" = none) (ha : PA X [a] ta) (hs : starEach [a] X.env = [(false, eval a X.env)] := by rfl) : PI X tg (.Call (.Name "reversed" p) [a] [] pos) (iRev X.K ta) := by
  intro pins s σ H R I h
  refine Call_ (ld_blt I hg hm boot_reversed (PyProof.Rows.callWith_type1 (thn (ha pos pins s σ H _ I h) fun us s1 ⟨vs, H1, I1, r1, q1⟩ => ?_) hs rfl))
  obtain ⟨l, xs, e, hq, q⟩ := q1
  subst e
  obtain ⟨u, rfl, ru⟩ := vals1 r1
  cases ru
  obtain ⟨its, rv, pl, hz⟩ := I1.list hq
  have hlen : its.toArray.size = xs.length := by rw [List.size_toArray]; exact rv.length.symm
  refine call_reversed_list pl.isList ?_
  rw [hlen]
  have st : (s1.heap.push (revObj l ((xs.length : Int) - 1))).IsRevIter s1.heap.objs.size l ((xs.length : Int) - 1) := ⟨_, Heap.get?_push_size _ rfl, rfl, rfl⟩
  refine wpAny_pyIter_revIter st ?_
  refine ⟨s1.heap.objs.size, [s1.heap.objs.size], _, _, H1, rfl, I1.kept (t' := s1.toks) fun b o e => Heap.get?_push_of_some _ e, turn_rev l _ xs.length, ⟨Nat.zero_le _, by simpa using st⟩, fun b hb => ?_, q⟩
  have e : b = s1.heap.objs.size := by simpa using hb
  subst e
  exact I1.fpOk (Nat.le_refl _) (I1.hok.fresh (Nat.le_refl _))
end
end L2
namespace L2.DL
open PySem PySem.Spec PyProof.Rows PySem.W
section
variable {C : Addr} {X : Cx} {a b e o : Expr} {ta tb te to : DT1} {t : DTA} {pos p apos cpos : Pos}
def rngS (lo c : Int) (n : Nat) : List D := (List.range n).map fun (i : Nat) => .int (lo + i * c)
theorem itrs_ok {K : PySem.W.Frag} {lo c : Int} {n : Nat} {G : Hp} : ItOk K C (Itrs lo c n) (rngS lo c n) G := by
  have hl : (rngS lo c n).length = n := by unfold rngS; rw [List.length_map, List.length_range]
  refine ⟨fun i H S e hi => by rw [hl] at hi; exact hi, fun i H S x H' dm e hi y => ?_, fun i H S e hi => by rw [hl] at hi; exact hi⟩
  obtain ⟨rfl, rfl⟩ := y
  refine ⟨.int (lo + i * c), ?_, Same.refl _, rep_int⟩
  rw [hl] at hi
  unfold rngS
  rw [List.getElem?_map, List.getElem?_range hi]
  rfl
def dRng3 (t : DTA) : DTA := fun env Q => t env fun l => match l with
  | [.int i, .int j, .int c] => 0 < c ∧ Builtin.Range.small i j c = true ∧ Builtin.Int.intBits c ≤ 8000 ∧ Q (rngS i c (Builtin.Range.rangeSize i j c).toNat)
  | _ => False
theorem di_range3 {tg d : Expr} (hg : Gl X "range") (hm : X.mg "range" = none) (ha : DA C X [a, b, d] t) (hs : starEach [a, b, d] X.env = (false, eval a X.env) :: starEach [b, d] X.env := by rfl) (hp : (backTo pos (starEach [b, d] X.env)).any (·.1) = false := by rfl) : DI C X tg (.Call (.Name "range" p) [a, b, d] [] pos) (dRng3 t) := piW (pi_range3 hg hm ha hs hp) fun σ H R ⟨S, env, P, h1, h2, h3⟩ =>
  ⟨S, env, _, h1, h2, fun ds hd vs H' e rv => by
    split at hd
    · unfold RepA at rv
      obtain ⟨v, r, rfl, r1, rv⟩ := rv
      obtain ⟨u, u', rfl, r2, r3⟩ := repA_two rv
      unfold Rep at r1 r2 r3
      subst r1 r2 r3
      exact ⟨_, _, _, rfl, hd.1, hd.2.1, hd.2.2.1, h3 _ hd.2.2.2 _ H' e itrs_ok⟩
    · exact hd.elim⟩
def dRevL (te : DT1) : DTA := fun env Q => te env fun d => match d with
  | .lst l => Q l.reverse
  | _ => False
theorem itv_ok {K : PySem.W.Frag} {a : Addr} {xs : List V} {ds : List D} {G : Hp} (h1 : G a = some (.lst xs)) (h2 : RepA K C G ds xs) : ItOk K C (Itv K a xs.length) ds.reverse G := by
  have hl := repA_len h2
  have hr : ds.reverse.length = ds.length := List.length_reverse
  refine ⟨fun i H S e hi => ⟨by omega, xs, SqL.of (less_same _ _ (e _ _ h1)), rfl⟩, fun i H S x H' dm e hi y => ?_, fun i H S e hi => by show xs.length ≤ i; omega⟩
  obtain ⟨rfl, y⟩ := y
  have yx := y xs (SqL.of (less_same _ _ (e _ _ h1)))
  obtain ⟨d, e1, r⟩ := repA_get' h2 yx
  refine ⟨d, ?_, Same.refl _, Rep.mono e _ _ r⟩
  rw [List.getElem?_reverse (by omega)]
  rw [hl]
  exact e1
theorem di_revL {tg : Expr} (hg : Gl X "reversed") (hm : X.mg "reversed" = none) (h : DE C X e te) (hs : starEach [e] X.env = [(false, eval e X.env)] := by rfl) (hs2 : starEach [e] X.env = (false, eval e X.env) :: starEach [] X.env := by rfl) : DI C X tg (.Call (.Name "reversed" p) [e] [] pos) (dRevL te) := piW (pi_rev hg hm (da_cons h da_nil hs2) hs) fun σ H R ⟨S, env, P, h1, h2, h3⟩ =>
  ⟨S, env, oneIs _, h1, h2, fun ds hd vs H' e rv => by
    obtain ⟨d, rfl, hd⟩ := oneIs_inv hd
    obtain ⟨v, rfl, rv'⟩ := repA_one rv
    cases d with
    | lst l =>
      unfold Rep at rv'
      obtain ⟨a, xs, rfl, r1, r2⟩ := rv'
      exact ⟨a, xs, rfl, SqL.of (less_same _ _ r1), h3 _ hd _ H' e (itv_ok r1 r2)⟩
    | _ => exact hd.elim⟩
end
end L2.DL

set_option Elab.async false
set_option linter.all false
set_option maxRecDepth 100000
set_option maxHeartbeats 4000000
/-! isinstance(x, its own class). -/
namespace L2.DL
open PySem PySem.Spec PyProof.Rows PySem.W
structure CrI (K : Frag) (C : Addr) : Prop where
  at_ : findIn K (.ref C) "__class__" = some (some (.builtin "object.__class__"))
  gt : specialIn K (.builtin "object.__class__") "__get__" = some (some (.builtin "getset_descriptor.__get__"))
  tk : takesIn K (.builtin "object.__class__") = some true
  ob : mroIn K C (.type "object") = some true
section
variable {C : Addr} {X : Cx}
def rcInstC (C : Addr) : List D → (D → Prop) → Prop := fun ds Q => match ds with
  | [.crs _ _, .cls a] => a = C ∧ Q (.bl true)
  | _ => False
theorem call_instC (q : CrK X.K C) (qi : CrI X.K C) : CallR X (.builtin "isinstance") (fun xs H Q => ∃ x dx fs, xs = [.ref x, .ref C] ∧ H x = some (.ins C dx fs) ∧ Q (.bl true) H) := by
  intro pins s σ H xs us Q I r h
  obtain ⟨x, dx, fs, rfl, hx, hQ⟩ := h
  obtain ⟨v, w', rfl, rx, rc⟩ := vals2 r
  cases rx
  cases rc
  obtain ⟨h1, h2, h3, h4, mA, h5, h6, h7⟩ := I.hok x _ hx
  obtain ⟨od, hod⟩ : ∃ od, s.heap.get? dx = some od := by
    obtain ⟨o, es, ep, ho, _⟩ := h5
    exact ⟨o, ho⟩
  have IA : InstAt s.heap x (instObj C dx) C (some od) := ⟨h4, rfl, rfl, hod⟩
  exact kia_one (kitx_own (q.cl.get _) q.cl.hd qi.at_ qi.gt qi.tk qi.ob) I.kIn IA (by unfold kitOne; rw [if_pos (by simp)]) (fun z => nomatch z) fun tk => ⟨.bl true, H, I.tok tk, rfl, hQ⟩
theorem l_instC : LiftN X.K C (fun xs H Q => ∃ x dx fs, xs = [.ref x, .ref C] ∧ H x = some (.ins C dx fs) ∧ Q (.bl true) H) (rcInstC C) := by
  intro H S ds vs P Q dm r h k
  unfold rcInstC at h
  split at h
  · obtain ⟨v, w, rfl, r1, r2⟩ := repA_two r
    unfold Rep at r1 r2
    obtain ⟨x', dx, p', xs, rfl, q1, q2, q3⟩ := r1
    subst r2
    obtain ⟨rfl, h⟩ := h
    exact ⟨x', dx, _, rfl, less_same _ _ q1, k.flat h rep_bl⟩
  · exact h.elim
end
end L2.DL

set_option Elab.async false
set_option linter.all false
set_option maxRecDepth 100000
set_option maxHeartbeats 4000000
/-! Texts of crossings, as lists of signs. -/
namespace L2.DL
open PySem PySem.Spec PyProof.Rows PySem.W GS GM
open Builtin Builtin.Str
def cd (s : Str) : List Nat := s.cps.toList
theorem cd_ext {a b : Str} (h : cd a = cd b) : a = b := Str.ext' (Array.toList_inj.mp h)
theorem cd_app (a b : Str) : cd (a ++ b) = cd a ++ cd b := by
  unfold cd
  rw [Str.cps_append, Array.toList_append]
theorem cd_len (s : Str) : s.length = (cd s).length := rfl
def pc (p : Int × Int) : List Nat := [48 + p.1.toNat, 45, 48 + p.2.toNat]
def joinC : List (List Nat) → List Nat
  | [] => []
  | [a] => a
  | a :: b :: r => a ++ 32 :: joinC (b :: r)
abbrev blank : Str := ⟨#[32]⟩
theorem cd_join : ∀ ws : List Str, cd (Str.join blank ws) = joinC (ws.map cd)
  | [] => rfl
  | [a] => rfl
  | a :: b :: r => by
    show cd (a ++ blank ++ Str.join blank (b :: r)) = cd a ++ 32 :: joinC ((b :: r).map cd)
    rw [cd_app, cd_app, cd_join (b :: r), List.append_assoc]
    rfl
def splitC : List Nat → List (List Nat)
  | [] => [[]]
  | c :: r => if c = 32 then [] :: splitC r else match splitC r with
    | w :: ws => (c :: w) :: ws
    | [] => [[c]]
theorem splitC_free : ∀ {a : List Nat}, 32 ∉ a → splitC a = [a]
  | [], _ => rfl
  | c :: r, h => by
    have hc : c ≠ 32 := fun z => h (by rw [z]; exact List.mem_cons_self)
    unfold splitC
    rw [if_neg hc, splitC_free fun z => h (List.mem_cons_of_mem _ z)]
theorem splitC_app : ∀ {a r : List Nat}, 32 ∉ a → splitC (a ++ 32 :: r) = a :: splitC r
  | [], r, _ => by
    show splitC (32 :: r) = _
    rw [splitC, if_pos rfl]
  | c :: a, r, h => by
    have hc : c ≠ 32 := fun z => h (by rw [z]; exact List.mem_cons_self)
    show splitC (c :: (a ++ 32 :: r)) = _
    rw [splitC, if_neg hc, splitC_app fun z => h (List.mem_cons_of_mem _ z)]
theorem split_join : ∀ {ws : List (List Nat)}, ws ≠ [] → (∀ w ∈ ws, 32 ∉ w) → splitC (joinC ws) = ws
  | [], h, _ => absurd rfl h
  | [a], _, h => splitC_free (h a (by simp))
  | a :: b :: r, _, h => by
    show splitC (a ++ 32 :: joinC (b :: r)) = _
    rw [splitC_app (h a (by simp)), split_join (by simp) fun w hw => h w (List.mem_cons_of_mem _ hw)]
theorem words_eq (z : Str) : (Txt.split z blank).map cd = splitC (cd z) := by
  have h1 : cd z = joinC ((Txt.split z blank).map cd) := by
    rw [← cd_join]
    exact congrArg cd (StrLaws.join_split z blank).symm
  rw [h1]
  refine (split_join ?_ fun w hw => ?_).symm
  · have := PyProof.Rows.split_pos z blank
    intro e
    have : ((Txt.split z blank).map cd).length = 0 := by rw [e]; rfl
    rw [List.length_map] at this
    omega
  · obtain ⟨p, hp, rfl⟩ := List.mem_map.mp hw
    exact StrLaws.split_free z 32 p hp
theorem joinC_flat {α : Type} (f : α → List Nat) : ∀ (a : List Nat) (l : List α), joinC (a :: l.map f) = a ++ l.flatMap fun x => 32 :: f x
  | a, [] => by simp [joinC]
  | a, x :: l => by
    show a ++ 32 :: joinC (f x :: l.map f) = _
    rw [joinC_flat f (f x) l]
    simp
/-- the text that writes a crossing -/
def shC (n : Int) (ps : Cl) : List Nat := joinC ([48 + n.toNat, 58] :: ps.map pc)
theorem shC_eq (n : Int) (ps : Cl) : shC n ps = (48 + n.toNat) :: 58 :: (ps.flatMap fun p => 32 :: pc p) := joinC_flat pc _ ps
structure Valid (n : Int) (ps : Cl) : Prop where
  lo : 1 ≤ n
  hi : n ≤ 6
  up : sd ps = ps
  lt : ∀ p ∈ ps, p.2 < n
def Writes (z : Str) (n : Int) (ps : Cl) : Prop := Valid n ps ∧ cd z = shC n ps
theorem mem15 {p : Int × Int} : p ∈ pairs15 ↔ 0 ≤ p.1 ∧ p.1 < p.2 ∧ p.2 ≤ 5 := by
  constructor
  · intro h
    have : ∀ q ∈ pairs15, 0 ≤ q.1 ∧ q.1 < q.2 ∧ q.2 ≤ 5 := by decide
    exact this p h
  · rintro ⟨h1, h2, h3⟩
    obtain ⟨a, b⟩ := p
    simp only at h1 h2 h3
    have ha : a = 0 ∨ a = 1 ∨ a = 2 ∨ a = 3 ∨ a = 4 := by omega
    have hb : b = 1 ∨ b = 2 ∨ b = 3 ∨ b = 4 ∨ b = 5 := by omega
    rcases ha with rfl | rfl | rfl | rfl | rfl <;> rcases hb with rfl | rfl | rfl | rfl | rfl <;> first | (exfalso; omega) | decide
theorem Valid.in15 {n : Int} {ps : Cl} (v : Valid n ps) : ∀ p ∈ ps, 0 ≤ p.1 ∧ p.1 < p.2 ∧ p.2 ≤ 5 := fun p hp => by
  rw [← v.up] at hp
  exact mem15.mp (List.mem_filter.mp hp).1
theorem Valid.len {n : Int} {ps : Cl} (v : Valid n ps) : ps.length ≤ 15 := by
  rw [← v.up]
  exact Nat.le_trans (List.length_filter_le _ _) (by decide)
theorem free_pc (p : Int × Int) : 32 ∉ pc p := by
  unfold pc
  simp only [List.mem_cons, List.mem_nil_iff, or_false, not_or]
  omega
theorem shC_split (n : Int) (ps : Cl) : splitC (shC n ps) = [48 + n.toNat, 58] :: ps.map pc := by
  refine split_join (by simp) fun w hw => ?_
  rcases List.mem_cons.mp hw with rfl | hw
  · simp only [List.mem_cons, List.mem_nil_iff, or_false, not_or]
    omega
  · obtain ⟨p, _, rfl⟩ := List.mem_map.mp hw
    exact free_pc p
theorem pc_inj {p q : Int × Int} (hp : 0 ≤ p.1 ∧ 0 ≤ p.2) (hq : 0 ≤ q.1 ∧ 0 ≤ q.2) (h : pc p = pc q) : p = q := by
  unfold pc at h
  injection h with h1 h
  injection h with _ h
  injection h with h2 _
  obtain ⟨a, b⟩ := p
  obtain ⟨c, d⟩ := q
  simp only at *
  congr 1 <;> omega
theorem Writes.uniq {z : Str} {n m : Int} {ps qs : Cl} (h : Writes z n ps) (h' : Writes z m qs) : n = m ∧ ps = qs := by
  have e := congrArg splitC (h.2.symm.trans h'.2)
  rw [shC_split, shC_split] at e
  injection e with e1 e2
  injection e1 with e1 _
  have v1 := h.1.lo
  have v2 := h'.1.lo
  refine ⟨by omega, ?_⟩
  have k1 := h.1.in15
  have k2 := h'.1.in15
  clear h h'
  induction ps generalizing qs with
  | nil => cases qs with
    | nil => rfl
    | cons q r => cases e2
  | cons p r ih => cases qs with
    | nil => cases e2
    | cons q s =>
      injection e2 with a b
      have hp := k1 p (by simp)
      have hq := k2 q (by simp)
      rw [pc_inj ⟨hp.1, by omega⟩ ⟨hq.1, by omega⟩ a, ih b (fun x hx => k1 x (List.mem_cons_of_mem _ hx)) fun x hx => k2 x (List.mem_cons_of_mem _ hx)]
theorem dig {i : Int} (h0 : 0 ≤ i) (h6 : i ≤ 6) : cd (Str.ofString (toString i)) = [48 + i.toNat] := by
  rcases (show i = 0 ∨ i = 1 ∨ i = 2 ∨ i = 3 ∨ i = 4 ∨ i = 5 ∨ i = 6 by omega) with rfl | rfl | rfl | rfl | rfl | rfl | rfl <;> decide +kernel
def shP (p : Int × Int) : Str := " " ++ Str.ofString (toString p.1) ++ "-" ++ Str.ofString (toString p.2)
theorem cd_shP {p : Int × Int} (h : 0 ≤ p.1 ∧ p.1 ≤ 6 ∧ 0 ≤ p.2 ∧ p.2 ≤ 6) : cd (shP p) = 32 :: pc p := by
  unfold shP
  rw [cd_app, cd_app, cd_app, dig h.1 h.2.1, dig h.2.2.1 h.2.2.2]
  have e1 : cd (" " : Str) = [32] := by decide +kernel
  have e2 : cd ("-" : Str) = [45] := by decide +kernel
  rw [e1, e2]
  rfl
theorem cd_joinE : ∀ ws : List Str, cd (Txt.join Str.empty ws) = (ws.map cd).flatten := fun ws => by
  show cd (glued Str.empty ws) = _
  rw [StrLaws.glued_eq_join]
  induction ws with
  | nil => rfl
  | cons a r ih =>
    cases r with
    | nil => simp [Str.join]
    | cons b r =>
      show cd (a ++ Str.empty ++ Str.join Str.empty (b :: r)) = _
      rw [cd_app, cd_app, ih]
      simp [cd, Str.empty]
def shownS (n : Int) (ps : Cl) : Str := Str.ofString (toString n) ++ ":" ++ Txt.join Str.empty (ps.map shP)
theorem cd_shown {n : Int} {ps : Cl} (h0 : 0 ≤ n) (h6 : n ≤ 6) (hp : ∀ p ∈ ps, 0 ≤ p.1 ∧ p.1 ≤ 6 ∧ 0 ≤ p.2 ∧ p.2 ≤ 6) : cd (shownS n ps) = shC n ps := by
  unfold shownS
  rw [cd_app, cd_app, dig h0 h6, cd_joinE, shC_eq]
  have e1 : cd (":" : Str) = [58] := by decide +kernel
  rw [e1]
  show (48 + n.toNat) :: 58 :: _ = _
  congr 2
  rw [List.map_map, ← List.flatMap_def]
  clear h0 h6 e1
  show List.flatMap (cd ∘ shP) ps = _
  induction ps with
  | nil => rfl
  | cons p r ih =>
    rw [List.flatMap_cons, List.flatMap_cons, ih fun q hq => hp q (List.mem_cons_of_mem _ hq)]
    show cd (shP p) ++ _ = _
    rw [cd_shP (hp p (by simp))]
/-! ### what is guessed -/
abbrev figs : Str := "0123456"
def fig (z : Str) (i : Int) : Int := Txt.find figs (Txt.slice z (some i) (some (i + 1)))
theorem fig_at {z : Str} {i k : Nat} (h : (cd z)[i]? = some (48 + k)) (hk : k ≤ 6) : fig z (i : Nat) = k := by
  unfold fig
  have hi : i < (cd z).length := (List.getElem?_eq_some_iff.mp h).1
  have e : Txt.slice z (some (i : Int)) (some ((i : Int) + 1)) = ⟨#[48 + k]⟩ := by
    show StrLaws.sliceText z _ _ = _
    rw [StrLaws.sliceText_plain ⟨by omega, by omega, by show (i : Int) + 1 ≤ ((cd z).length : Int); omega⟩]
    apply cd_ext
    show ((cd z).drop (Int.toNat i)).take (((i : Int) + 1) - i).toNat = [48 + k]
    rw [show (((i : Int) + 1) - i).toNat = 1 by omega, Int.toNat_natCast]
    rw [List.drop_eq_getElem_cons hi]
    have := List.getElem?_eq_some_iff.mp h
    simp [this.2]
  rw [e]
  rcases (show k = 0 ∨ k = 1 ∨ k = 2 ∨ k = 3 ∨ k = 4 ∨ k = 5 ∨ k = 6 by omega) with rfl | rfl | rfl | rfl | rfl | rfl | rfl <;> decide +kernel
def guessN (z : Str) : Nat := (Builtin.Range.rangeSize 2 (z.length : Int) 4).toNat
def guessP (z : Str) : Cl := (List.range (guessN z)).map fun (i : Nat) => (fig z (2 + (i : Int) * 4 + 1), fig z (2 + (i : Int) * 4 + 3))
theorem guessN_le {z : Str} (h : z.length ≤ 700) : guessN z ≤ 200 := by
  unfold guessN Builtin.Range.rangeSize
  rw [if_pos (by decide)]
  split <;> omega
theorem flat_len (ps : Cl) : (ps.flatMap fun p => 32 :: pc p).length = 4 * ps.length := by
  induction ps with
  | nil => rfl
  | cons p r ih =>
    rw [List.flatMap_cons, List.length_append, ih]
    show 4 + _ = _
    rw [List.length_cons]
    omega
theorem shC_len (n : Int) (ps : Cl) : (shC n ps).length = 2 + 4 * ps.length := by
  rw [shC_eq, List.length_cons, List.length_cons, flat_len]
  omega
theorem flat_at {ps : Cl} : ∀ {k j : Nat} {p : Int × Int}, ps[k]? = some p → j < 4 → (ps.flatMap fun p => 32 :: pc p)[4 * k + j]? = (32 :: pc p)[j]? := by
  induction ps with
  | nil => intro k j p h _; cases h
  | cons q r ih =>
    intro k j p h hj
    rw [List.flatMap_cons]
    cases k with
    | zero =>
      cases h
      rw [List.getElem?_append_left (by show _ < 4; omega)]
      simp
    | succ k =>
      rw [List.getElem?_append_right (by show 4 ≤ _; omega)]
      show (r.flatMap fun p => 32 :: pc p)[4 * (k + 1) + j - 4]? = _
      rw [show 4 * (k + 1) + j - 4 = 4 * k + j by omega]
      exact ih h hj
theorem shC_at {n : Int} {ps : Cl} {k j : Nat} {p : Int × Int} (h : ps[k]? = some p) (hj : j < 4) : (shC n ps)[2 + (4 * k + j)]? = (32 :: pc p)[j]? := by
  rw [shC_eq, show 2 + (4 * k + j) = (4 * k + j) + 1 + 1 by omega, List.getElem?_cons_succ, List.getElem?_cons_succ]
  exact flat_at h hj
theorem Writes.guess {z : Str} {n : Int} {ps : Cl} (w : Writes z n ps) : fig z 0 = n ∧ guessP z = ps := by
  have hz : z.length = 2 + 4 * ps.length := by rw [cd_len, w.2, shC_len]
  constructor
  · have : (cd z)[0]? = some (48 + n.toNat) := by rw [w.2, shC_eq]; rfl
    have := fig_at this (by have := w.1.hi; omega)
    have h1 := w.1.lo
    show fig z ((0 : Nat) : Int) = n
    rw [this]
    omega
  · have hN : guessN z = ps.length := by
      unfold guessN Builtin.Range.rangeSize
      rw [if_pos (by decide), hz]
      split <;> omega
    unfold guessP
    rw [hN]
    apply List.ext_getElem?
    intro k
    rw [List.getElem?_map]
    by_cases hk : k < ps.length
    · rw [List.getElem?_range hk, List.getElem?_eq_getElem hk]
      have hp : ps[k]? = some ps[k] := List.getElem?_eq_getElem hk
      have i15 := w.1.in15 ps[k] (List.getElem_mem hk)
      have e1 : (cd z)[2 + (4 * k + 1)]? = some (48 + ps[k].1.toNat) := by rw [w.2, shC_at hp (by decide)]; rfl
      have e2 : (cd z)[2 + (4 * k + 3)]? = some (48 + ps[k].2.toNat) := by rw [w.2, shC_at hp (by decide)]; rfl
      have f1 := fig_at e1 (by omega)
      have f2 := fig_at e2 (by omega)
      rw [show ((2 + (4 * k + 1) : Nat) : Int) = 2 + (k : Int) * 4 + 1 by omega] at f1
      rw [show ((2 + (4 * k + 3) : Nat) : Int) = 2 + (k : Int) * 4 + 3 by omega] at f2
      show some (fig z (2 + (k : Int) * 4 + 1), fig z (2 + (k : Int) * 4 + 3)) = some ps[k]
      rw [f1, f2, Int.toNat_of_nonneg i15.1, Int.toNat_of_nonneg (by omega)]
    · rw [List.getElem?_eq_none (by rw [List.length_range]; omega), List.getElem?_eq_none (by omega)]
      rfl
theorem Writes.good {z : Str} {n : Int} {ps : Cl} (w : Writes z n ps) : GoodP n ps := fun p hp => by
  have h1 := w.1.in15 p hp
  have h2 := w.1.lt p hp
  exact ⟨by omega, by omega, by omega, by omega, by omega⟩
theorem rise_id {ps : Cl} (h : ∀ p ∈ ps, p.1 < p.2) : ps.map rise = ps := by
  induction ps with
  | nil => rfl
  | cons p r ih =>
    rw [List.map_cons, ih fun q hq => h q (List.mem_cons_of_mem _ hq)]
    have := h p (by simp)
    congr 1
    unfold rise
    rw [if_neg (by omega), if_pos (by omega)]
theorem Writes.made {z : Str} {n : Int} {ps : Cl} (w : Writes z n ps) : sd (ps.map rise) = ps := by
  rw [rise_id fun p hp => (w.1.in15 p hp).2.1, w.1.up]
theorem Writes.shown {z : Str} {n : Int} {ps : Cl} (w : Writes z n ps) : shownS n ps = z := cd_ext (by
  rw [w.2]
  refine cd_shown (by have := w.1.lo; omega) w.1.hi fun p hp => ?_
  have := w.1.in15 p hp
  omega)
theorem sd_sd (ps : Cl) : sd (sd ps) = sd ps := by
  symm
  refine sd_eq (fun p hp => (List.mem_filter.mp hp).1) (sd_up ps) fun p => Iff.rfl
theorem good15 {n : Int} {cl : Cl} (h6 : n ≤ 6) (h : GoodP n cl) : ∀ p ∈ sd (cl.map rise), 0 ≤ p.1 ∧ p.1 < p.2 ∧ p.2 ≤ 5 ∧ p.2 < n := fun p hp => by
  have h15 := mem15.mp (List.mem_filter.mp hp).1
  obtain ⟨q, hq, rfl⟩ := (mem_crossing h6 h p).mp hp
  have hg := h q hq
  refine ⟨h15.1, h15.2.1, h15.2.2, ?_⟩
  unfold rise
  show (if q.2 > q.1 then q.2 else q.1) < n
  split <;> omega
/-- what a made crossing shows is a text that writes it -/
theorem shown_writes {n : Int} {cl : Cl} (h1 : 1 ≤ n) (h6 : n ≤ 6) (h : GoodP n cl) : Writes (shownS n (sd (cl.map rise))) n (sd (cl.map rise)) := by
  refine ⟨⟨h1, h6, sd_sd _, fun p hp => (good15 h6 h p hp).2.2.2⟩, ?_⟩
  refine cd_shown (by omega) h6 fun p hp => ?_
  have := good15 h6 h p hp
  omega
end L2.DL

set_option Elab.async false
set_option linter.all false
set_option maxRecDepth 100000
set_option maxHeartbeats 4000000
/-! sorted of two ints. -/
namespace GM
open PySem PySem.Calls PySem.W PyProof.Rows GO GO L2
section
variable {prog : Program} {w : World} {A : Around} {E : Value → Shared → Prop} {s : Shared}
end
end GM
namespace L2
open PySem PySem.Spec PyProof.Rows GM
end L2
namespace L2.DL
open PySem PySem.Spec PyProof.Rows GM
section
variable {C : Addr} {X : Cx} {e : Expr} {te : DT1} {pos : Pos}
end
end L2.DL

set_option Elab.async false
set_option linter.all false
set_option maxRecDepth 100000
set_option maxHeartbeats 4000000
namespace L2.DL
open PySem PySem.Spec PyProof.Rows GS
theorem ok_Pr {n : Nat} (p : Int × Int) : ok (n + 1) (dPr p) = true := ok_ints (n := n) [p.1, p.2]
theorem ok_Prs {n : Nat} (ps : Cl) : ok (n + 2) (.lst (ps.map dPr)) = true := by
  unfold ok
  induction ps with
  | nil => rfl
  | cons p ps ih => rw [List.map_cons, List.all_cons, ok_Pr, ih]; rfl
end L2.DL

set_option Elab.async false
set_option linter.all false
set_option maxRecDepth 100000
set_option maxHeartbeats 4000000
/-! What the defs promise to refuse. -/
namespace L2.DL
open PySem PySem.Spec PyProof.Rows PySem.W GM
def okP (n : Int) (p : Int × Int) : Prop := 0 ≤ p.1 ∧ p.1 < n ∧ 0 ≤ p.2 ∧ p.2 < n ∧ p.1 ≠ p.2
def inS (n s : Int) : Prop := 0 ≤ s ∧ s < n
def tCheckSizeR : TR := fun ds x => ∃ n : Int, ds = [.int n] ∧ ¬ (1 ≤ n ∧ n ≤ 6) ∧ x = "BadSize"
def tCheckClashR : TR := fun ds x => ∃ (n : Int) (p : Int × Int), ds = [.int n, dPr p] ∧ ¬ okP n p ∧ x = "BadClash"
def tMakeR : TR := fun ds x => ∃ (a : Addr) (n : Int) (cl : Cl), ds = [.cls a, .int n, .lst (cl.map dPr)] ∧ ((¬ (1 ≤ n ∧ n ≤ 6) ∧ x = "BadSize") ∨ ((1 ≤ n ∧ n ≤ 6) ∧ (∃ p ∈ cl, ¬ okP n p) ∧ x = "BadClash"))
def xR : List Str := ["BadSize", "BadClash", "NoStream", "BadWish"]
structure XFacts (K : Frag) (mg : Str → Option Value) (cT : Addr) : Prop where
  all : ∀ x ∈ xR, ∀ c, mg x = some (.ref c) → ExI K c ∧ exmOne K (.ref c) (.ref cT) = some true ∧ (∀ y ∈ ["BadSize", "BadClash", "NoStream", "BadWish", "BadNote"], ∀ c2, mg y = some (.ref c2) → kitOne K (.ref c) (.ref c2) = some (decide (x = y))) ∧ kitOne K (.ref c) (.type "ValueError") = some true
theorem boot_ValueError : bootBuiltins "ValueError" = some (.type "ValueError") := by decide +kernel
end L2.DL

set_option Elab.async false
set_option linter.all false
set_option maxRecDepth 100000
set_option maxHeartbeats 4000000
/-! Notes: what the defs promise. -/
namespace L2.DL
open PySem PySem.Spec PyProof.Rows PySem.W GS GM
open Builtin Builtin.Str
/-- a text of the module -/
structure GStr (mg : Str → Option Value) (x : Str) (z : Str) : Prop where
  at_ : ∃ t, mg x = some (.str z t)
section
variable {C : Addr} {X : Cx} {pos : Pos}
theorem de_gstr {x z : Str} (g : GStr X.mg x z) (hg : Gl X x) (hd : (x == ("__debug__" : Str)) = false := by decide) : DE C X (.Name x pos) (dC (.str z)) := by
  obtain ⟨t, h⟩ := g.at_
  exact de_gl (v := .str z) hg h ⟨t, rfl⟩ (fun _ => rep_str) hd
def rdNotB : D → D → (D → Prop) → Prop := fun d e Q => ∃ (b : Bool) (bs : List Bool), d = .bl b ∧ e = .lst (bs.map D.bl) ∧ Q (.bl (!decide (b ∈ bs)))
theorem flat_bls : ∀ ns : List Bool, (ns.map V.bl).all flatV = true
  | [] => rfl
  | n :: ns => by rw [List.map_cons, List.all_cons, flat_bls ns]; rfl
theorem inV_bls (i : Bool) : ∀ ns : List Bool, inV (.bl i) (ns.map V.bl) = decide (i ∈ ns)
  | [] => rfl
  | n :: ns => by
    have e : inV (.bl i) ((n :: ns).map V.bl) = ((n == i) || inV (.bl i) (ns.map V.bl)) := by cases n <;> cases i <;> rfl
    rw [e, inV_bls i ns, Bool.eq_iff_iff]
    simp only [Bool.or_eq_true, beq_iff_eq, decide_eq_true_eq, List.mem_cons]
    exact ⟨fun h => h.imp Eq.symm id, fun h => h.imp Eq.symm id⟩
theorem rep_bls {K : Frag} {H : Hp} : ∀ {ss : List Bool} {vs : List V}, RepA K C H (ss.map D.bl) vs → vs = ss.map V.bl
  | [], vs, r => by
    have := repA_len r
    cases vs with
    | nil => rfl
    | cons v r => simp at this
  | x :: ss, vs, r => by
    rw [List.map_cons] at r
    unfold RepA at r
    obtain ⟨v, vs', rfl, r1, r2⟩ := r
    unfold Rep at r1
    rw [r1, rep_bls r2]
    rfl
theorem l_notinB : Lift2 X.K C (rIn X.K true) rdNotB := by
  intro H S d v e u P Q dm r1 r2 h k
  obtain ⟨b, bs, rfl, rfl, h⟩ := h
  unfold Rep at r1 r2
  obtain ⟨a, xs, rfl, h2, h3⟩ := r2
  cases rep_bls h3
  subst r1
  refine ⟨a, _, rfl, .inl (SqL.of (less_same _ _ h2)), rfl, flat_bls bs, k.flat h (rep_bl' ?_)⟩
  rw [inV_bls]
  rfl
end
/-- a list of texts -/
inductive StrsE : List Expr → List Str → Prop where
  | nil : StrsE [] []
  | cons {x : Str} {j : Nat} {p : Pos} {es : List Expr} {ss : List Str} (h : StrsE es ss) : StrsE (.Constant (.str x) j p :: es) (x :: ss)
theorem da_strs {C : Addr} {X : Cx} {es : List Expr} {ss : List Str} (h : StrsE es ss) : DA C X es (fun _ Q => Q (ss.map D.str)) := by
  induction h with
  | nil => exact da_nil
  | cons h ih => exact da_cons de_str ih
theorem df_strs {C : Addr} {X : Cx} {es : List Expr} {ss : List Str} {pos : Pos} (h : StrsE es ss) : DF C X (.List es pos) (dLst (fun _ Q => Q (ss.map D.str))) := df_lst (da_strs h)
theorem ds_setStrs {C : Addr} {X : Cx} {i : Nat} {x : Str} {pos pos' lp : Pos} {es : List Expr} {ss : List Str} (hN : X.N.Nodup) (hi : X.N[i]? = some x) (hx : Loc X.env.scope x) (h : StrsE es ss) (hf : X.fn x = true ∨ X.env.scope.names.lookup x = some .local := by first | exact .inl rfl | exact .inr rfl | assumption) :
    DS C X (.Assign [.Name x pos'] (.List es lp) pos) (dSet i (dOf (dLst (fun _ Q => Q (ss.map D.str))))) := ds_set hN hi hx (DE.of (df_strs h)) rfl hf
/-- statements whose run need not be looked at -/
@[irreducible] def DSz (C : Addr) (X : Cx) (st : Stmt) (t : DTS) : Prop := DS C X st t
@[irreducible] def DSsz (C : Addr) (X : Cx) (st : List Stmt) (t : DTS) : Prop := DSs C X st t
section
variable {C : Addr} {X : Cx} {st : Stmt} {sts : List Stmt} {u w : DTS}
theorem dsz_of (h : DS C X st w) : DSz C X st w := by unfold DSz; exact h
theorem DSz.out (h : DSz C X st w) : DS C X st w := by unfold DSz at h; exact h
theorem DSsz.out (h : DSsz C X sts u) : DSs C X sts u := by unfold DSsz at h; exact h
theorem dssz_cons (h1 : DSz C X st w) (h2 : DSsz C X sts u) : DSsz C X (st :: sts) (dSeq w u) := by unfold DSsz; exact dss_cons h1.out h2.out
theorem dssz_one (h1 : DSz C X st w) : DSsz C X [st] w := by unfold DSsz; exact dss_one h1.out
theorem dsz_setStrs {i : Nat} {x : Str} {pos pos' lp : Pos} {es : List Expr} {ss : List Str} (hN : X.N.Nodup) (hi : X.N[i]? = some x) (hx : Loc X.env.scope x) (h : StrsE es ss) (hf : X.fn x = true ∨ X.env.scope.names.lookup x = some .local := by first | exact .inl rfl | exact .inr rfl | assumption) :
    DSz C X (.Assign [.Name x pos'] (.List es lp) pos) (dSet i (dOf (dLst (fun _ Q => Q (ss.map D.str))))) := dsz_of (ds_setStrs hN hi hx h hf)
end
theorem fn_e2 {P : Program} {w : World} {K : Frag} {mg : Str → Option Value} {base : Heap} {C : Addr} {x qual : Str} {st : Stmt} {f : Addr} {fd : FuncData} {N ps : List Str} {k : Nat} {T : List D → (D → Prop) → Prop} {bd : List Stmt} (F : Fun K x qual st f fd) (Sc : FnScope N ps (defScope st)) (hbd : defBody st = bd) (len : ∀ ds Q, T ds Q → ds.length = ps.length)
    (hbody : ∀ (cdv : Value) (A : Around) (outer : List Env) (s : Shared) (H : Hp) (E : XK), Room k (A.deeper (envOfC qual (defScope st) s.heap.objs.size f cdv)) →
      ∃ t, DSsz C (cxOf CX0 P w K mg base N qual (defScope st) f cdv A outer s H E).nox bd t ∧ ∀ ds Q, T ds Q → t { nx := fun _ => Q .non, rt := Q } (startE N ds)) : FnOk P w K mg base CX0 (k + 1) f fd ps (spD K C T) := by
  subst hbd
  refine fn_e F Sc len fun cdv A outer s H E hr => ?_
  obtain ⟨t, h1, h2⟩ := hbody cdv A outer s H E hr
  exact ⟨t, h1.out, h2⟩
theorem eqD_Prs : ∀ ps qs : Cl, eqD (.lst (ps.map dPr)) (.lst (qs.map dPr)) = decide (ps = qs)
  | [], [] => rfl
  | [], q :: qs => by
    rw [decide_eq_false (by simp)]
    rfl
  | p :: ps, [] => by
    rw [decide_eq_false (by simp)]
    rfl
  | p :: ps, q :: qs => by
    have e : eqD (.lst ((p :: ps).map dPr)) (.lst ((q :: qs).map dPr)) = (((p.1 == q.1) && ((p.2 == q.2) && true)) && eqD (.lst (ps.map dPr)) (.lst (qs.map dPr))) := rfl
    rw [e, eqD_Prs ps qs, Bool.eq_iff_iff, Bool.and_true, Bool.and_eq_true, Bool.and_eq_true, beq_iff_eq, beq_iff_eq, decide_eq_true_eq, decide_eq_true_eq]
    obtain ⟨a, b⟩ := p
    obtain ⟨c, d⟩ := q
    simp
theorem rdIx_t0 {x y : D} {Q : D → Prop} : rdIx (.tup [x, y]) (.int 0) Q = Q x := rfl
theorem rdIx_t1 {x y : D} {Q : D → Prop} : rdIx (.tup [x, y]) (.int 1) Q = Q y := rfl
/-! ### promises -/
def in06 (p : Int × Int) : Prop := 0 ≤ p.1 ∧ p.1 ≤ 6 ∧ 0 ≤ p.2 ∧ p.2 ≤ 6
def tShownPair : TD := fun ds Q => ∃ p : Int × Int, ds = [dPr p] ∧ in06 p ∧ Q (.str (shP p))
def tShown : TD := fun ds Q => ∃ (n : Int) (ps : Cl), ds = [.crs n ps] ∧ 0 ≤ n ∧ n ≤ 6 ∧ (∀ p ∈ ps, in06 p) ∧ ps.length ≤ 15 ∧ Q (.str (shownS n ps))
def tFigure : TD := fun ds Q => ∃ (z : Str) (i : Int), ds = [.str z, .int i] ∧ z.length ≤ 1000 ∧ Q (.int (fig z i))
def GoodZ (z : Str) : Prop := 1 ≤ fig z 0 ∧ fig z 0 ≤ 6 ∧ GoodP (fig z 0) (guessP z)
def tGuessN : TD := fun ds Q => ∃ z : Str, ds = [.str z] ∧ z.length ≤ 700 ∧ GoodZ z ∧ Q (crOf (fig z 0) (guessP z))
def tGuessR : TR := fun ds x => ∃ z : Str, ds = [.str z] ∧ z.length ≤ 700 ∧ ¬ GoodZ z ∧ x = "BadNote"
def tReadN : TD := fun ds Q => ∃ (z : Str) (n : Int) (ps : Cl), ds = [.str z] ∧ z.length ≤ 700 ∧ Writes z n ps ∧ Q (.crs n ps)
def tReadR : TR := fun ds x => ∃ z : Str, ds = [.str z] ∧ z.length ≤ 700 ∧ (∀ n ps, ¬ Writes z n ps) ∧ x = "BadNote"
def DueIs (z : Str) (d : D) : Prop := (∃ n ps, Writes z n ps ∧ d = .tup [.int n, .lst (ps.map dPr)]) ∨ ((∀ n ps, ¬ Writes z n ps) ∧ d = .non)
def tDue : TD := fun ds Q => ∃ z : Str, ds = [.str z] ∧ z.length ≤ 700 ∧ ∀ d, DueIs z d → Q d
def tTold : TD := fun ds Q => ∃ z : Str, ds = [.str z] ∧ z.length ≤ 700 ∧ (∀ n ps, Writes z n ps → Q (.tup [.str "read", .crs n ps])) ∧ ((∀ n ps, ¬ Writes z n ps) → Q (.tup [.str "refused", .bl true]))
def tRight : TD := fun ds Q => ∃ (z : Str) (d : D), ds = [.str z, d] ∧ z.length ≤ 700 ∧ DueIs z d ∧ Q (.bl true)
def tLawShown : TD := fun ds Q => ∃ (cl : Cl) (n : Int), ds = [.lst (cl.map dPr), .int n] ∧ 1 ≤ n ∧ n ≤ 6 ∧ GoodCl n cl ∧ ∀ s : Str, s.length ≤ 100 → Q (.str s)
def tSpoiled : TD := fun ds Q => ∃ (z : Str) (way cell other : Int), ds = [.str z, .int way, .int cell, .int other] ∧ z.length ≤ 100 ∧ ∀ s : Str, s.length ≤ 700 → Q (.str s)
def tOdd : TD := fun ds Q => ∃ cell : Int, ds = [.int cell] ∧ ∀ s : Str, s.length ≤ 100 → Q (.str s)
/-- the facts of the exceptions -/
structure XNote (K : Frag) (mg : Str → Option Value) (cT : Addr) : Prop where
  ex : ∀ c, mg "BadNote" = some (.ref c) → ExI K c ∧ exmOne K (.ref c) (.ref cT) = some true ∧ (∀ y ∈ ["BadSize", "BadClash", "NoStream", "BadWish", "BadNote"], ∀ c2, mg y = some (.ref c2) → kitOne K (.ref c) (.ref c2) = some (decide ("BadNote" = y))) ∧ kitOne K (.ref c) (.type "ValueError") = some true
  made : ∀ x ∈ ["BadSize", "BadClash"], ∀ c, mg x = some (.ref c) → exmOne K (.ref c) (.ref cT) = some true ∧ excIn K c bmV "ValueError.__new__" = true
/-! ### reading a text -/
theorem blank_eq : (" " : Str) = blank := by decide +kernel
theorem split_back (z : Str) : cd z = joinC ((Txt.split z blank).map cd) := by
  rw [← cd_join]
  exact congrArg cd (StrLaws.join_split z blank).symm
structure Parsed (z : Str) (n : Int) (ps : Cl) : Prop where
  at_ : (Txt.split z blank).map cd = [48 + n.toNat, 58] :: ps.map pc
  lo : 1 ≤ n
  hi : n ≤ 6
  six : ∀ p ∈ ps, 0 ≤ p.1 ∧ p.1 ≤ 5 ∧ 0 ≤ p.2 ∧ p.2 ≤ 5
theorem Writes.parsed {z : Str} {n : Int} {ps : Cl} (w : Writes z n ps) : Parsed z n ps :=
  ⟨by rw [words_eq, w.2, shC_split], w.1.lo, w.1.hi, fun p hp => by have := w.1.in15 p hp; omega⟩
theorem map_pc_inj : ∀ {ps qs : Cl}, (∀ p ∈ ps, 0 ≤ p.1 ∧ p.1 ≤ 5 ∧ 0 ≤ p.2 ∧ p.2 ≤ 5) → (∀ p ∈ qs, 0 ≤ p.1 ∧ p.1 ≤ 5 ∧ 0 ≤ p.2 ∧ p.2 ≤ 5) → ps.map pc = qs.map pc → ps = qs
  | [], [], _, _, _ => rfl
  | [], q :: qs, _, _, e => by cases e
  | p :: ps, [], _, _, e => by cases e
  | p :: ps, q :: qs, h1, h2, e => by
    rw [List.map_cons, List.map_cons] at e
    injection e with a b
    have hp := h1 p (by simp)
    have hq := h2 q (by simp)
    rw [pc_inj ⟨hp.1, hp.2.2.1⟩ ⟨hq.1, hq.2.2.1⟩ a, map_pc_inj (fun x hx => h1 x (List.mem_cons_of_mem _ hx)) (fun x hx => h2 x (List.mem_cons_of_mem _ hx)) b]
theorem Parsed.uniq {z : Str} {n m : Int} {ps qs : Cl} (h : Parsed z n ps) (h' : Parsed z m qs) : n = m ∧ ps = qs := by
  have e := h.at_.symm.trans h'.at_
  injection e with e1 e2
  injection e1 with e1 _
  have v1 := h.lo
  have v2 := h'.lo
  exact ⟨by omega, map_pc_inj h.six h'.six e2⟩
theorem Parsed.writes {z : Str} {n : Int} {ps : Cl} (h : Parsed z n ps) (up : sd ps = ps) (lt : ∀ p ∈ ps, p.2 < n) : Writes z n ps := by
  refine ⟨⟨h.lo, h.hi, up, lt⟩, ?_⟩
  rw [split_back, h.at_]
  rfl
theorem Parsed.none {z : Str} {n : Int} {ps : Cl} (h : Parsed z n ps) (no : ¬ Valid n ps) : ∀ m qs, ¬ Writes z m qs := fun m qs w => by
  obtain ⟨rfl, rfl⟩ := h.uniq w.parsed
  exact no w.1
theorem none_of {z : Str} (h : ∀ n ps, ¬ Parsed z n ps) : ∀ n ps, ¬ Writes z n ps := fun n ps w => h n ps w.parsed
theorem one_eq {c d : Nat} : ((⟨#[c]⟩ : Str) = ⟨#[d]⟩) ↔ c = d := by simp
theorem dash_eq : ("-" : Str) = ⟨#[45]⟩ := by decide +kernel
theorem colon_eq : (":" : Str) = ⟨#[58]⟩ := by decide +kernel
abbrev f05 : Str := "012345"
abbrev f16 : Str := "123456"
abbrev f06 : Str := "0123456"
theorem cps05 : f05.cps.toList = [48, 49, 50, 51, 52, 53] := by decide +kernel
theorem cps16 : f16.cps.toList = [49, 50, 51, 52, 53, 54] := by decide +kernel
theorem in05 {c : Nat} : (!(occurrences f05 ⟨#[c]⟩ 0 f05.length 1).isEmpty) = decide (48 ≤ c ∧ c ≤ 53) := by
  rw [StrLaws.found_one, cps05, Bool.eq_iff_iff, decide_eq_true_eq, decide_eq_true_eq]
  simp only [List.mem_cons, List.mem_nil_iff, or_false]
  omega
theorem in16 {c : Nat} : (!(occurrences f16 ⟨#[c]⟩ 0 f16.length 1).isEmpty) = decide (49 ≤ c ∧ c ≤ 54) := by
  rw [StrLaws.found_one, cps16, Bool.eq_iff_iff, decide_eq_true_eq, decide_eq_true_eq]
  simp only [List.mem_cons, List.mem_nil_iff, or_false]
  omega
theorem occ05 {c : Nat} (h : 48 ≤ c ∧ c ≤ 53) : occurrences f05 ⟨#[c]⟩ 0 f05.length 1 = [c - 48] := by
  rcases (show c = 48 ∨ c = 49 ∨ c = 50 ∨ c = 51 ∨ c = 52 ∨ c = 53 by omega) with rfl | rfl | rfl | rfl | rfl | rfl <;> decide +kernel
theorem occ06 {c : Nat} (h : 48 ≤ c ∧ c ≤ 54) : occurrences f06 ⟨#[c]⟩ 0 f06.length 1 = [c - 48] := by
  rcases (show c = 48 ∨ c = 49 ∨ c = 50 ∨ c = 51 ∨ c = 52 ∨ c = 53 ∨ c = 54 by omega) with rfl | rfl | rfl | rfl | rfl | rfl | rfl <;> decide +kernel
/-! ### the weight of words -/
def tl (ws : List Str) : Nat := (ws.map fun w => w.length + 1).sum
theorem tl_app (a b : List Str) : tl (a ++ b) = tl a + tl b := by unfold tl; rw [List.map_append, List.sum_append]
theorem tl_cons (a : Str) (b : List Str) : tl (a :: b) = a.length + 1 + tl b := by unfold tl; rw [List.map_cons, List.sum_cons]
theorem tl_rev (a : List Str) : tl a.reverse = tl a := by unfold tl; rw [List.map_reverse, List.sum_reverse]
theorem tl_cut (ws : List Str) (lo hi : Option Int) : tl (cut ws lo hi) ≤ tl ws := by
  unfold cut
  have h1 := tl_app (ws.take (HT.sIx ws.length 0 lo)) (ws.drop (HT.sIx ws.length 0 lo))
  rw [List.take_append_drop] at h1
  generalize ws.drop (HT.sIx ws.length 0 lo) = v at *
  generalize HT.sIx ws.length ws.length hi - HT.sIx ws.length 0 lo = k
  have h2 := tl_app (v.take k) (v.drop k)
  rw [List.take_append_drop] at h2
  omega
theorem tl_set : ∀ (ws : List Str) (j : Nat) (w : Str), tl (ws.set j w) ≤ tl ws + (w.length + 1)
  | [], j, w => by simp [tl]
  | a :: ws, 0, w => by rw [List.set_cons_zero, tl_cons, tl_cons]; omega
  | a :: ws, j + 1, w => by
    rw [List.set_cons_succ, tl_cons, tl_cons]
    have := tl_set ws j w
    omega
theorem tl_mem {w : Str} : ∀ {ws : List Str}, w ∈ ws → w.length + 1 ≤ tl ws
  | [], h => by cases h
  | a :: ws, h => by
    rw [tl_cons]
    rcases List.mem_cons.mp h with rfl | h
    · omega
    · have := tl_mem h
      omega
theorem tl_len (ws : List Str) : ws.length ≤ tl ws := by
  induction ws with
  | nil => exact Nat.zero_le _
  | cons a r ih => rw [List.length_cons, tl_cons]; omega
theorem tl_sum (ws : List Str) : (ws.map (·.length)).sum + ws.length = tl ws := by
  induction ws with
  | nil => rfl
  | cons a r ih => rw [List.map_cons, List.sum_cons, List.length_cons, tl_cons]; omega
theorem joinC_len : ∀ ws : List Str, (joinC (ws.map cd)).length ≤ tl ws
  | [] => Nat.zero_le _
  | [a] => by
    show (cd a).length ≤ _
    rw [tl_cons, ← cd_len]
    omega
  | a :: b :: r => by
    show (cd a ++ 32 :: joinC ((b :: r).map cd)).length ≤ _
    have := joinC_len (b :: r)
    rw [List.length_append, List.length_cons, tl_cons a, ← cd_len]
    omega
theorem joinC_len' : ∀ ws : List Str, ws ≠ [] → tl ws = (joinC (ws.map cd)).length + 1
  | [], h => absurd rfl h
  | [a], _ => by
    show _ = (cd a).length + 1
    rw [tl_cons, ← cd_len]
    rfl
  | a :: b :: r, _ => by
    show _ = (cd a ++ 32 :: joinC ((b :: r).map cd)).length + 1
    have := joinC_len' (b :: r) (by simp)
    rw [List.length_append, List.length_cons, tl_cons a, ← cd_len]
    omega
theorem split_ne (z : Str) : Txt.split z blank ≠ [] := fun e => by
  have := PyProof.Rows.split_pos z blank
  rw [e] at this
  simp at this
theorem tl_split (z : Str) : tl (Txt.split z blank) = z.length + 1 := by
  rw [joinC_len' _ (split_ne z), ← split_back]
  rfl
theorem join_blank (ws : List Str) : (Txt.join blank ws).length ≤ tl ws := by
  show (glued blank ws).length ≤ _
  rw [StrLaws.glued_eq_join, cd_len, cd_join]
  exact joinC_len ws
theorem joinOk_tl {ws : List Str} (h : tl ws ≤ 100000) : JoinOk blank ws = true := by
  refine joinOk_of ?_
  have := tl_sum ws
  have e : blank.length = 1 := rfl
  rw [e, Nat.mul_one]
  omega
theorem joinOk_e {ws : List Str} (h : tl ws ≤ 100000) : JoinOk Str.empty ws = true := by
  refine joinOk_of ?_
  have := tl_sum ws
  have e : Str.empty.length = 0 := rfl
  rw [e, Nat.mul_zero]
  omega
theorem dig_len {i : Int} (h0 : 0 ≤ i) (h6 : i ≤ 6) : (Str.ofString (toString i)).length = 1 := by
  rw [cd_len, dig h0 h6]
  rfl
theorem shP_len {p : Int × Int} (h : in06 p) : (shP p).length = 4 := by
  rw [cd_len, cd_shP h]
  rfl
theorem tl_shP : ∀ {ps : Cl}, (∀ p ∈ ps, in06 p) → tl (ps.map shP) = 5 * ps.length
  | [], _ => rfl
  | p :: ps, h => by
    rw [List.map_cons, tl_cons, shP_len (h p (by simp)), tl_shP fun q hq => h q (List.mem_cons_of_mem _ hq), List.length_cons]
    omega
theorem join_e_len {ps : Cl} (h : ∀ p ∈ ps, in06 p) : (Txt.join Str.empty (ps.map shP)).length = 4 * ps.length := by
  rw [cd_len, cd_joinE, List.map_map]
  induction ps with
  | nil => rfl
  | cons p r ih =>
    rw [List.map_cons, List.flatten_cons, List.length_append, ih fun q hq => h q (List.mem_cons_of_mem _ hq), List.length_cons]
    show (cd (shP p)).length + _ = _
    rw [← cd_len, shP_len (h p (by simp))]
    omega
theorem atI_in {α : Type} {l : List α} {i : Int} (h0 : 0 ≤ i) (h1 : i < l.length) : ∃ c ∈ l, atI l i = some c := by
  obtain ⟨j, rfl⟩ : ∃ j : Nat, i = j := ⟨i.toNat, by omega⟩
  have hj : j < l.length := by omega
  exact ⟨l[j], List.getElem_mem hj, atI_nat (List.getElem?_eq_getElem hj)⟩
theorem log_small {i : Int} (h0 : 0 ≤ i) (h6 : i ≤ 6) : i.natAbs.log2 < 1920 := by
  rcases (show i = 0 ∨ i = 1 ∨ i = 2 ∨ i = 3 ∨ i = 4 ∨ i = 5 ∨ i = 6 by omega) with rfl | rfl | rfl | rfl | rfl | rfl | rfl <;> decide +kernel
theorem fits_small {i : Int} (h0 : -10000 ≤ i) (h1 : i ≤ 10000) : Builtin.Range.rangeFitsLong i = true := by
  unfold Builtin.Range.rangeFitsLong
  rw [Bool.and_eq_true, decide_eq_true_eq, decide_eq_true_eq]
  have e : (2 : Int) ^ 63 = 9223372036854775808 := by decide +kernel
  omega
theorem small_text {k : Nat} (h : k ≤ 1000) : Builtin.Range.small 2 (k : Int) 4 = true := by
  have e : Builtin.Range.rangeSize 2 (k : Int) 4 = if (2 : Int) < k then ((k : Int) - 2 - 1) / 4 + 1 else 0 := by
    unfold Builtin.Range.rangeSize
    rw [if_pos (by decide)]
  have b : -10000 ≤ Builtin.Range.rangeSize 2 (k : Int) 4 ∧ Builtin.Range.rangeSize 2 (k : Int) 4 ≤ 10000 := by
    rw [e]
    split <;> omega
  unfold Builtin.Range.small
  rw [if_pos (by decide)]
  rw [fits_small (i := 2) (by omega) (by omega), fits_small (i := (k : Int)) (by omega) (by omega), fits_small (i := 4) (by omega) (by omega), fits_small b.1 b.2, fits_small (i := (k : Int) + (4 - 1)) (by omega) (by omega)]
  simp
end L2.DL

set_option maxHeartbeats 4000000
set_option exponentiation.threshold 10000
namespace K10
open PySem L2 L2.DL PyProof.Rows
open Builtin.Int (intBits)
def top (i : Nat) : Stmt := PySem.Challenge.pw_greenturns_k10_texts_read.main.body.getD i (.Pass ⟨0, 0, 0, 0⟩)
abbrev s_check_size : Stmt := top 10
abbrev s_is_stream : Stmt := top 11
abbrev s_check_clash : Stmt := top 12
abbrev s_rising : Stmt := top 13
abbrev s_Crossing___init__ : Stmt := inClass (top 14) 0
abbrev s_Crossing_size : Stmt := inClass (top 14) 1
abbrev s_Crossing_clashes : Stmt := inClass (top 14) 7
abbrev s_shown_pair : Stmt := top 17
abbrev s_shown : Stmt := top 18
abbrev s_figure_at : Stmt := top 19
abbrev s_guessed : Stmt := top 20
abbrev s_read : Stmt := top 21
abbrev s__law_cell_at : Stmt := top 23
abbrev s__law_clashes : Stmt := top 24
abbrev s__law_ring : Stmt := top 25
abbrev s__law_shown : Stmt := top 26
abbrev s__law_spoiled : Stmt := top 27
abbrev s__law_odd : Stmt := top 28
abbrev s__law_due : Stmt := top 29
abbrev s__law_told : Stmt := top 30
abbrev s__law_right : Stmt := top 31
abbrev s_law : Stmt := top 32
structure Bi (mg : Str → Option Value) : Prop where
  b_ValueError : mg "ValueError" = none
  b_isinstance : mg "isinstance" = none
  b_len : mg "len" = none
  b_list : mg "list" = none
  b_max : mg "max" = none
  b_min : mg "min" = none
  b_range : mg "range" = none
  b_reversed : mg "reversed" = none
  b_set : mg "set" = none
  b_sorted : mg "sorted" = none
  b_str : mg "str" = none
theorem sc_check_size : FnScope ["streams"] ["streams"] (defScope s_check_size) := ⟨rfl, rfl, rfl, by decide +kernel, rfl, by decide +kernel, by decide +kernel⟩
theorem sc_is_stream : FnScope ["streams", "stream"] ["streams", "stream"] (defScope s_is_stream) := ⟨rfl, rfl, rfl, by decide +kernel, rfl, by decide +kernel, by decide +kernel⟩
theorem sc_check_clash : FnScope ["streams", "pair"] ["streams", "pair"] (defScope s_check_clash) := ⟨rfl, rfl, rfl, by decide +kernel, rfl, by decide +kernel, by decide +kernel⟩
theorem sc_rising : FnScope ["pair"] ["pair"] (defScope s_rising) := ⟨rfl, rfl, rfl, by decide +kernel, rfl, by decide +kernel, by decide +kernel⟩
theorem sc_Crossing___init__ : FnScope ["self", "streams", "clashes", "pair"] ["self", "streams", "clashes"] (defScope s_Crossing___init__) := ⟨rfl, rfl, rfl, by decide +kernel, rfl, by decide +kernel, by decide +kernel⟩
theorem sc_Crossing_size : FnScope ["self"] ["self"] (defScope s_Crossing_size) := ⟨rfl, rfl, rfl, by decide +kernel, rfl, by decide +kernel, by decide +kernel⟩
theorem sc_Crossing_clashes : FnScope ["self"] ["self"] (defScope s_Crossing_clashes) := ⟨rfl, rfl, rfl, by decide +kernel, rfl, by decide +kernel, by decide +kernel⟩
theorem sc_shown_pair : FnScope ["pair", "one", "other"] ["pair"] (defScope s_shown_pair) := ⟨rfl, rfl, rfl, by decide +kernel, rfl, by decide +kernel, by decide +kernel⟩
theorem sc_shown : FnScope ["crossing", "pairs"] ["crossing"] (defScope s_shown) := ⟨rfl, rfl, rfl, by decide +kernel, rfl, by decide +kernel, by decide +kernel⟩
theorem sc_figure_at : FnScope ["text", "place"] ["text", "place"] (defScope s_figure_at) := ⟨rfl, rfl, rfl, by decide +kernel, rfl, by decide +kernel, by decide +kernel⟩
theorem sc_guessed : FnScope ["text", "pairs", "streams", "error"] ["text"] (defScope s_guessed) := ⟨rfl, rfl, rfl, by decide +kernel, rfl, by decide +kernel, by decide +kernel⟩
theorem sc_read : FnScope ["text", "crossing"] ["text"] (defScope s_read) := ⟨rfl, rfl, rfl, by decide +kernel, rfl, by decide +kernel, by decide +kernel⟩
theorem sc__law_cell_at : FnScope ["script", "k"] ["script", "k"] (defScope s__law_cell_at) := ⟨rfl, rfl, rfl, by decide +kernel, rfl, by decide +kernel, by decide +kernel⟩
theorem sc__law_clashes : FnScope ["script", "start", "streams", "cell", "turned", "pairs", "a", "b", "more", "twice"] ["script", "start", "streams"] (defScope s__law_clashes) := ⟨rfl, rfl, rfl, by decide +kernel, rfl, by decide +kernel, by decide +kernel⟩
theorem sc__law_ring : FnScope ["cell", "streams", "step", "first", "pairs", "k", "other"] ["cell", "streams"] (defScope s__law_ring) := ⟨rfl, rfl, rfl, by decide +kernel, rfl, by decide +kernel, by decide +kernel⟩
theorem sc__law_shown : FnScope ["clashes", "streams", "text", "pair"] ["clashes", "streams"] (defScope s__law_shown) := ⟨rfl, rfl, rfl, by decide +kernel, rfl, by decide +kernel, by decide +kernel⟩
theorem sc__law_spoiled : FnScope ["text", "way", "cell", "other", "signs", "sign", "at", "words", "spot"] ["text", "way", "cell", "other"] (defScope s__law_spoiled) := ⟨rfl, rfl, rfl, by decide +kernel, rfl, by decide +kernel, by decide +kernel⟩
theorem sc__law_odd : FnScope ["cell", "some"] ["cell"] (defScope s__law_odd) := ⟨rfl, rfl, rfl, by decide +kernel, rfl, by decide +kernel, by decide +kernel⟩
theorem sc__law_due : FnScope ["text", "words", "streams", "pairs", "word", "pair"] ["text"] (defScope s__law_due) := ⟨rfl, rfl, rfl, by decide +kernel, rfl, by decide +kernel, by decide +kernel⟩
theorem sc__law_told : FnScope ["text", "found", "e", "flags"] ["text"] (defScope s__law_told) := ⟨rfl, rfl, rfl, by decide +kernel, rfl, by decide +kernel, by decide +kernel⟩
theorem sc__law_right : FnScope ["text", "due", "found"] ["text", "due"] (defScope s__law_right) := ⟨rfl, rfl, rfl, by decide +kernel, rfl, by decide +kernel, by decide +kernel⟩
theorem sc_law : FnScope ["script", "streams", "way", "text", "due"] ["script"] (defScope s_law) := ⟨rfl, rfl, rfl, by decide +kernel, rfl, by decide +kernel, by decide +kernel⟩
local macro_rules
  | `(tactic| walk_at "rd") => `(tactic| try simp only [dSeq, dCallR, dMakeR, dRaise, L2.DL.G.dCallR, L2.DL.G.dMakeR, L2.DL.G.dRaise, caughtD, dTry, dTryF, dSplit, dFind, dIndex, dJoin, dFs, dSlS, rdS2, rdIxS, rcLenS, rcStrI, rdInS, dRng3, dRevL, rcInstC, id, dSet, dSetO, dVar, dC, d1, d2, d2F, dNil, dCons, dCall, dCallF, dOf, dTest, dAnd, dOr, dNot, dAndV, dOrV, dNotV, dIf, dTup, dLst, dAdd, dSub, dMul, dDivB, dDiv, dMod, dPow, rdI, rdI0, rdU, rdEq, rdNe, rdIs, rdIsNot, rdEqD, rdNeD,
    dRet, dRetN, dRetF, dRetO, dIfS, dNext, dNever, dAppend, dExtend, dClear, dPut, dShare, dItL, dItT, dRng1, dRng2, dName, dName2, dYes, capD, startE, dIxO, dEnum, dZip, dSl, dPart, dNoPart, rcLen, rcAbs, rcMin, rcMax, rcList, rcTuple, rcInst, isTy_ii, isTy_ib, isTy_bb, isTy_Qt, isTy_Gt, isTy_tt, isTy_ll, rcLen_Q, rcLen_G, rdIn_G, rdNotIn_G, dQ_nought, dQ_one, dPlan, Bool.not_true, Bool.not_false, Int.ofNat_eq_natCast, decide_true, decide_false, Int.zero_add, rdIx_R0, rdIx_R1, rdIn_Ls, dItS, dDo, dSortSet, dMeth, dMethF, rdStreams, rdPairs, dLendB, dLend, rdIx_Q0, rdIx_Q1, rdIx_P0, rdIx_P1,
    List.set_cons_zero, List.set_cons_succ, List.getElem?_cons_zero, List.getElem?_cons_succ, List.map_cons, List.map_nil, List.cons_append, List.nil_append, Option.getD_some, Option.getD_none, List.length_cons, List.length_nil, ite_true, ite_false, if_true, if_false, Bool.false_eq_true])
section
variable {P : Program} {w : World} {K : PySem.W.Frag} {mg : Str → Option Value} {base : Heap} {f : Addr} {fd : FuncData} {C c_TurnError c_BadSize c_BadClash c_NoStream c_BadWish c_BadNote : Addr}
theorem ok__law_cell_at (B : Bi mg) (F : Fun K "_law_cell_at" "_law_cell_at" s__law_cell_at f fd) :
    FnOk P w K mg base CX0 1 f fd ["script", "k"] (spD K C tCell) := by
  refine fn_e F sc__law_cell_at (fun ds Q h => by obtain ⟨ns, k0, rfl, h0, k⟩ := h; rfl) (fun cdv A outer s H E hr => ⟨_, (dss_cons (ds_if (db_cmp op_lt l_lt (de_of_var (pv 1)) (de_callB call_len_seq l_len rfl B.b_len PySem.boot_len (da_cons (de_of_var (pv 0)) da_nil)) (nomark _)) (dss_one (ds_ret (de_ix (de_of_var (pv 0)) (de_of_var (pv 1)) (fun _ _ => rfl)))) dss_nil)
        (dss_one (ds_ret de_int))), fun ds Q h => ?_⟩)
  obtain ⟨ns, k0, rfl, h0, k⟩ := h
  walk_at "rd"
  refine ite2 (fun c => ?_) (fun c => ?_)
  · have c' : k0 < (ns.length : Int) := of_decide_eq_true c
    rw [rdIx_scr h0 c']
    exact k
  · have c' : ¬ k0 < (ns.length : Int) := of_decide_eq_false (Bool.eq_false_iff.mpr c)
    rw [cell_out c'] at k
    exact k
theorem ok__law_ring (B : Bi mg) (F : Fun K "_law_ring" "_law_ring" s__law_ring f fd) :
    FnOk P w K mg base CX0 1 f fd ["cell", "streams"] (spD K C tLawRing) := by
  refine fn_e F sc__law_ring (fun ds Q h => by obtain ⟨c, n, rfl, n1, n2, k⟩ := h; rfl) (fun cdv A outer s H E hr => ⟨_, (dss_cons (ds_set (i := 2) sc__law_ring.nd rfl (Or.inl rfl) (de_add de_int (de_mod (de_of_var (pv 0)) de_int)))
        (dss_cons (ds_set (i := 3) sc__law_ring.nd rfl (Or.inl rfl) (de_mul (de_mod (de_div (de_of_var (pv 0)) de_int) de_int) (de_sub (de_of_var (pv 1)) de_int)))
        (dss_cons (ds_setO (i := 4) sc__law_ring.nd rfl (Or.inl rfl) (df_lst da_nil))
        (dss_cons (ds_for PassesOwn.never rfl (di_range1 rfl B.b_range (da_cons de_int da_nil)) (dg_name (i := 5) sc__law_ring.nd rfl (Or.inl rfl)) (dss_one (ds_append (ps_expr (pe_bm PySem.F.plainAttrs_list PySem.F.slot_list_append PySem.F.type_list_append mt_append (pv 4) (da_cons (de_tup (da_cons (de_add (de_of_var (pv 3)) (de_of_var (pv 5))) (da_cons (de_add (de_of_var (pv 3)) (de_mod (de_add (de_of_var (pv 5)) (de_of_var (pv 2))) de_int)) da_nil))) da_nil))))))
        (dss_cons (ds_if (db_cmp op_eq l_eq (de_of_var (pv 1)) de_int (nomark _)) (dss_cons (ds_set (i := 6) sc__law_ring.nd rfl (Or.inl rfl) (de_sub de_int (de_mul de_int (de_of_var (pv 3)))))
        (dss_one (ds_for PassesOwn.never rfl (di_range1 rfl B.b_range (da_cons de_int da_nil)) (dg_name (i := 5) sc__law_ring.nd rfl (Or.inl rfl)) (dss_cons (ds_if (db_cmp op_eq l_eq (de_mod (de_div (de_of_var (pv 0)) de_int) de_int) de_int (nomark _)) (dss_one (ds_append (ps_expr (pe_bm PySem.F.plainAttrs_list PySem.F.slot_list_append PySem.F.type_list_append mt_append (pv 4) (da_cons (de_tup (da_cons (de_of_var (pv 6)) (da_cons (de_add (de_of_var (pv 3)) (de_of_var (pv 5))) da_nil))) da_nil))))) dss_nil)
        (dss_one (ds_set (i := 0) sc__law_ring.nd rfl (Or.inl rfl) (de_div (de_of_var (pv 0)) de_int))))))) dss_nil)
        (dss_share 4 (dss_one (ds_ret (de_of_var (pv 4)))))))))), fun ds Q h => ?_⟩)
  obtain ⟨c, n, rfl, n1, n2, k⟩ := h
  have hz : (1000 : Nat) ≤ sizeLine := by decide
  obtain ⟨fi, hfi, hf⟩ : ∃ fi : Int, c / 2 % 2 * (n - 5) = fi ∧ (fi = 0 ∨ (fi = 1 ∧ n = 6)) := by
    rcases (show c / 2 % 2 = 0 ∨ c / 2 % 2 = 1 by omega) with h | h
    · exact ⟨0, by rw [h, Int.zero_mul], .inl rfl⟩
    · rcases (show n = 5 ∨ n = 6 by omega) with h2 | h2
      · exact ⟨0, by rw [h, h2]; rfl, .inl rfl⟩
      · exact ⟨1, by rw [h, h2]; rfl, .inr ⟨rfl, h2⟩⟩
  walk_at "rd"
  rw [hfi]
  refine ⟨by decide, ⟨by decide, by decide⟩, by decide, mulB (m := 8) (n := 8) (bits_le (by omega)) (bits_le (by omega)), by decide, fun p0 => ⟨by decide, by decide, ?_⟩⟩
  refine ⟨Nat, List.range 5, fun i => .int (0 + (i : Nat)), fun pre env => ∃ (p : Addr) (cl : Cl) (r : Option SV), env = [some (.sh (.int c)), some (.sh (.int n)), some (.sh (.int (1 + c % 2))), some (.sh (.int fi)), some (.ow p (cl.map dPr)), r, none] ∧ GoodP n cl ∧ cl.length = pre.length, rfl, ⟨p0, [], none, rfl, fun _ h => (by cases h), rfl⟩, ?_, ?_⟩
  · rintro pre x post env e ⟨p, cl, r, rfl, hg, hl⟩
    obtain ⟨rfl, hx, _⟩ := range_split e
    walk_at "rd"
    refine ⟨by decide, by decide, by rw [List.length_map]; omega, p, cl ++ [(fi + (pre.length : Int), fi + ((pre.length : Int) + (1 + c % 2)) % 5)], some (.sh (.int pre.length)), ?_, ?_, ?_⟩
    · rw [List.map_append]
      rfl
    · refine hg.app fun q hq => ?_
      rw [List.mem_singleton.mp hq]
      show _ ∧ _ ∧ _ ∧ _ ∧ _
      simp only
      rcases (show c % 2 = 0 ∨ c % 2 = 1 by omega) with h | h <;> rw [h] <;> omega
    · rw [List.length_append, List.length_append, hl]
      rfl
  · rintro env ⟨p, cl, r, rfl, hg, hl⟩
    rw [List.length_range] at hl
    walk_at "rd"
    refine ite2 (fun c6 => ?_) (fun c6 => ?_)
    · have h6 : n = 6 := of_decide_eq_true c6
      refine ⟨mulB (m := 8) (n := 8) (bits_le (by omega)) (bits_le (by omega)), by decide, by decide, ?_⟩
      refine ⟨Nat, List.range 5, fun i => .int (0 + (i : Nat)), fun pre env => ∃ (p : Addr) (c' : Int) (cl : Cl) (r : Option SV), env = [some (.sh (.int c')), some (.sh (.int n)), some (.sh (.int (1 + c % 2))), some (.sh (.int fi)), some (.ow p (cl.map dPr)), r, some (.sh (.int (5 - 5 * fi)))] ∧ GoodP n cl ∧ cl.length ≤ 5 + pre.length, rfl, ⟨p, c, cl, r, rfl, hg, by omega⟩, ?_, ?_⟩
      · rintro pre x post env e ⟨p, c', cl, r, rfl, hg, hl⟩
        obtain ⟨rfl, hx, _⟩ := range_split e
        walk_at "rd"
        refine ⟨⟨by decide, by decide⟩, by decide, ?_⟩
        refine ite2 (fun c7 => ?_) (fun c7 => ?_)
        · refine ⟨by decide, by rw [List.length_map]; omega, ⟨by decide, by decide⟩, p, c' / 2, cl ++ [(5 - 5 * fi, fi + (pre.length : Int))], some (.sh (.int pre.length)), ?_, ?_, ?_⟩
          · rw [List.map_append]
            rfl
          · refine hg.app fun q hq => ?_
            rw [List.mem_singleton.mp hq]
            show _ ∧ _ ∧ _ ∧ _ ∧ _
            simp only
            omega
          · rw [List.length_append, List.length_append]
            simp only [List.length_cons, List.length_nil]
            omega
        · refine ⟨⟨by decide, by decide⟩, p, _, cl, _, rfl, hg, ?_⟩
          rw [List.length_append]
          omega
      · rintro env ⟨p, c', cl, r, rfl, hg, hl⟩
        rw [List.length_range] at hl
        walk_at "rd"
        exact k cl ⟨hg, by omega⟩
    · exact k cl ⟨hg, by omega⟩
theorem ok__law_clashes (B : Bi mg) (d__law_cell_at : Dn P w K mg base "_law_cell_at" ["script", "k"] 1 (spD K C tCell)) (d__law_ring : Dn P w K mg base "_law_ring" ["cell", "streams"] 1 (spD K C tLawRing)) (F : Fun K "_law_clashes" "_law_clashes" s__law_clashes f fd) :
    FnOk P w K mg base CX0 2 f fd ["script", "start", "streams"] (spD K C tLawClashes) := by
  refine fn_e F sc__law_clashes (fun ds Q h => by obtain ⟨ns, st, n, rfl, s0, n1, n2, k⟩ := h; rfl) (fun cdv A outer s H E hr => ⟨_, (dss_cons (ds_set (i := 3) sc__law_clashes.nd rfl (Or.inl rfl) (de_dn d__law_cell_at hr rfl (da_cons (de_of_var (pv 0)) (da_cons (de_of_var (pv 1)) da_nil))))
        (dss_cons (ds_set (i := 4) sc__law_clashes.nd rfl (Or.inl rfl) (de_dn d__law_cell_at hr rfl (da_cons (de_of_var (pv 0)) (da_cons (de_add (de_of_var (pv 1)) de_int) da_nil))))
        (dss_cons (ds_if (DW.db (dw_and (db_cmp op_gt l_gt (de_of_var (pv 2)) de_int (nomark _)) (dw_and1 (db_cmp op_eq l_eq (de_mod (de_of_var (pv 3)) de_int) de_int (nomark _))))) (dss_one (ds_ret (de_dn d__law_ring hr rfl (da_cons (de_div (de_of_var (pv 3)) de_int) (da_cons (de_of_var (pv 2)) da_nil))))) dss_nil)
        (dss_cons (ds_setO (i := 5) sc__law_clashes.nd rfl (Or.inl rfl) (df_lst da_nil))
        (dss_cons (ds_for PassesOwn.never rfl (di_range1 rfl B.b_range (da_cons (de_of_var (pv 2)) da_nil)) (dg_name (i := 6) sc__law_clashes.nd rfl (Or.inl rfl)) (dss_one (ds_for PassesOwn.never rfl (di_range2 rfl B.b_range (da_cons (de_add (de_of_var (pv 6)) de_int) (da_cons (de_of_var (pv 2)) da_nil))) (dg_name (i := 7) sc__law_clashes.nd rfl (Or.inl rfl)) (dss_cons (ds_if (db_cmp op_eq l_eq (de_mod (de_of_var (pv 3)) de_int) de_int (nomark _)) (dss_one (ds_append (ps_expr (pe_bm PySem.F.plainAttrs_list PySem.F.slot_list_append PySem.F.type_list_append mt_append (pv 5) (da_cons (de_ix (DE.of (df_lst (da_cons (de_tup (da_cons (de_of_var (pv 6)) (da_cons (de_of_var (pv 7)) da_nil))) (da_cons (de_tup (da_cons (de_of_var (pv 7)) (da_cons (de_of_var (pv 6)) da_nil))) da_nil)))) (de_mod (de_of_var (pv 4)) de_int) (fun _ _ => rfl)) da_nil))))) dss_nil)
        (dss_cons (ds_set (i := 3) sc__law_clashes.nd rfl (Or.inl rfl) (de_div (de_of_var (pv 3)) de_int))
        (dss_one (ds_set (i := 4) sc__law_clashes.nd rfl (Or.inl rfl) (de_div (de_of_var (pv 4)) de_int))))))))
        (dss_share 5 (dss_cons (ds_set (i := 8) sc__law_clashes.nd rfl (Or.inl rfl) (de_mod (de_of_var (pv 4)) de_int))
        (dss_cons (ds_set (i := 9) sc__law_clashes.nd rfl (Or.inl rfl) (DE.of (df_slice (de_of_var (pv 5)) do_none (do_some (de_ix (DE.of (df_lst (da_cons de_int (da_cons de_int (da_cons de_int (da_cons de_int da_nil)))))) (de_mod (de_div (de_of_var (pv 4)) de_int) de_int) (fun _ _ => rfl))))))
        (dss_cons (ds_if (db_cmp op_eq l_eq (de_mod (de_div (de_of_var (pv 4)) de_int) de_int) de_int (nomark _)) (dss_one (ds_comp (i := 9) sc__law_clashes.nd rfl rfl (compSc (defScope s__law_clashes) ["script", "start", "streams", "cell", "turned", "pairs", "a", "b", "more", "twice"] ["pair"] [] rfl rfl (by decide +kernel) rfl rfl (by decide +kernel) (by decide +kernel) (by decide +kernel) rfl (by decide +kernel) rfl (by decide +kernel)) rfl (di_list (de_of_var (pv 9))) (fun _ _ _ _ => difs_nil) (fun _ _ _ _ => (de_tup (da_cons (de_ix (de_of_var (pv 0)) de_int (fun _ _ => rfl)) (da_cons (de_ix (de_of_var (pv 0)) de_int (fun _ _ => rfl)) da_nil)))))) dss_nil)
        (dss_one (ds_ret (DE.of (df_cat (DE.of (df_cat (DE.of (df_slice (de_of_var (pv 5)) (do_some (de_of_var (pv 8))) do_none)) (DE.of (df_slice (de_of_var (pv 5)) do_none (do_some (de_of_var (pv 8))))))) (de_of_var (pv 9))))))))))))))), fun ds Q h => ?_⟩)
  obtain ⟨ns, st, n, rfl, s0, n1, n2, k⟩ := h
  have hz : (1000 : Nat) ≤ sizeLine := by decide
  walk_at "rd"
  refine ⟨ns, st, rfl, s0, ns, st + 1, rfl, by omega, ?_⟩
  generalize cellAt ns st = ce
  generalize cellAt ns (st + 1) = tu
  walk_at "rd"
  refine ite2 (fun c1 => ?g1) (fun c1 => ?g2)
  case' g1 =>
    refine ⟨by decide, ite2 (fun c2 => ?g3) (fun c2 => ?g4)⟩
    case g3 => exact ⟨⟨by decide, by decide⟩, _, n, rfl, of_decide_eq_true c1, n2, k⟩
  all_goals
    refine ⟨by decide, fun p0 => ⟨by omega, by omega, ?_⟩⟩
    obtain ⟨m, rfl⟩ : ∃ m : Nat, n = m := ⟨n.toNat, by omega⟩
    refine ⟨Nat, List.range m, fun i => .int (0 + (i : Nat)), fun pre env => ∃ (p : Addr) (ce tu : Int) (cl : Cl) (r1 r2 : Option SV), env = [some (.sh (.scr ns)), some (.sh (.int st)), some (.sh (.int m)), some (.sh (.int ce)), some (.sh (.int tu)), some (.ow p (cl.map dPr)), r1, r2, none, none] ∧ GoodP m cl ∧ cl.length ≤ 6 * pre.length, rfl, ⟨p0, ce, tu, [], none, none, rfl, fun _ h => (by cases h), Nat.zero_le _⟩, ?_, ?_⟩
    · rintro pre x post env e ⟨p, ce', tu', cl, r1, r2, rfl, hg, hl⟩
      obtain ⟨rfl, hx, _⟩ := range_split e
      walk_at "rd"
      refine ⟨⟨by omega, by omega, by omega, by omega⟩, ?_⟩
      refine ⟨Nat, List.range ((m : Int) - ((pre.length : Int) + 1)).toNat, fun i => .int (((pre.length : Int) + 1) + (i : Nat)), fun pre2 env => ∃ (p : Addr) (ce tu : Int) (cl : Cl) (r2 : Option SV), env = [some (.sh (.scr ns)), some (.sh (.int st)), some (.sh (.int m)), some (.sh (.int ce)), some (.sh (.int tu)), some (.ow p (cl.map dPr)), some (.sh (.int pre.length)), r2, none, none] ∧ GoodP m cl ∧ cl.length ≤ 6 * pre.length + pre2.length, rfl, ⟨p, ce', tu', cl, r2, rfl, hg, hl⟩, ?_, ?_⟩
      · rintro pre2 y post2 env e2 ⟨p, ce2, tu2, cl2, r3, rfl, hg2, hl2⟩
        obtain ⟨rfl, hy, _⟩ := range_split e2
        walk_at "rd"
        refine ⟨by decide, ?_⟩
        refine ite2 (fun c => ?_) (fun c => ?_)
        · obtain ⟨q, hq, hix⟩ : ∃ q : Int × Int, (q = ((pre.length : Int), (pre.length : Int) + 1 + pre2.length) ∨ q = ((pre.length : Int) + 1 + pre2.length, (pre.length : Int))) ∧ ∀ R : D → Prop, rdIx (.lst [.tup [.int pre.length, .int ((pre.length : Int) + 1 + pre2.length)], .tup [.int ((pre.length : Int) + 1 + pre2.length), .int pre.length]]) (.int (tu2 % 2)) R = R (dPr q) := by
            rcases (show tu2 % 2 = 0 ∨ tu2 % 2 = 1 by omega) with h | h
            · exact ⟨_, .inl rfl, fun R => by rw [h]; rfl⟩
            · exact ⟨_, .inr rfl, fun R => by rw [h]; rfl⟩
          rw [hix]
          refine ⟨by decide, by decide, by decide, by decide, by rw [List.length_map]; omega, ⟨by decide, by decide⟩, ⟨by decide, by decide⟩, p, ce2 / 2, tu2 / 2, cl2 ++ [q], some (.sh (.int ((pre.length : Int) + 1 + pre2.length))), ?_, ?_, ?_⟩
          · rw [List.map_append]
            rfl
          · refine hg2.app fun z hz' => ?_
            rw [List.mem_singleton.mp hz']
            rcases hq with rfl | rfl
            · show _ ∧ _ ∧ _ ∧ _ ∧ _
              simp only
              omega
            · show _ ∧ _ ∧ _ ∧ _ ∧ _
              simp only
              omega
          · rw [List.length_append, List.length_append]
            simp only [List.length_cons, List.length_nil]
            omega
        · refine ⟨⟨by decide, by decide⟩, ⟨by decide, by decide⟩, p, _, _, cl2, _, rfl, hg2, ?_⟩
          rw [List.length_append]
          omega
      · rintro env ⟨p, ce2, tu2, cl2, r3, rfl, hg2, hl2⟩
        refine ⟨p, _, _, cl2, _, _, rfl, hg2, ?_⟩
        rw [List.length_range] at hl2
        rw [List.length_append]
        simp only [List.length_cons, List.length_nil]
        omega
    · rintro env ⟨p, ce2, tu2, cl, r1, r2, rfl, hg, hl⟩
      rw [List.length_range] at hl
      walk_at "rd"
      obtain ⟨i0, hi0⟩ : ∃ i0 : Int, ∀ R : D → Prop, rdIx (.lst [.int 0, .int 1, .int 2, .int 15]) (.int (tu2 / 4 % 4)) R = R (.int i0) := by
        rcases (show tu2 / 4 % 4 = 0 ∨ tu2 / 4 % 4 = 1 ∨ tu2 / 4 % 4 = 2 ∨ tu2 / 4 % 4 = 3 by omega) with h | h | h | h
        · exact ⟨0, fun R => by rw [h]; rfl⟩
        · exact ⟨1, fun R => by rw [h]; rfl⟩
        · exact ⟨2, fun R => by rw [h]; rfl⟩
        · exact ⟨15, fun R => by rw [h]; rfl⟩
      rw [hi0]
      refine ⟨by decide, by decide, ⟨by decide, by decide⟩, by decide, ⟨by decide, by decide⟩, by decide, ?_⟩
      simp only [cut_map]
      have l1 := cut_len cl (some (tu2 % 4)) none
      have l2 := cut_len cl none (some (tu2 % 4))
      have l3 := cut_len cl none (some i0)
      have fin : ∀ t : Cl, GoodP m t → t.length ≤ cl.length → rdCat (D.lst ((cut cl (some (tu2 % 4)) none).map dPr)) (D.lst ((cut cl none (some (tu2 % 4))).map dPr)) fun ds => rdCat (D.lst ds) (D.lst (t.map dPr)) fun ds => Q (D.lst ds) := by
        intro t ht hl'
        refine ⟨by rw [List.length_map, List.length_map]; omega, ?_⟩
        refine ⟨by rw [List.length_append, List.length_map, List.length_map, List.length_map]; omega, ?_⟩
        rw [← List.map_append, ← List.map_append]
        refine k _ ⟨((hg.of fun x hx => cut_mem hx).app (hg.of fun x hx => cut_mem hx)).app ht, ?_⟩
        rw [List.length_append, List.length_append]
        omega
      refine ite2 (fun c => ?_) (fun c => ?_)
      · refine ⟨_, cut cl none (some i0), dPr, fun q => some (dPr (q.2, q.1)), rfl, by omega, fun q _ => ?_, ?_⟩
        · walk_at "rd"
          exact ⟨by decide, rfl⟩
        · rw [fm_some]
          have hm : (cut cl none (some i0)).map (fun q => dPr (q.2, q.1)) = ((cut cl none (some i0)).map fun q => (q.2, q.1)).map dPr := by rw [List.map_map]; rfl
          rw [hm]
          refine fin _ (fun x hx => ?_) (by rw [List.length_map]; exact l3)
          obtain ⟨q, hq, rfl⟩ := List.mem_map.mp hx
          have hq' := hg q (cut_mem hq)
          exact ⟨hq'.2.2.1, hq'.2.2.2.1, hq'.1, hq'.2.1, fun z => hq'.2.2.2.2 z.symm⟩
      · exact fin _ (hg.of fun x hx => cut_mem hx) l3
theorem ok__law_shown (B : Bi mg) (F : Fun K "_law_shown" "_law_shown" s__law_shown f fd) :
    FnOk P w K mg base CX0 1 f fd ["clashes", "streams"] (spD K C tLawShown) := by
  refine fn_e F sc__law_shown (fun ds Q h => by obtain ⟨cl, n, rfl, n1, n6, hg, k⟩ := h; rfl) (fun cdv A outer s H E hr => ⟨_, (dss_cons (ds_set (i := 2) sc__law_shown.nd rfl (Or.inl rfl) (de_adds (de_callTy call_str_int l_strI rfl B.b_str PyProof.Rows.boot_str (da_cons (de_of_var (pv 1)) da_nil)) de_str))
        (dss_cons (ds_for PassesOwn.never rfl (di_list (DE.of (df_sortset rfl B.b_sorted rfl B.b_set rfl hr.units (DE.of (df_comp (compSc (defScope s__law_shown) ["clashes", "streams", "text", "pair"] ["pair"] [] rfl rfl (by decide +kernel) rfl rfl (by decide +kernel) (by decide +kernel) (by decide +kernel) rfl (by decide +kernel) rfl (by decide +kernel)) rfl (di_list (de_of_var (pv 0))) (fun _ _ _ _ => difs_nil) (fun _ _ _ _ => (de_tup (da_cons (de_min1 rfl rfl B.b_min (da_cons (de_of_var (pv 0)) da_nil)) (da_cons (de_max1 rfl rfl B.b_max (da_cons (de_of_var (pv 0)) da_nil)) da_nil))))))))) (dg_name (i := 3) sc__law_shown.nd rfl (Or.inl rfl)) (dss_one (ds_set (i := 2) sc__law_shown.nd rfl (Or.inl rfl) (de_adds (de_adds (de_adds (de_adds (de_of_var (pv 2)) de_str) (de_callTy call_str_int l_strI rfl B.b_str PyProof.Rows.boot_str (da_cons (de_ix (de_of_var (pv 3)) de_int (fun _ _ => rfl)) da_nil))) de_str) (de_callTy call_str_int l_strI rfl B.b_str PyProof.Rows.boot_str (da_cons (de_ix (de_of_var (pv 3)) de_int (fun _ _ => rfl)) da_nil))))))
        (dss_one (ds_ret (de_of_var (pv 2)))))), fun ds Q h => ?_⟩)
  obtain ⟨cl, n, rfl, n1, n6, hg, k⟩ := h
  have hz : (100000 : Nat) ≤ sizeLine := by decide
  have hd := dig_len (i := n) (by omega) n6
  have hc : (":" : Str).length = 1 := by decide +kernel
  have hb : (" " : Str).length = 1 := by decide +kernel
  have hm : ("-" : Str).length = 1 := by decide +kernel
  walk_at "rd"
  refine ⟨log_small (by omega) n6, by omega, ?_⟩
  refine ⟨_, cl, dPr, fun q => some (dPr (rise q)), rfl, Nat.le_trans hg.2 (by decide), fun q _ => ?_, ?_⟩
  · walk_at "rd"
    exact ⟨by decide, rfl⟩
  rw [fm_some]
  refine ⟨cl.map rise, by rw [List.map_map]; rfl, good_rise n6 hg.1, ?_⟩
  have h15 := good15 n6 hg.1
  have hl15 : (sd (cl.map rise)).length ≤ 15 := Nat.le_trans (List.length_filter_le _ _) (by decide)
  refine ⟨_, sd (cl.map rise), dPr, fun pre env => ∃ (s : Str) (r : Option SV), env = [some (.sh (.lst (cl.map dPr))), some (.sh (.int n)), some (.sh (.str s)), r] ∧ s.length ≤ 2 + 4 * pre.length, rfl, ⟨_, none, rfl, by rw [Str.length_append]; omega⟩, ?_, ?_⟩
  · rintro pre p post env e ⟨s, r, rfl, hs⟩
    have hp := h15 p (by rw [e]; simp)
    have hlen : pre.length ≤ 15 := by rw [e, List.length_append] at hl15; omega
    have d1 := dig_len (i := p.1) (by omega) (by omega)
    have d2 := dig_len (i := p.2) (by omega) (by omega)
    walk_at "rd"
    refine ⟨by omega, log_small (by omega) (by omega), ?_⟩
    refine ⟨by rw [Str.length_append]; omega, by rw [Str.length_append, Str.length_append]; omega, log_small (by omega) (by omega), ?_⟩
    refine ⟨by rw [Str.length_append, Str.length_append, Str.length_append]; omega, _, _, rfl, ?_⟩
    rw [Str.length_append, Str.length_append, Str.length_append, Str.length_append, List.length_append, List.length_singleton]
    omega
  · rintro env ⟨s, r, rfl, hs⟩
    walk_at "rd"
    exact k s (by omega)
theorem ok__law_spoiled (B : Bi mg) (F : Fun K "_law_spoiled" "_law_spoiled" s__law_spoiled f fd) :
    FnOk P w K mg base CX0 1 f fd ["text", "way", "cell", "other"] (spD K C tSpoiled) := by
  refine fn_e F sc__law_spoiled (fun ds Q h => by obtain ⟨z, way, cell, other, rfl, hl, k⟩ := h; rfl) (fun cdv A outer s H E hr => ⟨_, (dss_cons (ds_set (i := 4) sc__law_spoiled.nd rfl (Or.inl rfl) de_str)
        (dss_cons (ds_set (i := 5) sc__law_spoiled.nd rfl (Or.inl rfl) (de_ixS (de_of_var (pv 4)) (de_mod (de_of_var (pv 3)) de_int) (fun _ _ => rfl)))
        (dss_cons (ds_set (i := 6) sc__law_spoiled.nd rfl (Or.inl rfl) (de_mod (de_of_var (pv 2)) (de_add (de_callB call_len_str l_lens rfl B.b_len PySem.boot_len (da_cons (de_of_var (pv 0)) da_nil)) de_int)))
        (dss_cons (ds_setO (i := 7) sc__law_spoiled.nd rfl (Or.inl rfl) (df_split (de_of_var (pv 0)) de_str))
        (dss_cons (ds_set (i := 8) sc__law_spoiled.nd rfl (Or.inl rfl) (de_lend 7 (de_mod (de_of_var (pv 2)) (de_callB call_len_seq l_len rfl B.b_len PySem.boot_len (da_cons (de_of_var (pv 7)) da_nil)))))
        (dss_cons (ds_if (db_cmp op_eq l_eq (de_of_var (pv 1)) de_int (nomark _)) (dss_one (ds_ret (de_adds (de_adds (de_sliceS (de_of_var (pv 0)) do_none (do_some (de_of_var (pv 6)))) (de_of_var (pv 5))) (de_sliceS (de_of_var (pv 0)) (do_some (de_of_var (pv 6))) do_none)))) dss_nil)
        (dss_cons (ds_if (db_cmp op_eq l_eq (de_of_var (pv 1)) de_int (nomark _)) (dss_one (ds_ret (de_adds (de_adds (de_sliceS (de_of_var (pv 0)) do_none (do_some (de_of_var (pv 6)))) (de_of_var (pv 5))) (de_sliceS (de_of_var (pv 0)) (do_some (de_add (de_of_var (pv 6)) de_int)) do_none)))) dss_nil)
        (dss_cons (ds_if (db_cmp op_eq l_eq (de_of_var (pv 1)) de_int (nomark _)) (dss_one (ds_ret (de_adds (de_sliceS (de_of_var (pv 0)) do_none (do_some (de_of_var (pv 6)))) (de_sliceS (de_of_var (pv 0)) (do_some (de_add (de_of_var (pv 6)) de_int)) do_none)))) dss_nil)
        (dss_cons (ds_if (db_cmp op_eq l_eq (de_of_var (pv 1)) de_int (nomark _)) (dss_share 7 (dss_one (ds_setO (i := 7) sc__law_spoiled.nd rfl (Or.inl rfl) (df_cat (DE.of (df_slice (de_of_var (pv 7)) do_none (do_some de_int))) (DE.of (df_comp (compSc (defScope s__law_spoiled) ["text", "way", "cell", "other", "signs", "sign", "at", "words", "spot"] ["word"] [] rfl rfl (by decide +kernel) rfl rfl (by decide +kernel) (by decide +kernel) (by decide +kernel) rfl (by decide +kernel) rfl (by decide +kernel)) rfl (di_revL rfl B.b_reversed (DE.of (df_slice (de_of_var (pv 7)) (do_some de_int) do_none))) (fun _ _ _ _ => difs_nil) (fun _ _ _ _ => (de_of_var (pv 0))))))))) dss_nil)
        (dss_cons (ds_if (db_cmp op_eq l_eq (de_of_var (pv 1)) de_int (nomark _)) (dss_share 7 (dss_one (ds_setO (i := 7) sc__law_spoiled.nd rfl (Or.inl rfl) (df_cat (DE.of (df_slice (de_of_var (pv 7)) do_none (do_some (de_add (de_of_var (pv 8)) de_int)))) (DE.of (df_slice (de_of_var (pv 7)) (do_some (de_of_var (pv 8))) do_none)))))) dss_nil)
        (dss_cons (ds_if (db_cmp op_eq l_eq (de_of_var (pv 1)) de_int (nomark _)) (dss_share 7 (dss_one (ds_setO (i := 7) sc__law_spoiled.nd rfl (Or.inl rfl) (df_cat (DE.of (df_slice (de_of_var (pv 7)) do_none (do_some (de_of_var (pv 8))))) (DE.of (df_slice (de_of_var (pv 7)) (do_some (de_add (de_of_var (pv 8)) de_int)) do_none)))))) dss_nil)
        (dss_cons (ds_if (DW.db (dw_and (db_cmp op_eq l_eq (de_of_var (pv 1)) de_int (nomark _)) (dw_and1 (db_cmp op_gt l_gt (de_of_var (pv 8)) de_int (nomark _))))) (dss_one (ds_put (ps_asg (de_lend 7 (de_adds (de_adds (de_sliceS (de_ix (de_of_var (pv 7)) (de_of_var (pv 8)) (fun _ _ => rfl)) (do_some de_int) do_none) de_str) (de_sliceS (de_ix (de_of_var (pv 7)) (de_of_var (pv 8)) (fun _ _ => rfl)) do_none (do_some de_int)))) (pg_sub (pv 7) (de_of_var (pv 8)) set_list)))) dss_nil)
        (dss_one (ds_ret (de_lend 7 (de_join de_str (de_of_var (pv 7)))))))))))))))))), fun ds Q h => ?_⟩)
  obtain ⟨z, way, cell, other, rfl, hl, k⟩ := h
  have hz : (100000 : Nat) ≤ sizeLine := by decide
  have hcut : ∀ lo hi, (Txt.slice z lo hi).length ≤ z.length := fun lo hi => Txt.slice_le z lo hi
  have hsl : ("0123456789- :+_a\n" : Str).cps.toList.length = 17 := by decide +kernel
  have hdash : ("-" : Str).length = 1 := by decide +kernel
  walk_at "rd"
  refine ⟨by decide, by decide +kernel, ?_⟩
  obtain ⟨sg, _, hsg⟩ := atI_in (l := ("0123456789- :+_a\n" : Str).cps.toList) (i := other % 17) (by omega) (by omega)
  simp only [hsg]
  have hone : (⟨#[sg]⟩ : Str).length = 1 := rfl
  refine ⟨by omega, by omega, by decide +kernel, by omega, fun p => ?_⟩
  have hws := tl_split z
  have hWn := split_ne z
  simp only [blank_eq]
  generalize Txt.split z blank = W at *
  have hWl : 1 ≤ W.length := List.length_pos_iff.mpr hWn
  simp only [List.length_map]
  refine ⟨by omega, rfl, ?_⟩
  generalize hat : cell % (z.length + 1 : Int) = at_
  obtain ⟨sp, hsp, hspl⟩ : ∃ sp : Nat, cell % (W.length : Int) = sp ∧ sp < W.length := by
    have h1 := Int.emod_nonneg cell (show (W.length : Int) ≠ 0 by omega)
    have h2 := Int.emod_lt_of_pos cell (show (0 : Int) < W.length by omega)
    exact ⟨(cell % (W.length : Int)).toNat, by omega, by omega⟩
  simp only [hsp]
  refine ite2 (fun c1 => ?_) (fun c1 => ?_)
  · have h1 := hcut none (some at_)
    have h2 := hcut (some at_) none
    refine ⟨by omega, by omega, by omega, by rw [Str.length_append]; omega, k _ ?_⟩
    rw [Str.length_append, Str.length_append]
    omega
  refine ite2 (fun c2 => ?_) (fun c2 => ?_)
  · have h1 := hcut none (some at_)
    have h2 := hcut (some (at_ + 1)) none
    refine ⟨by omega, by omega, by omega, by rw [Str.length_append]; omega, k _ ?_⟩
    rw [Str.length_append, Str.length_append]
    omega
  refine ite2 (fun c3 => ?_) (fun c3 => ?_)
  · have h1 := hcut none (some at_)
    have h2 := hcut (some (at_ + 1)) none
    refine ⟨by omega, by omega, by omega, k _ ?_⟩
    rw [Str.length_append]
    omega
  have fin : ∀ ws : List Str, tl ws ≤ 600 → ∃ ss, ws.map D.str = ss.map D.str ∧ JoinOk blank ss = true ∧ flatD (D.str (Txt.join blank ss)) = true ∧ Q (D.str (Txt.join blank ss)) := fun ws h => ⟨ws, rfl, joinOk_tl (by omega), rfl, k _ (Nat.le_trans (join_blank ws) (by omega))⟩
  have hWt := tl_len W
  by_cases c4 : way = 4
  · subst c4
    refine (if_pos (by decide)).mpr ?_
    show dRevL _ _ _
    walk_at "rd"
    have t1 := tl_cut W (some 1) none
    have t2 := tl_cut W none (some 1)
    have l1 := cut_len W (some 1) none
    have l2 := cut_len W none (some 1)
    refine ⟨_, (cut W (some 1) none).reverse, D.str, fun w => some (.str w), by rw [cut_map, List.map_reverse], by rw [List.length_reverse]; omega, fun w _ => ?_, ?_⟩
    · walk_at "rd"
    rw [fm_some, cut_map]
    refine ⟨by rw [List.length_map, List.length_map, List.length_reverse]; omega, fun p => ?_⟩
    refine (if_neg (by decide)).mpr ?_
    refine (if_neg (by decide)).mpr ?_
    refine (if_neg (by decide)).mpr ?_
    rw [← List.map_append]
    exact fin _ (by rw [tl_app, tl_rev]; omega)
  refine (if_neg (by simpa using c4)).mpr ?_
  by_cases c5 : way = 5
  · subst c5
    refine (if_pos (by decide)).mpr ?_
    have t1 := tl_cut W none (some ((sp : Int) + 1))
    have t2 := tl_cut W (some (sp : Int)) none
    have l1 := cut_len W none (some ((sp : Int) + 1))
    have l2 := cut_len W (some (sp : Int)) none
    rw [cut_map, cut_map]
    refine ⟨by rw [List.length_map, List.length_map]; omega, fun p => ?_⟩
    refine (if_neg (by decide)).mpr ?_
    refine (if_neg (by decide)).mpr ?_
    rw [← List.map_append]
    exact fin _ (by rw [tl_app]; omega)
  refine (if_neg (by simpa using c5)).mpr ?_
  by_cases c6 : way = 6
  · subst c6
    refine (if_pos (by decide)).mpr ?_
    have t1 := tl_cut W none (some (sp : Int))
    have t2 := tl_cut W (some ((sp : Int) + 1)) none
    have l1 := cut_len W none (some (sp : Int))
    have l2 := cut_len W (some ((sp : Int) + 1)) none
    rw [cut_map, cut_map]
    refine ⟨by rw [List.length_map, List.length_map]; omega, fun p => ?_⟩
    refine (if_neg (by decide)).mpr ?_
    rw [← List.map_append]
    exact fin _ (by rw [tl_app]; omega)
  refine (if_neg (by simpa using c6)).mpr ?_
  refine ite2 (fun c7 => ?_) (fun _ => fin W (by omega))
  refine ite2 (fun c8 => ?_) (fun _ => fin W (by omega))
  have hix : ∀ R : D → Prop, rdIx (D.lst (W.map D.str)) (.int (sp : Nat)) R = R (.str W[sp]) := fun R => by
    unfold rdIx
    simp only [atI_nat (show (W.map D.str)[sp]? = some (D.str W[sp]) by rw [List.getElem?_map, List.getElem?_eq_getElem hspl]; rfl)]
  have hm := tl_mem (List.getElem_mem hspl)
  have s1 := Txt.slice_le W[sp] (some 2) none
  have s2 := Txt.slice_le W[sp] none (some 1)
  simp only [hix]
  refine ⟨by omega, by omega, by omega, by rw [Str.length_append]; omega, rfl, sp, ?_, ?_⟩
  · unfold ixN
    rw [if_pos (by omega), if_pos (by omega)]
    rfl
  rw [← List.map_set]
  refine fin _ (Nat.le_trans (tl_set _ _ _) ?_)
  rw [Str.length_append, Str.length_append]
  omega
theorem ok__law_odd (B : Bi mg) (F : Fun K "_law_odd" "_law_odd" s__law_odd f fd) :
    FnOk P w K mg base CX0 1 f fd ["cell"] (spD K C tOdd) := by
  refine fn_e2 F sc__law_odd (bd := [_, _, _]) rfl (fun ds Q h => by obtain ⟨cell, rfl, k⟩ := h; rfl) ?_
  refine (fun cdv A outer s H E hr => ⟨_, (dssz_cons (dsz_setStrs (i := 1) sc__law_odd.nd rfl (Or.inl rfl) (.cons (.cons (.cons (.cons (.cons (.cons (.cons (.cons (.cons (.cons (.cons (.cons .nil)))))))))))))
        (dssz_cons (dsz_of (ds_set (i := 1) sc__law_odd.nd rfl (Or.inl rfl) (DE.of (df_cat (de_of_var (pv 1)) (DE.of (df_strs (.cons (.cons (.cons (.cons (.cons (.cons .nil))))))))))))
        (dssz_one (dsz_of (ds_ret (de_ix (de_of_var (pv 1)) (de_mod (de_of_var (pv 0)) de_int) (fun _ _ => rfl))))))), fun ds Q h => ?_⟩)
  obtain ⟨cell, rfl, k⟩ := h
  have hz : (100000 : Nat) ≤ sizeLine := by decide
  walk_at "rd"
  have key : ∀ l : List D, l.length = 18 → (∀ x ∈ l, ∃ s : Str, x = .str s ∧ s.length ≤ 100) → rdIx (D.lst l) (.int (cell % 18)) Q := fun l h1 h2 => by
    obtain ⟨c, hc, e⟩ := atI_in (l := l) (i := cell % 18) (by omega) (by omega)
    obtain ⟨s, rfl, hs⟩ := h2 c hc
    unfold rdIx
    simp only [e]
    exact k s hs
  refine ⟨by omega, by omega, ?_⟩
  refine ⟨by show 12 + 6 ≤ sizeLine; omega, by decide, key _ rfl fun x hx => ?_⟩
  simp only [List.cons_append, List.nil_append, List.mem_cons, List.mem_nil_iff, or_false] at hx
  rcases hx with rfl | rfl | rfl | rfl | rfl | rfl | rfl | rfl | rfl | rfl | rfl | rfl | rfl | rfl | rfl | rfl | rfl | rfl <;> exact ⟨_, rfl, by decide +kernel⟩
theorem ok__law_due (B : Bi mg) (F : Fun K "_law_due" "_law_due" s__law_due f fd) :
    FnOk P w K mg base CX0 1 f fd ["text"] (spD K C tDue) := by
  refine fn_e F sc__law_due (fun ds Q h => by obtain ⟨z, rfl, hl, k⟩ := h; rfl) (fun cdv A outer s H E hr => ⟨_, (dss_cons (ds_set (i := 1) sc__law_due.nd rfl (Or.inl rfl) (DE.of (df_split (de_of_var (pv 0)) de_str)))
        (dss_cons (ds_if (DW.db (dw_or (db_cmp op_ne l_ne (de_callB call_len_str l_lens rfl B.b_len PySem.boot_len (da_cons (de_ix (de_of_var (pv 1)) de_int (fun _ _ => rfl)) da_nil)) de_int (nomark _)) (dw_or (db_cmp op_notIn_str l_notins (de_ixS (de_ix (de_of_var (pv 1)) de_int (fun _ _ => rfl)) de_int (fun _ _ => rfl)) de_str (by with_unfolding_all rfl)) (dw_or1 (db_cmp op_ne l_ne (de_ixS (de_ix (de_of_var (pv 1)) de_int (fun _ _ => rfl)) de_int (fun _ _ => rfl)) de_str (nomark _)))))) (dss_one (ds_ret de_non)) dss_nil)
        (dss_cons (ds_set (i := 2) sc__law_due.nd rfl (Or.inl rfl) (de_index de_str (de_ixS (de_ix (de_of_var (pv 1)) de_int (fun _ _ => rfl)) de_int (fun _ _ => rfl))))
        (dss_cons (ds_setO (i := 3) sc__law_due.nd rfl (Or.inl rfl) (df_lst da_nil))
        (dss_cons (ds_for PassesOwn.never rfl (di_list (DE.of (df_slice (de_of_var (pv 1)) (do_some de_int) do_none))) (dg_name (i := 4) sc__law_due.nd rfl (Or.inl rfl)) (dss_cons (ds_if (DW.db (dw_or (db_cmp op_ne l_ne (de_callB call_len_str l_lens rfl B.b_len PySem.boot_len (da_cons (de_of_var (pv 4)) da_nil)) de_int (nomark _)) (dw_or (db_cmp op_ne l_ne (de_ixS (de_of_var (pv 4)) de_int (fun _ _ => rfl)) de_str (nomark _)) (dw_or (db_cmp op_notIn_str l_notins (de_ixS (de_of_var (pv 4)) de_int (fun _ _ => rfl)) de_str (by with_unfolding_all rfl)) (dw_or1 (db_cmp op_notIn_str l_notins (de_ixS (de_of_var (pv 4)) de_int (fun _ _ => rfl)) de_str (by with_unfolding_all rfl))))))) (dss_one (ds_ret de_non)) dss_nil)
        (dss_one (ds_append (ps_expr (pe_bm PySem.F.plainAttrs_list PySem.F.slot_list_append PySem.F.type_list_append mt_append (pv 3) (da_cons (de_tup (da_cons (de_index de_str (de_ixS (de_of_var (pv 4)) de_int (fun _ _ => rfl))) (da_cons (de_index de_str (de_ixS (de_of_var (pv 4)) de_int (fun _ _ => rfl))) da_nil))) da_nil)))))))
        (dss_share 3 (dss_cons (ds_for PassesOwn.never rfl (di_list (de_of_var (pv 3))) (dg_name (i := 5) sc__law_due.nd rfl (Or.inl rfl)) (dss_one (ds_if (DW.db (dw_or (db_cmp op_ge l_ge (de_ix (de_of_var (pv 5)) de_int (fun _ _ => rfl)) (de_ix (de_of_var (pv 5)) de_int (fun _ _ => rfl)) (nomark _)) (dw_or1 (db_cmp op_ge l_ge (de_ix (de_of_var (pv 5)) de_int (fun _ _ => rfl)) (de_of_var (pv 2)) (nomark _))))) (dss_one (ds_ret de_non)) dss_nil)))
        (dss_cons (ds_if (db_cmp (op_neD hr.units) l_neD (de_of_var (pv 3)) (DE.of (df_sortset rfl B.b_sorted rfl B.b_set rfl hr.units (de_of_var (pv 3)))) (nomark _)) (dss_one (ds_ret de_non)) dss_nil)
        (dss_one (ds_ret (de_tup (da_cons (de_of_var (pv 2)) (da_cons (de_of_var (pv 3)) da_nil))))))))))))), fun ds Q h => ?_⟩)
  obtain ⟨z, rfl, hl, k⟩ := h
  have hz : (100000 : Nat) ≤ sizeLine := by decide
  walk_at "rd"
  refine ⟨by decide +kernel, by omega, ?_⟩
  simp only [blank_eq]
  obtain ⟨w0, ws, hsp⟩ : ∃ w0 ws, Txt.split z blank = w0 :: ws := by
    cases h : Txt.split z blank with
    | nil => exact absurd h (split_ne z)
    | cons a b => exact ⟨a, b, rfl⟩
  have hlen : ∀ w ∈ Txt.split z blank, w.length ≤ z.length := fun w hw => PyProof.Rows.part_short hw
  have hcnt := PyProof.Rows.split_le z blank
  have hpar : ∀ n ps, Parsed z n ps → cd w0 = [48 + n.toNat, 58] ∧ ws.map cd = ps.map pc := fun n ps h => by
    have h1 := h.at_
    rw [hsp, List.map_cons] at h1
    injection h1 with h1 h2
    exact ⟨h1, h2⟩
  rw [hsp] at hlen hcnt
  simp only [hsp]
  rw [List.length_cons] at hcnt
  have hl0 := hlen w0 (by simp)
  have hix : ∀ R : D → Prop, rdIx (D.lst ((w0 :: ws).map D.str)) (.int 0) R = R (.str w0) := fun R => by
    unfold rdIx
    simp only [List.map_cons, atI0]
  simp only [hix]
  refine ⟨by omega, ite2 (fun c => ?_) (fun c => ?_)⟩
  · refine k _ (.inr ⟨none_of fun n ps h => ?_, rfl⟩)
    have h2 : w0.length = 2 := by rw [cd_len, (hpar n ps h).1]; rfl
    rw [h2] at c
    simp at c
  have h2 : (cd w0).length = 2 := by
    have : (w0.length : Int) = 2 := by simpa using c
    rw [← cd_len]
    omega
  obtain ⟨a, b, hab⟩ : ∃ a b, cd w0 = [a, b] := by
    match hq : cd w0, h2 with
    | [a, b], _ => exact ⟨a, b, rfl⟩
  have at0 : atI w0.cps.toList 0 = some a := by
    show atI (cd w0) 0 = _
    rw [hab]
    rfl
  have at1 : atI w0.cps.toList 1 = some b := by
    show atI (cd w0) 1 = _
    rw [hab]
    rfl
  simp only [at0, at1]
  refine ⟨by omega, ?_⟩
  rw [in16]
  refine ite2 (fun c => ?_) (fun c => ?_)
  · refine k _ (.inr ⟨none_of fun n ps h => ?_, rfl⟩)
    have h3 := (hpar n ps h).1
    rw [hab] at h3
    injection h3 with h3 _
    have h4 := h.lo
    have h5 := h.hi
    have h6 : a < 49 ∨ 54 < a := by simpa using c
    omega
  have ha : 49 ≤ a ∧ a ≤ 54 := by simpa using c
  refine ⟨by omega, ?_⟩
  simp only [colon_eq, one_eq]
  refine ite2 (fun c => ?_) (fun c => ?_)
  · refine k _ (.inr ⟨none_of fun n ps h => ?_, rfl⟩)
    have h3 := (hpar n ps h).1
    rw [hab] at h3
    injection h3 with _ h3
    injection h3 with h3 _
    have h6 : ¬ b = 58 := by simpa using c
    exact h6 h3
  have hb : b = 58 := by simpa using c
  subst hb
  refine ⟨by omega, a - 48, [], occ06 (by omega), by omega, fun p0 => ?_⟩
  obtain ⟨n, hn, hn1, hn6⟩ : ∃ n : Int, (((a - 48 : Nat) : Nat) : Int) = n ∧ 1 ≤ n ∧ n ≤ 6 := ⟨_, rfl, by omega, by omega⟩
  simp only [hn]
  show dItL _ _ _
  walk_at "rd"
  refine ⟨_, ws, D.str, fun pre env => ∃ (p : Addr) (ps : Cl) (r : Option SV), env = [some (.sh (.str z)), some (.sh (.lst (D.str w0 :: ws.map D.str))), some (.sh (.int n)), some (.ow p (ps.map dPr)), r, none] ∧ pre.map cd = ps.map pc ∧ (∀ p ∈ ps, 0 ≤ p.1 ∧ p.1 ≤ 5 ∧ 0 ≤ p.2 ∧ p.2 ≤ 5), ?_, ⟨p0, [], none, rfl, rfl, by simp⟩, ?_, ?_⟩
  · exact cut_drop (D.str w0 :: ws.map D.str) 1 (by simp)
  · rintro pre w post env e ⟨p, ps, r, rfl, hpre, h6⟩
    have hw := hlen w (by rw [e]; simp)
    have hpl : ps.length = pre.length := by
      have := congrArg List.length hpre
      rwa [List.length_map, List.length_map, eq_comm] at this
    have hpl2 : pre.length ≤ ws.length := by rw [e, List.length_append]; omega
    have hq : ∀ n qs, Parsed z n qs → ∃ q : Int × Int, cd w = pc q ∧ 0 ≤ q.1 ∧ q.1 ≤ 5 ∧ 0 ≤ q.2 ∧ q.2 ≤ 5 := fun n qs h => by
      have h1 : cd w ∈ qs.map pc := by
        rw [← (hpar n qs h).2, e]
        simp
      obtain ⟨q, h2, h3⟩ := List.mem_map.mp h1
      exact ⟨q, h3.symm, h.six q h2⟩
    walk_at "rd"
    refine ⟨by omega, ite2 (fun c => ?_) (fun c => ?_)⟩
    · refine k _ (.inr ⟨none_of fun n qs h => ?_, rfl⟩)
      obtain ⟨q, h1, _⟩ := hq n qs h
      have h2 : w.length = 3 := by rw [cd_len, h1]; rfl
      rw [h2] at c
      simp at c
    have h3 : (cd w).length = 3 := by
      have : (w.length : Int) = 3 := by simpa using c
      rw [← cd_len]
      omega
    obtain ⟨x, y, v, hx⟩ : ∃ x y v, cd w = [x, y, v] := by
      match hq : cd w, h3 with
      | [x, y, v], _ => exact ⟨x, y, v, rfl⟩
    have wt0 : atI w.cps.toList 0 = some x := by
      show atI (cd w) 0 = _
      rw [hx]
      rfl
    have wt1 : atI w.cps.toList 1 = some y := by
      show atI (cd w) 1 = _
      rw [hx]
      rfl
    have wt2 : atI w.cps.toList 2 = some v := by
      show atI (cd w) 2 = _
      rw [hx]
      rfl
    simp only [wt0, wt1, wt2, dash_eq, one_eq]
    refine ⟨by omega, ite2 (fun c => ?_) (fun c => ?_)⟩
    · refine k _ (.inr ⟨none_of fun n qs h => ?_, rfl⟩)
      obtain ⟨q, h1, _⟩ := hq n qs h
      rw [hx] at h1
      unfold pc at h1
      injection h1 with _ h1
      injection h1 with h1 _
      have : ¬ y = 45 := by simpa using c
      exact this h1
    have hy : y = 45 := by simpa using c
    subst hy
    refine ⟨by omega, ?_⟩
    rw [in05]
    refine ite2 (fun c => ?_) (fun c => ?_)
    · refine k _ (.inr ⟨none_of fun n qs h => ?_, rfl⟩)
      obtain ⟨q, h1, h2⟩ := hq n qs h
      rw [hx] at h1
      unfold pc at h1
      injection h1 with h1 _
      have : x < 48 ∨ 53 < x := by simpa using c
      omega
    have hxr : 48 ≤ x ∧ x ≤ 53 := by simpa using c
    refine ⟨by omega, ?_⟩
    rw [in05]
    refine ite2 (fun c => ?_) (fun c => ?_)
    · refine k _ (.inr ⟨none_of fun n qs h => ?_, rfl⟩)
      obtain ⟨q, h1, h2⟩ := hq n qs h
      rw [hx] at h1
      unfold pc at h1
      injection h1 with _ h1
      injection h1 with _ h1
      injection h1 with h1 _
      have : v < 48 ∨ 53 < v := by simpa using c
      omega
    have hvr : 48 ≤ v ∧ v ≤ 53 := by simpa using c
    refine ⟨by omega, x - 48, [], occ05 hxr, by omega, v - 48, [], occ05 hvr, by omega, by rw [List.length_map]; omega, p, ps ++ [(((x - 48 : Nat) : Int), ((v - 48 : Nat) : Int))], some (.sh (.str w)), ?_, ?_, ?_⟩
    · rw [List.map_append]
      rfl
    · rw [List.map_append, List.map_append, hpre, List.map_singleton, List.map_singleton, hx]
      unfold pc
      simp only [Int.toNat_natCast]
      rw [show 48 + (x - 48) = x by omega, show 48 + (v - 48) = v by omega]
    · intro q hq'
      rcases List.mem_append.mp hq' with h | h
      · exact h6 q h
      · rw [List.mem_singleton.mp h]
        simp only
        omega
  rintro env ⟨p, ps, r, rfl, hpre, h6⟩
  have hP : Parsed z n ps := by
    refine ⟨?_, hn1, hn6, h6⟩
    rw [hsp, List.map_cons, hpre, hab, show 48 + n.toNat = a by omega]
  walk_at "rd"
  refine ⟨_, ps, dPr, fun pre env => ∃ r2 : Option SV, env = [some (.sh (.str z)), some (.sh (.lst (D.str w0 :: ws.map D.str))), some (.sh (.int n)), some (.sh (.lst (ps.map dPr))), r, r2] ∧ ∀ q ∈ pre, q.1 < q.2 ∧ q.2 < n, rfl, ⟨_, rfl, by simp⟩, ?_, ?_⟩
  · rintro pre q post env e ⟨r2, rfl, hpre2⟩
    have hqm : q ∈ ps := by rw [e]; simp
    walk_at "rd"
    refine ite2 (fun c => ?_) (fun c => ?_)
    · have h1 : q.2 ≤ q.1 := of_decide_eq_true c
      refine k _ (.inr ⟨hP.none fun V => ?_, rfl⟩)
      have := V.in15 q hqm
      omega
    refine ite2 (fun c2 => ?_) (fun c2 => ?_)
    · have h1 : n ≤ q.2 := of_decide_eq_true c2
      refine k _ (.inr ⟨hP.none fun V => ?_, rfl⟩)
      have := V.lt q hqm
      omega
    have h1 : ¬ q.2 ≤ q.1 := of_decide_eq_false (Bool.eq_false_iff.mpr c)
    have h2 : ¬ n ≤ q.2 := of_decide_eq_false (Bool.eq_false_iff.mpr c2)
    refine ⟨_, rfl, fun y hy => ?_⟩
    rcases List.mem_append.mp hy with h | h
    · exact hpre2 y h
    · rw [List.mem_singleton.mp h]
      omega
  rintro env ⟨r2, rfl, hall⟩
  walk_at "rd"
  refine ⟨ps, rfl, fun q hq => mem15.mpr ?_, ok_Prs _, ok_Prs _, ?_⟩
  · have h1 := h6 q hq
    have h2 := hall q hq
    omega
  rw [eqD_Prs]
  refine ite2 (fun c => ?_) (fun c => ?_)
  · refine k _ (.inr ⟨hP.none fun V => ?_, rfl⟩)
    have : ¬ ps = sd ps := by simpa using c
    exact this V.up.symm
  have hup : ps = sd ps := by simpa using c
  exact ⟨by omega, k _ (.inl ⟨n, ps, hP.writes hup.symm fun q hq => (hall q hq).2, rfl⟩)⟩
theorem ok_Crossing_size (B : Bi mg) (CQ : CrK K C) (F : Fun K "size" "Crossing.size" s_Crossing_size f fd) :
    FnOk P w K mg base CX0 1 f fd ["self"] (spD K C tSize) := by
  refine fn_e F sc_Crossing_size (fun ds Q h => by obtain ⟨n, ps, rfl, k⟩ := h; rfl) (fun cdv A outer s H E hr => ⟨_, (dss_one (ds_ret (de_fld_streams CQ (de_of_var (pv 0))))), fun ds Q h => ?_⟩)
  obtain ⟨n, ps, rfl, k⟩ := h
  walk_at "rd"
  exact k
theorem ok_Crossing_clashes (B : Bi mg) (CQ : CrK K C) (F : Fun K "clashes" "Crossing.clashes" s_Crossing_clashes f fd) :
    FnOk P w K mg base CX0 1 f fd ["self"] (spF K C tClashes) := by
  refine fn_ef F sc_Crossing_clashes (fun ds Q h => by obtain ⟨n, ps, rfl, k⟩ := h; rfl) (fun cdv A outer s H E hr => ⟨_, (dss_one (ds_retF (df_callTy call_list_of l_list rfl B.b_list boot_list (da_cons (de_fld_pairs CQ (de_of_var (pv 0))) da_nil)))), fun ds Q h => ?_⟩)
  obtain ⟨n, ps, rfl, k⟩ := h
  walk_at "rd"
  exact k
theorem ok_shown_pair (B : Bi mg) (F : Fun K "shown_pair" "shown_pair" s_shown_pair f fd) :
    FnOk P w K mg base CX0 1 f fd ["pair"] (spD K C tShownPair) := by
  refine fn_e F sc_shown_pair (fun ds Q h => by obtain ⟨p, rfl, hp, k⟩ := h; rfl) (fun cdv A outer s H E hr => ⟨_, (dss_cons (ds_set (i := 1) sc_shown_pair.nd rfl (Or.inl rfl) (de_ix (de_of_var (pv 0)) de_int (fun _ _ => rfl)))
        (dss_cons (ds_set (i := 2) sc_shown_pair.nd rfl (Or.inl rfl) (de_ix (de_of_var (pv 0)) de_int (fun _ _ => rfl)))
        (dss_one (ds_ret (de_fs (de_of_var (pv 1)) (de_of_var (pv 2))))))), fun ds Q h => ?_⟩)
  obtain ⟨p, rfl, hp, k⟩ := h
  walk_at "rd"
  exact ⟨log_small hp.1 hp.2.1, log_small hp.2.2.1 hp.2.2.2, k⟩
theorem ok_shown (B : Bi mg) (CQ : CrK K C) (d_Crossing_size : DnM P w K mg base C "size" ["self"] 1 (spD K C tSize)) (d_Crossing_clashes : DnM P w K mg base C "clashes" ["self"] 1 (spF K C tClashes)) (d_shown_pair : Dn P w K mg base "shown_pair" ["pair"] 1 (spD K C tShownPair)) (F : Fun K "shown" "shown" s_shown f fd) :
    FnOk P w K mg base CX0 2 f fd ["crossing"] (spD K C tShown) := by
  refine fn_e F sc_shown (fun ds Q h => by obtain ⟨n, ps, rfl, h0, h6, hp, hl, k⟩ := h; rfl) (fun cdv A outer s H E hr => ⟨_, (dss_cons (ds_comp (i := 1) sc_shown.nd rfl rfl (compSc (defScope s_shown) ["crossing", "pairs"] ["pair"] [] rfl rfl (by decide +kernel) rfl rfl (by decide +kernel) (by decide +kernel) (by decide +kernel) rfl (by decide +kernel) rfl (by decide +kernel)) rfl (di_list (DE.of (df_mt0 CQ d_Crossing_clashes hr (de_of_var (pv 0))))) (fun _ _ _ _ => difs_nil) (fun _ _ _ _ => (de_dn d_shown_pair hr rfl (da_cons (de_of_var (pv 0)) da_nil))))
        (dss_one (ds_ret (de_adds (de_adds (de_callTy call_str_int l_strI rfl B.b_str PyProof.Rows.boot_str (da_cons (de_mt0 CQ d_Crossing_size hr (de_of_var (pv 0))) da_nil)) de_str) (de_join de_str (de_of_var (pv 1))))))), fun ds Q h => ?_⟩)
  obtain ⟨n, ps, rfl, h0, h6, hp, hl, k⟩ := h
  have hz : (100000 : Nat) ≤ sizeLine := by decide
  walk_at "rd"
  refine ⟨n, ps, rfl, ?_⟩
  refine ⟨_, ps, dPr, fun p => some (.str (shP p)), rfl, by omega, fun p h => ?_, ?_⟩
  · walk_at "rd"
    exact ⟨p, rfl, hp p h, rfl⟩
  rw [fm_some]
  refine ⟨n, ps, rfl, log_small h0 h6, ?_⟩
  have hd := dig_len h0 h6
  have hc : (":" : Str).length = 1 := by decide +kernel
  have hj := join_e_len hp
  refine ⟨by omega, ps.map shP, by rw [List.map_map]; rfl, joinOk_e (by rw [tl_shP hp]; omega), ?_⟩
  have hs : (Str.ofString (toString n) ++ ":" : Str).length = 2 := by rw [Str.length_append]; omega
  exact ⟨by show (Str.ofString (toString n) ++ ":" : Str).length + (Txt.join Str.empty (ps.map shP)).length ≤ sizeLine; omega, k⟩
theorem ok_check_size (B : Bi mg) (g_MOST_STREAMS : GInt mg "MOST_STREAMS" 6) (F : Fun K "check_size" "check_size" s_check_size f fd) :
    FnOk P w K mg base CX0 1 f fd ["streams"] (spD K C tCheckSize) := by
  refine fn_e F sc_check_size (fun ds Q h => by obtain ⟨n, rfl, h1, h2, k⟩ := h; rfl) (fun cdv A outer s H E hr => ⟨_, (dss_one (ds_if (DW.db (dw_or (db_cmp op_lt l_lt (de_of_var (pv 0)) de_int (nomark _)) (dw_or1 (db_cmp op_gt l_gt (de_of_var (pv 0)) (de_gint g_MOST_STREAMS rfl) (nomark _))))) (dss_one ds_never) dss_nil)), fun ds Q h => ?_⟩)
  obtain ⟨n, rfl, h1, h2, k⟩ := h
  walk_at "rd"
  refine ite2 (fun c => absurd (of_decide_eq_true c) (by omega)) (fun _ => ?_)
  refine ite2 (fun c => absurd (of_decide_eq_true c) (by omega)) (fun _ => ?_)
  exact k
theorem ok_is_stream (B : Bi mg) (F : Fun K "is_stream" "is_stream" s_is_stream f fd) :
    FnOk P w K mg base CX0 1 f fd ["streams", "stream"] (spD K C tIsStream) := by
  refine fn_e F sc_is_stream (fun ds Q h => by obtain ⟨n, s, rfl, k⟩ := h; rfl) (fun cdv A outer s H E hr => ⟨_, (dss_one (ds_ret (de_and (de_cmp op_le l_le de_int (de_of_var (pv 1)) (nomark _)) (de_one (de_cmp op_lt l_lt (de_of_var (pv 1)) (de_of_var (pv 0)) (nomark _)))))), fun ds Q h => ?_⟩)
  obtain ⟨n, s, rfl, k⟩ := h
  walk_at "rd"
  by_cases c : 0 ≤ s
  · rw [decide_eq_true c, Bool.true_and] at k
    simp only [decide_eq_true c]
    exact k
  · rw [decide_eq_false c, Bool.false_and] at k
    simp only [decide_eq_false c]
    exact k
theorem ok_check_clash (B : Bi mg) (d_is_stream : Dn P w K mg base "is_stream" ["streams", "stream"] 1 (spD K C tIsStream)) (F : Fun K "check_clash" "check_clash" s_check_clash f fd) :
    FnOk P w K mg base CX0 2 f fd ["streams", "pair"] (spD K C tCheckClash) := by
  refine fn_e F sc_check_clash (fun ds Q h => by obtain ⟨n, p, rfl, h, k⟩ := h; rfl) (fun cdv A outer s H E hr => ⟨_, (dss_cons (ds_if (DW.db (dw_or (db_not (db_val (de_dn d_is_stream hr rfl (da_cons (de_of_var (pv 0)) (da_cons (de_ix (de_of_var (pv 1)) de_int (fun _ _ => rfl)) da_nil))))) (dw_or1 (db_not (db_val (de_dn d_is_stream hr rfl (da_cons (de_of_var (pv 0)) (da_cons (de_ix (de_of_var (pv 1)) de_int (fun _ _ => rfl)) da_nil)))))))) (dss_one ds_never) dss_nil)
        (dss_one (ds_if (db_cmp op_eq l_eq (de_ix (de_of_var (pv 1)) de_int (fun _ _ => rfl)) (de_ix (de_of_var (pv 1)) de_int (fun _ _ => rfl)) (nomark _)) (dss_one ds_never) dss_nil))), fun ds Q h => ?_⟩)
  obtain ⟨n, p, rfl, h, k⟩ := h
  obtain ⟨h1, h2, h3, h4, h5⟩ := h
  walk_at "rd"
  refine ⟨n, p.1, rfl, ?_⟩
  walk_at "rd"
  rw [decide_eq_true h1, decide_eq_true h2]
  refine iteF ?_
  refine ⟨n, p.2, rfl, ?_⟩
  walk_at "rd"
  rw [decide_eq_true h3, decide_eq_true h4]
  refine iteF ?_
  rw [decide_eq_false h5]
  exact iteF k
theorem ok_rising (B : Bi mg) (F : Fun K "rising" "rising" s_rising f fd) :
    FnOk P w K mg base CX0 1 f fd ["pair"] (spD K C tRising) := by
  refine fn_e F sc_rising (fun ds Q h => by obtain ⟨p, rfl, k⟩ := h; rfl) (fun cdv A outer s H E hr => ⟨_, (dss_one (ds_ret (de_tup (da_cons (de_callB (call_min2 rfl) l_min rfl B.b_min boot_min (da_cons (de_ix (de_of_var (pv 0)) de_int (fun _ _ => rfl)) (da_cons (de_ix (de_of_var (pv 0)) de_int (fun _ _ => rfl)) da_nil))) (da_cons (de_callB (call_max2 rfl) l_max rfl B.b_max boot_max (da_cons (de_ix (de_of_var (pv 0)) de_int (fun _ _ => rfl)) (da_cons (de_ix (de_of_var (pv 0)) de_int (fun _ _ => rfl)) da_nil))) da_nil))))), fun ds Q h => ?_⟩)
  obtain ⟨p, rfl, k⟩ := h
  walk_at "rd"
  exact ⟨by decide, k⟩
theorem ok_Crossing___init__ (B : Bi mg) (CQ : CrK K C) (d_check_size : Dn P w K mg base "check_size" ["streams"] 1 (spD K C tCheckSize)) (d_check_clash : Dn P w K mg base "check_clash" ["streams", "pair"] 2 (spD K C tCheckClash)) (d_rising : Dn P w K mg base "rising" ["pair"] 1 (spD K C tRising)) (F : Fun K "__init__" "Crossing.__init__" s_Crossing___init__ f fd) :
    FnOk P w K mg base CX0 3 f fd ["self", "streams", "clashes"] (spI K C tMakeC) := by
  refine F.ok sc_Crossing___init__ (fun vs H Q E h => by
    obtain ⟨x, dx, us, H1, S, ds, P, rfl, _, _, _, _, _, rp, ⟨n, cl, rfl, _⟩, _⟩ := h
    have := repA_len rp
    simp only [List.length_cons, List.length_nil] at this ⊢
    omega) (fun cdv A outer s H vs Q E hr h => ?_)
  obtain ⟨x, dx, us, H1, S, ds, P, rfl, hx, hdx, hne, rfl, dm, rp, ⟨n, cl, rfl, n1, n2, hg, k⟩, fin⟩ := h
  refine ⟨_, pss_cons (ds_expr (de_dn d_check_size hr rfl (da_cons (de_of_var (pv 1)) da_nil)))
    (pss_cons (ds_for PassesOwn.never rfl (di_list (de_of_var (pv 2))) (dg_name (i := 3) sc_Crossing___init__.nd rfl (Or.inl rfl)) (dss_one (ds_expr (de_dn d_check_clash hr rfl (da_cons (de_of_var (pv 1)) (da_cons (de_of_var (pv 3)) da_nil))))))
    (pss_cons (ps_fld (pv 0) (de_of_var (C := C) (pv 1)) rfl)
    (pss_one (ps_fld (pv 0) (df_sortset rfl B.b_sorted rfl B.b_set rfl hr.units (DE.of (df_comp (compSc (defScope s_Crossing___init__) ["self", "streams", "clashes", "pair"] ["pair"] [] rfl rfl (by decide +kernel) rfl rfl (by decide +kernel) (by decide +kernel) (by decide +kernel) rfl (by decide +kernel) rfl (by decide +kernel)) rfl (di_list (de_of_var (pv 2))) (fun _ _ _ _ => difs_nil) (fun _ _ _ _ => (de_dn d_rising hr rfl (da_cons (de_of_var (pv 0)) da_nil)))))) rfl)))), ?_⟩
  refine init_run CQ hx hdx hne dm rp (Nat.le_succ _) (R := fun env => ∃ r : Option SV, env = [some (.sh (.cls x)), some (.sh (.int n)), some (.sh (.lst (cl.map dPr))), r] ∧ ∀ p ds, r ≠ some (.ow p ds)) ?_ ?_ (fin n _ k)
  · walk_at "rd"
    refine ⟨n, rfl, n1, n2, ?_⟩
    refine ⟨_, cl, dPr, fun pre env => ∃ r : Option SV, env = [some (.sh (.cls x)), some (.sh (.int n)), some (.sh (.lst (cl.map dPr))), r] ∧ ∀ p ds, r ≠ some (.ow p ds), rfl, ⟨none, rfl, fun _ _ h => by cases h⟩, ?_, ?_⟩
    · rintro pre q post env e ⟨r, rfl, hr⟩
      walk_at "rd"
      refine ⟨n, q, rfl, hg.1 q (by rw [e]; simp), ?_⟩
      exact ⟨_, rfl, fun _ _ h => by cases h⟩
    · rintro env h
      exact h
  · rintro env ⟨r, rfl, hr⟩
    refine ⟨rfl, fun i p ds => ?_, rfl, ?_⟩
    · match i with
      | 0 => exact fun h => by cases h
      | 1 => exact fun h => by cases h
      | 2 => exact fun h => by cases h
      | 3 => exact fun h => hr p ds (Option.some.inj h)
      | _ + 4 => exact fun h => by cases h
    · walk_at "rd"
      refine ⟨_, cl, dPr, fun q => some (dPr (rise q)), rfl, Nat.le_trans hg.2 (by decide), fun q _ => ?_, ?_⟩
      · walk_at "rd"
        exact ⟨q, rfl, rfl⟩
      · rw [fm_some]
        exact ⟨cl.map rise, by rw [List.map_map]; rfl, good_rise n2 hg.1, rfl⟩
theorem ok_figure_at (B : Bi mg) (g_FIGURES : GStr mg "FIGURES" "0123456") (F : Fun K "figure_at" "figure_at" s_figure_at f fd) :
    FnOk P w K mg base CX0 1 f fd ["text", "place"] (spD K C tFigure) := by
  refine fn_e F sc_figure_at (fun ds Q h => by obtain ⟨z, i, rfl, hl, k⟩ := h; rfl) (fun cdv A outer s H E hr => ⟨_, (dss_one (ds_ret (de_find (de_gstr g_FIGURES rfl) (de_sliceS (de_of_var (pv 0)) (do_some (de_of_var (pv 1))) (do_some (de_add (de_of_var (pv 1)) de_int)))))), fun ds Q h => ?_⟩)
  obtain ⟨z, i, rfl, hl, k⟩ := h
  have hz : (100000 : Nat) ≤ sizeLine := by decide
  walk_at "rd"
  exact ⟨by omega, k⟩
theorem ok_guessed (B : Bi mg) (CQ : CrK K C) (m_TurnError : mg "TurnError" = some (.ref c_TurnError)) (d_Crossing___init__ : DnI P w K mg base C "Crossing" ["self", "streams", "clashes"] 3 (spI K C tMakeC)) (d_figure_at : Dn P w K mg base "figure_at" ["text", "place"] 1 (spD K C tFigure)) (F : Fun K "guessed" "guessed" s_guessed f fd) :
    FnOk P w K mg base CX0 5 f fd ["text"] (spD K C tGuessN) := by
  refine fn_e F sc_guessed (fun ds Q h => by obtain ⟨z, rfl, hl, hg, k⟩ := h; rfl) (fun cdv A outer s H E hr => ⟨_, (dss_cons (ds_comp (i := 1) sc_guessed.nd rfl rfl (compSc (defScope s_guessed) ["text", "pairs", "streams", "error"] ["start", "text"] [0] rfl rfl (by decide +kernel) rfl rfl (by decide +kernel) (by decide +kernel) (by decide +kernel) rfl (by decide +kernel) rfl (by decide +kernel)) rfl (di_range3 rfl B.b_range (da_cons de_int (da_cons (de_callB call_len_str l_lens rfl B.b_len PySem.boot_len (da_cons (de_of_var (pv 0)) da_nil)) (da_cons de_int da_nil)))) (fun _ _ _ _ => difs_nil) (fun _ _ _ _ => (de_tup (da_cons (de_dn d_figure_at hr rfl (da_cons (de_of_var (pv 1)) (da_cons (de_add (de_of_var (pv 0)) de_int) da_nil))) (da_cons (de_dn d_figure_at hr rfl (da_cons (de_of_var (pv 1)) (da_cons (de_add (de_of_var (pv 0)) de_int) da_nil))) da_nil)))))
        (dss_cons (ds_set (i := 2) sc_guessed.nd rfl (Or.inl rfl) (de_dn d_figure_at hr rfl (da_cons (de_of_var (pv 0)) (da_cons de_int da_nil))))
        (dss_one (ds_try (i := 3) (n := 4) (cT := c_TurnError) rfl rfl sc_guessed.nd rfl rfl rfl rfl m_TurnError (fun _ _ => (ds_ret (de_make CQ d_Crossing___init__ hr rfl (da_cons (de_of_var (pv 2)) (da_cons (de_of_var (pv 1)) da_nil))))) (fun _ _ x => dsc_never) (fun _ a oe _ => dss_never))))), fun ds Q h => ?_⟩)
  obtain ⟨z, rfl, hl, hg, k⟩ := h
  have hz : (100000 : Nat) ≤ sizeLine := by decide
  walk_at "rd"
  refine ⟨by omega, by decide, small_text (by omega), by decide, ?_⟩
  refine ⟨Nat, List.range (guessN z), fun i => .int (2 + (i : Nat) * 4), fun i => some (dPr (fig z (2 + (i : Int) * 4 + 1), fig z (2 + (i : Int) * 4 + 3))), rfl, by rw [List.length_range]; have := guessN_le hl; omega, fun i _ => ?_, ?_⟩
  · walk_at "rd"
    refine ⟨z, _, rfl, by omega, z, _, rfl, by omega, by decide, rfl⟩
  rw [fm_some]
  have hm : (List.range (guessN z)).map (fun (i : Nat) => dPr (fig z (2 + (i : Int) * 4 + 1), fig z (2 + (i : Int) * 4 + 3))) = (guessP z).map dPr := by unfold guessP; rw [List.map_map]; rfl
  rw [hm]
  have hgl : (guessP z).length ≤ 200 := by unfold guessP; rw [List.length_map, List.length_range]; exact guessN_le hl
  refine ⟨z, 0, rfl, by omega, ?_⟩

  refine .inl ?_
  walk_at "rd"
  exact ⟨fig z 0, guessP z, rfl, hg.1, hg.2.1, ⟨hg.2.2, hgl⟩, k⟩
theorem ok_read (B : Bi mg) (d_shown : Dn P w K mg base "shown" ["crossing"] 2 (spD K C tShown)) (d_guessed : Dn P w K mg base "guessed" ["text"] 5 (spD K C tGuessN)) (F : Fun K "read" "read" s_read f fd) :
    FnOk P w K mg base CX0 6 f fd ["text"] (spD K C tReadN) := by
  refine fn_e F sc_read (fun ds Q h => by obtain ⟨z, n, ps, rfl, hl, hw, k⟩ := h; rfl) (fun cdv A outer s H E hr => ⟨_, (dss_cons (ds_set (i := 1) sc_read.nd rfl (Or.inl rfl) (de_dn d_guessed hr rfl (da_cons (de_of_var (pv 0)) da_nil)))
        (dss_cons (ds_if (db_cmp op_ne l_ne (de_dn d_shown hr rfl (da_cons (de_of_var (pv 1)) da_nil)) (de_of_var (pv 0)) (nomark _)) (dss_one ds_never) dss_nil)
        (dss_one (ds_ret (de_of_var (pv 1)))))), fun ds Q h => ?_⟩)
  obtain ⟨z, n, ps, rfl, hl, hw, k⟩ := h
  have hg := hw.guess
  have hgz : GoodZ z := by unfold GoodZ; rw [hg.1, hg.2]; exact ⟨hw.1.lo, hw.1.hi, hw.good⟩
  have hcr : crOf (fig z 0) (guessP z) = .crs n ps := by unfold crOf; rw [hg.1, hg.2, hw.made]
  walk_at "rd"
  refine ⟨z, rfl, hl, hgz, ?_⟩
  rw [hcr]
  have h15 := hw.1.in15
  have hlo := hw.1.lo
  refine ⟨n, ps, rfl, by omega, hw.1.hi, fun p hp => by have := h15 p hp; unfold in06; omega, hw.1.len, ?_⟩
  rw [hw.shown]
  walk_at "rd"
  exact k
theorem okg_check_size (B : Bi mg) (g_MOST_STREAMS : GInt mg "MOST_STREAMS" 6) (ek_BadSize : ExK K mg "BadSize" c_BadSize) (F : Fun K "check_size" "check_size" s_check_size f fd) :
    FnOk P w K mg base (CXg P w) 1 f fd ["streams"] (L2.DL.G.spR K C mg tCheckSizeR) := by
  refine L2.DL.G.fn_r F sc_check_size (fun ds x h => by obtain ⟨n, rfl, hn, rfl⟩ := h; rfl) (fun x cdv A outer s H E hr => ⟨_, (L2.DL.G.dssx_one (L2.DL.G.dsx_if (DW.db (dw_or (db_cmp op_lt l_lt (de_of_var (pv 0)) de_int (nomark _)) (dw_or1 (db_cmp op_gt l_gt (de_of_var (pv 0)) (de_gint g_MOST_STREAMS rfl) (nomark _))))) (L2.DL.G.dssx_one (L2.DL.G.dsx_raise rfl rfl ek_BadSize (da_cons de_str da_nil))) (L2.DL.G.dssx_of dss_nil))), fun ds h => ?_⟩)
  obtain ⟨n, rfl, hn, rfl⟩ := h
  walk_at "rd"
  refine ite2 (fun _ => ⟨by decide, trivial⟩) (fun c => ?_)
  refine ite2 (fun _ => ⟨by decide, trivial⟩) (fun c2 => ?_)
  have h1 : ¬ n < 1 := of_decide_eq_false (Bool.eq_false_iff.mpr c)
  have h2 : ¬ 6 < n := of_decide_eq_false (Bool.eq_false_iff.mpr c2)
  exact hn ⟨by omega, by omega⟩
theorem okg_check_clash (B : Bi mg) (ek_BadClash : ExK K mg "BadClash" c_BadClash) (d_is_stream : Dn P w K mg base "is_stream" ["streams", "stream"] 1 (spD K C tIsStream)) (F : Fun K "check_clash" "check_clash" s_check_clash f fd) :
    FnOk P w K mg base (CXg P w) 2 f fd ["streams", "pair"] (L2.DL.G.spR K C mg tCheckClashR) := by
  refine L2.DL.G.fn_r F sc_check_clash (fun ds x h => by obtain ⟨n, p, rfl, hp, rfl⟩ := h; rfl) (fun x cdv A outer s H E hr => ⟨_, (L2.DL.G.dssx_cons (L2.DL.G.dsx_if (DW.db (dw_or (db_not (db_val (de_dn d_is_stream hr rfl (da_cons (de_of_var (pv 0)) (da_cons (de_ix (de_of_var (pv 1)) de_int (fun _ _ => rfl)) da_nil))))) (dw_or1 (db_not (db_val (de_dn d_is_stream hr rfl (da_cons (de_of_var (pv 0)) (da_cons (de_ix (de_of_var (pv 1)) de_int (fun _ _ => rfl)) da_nil)))))))) (L2.DL.G.dssx_one (L2.DL.G.dsx_raise rfl rfl ek_BadClash (da_cons de_str da_nil))) (L2.DL.G.dssx_of dss_nil))
        (L2.DL.G.dssx_one (L2.DL.G.dsx_if (db_cmp op_eq l_eq (de_ix (de_of_var (pv 1)) de_int (fun _ _ => rfl)) (de_ix (de_of_var (pv 1)) de_int (fun _ _ => rfl)) (nomark _)) (L2.DL.G.dssx_one (L2.DL.G.dsx_raise rfl rfl ek_BadClash (da_cons de_str da_nil))) (L2.DL.G.dssx_of dss_nil)))), fun ds h => ?_⟩)
  obtain ⟨n, p, rfl, hp, rfl⟩ := h
  walk_at "rd"
  refine ⟨n, p.1, rfl, ?_⟩
  refine ite2 (fun _ => ⟨by decide, trivial⟩) (fun c => ?_)
  refine ⟨n, p.2, rfl, ?_⟩
  refine ite2 (fun _ => ⟨by decide, trivial⟩) (fun c2 => ?_)
  refine ite2 (fun _ => ⟨by decide, trivial⟩) (fun c3 => ?_)
  have h3 : ¬ p.1 = p.2 := of_decide_eq_false (Bool.eq_false_iff.mpr c3)
  simp only [Bool.not_eq_true', Bool.and_eq_false_iff, decide_eq_false_iff_not, not_or, Decidable.not_not, Bool.not_eq_false] at c c2
  refine hp ⟨?_, ?_, ?_, ?_, h3⟩ <;> omega
theorem okg_Crossing___init__ (B : Bi mg) (d_check_size : Dn P w K mg base "check_size" ["streams"] 1 (spD K C tCheckSize)) (d_check_clash : Dn P w K mg base "check_clash" ["streams", "pair"] 2 (spD K C tCheckClash)) (dg_check_size : L2.DL.G.DnR P w K mg base "check_size" ["streams"] 1 (L2.DL.G.spR K C mg tCheckSizeR)) (dg_check_clash : L2.DL.G.DnR P w K mg base "check_clash" ["streams", "pair"] 2 (L2.DL.G.spR K C mg tCheckClashR)) (F : Fun K "__init__" "Crossing.__init__" s_Crossing___init__ f fd) :
    FnOk P w K mg base (CXg P w) 3 f fd ["self", "streams", "clashes"] (L2.DL.G.spR K C mg tMakeR) := by
  refine L2.DL.G.fn_r F sc_Crossing___init__ (fun ds x h => by obtain ⟨a, n, cl, rfl, h⟩ := h; rfl) (fun x cdv A outer s H E hr => ⟨_, (L2.DL.G.dssx_cons (L2.DL.G.dsx_expr (L2.DL.G.dex_or (L2.DL.G.dex_of (de_dn d_check_size hr rfl (da_cons (de_of_var (pv 1)) da_nil))) (L2.DL.G.dex_dn dg_check_size hr rfl (da_cons (de_of_var (pv 1)) da_nil))))
        (L2.DL.G.dssx_cons (L2.DL.G.dsx_for PassesOwn.leaving rfl (di_list (de_of_var (pv 2))) (dg_name (i := 3) sc_Crossing___init__.nd rfl (Or.inl rfl)) (L2.DL.G.dssx_one (L2.DL.G.dsx_expr (L2.DL.G.dex_or (L2.DL.G.dex_of (de_dn d_check_clash hr rfl (da_cons (de_of_var (pv 1)) (da_cons (de_of_var (pv 3)) da_nil)))) (L2.DL.G.dex_dn dg_check_clash hr rfl (da_cons (de_of_var (pv 1)) (da_cons (de_of_var (pv 3)) da_nil)))))))
        (L2.DL.G.dssx_of dss_never))), fun ds h => ?_⟩)
  obtain ⟨a, n, cl, rfl, h⟩ := h
  walk_at "rd"
  rcases h with ⟨hn, rfl⟩ | ⟨hn, hb, rfl⟩
  · exact .inr ⟨n, rfl, hn, rfl⟩
  · refine .inl ⟨n, rfl, hn.1, hn.2, ?_⟩
    show dItL _ _ _
    walk_at "rd"
    refine ⟨_, cl, dPr, fun pre env => ∃ r : Option SV, env = [some (.sh (.cls a)), some (.sh (.int n)), some (.sh (.lst (cl.map dPr))), r] ∧ ∀ q ∈ pre, okP n q, rfl, ⟨_, rfl, fun _ z => by cases z⟩, ?_, ?_⟩
    · rintro pre q post env e ⟨r, rfl, hpre⟩
      walk_at "rd"
      by_cases hq : okP n q
      · refine .inl ⟨n, q, rfl, hq, ?_⟩
        refine ⟨_, rfl, fun z hz => ?_⟩
        rcases List.mem_append.mp hz with y | y
        · exact hpre z y
        · rw [List.mem_singleton.mp y]; exact hq
      · exact .inr ⟨n, q, rfl, hq, rfl⟩
    · rintro env ⟨r, rfl, hall⟩
      obtain ⟨p, hp, hbad⟩ := hb
      exact hbad (hall p hp)
theorem okr_guessed (B : Bi mg) (CQ : CrK K C) (m_TurnError : mg "TurnError" = some (.ref c_TurnError)) (ek_BadNote : ExK K mg "BadNote" c_BadNote) (XN : XNote K mg c_TurnError) (d_figure_at : Dn P w K mg base "figure_at" ["text", "place"] 1 (spD K C tFigure)) (dg_Crossing___init__ : L2.DL.G.DnIR P w K mg base C "Crossing" ["self", "streams", "clashes"] 3 (L2.DL.G.spR K C mg tMakeR)) (F : Fun K "guessed" "guessed" s_guessed f fd) :
    FnOk P w K mg base (CXf P w) 5 f fd ["text"] (spR K C mg tGuessR) := by
  refine fn_r F sc_guessed (fun ds x h => by obtain ⟨z, rfl, hl, hg, rfl⟩ := h; rfl) (fun x cdv A outer s H E hr => ⟨_, (dssx_cons (dsx_of (ds_comp (i := 1) sc_guessed.nd rfl rfl (compSc (defScope s_guessed) ["text", "pairs", "streams", "error"] ["start", "text"] [0] rfl rfl (by decide +kernel) rfl rfl (by decide +kernel) (by decide +kernel) (by decide +kernel) rfl (by decide +kernel) rfl (by decide +kernel)) rfl (di_range3 rfl B.b_range (da_cons de_int (da_cons (de_callB call_len_str l_lens rfl B.b_len PySem.boot_len (da_cons (de_of_var (pv 0)) da_nil)) (da_cons de_int da_nil)))) (fun _ _ _ _ => difs_nil) (fun _ _ _ _ => (de_tup (da_cons (de_dn d_figure_at hr rfl (da_cons (de_of_var (pv 1)) (da_cons (de_add (de_of_var (pv 0)) de_int) da_nil))) (da_cons (de_dn d_figure_at hr rfl (da_cons (de_of_var (pv 1)) (da_cons (de_add (de_of_var (pv 0)) de_int) da_nil))) da_nil))))))
        (dssx_cons (dsx_of (ds_set (i := 2) sc_guessed.nd rfl (Or.inl rfl) (de_dn d_figure_at hr rfl (da_cons (de_of_var (pv 0)) (da_cons de_int da_nil)))))
        (dssx_one (dsx_tryF (i := 3) (n := 4) (cT := c_TurnError) rfl rfl sc_guessed.nd rfl rfl rfl rfl m_TurnError rfl ek_BadNote (fun _ _ x => (dsg_ret (L2.DL.G.dex_make CQ dg_Crossing___init__ hr rfl (da_cons (de_of_var (pv 2)) (da_cons (de_of_var (pv 1)) da_nil))))) (fun _ _ _ _ => (da_cons de_str da_nil)))))), fun ds h => ?_⟩)
  obtain ⟨z, rfl, hl, hg, rfl⟩ := h
  have hz : (100000 : Nat) ≤ sizeLine := by decide
  walk_at "rd"
  refine ⟨by omega, by decide, small_text (by omega), by decide, ?_⟩
  refine ⟨Nat, List.range (guessN z), fun i => .int (2 + (i : Nat) * 4), fun i => some (dPr (fig z (2 + (i : Int) * 4 + 1), fig z (2 + (i : Int) * 4 + 3))), rfl, by rw [List.length_range]; have := guessN_le hl; omega, fun i _ => ?_, ?_⟩
  · walk_at "rd"
    refine ⟨z, _, rfl, by omega, z, _, rfl, by omega, by decide, rfl⟩
  rw [fm_some]
  have hm : (List.range (guessN z)).map (fun (i : Nat) => dPr (fig z (2 + (i : Int) * 4 + 1), fig z (2 + (i : Int) * 4 + 3))) = (guessP z).map dPr := by unfold guessP; rw [List.map_map]; rfl
  rw [hm]
  have hgl : (guessP z).length ≤ 200 := by unfold guessP; rw [List.length_map, List.length_range]; exact guessN_le hl
  refine ⟨z, 0, rfl, by omega, ?_⟩

  refine ⟨trivial, ?_, fun a => ?_⟩
  · by_cases h6 : 1 ≤ fig z 0 ∧ fig z 0 ≤ 6
    · refine ⟨"BadClash", ?_, fun c hc => XN.made "BadClash" (by decide) c hc⟩
      walk_at "rd"
      intro a
      refine ⟨a, _, guessP z, rfl, .inr ⟨h6, ?_, rfl⟩⟩
      apply Classical.byContradiction
      intro hno
      refine hg ⟨h6.1, h6.2, fun p hp => ?_⟩
      apply Classical.byContradiction
      intro hb
      exact hno ⟨p, hp, hb⟩
    · refine ⟨"BadSize", ?_, fun c hc => XN.made "BadSize" (by decide) c hc⟩
      walk_at "rd"
      intro a
      exact ⟨a, _, guessP z, rfl, .inl ⟨h6, rfl⟩⟩
  · walk_at "rd"
    decide
theorem okr_read (B : Bi mg) (ek_BadNote : ExK K mg "BadNote" c_BadNote) (d_shown : Dn P w K mg base "shown" ["crossing"] 2 (spD K C tShown)) (d_guessed : Dn P w K mg base "guessed" ["text"] 5 (spD K C tGuessN)) (dr_guessed : DnR P w K mg base "guessed" ["text"] 5 (spR K C mg tGuessR)) (F : Fun K "read" "read" s_read f fd) :
    FnOk P w K mg base (CXf P w) 6 f fd ["text"] (spR K C mg tReadR) := by
  refine fn_r F sc_read (fun ds x h => by obtain ⟨z, rfl, hl, hw, rfl⟩ := h; rfl) (fun x cdv A outer s H E hr => ⟨_, (dssx_cons (dsx_set (i := 1) sc_read.nd rfl (Or.inl rfl) (dex_or (dex_of (de_dn d_guessed hr rfl (da_cons (de_of_var (pv 0)) da_nil))) (dex_dn dr_guessed hr rfl (da_cons (de_of_var (pv 0)) da_nil))))
        (dssx_cons (dsx_if (db_cmp op_ne l_ne (de_dn d_shown hr rfl (da_cons (de_of_var (pv 1)) da_nil)) (de_of_var (pv 0)) (nomark _)) (dssx_one (dsx_raise rfl rfl ek_BadNote (da_cons de_str da_nil))) (dssx_of dss_nil))
        (dssx_of dss_never))), fun ds h => ?_⟩)
  obtain ⟨z, rfl, hl, hw, rfl⟩ := h
  walk_at "rd"
  by_cases hg : GoodZ z
  · refine .inl ⟨z, rfl, hl, hg, ?_⟩
    have h15 := good15 hg.2.1 hg.2.2
    unfold crOf
    refine ⟨_, _, rfl, by have := hg.1; omega, hg.2.1, fun p hp => by have := h15 p hp; unfold in06; omega, Nat.le_trans (List.length_filter_le _ _) (by decide), ?_⟩
    have hne : ¬ shownS (fig z 0) (sd ((guessP z).map rise)) = z := fun e => by
      have := shown_writes hg.1 hg.2.1 hg.2.2
      rw [e] at this
      exact hw _ _ this
    show if (!decide (shownS (fig z 0) (sd ((guessP z).map rise)) = z)) = true then _ else _
    rw [decide_eq_false hne]
    exact ⟨by decide, trivial⟩
  · exact .inr ⟨z, rfl, hl, hg, rfl⟩
theorem ok__law_told (B : Bi mg) (m_BadClash : mg "BadClash" = some (.ref c_BadClash)) (m_BadNote : mg "BadNote" = some (.ref c_BadNote)) (m_BadSize : mg "BadSize" = some (.ref c_BadSize)) (m_BadWish : mg "BadWish" = some (.ref c_BadWish)) (m_NoStream : mg "NoStream" = some (.ref c_NoStream)) (m_TurnError : mg "TurnError" = some (.ref c_TurnError)) (XN : XNote K mg c_TurnError) (d_read : Dn P w K mg base "read" ["text"] 6 (spD K C tReadN)) (dr_read : DnR P w K mg base "read" ["text"] 6 (spR K C mg tReadR)) (F : Fun K "_law_told" "_law_told" s__law_told f fd) :
    FnOk P w K mg base CX0 7 f fd ["text"] (spD K C tTold) := by
  refine fn_e F sc__law_told (fun ds Q h => by obtain ⟨z, rfl, hl, k1, k2⟩ := h; rfl) (fun cdv A outer s H E hr => ⟨_, (dss_cons (ds_set (i := 1) sc__law_told.nd rfl (Or.inl rfl) de_non)
        (dss_cons (ds_try (i := 2) (n := 4) (cT := c_TurnError) rfl rfl sc__law_told.nd rfl rfl rfl rfl m_TurnError (fun _ _ => (ds_set (i := 1) sc__law_told.nd rfl (Or.inl rfl) (de_tup (da_cons de_str (da_cons (de_dn d_read hr rfl (da_cons (de_of_var (pv 0)) da_nil)) da_nil))))) (fun _ _ x => (dsc_set (i := 1) sc__law_told.nd rfl (Or.inl rfl) (dex_pair (dex_dn dr_read hr rfl (da_cons (de_of_var (pv 0)) da_nil))))) (fun _ a oe _ => (dss_cons (ds_set (i := 3) sc__law_told.nd rfl (Or.inl rfl) (DE.of (df_lst (da_cons (de_callB call_instX l_instX rfl B.b_isinstance boot_isinstance (da_cons (de_of_var (pv 2)) (da_cons (de_clsN rfl m_BadSize) da_nil))) (da_cons (de_callB call_instX l_instX rfl B.b_isinstance boot_isinstance (da_cons (de_of_var (pv 2)) (da_cons (de_clsN rfl m_BadClash) da_nil))) (da_cons (de_callB call_instX l_instX rfl B.b_isinstance boot_isinstance (da_cons (de_of_var (pv 2)) (da_cons (de_clsN rfl m_BadWish) da_nil))) (da_cons (de_callB call_instX l_instX rfl B.b_isinstance boot_isinstance (da_cons (de_of_var (pv 2)) (da_cons (de_clsN rfl m_NoStream) da_nil))) da_nil)))))))
        (dss_one (ds_set (i := 1) sc__law_told.nd rfl (Or.inl rfl) (de_tup (da_cons de_str (da_cons (de_and (de_callB call_instX l_instX rfl B.b_isinstance boot_isinstance (da_cons (de_of_var (pv 2)) (da_cons (de_clsN rfl m_BadNote) da_nil))) (de_and (de_callB call_instX l_instX rfl B.b_isinstance boot_isinstance (da_cons (de_of_var (pv 2)) (da_cons (de_ty rfl B.b_ValueError boot_ValueError) da_nil))) (de_one (de_cmp op_notIn_seq l_notinB de_bl (de_of_var (pv 3)) (by with_unfolding_all rfl))))) da_nil))))))))
        (dss_one (ds_ret (de_of_var (pv 1)))))), fun ds Q h => ?_⟩)
  obtain ⟨z, rfl, hl, k1, k2⟩ := h
  have hz : (1000 : Nat) ≤ sizeLine := by decide
  walk_at "rd"
  by_cases hw : ∃ n ps, Writes z n ps
  · obtain ⟨n, ps, hw⟩ := hw
    refine .inl ⟨z, n, ps, rfl, hl, hw, by omega, ?_⟩
    walk_at "rd"
    exact k1 n ps hw
  · have hno : ∀ n ps, ¬ Writes z n ps := fun n ps h => hw ⟨n, ps, h⟩
    refine .inr ⟨"BadNote", ⟨z, rfl, hl, hno, rfl⟩, fun c hc => ?_⟩
    obtain ⟨xi, ex, kt, kv⟩ := XN.ex c hc
    refine ⟨ex, fun a oe hoe => ?_⟩
    simp only [show (List.replicate 4 (none : Option SV)).set 2 (some (SV.sh (D.cls a))) = [none, none, some (SV.sh (D.cls a)), none] from rfl]
    walk_at "rd"
    refine ⟨c, _, hoe, xi, .inl ⟨_, rfl, kt "BadSize" (by decide) _ m_BadSize⟩, ?_⟩
    refine ⟨c, _, hoe, xi, .inl ⟨_, rfl, kt "BadClash" (by decide) _ m_BadClash⟩, ?_⟩
    refine ⟨c, _, hoe, xi, .inl ⟨_, rfl, kt "BadWish" (by decide) _ m_BadWish⟩, ?_⟩
    refine ⟨c, _, hoe, xi, .inl ⟨_, rfl, kt "NoStream" (by decide) _ m_NoStream⟩, ?_⟩
    walk_at "rd"
    refine ⟨by omega, c, _, hoe, xi, .inl ⟨_, rfl, kt "BadNote" (by decide) _ m_BadNote⟩, ?_⟩
    walk_at "rd"
    refine ⟨c, _, hoe, xi, .inr ⟨_, rfl, kv⟩, ?_⟩
    walk_at "rd"
    refine ⟨true, [false, false, false, false], rfl, rfl, ?_⟩
    exact ⟨by omega, k2 hno⟩
theorem ok__law_right (B : Bi mg) (CQ : CrK K C) (CI : CrI K C) (m_Crossing : mg "Crossing" = some (.ref C)) (d_Crossing_size : DnM P w K mg base C "size" ["self"] 1 (spD K C tSize)) (d_Crossing_clashes : DnM P w K mg base C "clashes" ["self"] 1 (spF K C tClashes)) (d_shown : Dn P w K mg base "shown" ["crossing"] 2 (spD K C tShown)) (d__law_told : Dn P w K mg base "_law_told" ["text"] 7 (spD K C tTold)) (F : Fun K "_law_right" "_law_right" s__law_right f fd) :
    FnOk P w K mg base CX0 8 f fd ["text", "due"] (spD K C tRight) := by
  refine fn_e F sc__law_right (fun ds Q h => by obtain ⟨z, dd, rfl, hl, hd, k⟩ := h; rfl) (fun cdv A outer s H E hr => ⟨_, (dss_cons (ds_set (i := 2) sc__law_right.nd rfl (Or.inl rfl) (de_dn d__law_told hr rfl (da_cons (de_of_var (pv 0)) da_nil)))
        (dss_cons (ds_if (db_cmp op_isN l_is (de_of_var (pv 1)) de_non (nomark _)) (dss_one (ds_ret (de_cmp (op_eqD hr.units) l_eqD (de_of_var (pv 2)) (de_tup (da_cons de_str (da_cons de_bl da_nil))) (nomark _)))) dss_nil)
        (dss_cons (ds_if (DW.db (dw_or (db_cmp op_ne l_ne (de_ix (de_of_var (pv 2)) de_int (fun _ _ => rfl)) de_str (nomark _)) (dw_or (db_not (db_val (de_callB (call_instC CQ CI) l_instC rfl B.b_isinstance boot_isinstance (da_cons (de_ix (de_of_var (pv 2)) de_int (fun _ _ => rfl)) (da_cons (de_clsN rfl m_Crossing) da_nil))))) (dw_or1 (db_cmp op_ne l_ne (de_mt0 CQ d_Crossing_size hr (de_ix (de_of_var (pv 2)) de_int (fun _ _ => rfl))) (de_ix (de_of_var (pv 1)) de_int (fun _ _ => rfl)) (nomark _)))))) (dss_one (ds_ret de_bl)) dss_nil)
        (dss_one (ds_ret (de_and (de_cmp (op_eqD hr.units) l_eqD (DE.of (df_mt0 CQ d_Crossing_clashes hr (de_ix (de_of_var (pv 2)) de_int (fun _ _ => rfl)))) (de_ix (de_of_var (pv 1)) de_int (fun _ _ => rfl)) (nomark _)) (de_one (de_cmp op_eq l_eq (de_dn d_shown hr rfl (da_cons (de_ix (de_of_var (pv 2)) de_int (fun _ _ => rfl)) da_nil)) (de_of_var (pv 0)) (nomark _))))))))), fun ds Q h => ?_⟩)
  obtain ⟨z, dd, rfl, hl, hd, k⟩ := h
  have hz : (1000 : Nat) ≤ sizeLine := by decide
  walk_at "rd"
  refine ⟨z, rfl, hl, fun n ps hw => ?_, fun hno => ?_⟩
  · rcases hd with ⟨n', ps', hw', rfl⟩ | ⟨hno, rfl⟩
    · obtain ⟨rfl, rfl⟩ := hw.uniq hw'
      have h15 := hw.1.in15
      have hlo := hw.1.lo
      refine iteF ?_
      simp only [rdIx_t0, rdIx_t1]
      walk_at "rd"
      refine ⟨trivial, n, ps, rfl, ?_⟩
      walk_at "rd"
      refine ⟨n, ps, rfl, ok_Prs _, ok_Prs _, ?_⟩
      rw [eqD_refl 8 _ (ok_Prs ps)]
      refine ⟨n, ps, rfl, by omega, hw.1.hi, fun p hp => by have := h15 p hp; unfold in06; omega, hw.1.len, ?_⟩
      show Q (D.bl (decide (shownS n ps = z)))
      rw [hw.shown, decide_eq_true rfl]
      exact k
    · exact absurd hw (hno n ps)
  · rcases hd with ⟨n', ps', hw', rfl⟩ | ⟨hno, rfl⟩
    · exact absurd hw' (hno _ _)
    · have hok : ok 8 (D.tup [D.str "refused", D.bl true]) = true := by decide +kernel
      refine iteT ⟨by omega, hok, hok, ?_⟩
      rw [eqD_refl 8 _ hok]
      exact k
theorem ok_law (B : Bi mg) (d__law_cell_at : Dn P w K mg base "_law_cell_at" ["script", "k"] 1 (spD K C tCell)) (d__law_clashes : Dn P w K mg base "_law_clashes" ["script", "start", "streams"] 2 (spD K C tLawClashes)) (d__law_shown : Dn P w K mg base "_law_shown" ["clashes", "streams"] 1 (spD K C tLawShown)) (d__law_spoiled : Dn P w K mg base "_law_spoiled" ["text", "way", "cell", "other"] 1 (spD K C tSpoiled)) (d__law_odd : Dn P w K mg base "_law_odd" ["cell"] 1 (spD K C tOdd)) (d__law_due : Dn P w K mg base "_law_due" ["text"] 1 (spD K C tDue)) (d__law_right : Dn P w K mg base "_law_right" ["text", "due"] 8 (spD K C tRight)) (F : Fun K "law" "law" s_law f fd) :
    FnOk P w K mg base CX0 9 f fd ["script"] (spD K C tLaw) := by
  refine fn_e F sc_law (fun ds Q h => by obtain ⟨ns, rfl, hl, k⟩ := h; rfl) (fun cdv A outer s H E hr => ⟨_, (dss_cons (ds_set (i := 1) sc_law.nd rfl (Or.inl rfl) (de_add de_int (de_mod (de_dn d__law_cell_at hr rfl (da_cons (de_of_var (pv 0)) (da_cons de_int da_nil))) de_int)))
        (dss_cons (ds_set (i := 2) sc_law.nd rfl (Or.inl rfl) (de_mod (de_dn d__law_cell_at hr rfl (da_cons (de_of_var (pv 0)) (da_cons de_int da_nil))) de_int))
        (dss_cons (ds_set (i := 3) sc_law.nd rfl (Or.inl rfl) (de_dn d__law_shown hr rfl (da_cons (de_dn d__law_clashes hr rfl (da_cons (de_of_var (pv 0)) (da_cons de_int (da_cons (de_of_var (pv 1)) da_nil)))) (da_cons (de_of_var (pv 1)) da_nil))))
        (dss_cons (ds_set (i := 3) sc_law.nd rfl (Or.inl rfl) (de_dn d__law_spoiled hr rfl (da_cons (de_of_var (pv 3)) (da_cons (de_of_var (pv 2)) (da_cons (de_dn d__law_cell_at hr rfl (da_cons (de_of_var (pv 0)) (da_cons de_int da_nil))) (da_cons (de_dn d__law_cell_at hr rfl (da_cons (de_of_var (pv 0)) (da_cons de_int da_nil))) da_nil))))))
        (dss_cons (ds_if (db_cmp op_eq l_eq (de_mod (de_div (de_dn d__law_cell_at hr rfl (da_cons (de_of_var (pv 0)) (da_cons de_int da_nil))) de_int) de_int) de_int (nomark _)) (dss_one (ds_set (i := 3) sc_law.nd rfl (Or.inl rfl) (de_dn d__law_odd hr rfl (da_cons (de_dn d__law_cell_at hr rfl (da_cons (de_of_var (pv 0)) (da_cons de_int da_nil))) da_nil)))) dss_nil)
        (dss_cons (ds_set (i := 4) sc_law.nd rfl (Or.inl rfl) (de_dn d__law_due hr rfl (da_cons (de_of_var (pv 3)) da_nil)))
        (dss_one (ds_ret (de_and (de_dn d__law_right hr rfl (da_cons (de_of_var (pv 3)) (da_cons (de_of_var (pv 4)) da_nil))) (de_one (de_dn d__law_right hr rfl (da_cons (de_of_var (pv 3)) (da_cons (de_of_var (pv 4)) da_nil))))))))))))), fun ds Q h => ?_⟩)
  obtain ⟨ns, rfl, hl, k⟩ := h
  walk_at "rd"
  refine ⟨ns, 0, rfl, by decide, by decide, ?_⟩
  refine ⟨ns, 3, rfl, by decide, by decide, ?_⟩
  obtain ⟨m, hm, hm1, hm6⟩ : ∃ m : Int, 1 + cellAt ns 0 % 6 = m ∧ 1 ≤ m ∧ m ≤ 6 := ⟨_, rfl, by omega, by omega⟩
  simp only [hm]
  refine ⟨ns, 1, m, rfl, by decide, hm1, hm6, fun cl hg => ?_⟩
  refine ⟨cl, m, rfl, hm1, hm6, hg, fun s hs => ?_⟩
  refine ⟨ns, 4, rfl, by decide, ns, 5, rfl, by decide, ?_⟩
  refine ⟨s, _, _, _, rfl, hs, fun s2 hs2 => ?_⟩
  have fin : ∀ s3 : Str, s3.length ≤ 700 → tDue [.str s3] fun d => tRight [.str s3, d] fun v => match v with
      | .bl true => tRight [.str s3, d] Q
      | .bl false => Q (.bl false)
      | _ => False := fun s3 hs3 => ⟨s3, rfl, hs3, fun d hd => ⟨s3, d, rfl, hs3, hd, s3, d, rfl, hs3, hd, k⟩⟩
  refine ⟨ns, 3, rfl, by decide, ⟨by decide, by decide⟩, by decide, ?_⟩
  exact ite2 (fun _ => ⟨ns, 6, rfl, by decide, _, rfl, fun s3 hs3 => fin s3 (by omega)⟩) (fun _ => fin s2 hs2)
end
theorem all_mk {l : PySem.W.OpenLaw} {w : World} {K : PySem.W.Frag} {h : Heap} {mg : Str → Option Value} {fa f0 f1 f2 f3 f4 f5 f6 f7 f8 f9 f10 f11 f12 f13 f14 f15 f16 f17 f18 f19 f20 f21 CC c_TurnError c_BadSize c_BadClash c_NoStream c_BadWish c_BadNote : Addr} (X : K.In h) (G : h.Ns mainGlobals mg) (hfa : mg "law" = some (.ref fa))
    {od0 an0 od1 an1 od2 an2 od3 an3 od4 an4 od5 an5 od6 an6 od7 an7 od8 an8 od9 an9 od10 an10 od11 an11 od12 an12 od13 an13 od14 an14 od15 an15 od16 an16 od17 an17 od18 an18 od19 an19 od20 an20 od21 an21 : Option Addr} {sl0 sl1 sl2 sl3 sl4 sl5 sl6 sl7 sl8 sl9 sl10 sl11 sl12 sl13 sl14 sl15 sl16 sl17 sl18 sl19 sl20 sl21 : Array (Option Value)} {oc0 kV0 dc0 pm0 cd0 ct0 oc1 kV1 dc1 pm1 cd1 ct1 oc2 kV2 dc2 pm2 cd2 ct2 oc3 kV3 dc3 pm3 cd3 ct3 oc4 kV4 dc4 pm4 cd4 ct4 oc5 kV5 dc5 pm5 cd5 ct5 oc6 kV6 dc6 pm6 cd6 ct6 oc7 kV7 dc7 pm7 cd7 ct7 oc8 kV8 dc8 pm8 cd8 ct8 oc9 kV9 dc9 pm9 cd9 ct9 oc10 kV10 dc10 pm10 cd10 ct10 oc11 kV11 dc11 pm11 cd11 ct11 oc12 kV12 dc12 pm12 cd12 ct12 oc13 kV13 dc13 pm13 cd13 ct13 oc14 kV14 dc14 pm14 cd14 ct14 oc15 kV15 dc15 pm15 cd15 ct15 oc16 kV16 dc16 pm16 cd16 ct16 oc17 kV17 dc17 pm17 cd17 ct17 oc18 kV18 dc18 pm18 cd18 ct18 oc19 kV19 dc19 pm19 cd19 ct19 oc20 kV20 dc20 pm20 cd20 ct20 oc21 kV21 dc21 pm21 cd21 ct21 : Value}
    {t_FIGURES : Tok} (aN_FIGURES : PySem.W.nsIn K mainGlobals "FIGURES" = some (some (.str "0123456" t_FIGURES)))
    {t_MOST_STREAMS : Tok} (aN_MOST_STREAMS : PySem.W.nsIn K mainGlobals "MOST_STREAMS" = some (some (.int 6 t_MOST_STREAMS)))
    (aC : PySem.W.nsIn K mainGlobals "Crossing" = some (some (.ref CC))) (pg : PySem.W.plainGet K CC Str.empty = true) (hdC : PySem.W.hasDictIn K CC = true) (po : PySem.W.plainOver K CC = true) (sa : PySem.W.findIn K (.ref CC) "__setattr__" = some (some (.builtin "object.__setattr__"))) (mk : PySem.W.makesIn K CC = true) (kc : PySem.W.keepIn K (.ref CC) = true) (naS : PySem.W.findIn K (.ref CC) "streams" = some none) (naP : PySem.W.findIn K (.ref CC) "pairs" = some none)
    (qc_at : PySem.W.findIn K (.ref CC) "__class__" = some (some (.builtin "object.__class__"))) (qc_ob : PySem.W.mroIn K CC (.type "object") = some true)
    (aX_TurnError : PySem.W.nsIn K mainGlobals "TurnError" = some (some (.ref c_TurnError)))
    (aX_BadSize : PySem.W.nsIn K mainGlobals "BadSize" = some (some (.ref c_BadSize)))
    (aX_BadClash : PySem.W.nsIn K mainGlobals "BadClash" = some (some (.ref c_BadClash)))
    (aX_NoStream : PySem.W.nsIn K mainGlobals "NoStream" = some (some (.ref c_NoStream)))
    (aX_BadWish : PySem.W.nsIn K mainGlobals "BadWish" = some (some (.ref c_BadWish)))
    (aX_BadNote : PySem.W.nsIn K mainGlobals "BadNote" = some (some (.ref c_BadNote)))
    (qe_BadSize : PySem.W.excIn K c_BadSize bmV "ValueError.__new__" = true)
    (q_ex_BadSize : PySem.W.exmOne K (.ref c_BadSize) (.ref c_TurnError) = some true)
    (qe_BadClash : PySem.W.excIn K c_BadClash bmV "ValueError.__new__" = true)
    (q_ex_BadClash : PySem.W.exmOne K (.ref c_BadClash) (.ref c_TurnError) = some true)
    (qe_BadNote : PySem.W.excIn K c_BadNote bmV "ValueError.__new__" = true)
    (q_ex_BadNote : PySem.W.exmOne K (.ref c_BadNote) (.ref c_TurnError) = some true)
    {cd_BadNote : ClassData}    (q_cls_BadNote : PySem.W.clsIn K c_BadNote = some cd_BadNote)
    (q_ga_BadNote : PySem.W.findIn K (.ref c_BadNote) "__getattribute__" = some (some (.builtin "BaseException.__getattribute__")))
    (q_hk_BadNote : PySem.W.findIn K (.ref c_BadNote) "__getattr__" = some none)
    (q_at_BadNote : PySem.W.findIn K (.ref c_BadNote) "__class__" = some (some (.builtin "object.__class__")))
    (q_ob_BadNote : PySem.W.mroIn K c_BadNote (.type "object") = some true)
    (q_be_BadNote : PySem.W.mroIn K c_BadNote (.type "BaseException") = some true)
    (q_kv_BadNote : PySem.W.kitOne K (.ref c_BadNote) (.type "ValueError") = some true)
    (q_k_BadNote_BadSize : PySem.W.kitOne K (.ref c_BadNote) (.ref c_BadSize) = some false)
    (q_k_BadNote_BadClash : PySem.W.kitOne K (.ref c_BadNote) (.ref c_BadClash) = some false)
    (q_k_BadNote_NoStream : PySem.W.kitOne K (.ref c_BadNote) (.ref c_NoStream) = some false)
    (q_k_BadNote_BadWish : PySem.W.kitOne K (.ref c_BadNote) (.ref c_BadWish) = some false)
    (q_k_BadNote_BadNote : PySem.W.kitOne K (.ref c_BadNote) (.ref c_BadNote) = some true)
    (q_gt : PySem.W.specialIn K (.builtin "object.__class__") "__get__" = some (some (.builtin "getset_descriptor.__get__"))) (q_tk : PySem.W.takesIn K (.builtin "object.__class__") = some true)
    (a0 : PySem.W.nsIn K mainGlobals "check_size" = some (some (.ref f0))) (l0 : K.lookup f0 = some ⟨oc0, od0, .func (PySem.W.fnOf "check_size" "check_size" (defArgs s_check_size) (defBody s_check_size) (defScope s_check_size) .none kV0 dc0 pm0 an0 cd0 ct0), sl0⟩) (c0 : PySem.W.codeIn K cd0 "check_size" = true) (k0 : PySem.W.keepIn K (.ref f0) = true)
    (a1 : PySem.W.nsIn K mainGlobals "is_stream" = some (some (.ref f1))) (l1 : K.lookup f1 = some ⟨oc1, od1, .func (PySem.W.fnOf "is_stream" "is_stream" (defArgs s_is_stream) (defBody s_is_stream) (defScope s_is_stream) .none kV1 dc1 pm1 an1 cd1 ct1), sl1⟩) (c1 : PySem.W.codeIn K cd1 "is_stream" = true) (k1 : PySem.W.keepIn K (.ref f1) = true)
    (a2 : PySem.W.nsIn K mainGlobals "check_clash" = some (some (.ref f2))) (l2 : K.lookup f2 = some ⟨oc2, od2, .func (PySem.W.fnOf "check_clash" "check_clash" (defArgs s_check_clash) (defBody s_check_clash) (defScope s_check_clash) .none kV2 dc2 pm2 an2 cd2 ct2), sl2⟩) (c2 : PySem.W.codeIn K cd2 "check_clash" = true) (k2 : PySem.W.keepIn K (.ref f2) = true)
    (a3 : PySem.W.nsIn K mainGlobals "rising" = some (some (.ref f3))) (l3 : K.lookup f3 = some ⟨oc3, od3, .func (PySem.W.fnOf "rising" "rising" (defArgs s_rising) (defBody s_rising) (defScope s_rising) .none kV3 dc3 pm3 an3 cd3 ct3), sl3⟩) (c3 : PySem.W.codeIn K cd3 "rising" = true) (k3 : PySem.W.keepIn K (.ref f3) = true)
    (a4 : PySem.W.findIn K (.ref CC) "__init__" = some (some (.ref f4))) (i4 : PySem.W.isFn K (.ref f4) = true) (l4 : K.lookup f4 = some ⟨oc4, od4, .func (PySem.W.fnOf "__init__" "Crossing.__init__" (defArgs s_Crossing___init__) (defBody s_Crossing___init__) (defScope s_Crossing___init__) .none kV4 dc4 pm4 an4 cd4 ct4), sl4⟩) (c4 : PySem.W.codeIn K cd4 "Crossing.__init__" = true) (k4 : PySem.W.keepIn K (.ref f4) = true)
    (a5 : PySem.W.findIn K (.ref CC) "size" = some (some (.ref f5))) (i5 : PySem.W.isFn K (.ref f5) = true) (l5 : K.lookup f5 = some ⟨oc5, od5, .func (PySem.W.fnOf "size" "Crossing.size" (defArgs s_Crossing_size) (defBody s_Crossing_size) (defScope s_Crossing_size) .none kV5 dc5 pm5 an5 cd5 ct5), sl5⟩) (c5 : PySem.W.codeIn K cd5 "Crossing.size" = true) (k5 : PySem.W.keepIn K (.ref f5) = true)
    (a6 : PySem.W.findIn K (.ref CC) "clashes" = some (some (.ref f6))) (i6 : PySem.W.isFn K (.ref f6) = true) (l6 : K.lookup f6 = some ⟨oc6, od6, .func (PySem.W.fnOf "clashes" "Crossing.clashes" (defArgs s_Crossing_clashes) (defBody s_Crossing_clashes) (defScope s_Crossing_clashes) .none kV6 dc6 pm6 an6 cd6 ct6), sl6⟩) (c6 : PySem.W.codeIn K cd6 "Crossing.clashes" = true) (k6 : PySem.W.keepIn K (.ref f6) = true)
    (a7 : PySem.W.nsIn K mainGlobals "shown_pair" = some (some (.ref f7))) (l7 : K.lookup f7 = some ⟨oc7, od7, .func (PySem.W.fnOf "shown_pair" "shown_pair" (defArgs s_shown_pair) (defBody s_shown_pair) (defScope s_shown_pair) .none kV7 dc7 pm7 an7 cd7 ct7), sl7⟩) (c7 : PySem.W.codeIn K cd7 "shown_pair" = true) (k7 : PySem.W.keepIn K (.ref f7) = true)
    (a8 : PySem.W.nsIn K mainGlobals "shown" = some (some (.ref f8))) (l8 : K.lookup f8 = some ⟨oc8, od8, .func (PySem.W.fnOf "shown" "shown" (defArgs s_shown) (defBody s_shown) (defScope s_shown) .none kV8 dc8 pm8 an8 cd8 ct8), sl8⟩) (c8 : PySem.W.codeIn K cd8 "shown" = true) (k8 : PySem.W.keepIn K (.ref f8) = true)
    (a9 : PySem.W.nsIn K mainGlobals "figure_at" = some (some (.ref f9))) (l9 : K.lookup f9 = some ⟨oc9, od9, .func (PySem.W.fnOf "figure_at" "figure_at" (defArgs s_figure_at) (defBody s_figure_at) (defScope s_figure_at) .none kV9 dc9 pm9 an9 cd9 ct9), sl9⟩) (c9 : PySem.W.codeIn K cd9 "figure_at" = true) (k9 : PySem.W.keepIn K (.ref f9) = true)
    (a10 : PySem.W.nsIn K mainGlobals "guessed" = some (some (.ref f10))) (l10 : K.lookup f10 = some ⟨oc10, od10, .func (PySem.W.fnOf "guessed" "guessed" (defArgs s_guessed) (defBody s_guessed) (defScope s_guessed) .none kV10 dc10 pm10 an10 cd10 ct10), sl10⟩) (c10 : PySem.W.codeIn K cd10 "guessed" = true) (k10 : PySem.W.keepIn K (.ref f10) = true)
    (a11 : PySem.W.nsIn K mainGlobals "read" = some (some (.ref f11))) (l11 : K.lookup f11 = some ⟨oc11, od11, .func (PySem.W.fnOf "read" "read" (defArgs s_read) (defBody s_read) (defScope s_read) .none kV11 dc11 pm11 an11 cd11 ct11), sl11⟩) (c11 : PySem.W.codeIn K cd11 "read" = true) (k11 : PySem.W.keepIn K (.ref f11) = true)
    (a12 : PySem.W.nsIn K mainGlobals "_law_cell_at" = some (some (.ref f12))) (l12 : K.lookup f12 = some ⟨oc12, od12, .func (PySem.W.fnOf "_law_cell_at" "_law_cell_at" (defArgs s__law_cell_at) (defBody s__law_cell_at) (defScope s__law_cell_at) .none kV12 dc12 pm12 an12 cd12 ct12), sl12⟩) (c12 : PySem.W.codeIn K cd12 "_law_cell_at" = true) (k12 : PySem.W.keepIn K (.ref f12) = true)
    (a13 : PySem.W.nsIn K mainGlobals "_law_clashes" = some (some (.ref f13))) (l13 : K.lookup f13 = some ⟨oc13, od13, .func (PySem.W.fnOf "_law_clashes" "_law_clashes" (defArgs s__law_clashes) (defBody s__law_clashes) (defScope s__law_clashes) .none kV13 dc13 pm13 an13 cd13 ct13), sl13⟩) (c13 : PySem.W.codeIn K cd13 "_law_clashes" = true) (k13 : PySem.W.keepIn K (.ref f13) = true)
    (a14 : PySem.W.nsIn K mainGlobals "_law_ring" = some (some (.ref f14))) (l14 : K.lookup f14 = some ⟨oc14, od14, .func (PySem.W.fnOf "_law_ring" "_law_ring" (defArgs s__law_ring) (defBody s__law_ring) (defScope s__law_ring) .none kV14 dc14 pm14 an14 cd14 ct14), sl14⟩) (c14 : PySem.W.codeIn K cd14 "_law_ring" = true) (k14 : PySem.W.keepIn K (.ref f14) = true)
    (a15 : PySem.W.nsIn K mainGlobals "_law_shown" = some (some (.ref f15))) (l15 : K.lookup f15 = some ⟨oc15, od15, .func (PySem.W.fnOf "_law_shown" "_law_shown" (defArgs s__law_shown) (defBody s__law_shown) (defScope s__law_shown) .none kV15 dc15 pm15 an15 cd15 ct15), sl15⟩) (c15 : PySem.W.codeIn K cd15 "_law_shown" = true) (k15 : PySem.W.keepIn K (.ref f15) = true)
    (a16 : PySem.W.nsIn K mainGlobals "_law_spoiled" = some (some (.ref f16))) (l16 : K.lookup f16 = some ⟨oc16, od16, .func (PySem.W.fnOf "_law_spoiled" "_law_spoiled" (defArgs s__law_spoiled) (defBody s__law_spoiled) (defScope s__law_spoiled) .none kV16 dc16 pm16 an16 cd16 ct16), sl16⟩) (c16 : PySem.W.codeIn K cd16 "_law_spoiled" = true) (k16 : PySem.W.keepIn K (.ref f16) = true)
    (a17 : PySem.W.nsIn K mainGlobals "_law_odd" = some (some (.ref f17))) (l17 : K.lookup f17 = some ⟨oc17, od17, .func (PySem.W.fnOf "_law_odd" "_law_odd" (defArgs s__law_odd) (defBody s__law_odd) (defScope s__law_odd) .none kV17 dc17 pm17 an17 cd17 ct17), sl17⟩) (c17 : PySem.W.codeIn K cd17 "_law_odd" = true) (k17 : PySem.W.keepIn K (.ref f17) = true)
    (a18 : PySem.W.nsIn K mainGlobals "_law_due" = some (some (.ref f18))) (l18 : K.lookup f18 = some ⟨oc18, od18, .func (PySem.W.fnOf "_law_due" "_law_due" (defArgs s__law_due) (defBody s__law_due) (defScope s__law_due) .none kV18 dc18 pm18 an18 cd18 ct18), sl18⟩) (c18 : PySem.W.codeIn K cd18 "_law_due" = true) (k18 : PySem.W.keepIn K (.ref f18) = true)
    (a19 : PySem.W.nsIn K mainGlobals "_law_told" = some (some (.ref f19))) (l19 : K.lookup f19 = some ⟨oc19, od19, .func (PySem.W.fnOf "_law_told" "_law_told" (defArgs s__law_told) (defBody s__law_told) (defScope s__law_told) .none kV19 dc19 pm19 an19 cd19 ct19), sl19⟩) (c19 : PySem.W.codeIn K cd19 "_law_told" = true) (k19 : PySem.W.keepIn K (.ref f19) = true)
    (a20 : PySem.W.nsIn K mainGlobals "_law_right" = some (some (.ref f20))) (l20 : K.lookup f20 = some ⟨oc20, od20, .func (PySem.W.fnOf "_law_right" "_law_right" (defArgs s__law_right) (defBody s__law_right) (defScope s__law_right) .none kV20 dc20 pm20 an20 cd20 ct20), sl20⟩) (c20 : PySem.W.codeIn K cd20 "_law_right" = true) (k20 : PySem.W.keepIn K (.ref f20) = true)
    (a21 : PySem.W.nsIn K mainGlobals "law" = some (some (.ref f21))) (l21 : K.lookup f21 = some ⟨oc21, od21, .func (PySem.W.fnOf "law" "law" (defArgs s_law) (defBody s_law) (defScope s_law) .none kV21 dc21 pm21 an21 cd21 ct21), sl21⟩) (c21 : PySem.W.codeIn K cd21 "law" = true) (k21 : PySem.W.keepIn K (.ref f21) = true)
    (z_ValueError : PySem.W.nsIn K mainGlobals "ValueError" = some none)
    (z_isinstance : PySem.W.nsIn K mainGlobals "isinstance" = some none)
    (z_len : PySem.W.nsIn K mainGlobals "len" = some none)
    (z_list : PySem.W.nsIn K mainGlobals "list" = some none)
    (z_max : PySem.W.nsIn K mainGlobals "max" = some none)
    (z_min : PySem.W.nsIn K mainGlobals "min" = some none)
    (z_range : PySem.W.nsIn K mainGlobals "range" = some none)
    (z_reversed : PySem.W.nsIn K mainGlobals "reversed" = some none)
    (z_set : PySem.W.nsIn K mainGlobals "set" = some none)
    (z_sorted : PySem.W.nsIn K mainGlobals "sorted" = some none)
    (z_str : PySem.W.nsIn K mainGlobals "str" = some none)
    : ∃ fd : FuncData, (∀ (s : Shared) (v : Value), BindsTo s fd ⟨[v], []⟩ [("script", v)]) ∧ ∀ base : Heap, K.In base → base.Ns mainGlobals mg → FnOk l.prog w K mg base CX0 9 fa fd ["script"] (spLaw K) := by
  have e := hfa.symm.trans (PySem.W.mg_of X G a21)
  cases e
  have B : Bi mg := ⟨PySem.W.mg_none_of X G z_ValueError, PySem.W.mg_none_of X G z_isinstance, PySem.W.mg_none_of X G z_len, PySem.W.mg_none_of X G z_list, PySem.W.mg_none_of X G z_max, PySem.W.mg_none_of X G z_min, PySem.W.mg_none_of X G z_range, PySem.W.mg_none_of X G z_reversed, PySem.W.mg_none_of X G z_set, PySem.W.mg_none_of X G z_sorted, PySem.W.mg_none_of X G z_str⟩
  have g_FIGURES : GStr mg "FIGURES" "0123456" := ⟨_, PySem.W.mg_of X G aN_FIGURES⟩
  have g_MOST_STREAMS : GInt mg "MOST_STREAMS" 6 := ⟨_, PySem.W.mg_of X G aN_MOST_STREAMS⟩
  have CQ : CrK K CC := ⟨⟨pg, hdC, po, sa⟩, naS, naP⟩
  have m_Crossing := PySem.W.mg_of X G aC
  have CI : CrI K CC := ⟨qc_at, q_gt, q_tk, qc_ob⟩
  have m_TurnError := PySem.W.mg_of X G aX_TurnError
  have m_BadSize := PySem.W.mg_of X G aX_BadSize
  have m_BadClash := PySem.W.mg_of X G aX_BadClash
  have m_NoStream := PySem.W.mg_of X G aX_NoStream
  have m_BadWish := PySem.W.mg_of X G aX_BadWish
  have m_BadNote := PySem.W.mg_of X G aX_BadNote
  have ek_BadSize : ExK K mg "BadSize" c_BadSize := ⟨m_BadSize, qe_BadSize⟩
  have ek_BadClash : ExK K mg "BadClash" c_BadClash := ⟨m_BadClash, qe_BadClash⟩
  have ek_BadNote : ExK K mg "BadNote" c_BadNote := ⟨m_BadNote, qe_BadNote⟩
  have xi_BadNote : ExI K c_BadNote := ⟨by rw [q_cls_BadNote]; rfl, q_ga_BadNote, q_hk_BadNote, q_at_BadNote, q_gt, q_tk, q_ob_BadNote, q_be_BadNote⟩
  have XN : XNote K mg c_TurnError := by
    refine ⟨fun c hc => ?_, fun x hx c hc => ?_⟩
    · cases (m_BadNote.symm.trans hc)
      refine ⟨xi_BadNote, q_ex_BadNote, fun y hy c2 hc2 => ?_, q_kv_BadNote⟩
      rcases List.mem_cons.mp hy with rfl | hy
      · cases (m_BadSize.symm.trans hc2); exact q_k_BadNote_BadSize
      rcases List.mem_cons.mp hy with rfl | hy
      · cases (m_BadClash.symm.trans hc2); exact q_k_BadNote_BadClash
      rcases List.mem_cons.mp hy with rfl | hy
      · cases (m_NoStream.symm.trans hc2); exact q_k_BadNote_NoStream
      rcases List.mem_cons.mp hy with rfl | hy
      · cases (m_BadWish.symm.trans hc2); exact q_k_BadNote_BadWish
      cases List.mem_singleton.mp hy; cases (m_BadNote.symm.trans hc2); exact q_k_BadNote_BadNote
    · rcases List.mem_cons.mp hx with rfl | hx
      · cases (m_BadSize.symm.trans hc); exact ⟨q_ex_BadSize, qe_BadSize⟩
      · cases List.mem_singleton.mp hx; cases (m_BadClash.symm.trans hc); exact ⟨q_ex_BadClash, qe_BadClash⟩
  have F0 := fun_mk (st := s_check_size) l0 c0 k0
  have b0 := F0.binds (ps := ["streams"]) fun _ _ _ _ _ _ us hl => match us, hl with | [_], _ => rfl
  have F1 := fun_mk (st := s_is_stream) l1 c1 k1
  have b1 := F1.binds (ps := ["streams", "stream"]) fun _ _ _ _ _ _ us hl => match us, hl with | [_, _], _ => rfl
  have F2 := fun_mk (st := s_check_clash) l2 c2 k2
  have b2 := F2.binds (ps := ["streams", "pair"]) fun _ _ _ _ _ _ us hl => match us, hl with | [_, _], _ => rfl
  have F3 := fun_mk (st := s_rising) l3 c3 k3
  have b3 := F3.binds (ps := ["pair"]) fun _ _ _ _ _ _ us hl => match us, hl with | [_], _ => rfl
  have F4 := fun_mk (st := s_Crossing___init__) l4 c4 k4
  have b4 := F4.binds (ps := ["self", "streams", "clashes"]) fun _ _ _ _ _ _ us hl => match us, hl with | [_, _, _], _ => rfl
  have F5 := fun_mk (st := s_Crossing_size) l5 c5 k5
  have b5 := F5.binds (ps := ["self"]) fun _ _ _ _ _ _ us hl => match us, hl with | [_], _ => rfl
  have F6 := fun_mk (st := s_Crossing_clashes) l6 c6 k6
  have b6 := F6.binds (ps := ["self"]) fun _ _ _ _ _ _ us hl => match us, hl with | [_], _ => rfl
  have F7 := fun_mk (st := s_shown_pair) l7 c7 k7
  have b7 := F7.binds (ps := ["pair"]) fun _ _ _ _ _ _ us hl => match us, hl with | [_], _ => rfl
  have F8 := fun_mk (st := s_shown) l8 c8 k8
  have b8 := F8.binds (ps := ["crossing"]) fun _ _ _ _ _ _ us hl => match us, hl with | [_], _ => rfl
  have F9 := fun_mk (st := s_figure_at) l9 c9 k9
  have b9 := F9.binds (ps := ["text", "place"]) fun _ _ _ _ _ _ us hl => match us, hl with | [_, _], _ => rfl
  have F10 := fun_mk (st := s_guessed) l10 c10 k10
  have b10 := F10.binds (ps := ["text"]) fun _ _ _ _ _ _ us hl => match us, hl with | [_], _ => rfl
  have F11 := fun_mk (st := s_read) l11 c11 k11
  have b11 := F11.binds (ps := ["text"]) fun _ _ _ _ _ _ us hl => match us, hl with | [_], _ => rfl
  have F12 := fun_mk (st := s__law_cell_at) l12 c12 k12
  have b12 := F12.binds (ps := ["script", "k"]) fun _ _ _ _ _ _ us hl => match us, hl with | [_, _], _ => rfl
  have F13 := fun_mk (st := s__law_clashes) l13 c13 k13
  have b13 := F13.binds (ps := ["script", "start", "streams"]) fun _ _ _ _ _ _ us hl => match us, hl with | [_, _, _], _ => rfl
  have F14 := fun_mk (st := s__law_ring) l14 c14 k14
  have b14 := F14.binds (ps := ["cell", "streams"]) fun _ _ _ _ _ _ us hl => match us, hl with | [_, _], _ => rfl
  have F15 := fun_mk (st := s__law_shown) l15 c15 k15
  have b15 := F15.binds (ps := ["clashes", "streams"]) fun _ _ _ _ _ _ us hl => match us, hl with | [_, _], _ => rfl
  have F16 := fun_mk (st := s__law_spoiled) l16 c16 k16
  have b16 := F16.binds (ps := ["text", "way", "cell", "other"]) fun _ _ _ _ _ _ us hl => match us, hl with | [_, _, _, _], _ => rfl
  have F17 := fun_mk (st := s__law_odd) l17 c17 k17
  have b17 := F17.binds (ps := ["cell"]) fun _ _ _ _ _ _ us hl => match us, hl with | [_], _ => rfl
  have F18 := fun_mk (st := s__law_due) l18 c18 k18
  have b18 := F18.binds (ps := ["text"]) fun _ _ _ _ _ _ us hl => match us, hl with | [_], _ => rfl
  have F19 := fun_mk (st := s__law_told) l19 c19 k19
  have b19 := F19.binds (ps := ["text"]) fun _ _ _ _ _ _ us hl => match us, hl with | [_], _ => rfl
  have F20 := fun_mk (st := s__law_right) l20 c20 k20
  have b20 := F20.binds (ps := ["text", "due"]) fun _ _ _ _ _ _ us hl => match us, hl with | [_, _], _ => rfl
  have F21 := fun_mk (st := s_law) l21 c21 k21
  have b21 := F21.binds (ps := ["script"]) fun _ _ _ _ _ _ us hl => match us, hl with | [_], _ => rfl
  refine ⟨PySem.W.fnOf "law" "law" (defArgs s_law) (defBody s_law) (defScope s_law) .none kV21 dc21 pm21 an21 cd21 ct21, fun s v => .of_eq rfl, fun base _ _ => ?_⟩
  have d__law_cell_at : Dn l.prog w K mg base "_law_cell_at" ["script", "k"] 1 (spD K CC tCell) := ⟨_, _, ok__law_cell_at (C := CC) B F12, PySem.W.mg_of X G a12, k12, b12⟩
  have d__law_ring : Dn l.prog w K mg base "_law_ring" ["cell", "streams"] 1 (spD K CC tLawRing) := ⟨_, _, ok__law_ring (C := CC) B F14, PySem.W.mg_of X G a14, k14, b14⟩
  have d__law_clashes : Dn l.prog w K mg base "_law_clashes" ["script", "start", "streams"] 2 (spD K CC tLawClashes) := ⟨_, _, ok__law_clashes (C := CC) B d__law_cell_at d__law_ring F13, PySem.W.mg_of X G a13, k13, b13⟩
  have d__law_shown : Dn l.prog w K mg base "_law_shown" ["clashes", "streams"] 1 (spD K CC tLawShown) := ⟨_, _, ok__law_shown (C := CC) B F15, PySem.W.mg_of X G a15, k15, b15⟩
  have d__law_spoiled : Dn l.prog w K mg base "_law_spoiled" ["text", "way", "cell", "other"] 1 (spD K CC tSpoiled) := ⟨_, _, ok__law_spoiled (C := CC) B F16, PySem.W.mg_of X G a16, k16, b16⟩
  have d__law_odd : Dn l.prog w K mg base "_law_odd" ["cell"] 1 (spD K CC tOdd) := ⟨_, _, ok__law_odd (C := CC) B F17, PySem.W.mg_of X G a17, k17, b17⟩
  have d__law_due : Dn l.prog w K mg base "_law_due" ["text"] 1 (spD K CC tDue) := ⟨_, _, ok__law_due (C := CC) B F18, PySem.W.mg_of X G a18, k18, b18⟩
  have d_Crossing_size : DnM l.prog w K mg base CC "size" ["self"] 1 (spD K CC tSize) := ⟨_, _, ok_Crossing_size (C := CC) B CQ F5, ⟨a5, i5, k5⟩, b5⟩
  have d_Crossing_clashes : DnM l.prog w K mg base CC "clashes" ["self"] 1 (spF K CC tClashes) := ⟨_, _, ok_Crossing_clashes (C := CC) B CQ F6, ⟨a6, i6, k6⟩, b6⟩
  have d_shown_pair : Dn l.prog w K mg base "shown_pair" ["pair"] 1 (spD K CC tShownPair) := ⟨_, _, ok_shown_pair (C := CC) B F7, PySem.W.mg_of X G a7, k7, b7⟩
  have d_shown : Dn l.prog w K mg base "shown" ["crossing"] 2 (spD K CC tShown) := ⟨_, _, ok_shown (C := CC) B CQ d_Crossing_size d_Crossing_clashes d_shown_pair F8, PySem.W.mg_of X G a8, k8, b8⟩
  have d_check_size : Dn l.prog w K mg base "check_size" ["streams"] 1 (spD K CC tCheckSize) := ⟨_, _, ok_check_size (C := CC) B g_MOST_STREAMS F0, PySem.W.mg_of X G a0, k0, b0⟩
  have d_is_stream : Dn l.prog w K mg base "is_stream" ["streams", "stream"] 1 (spD K CC tIsStream) := ⟨_, _, ok_is_stream (C := CC) B F1, PySem.W.mg_of X G a1, k1, b1⟩
  have d_check_clash : Dn l.prog w K mg base "check_clash" ["streams", "pair"] 2 (spD K CC tCheckClash) := ⟨_, _, ok_check_clash (C := CC) B d_is_stream F2, PySem.W.mg_of X G a2, k2, b2⟩
  have d_rising : Dn l.prog w K mg base "rising" ["pair"] 1 (spD K CC tRising) := ⟨_, _, ok_rising (C := CC) B F3, PySem.W.mg_of X G a3, k3, b3⟩
  have d_Crossing___init__ : DnI l.prog w K mg base CC "Crossing" ["self", "streams", "clashes"] 3 (spI K CC tMakeC) := ⟨_, _, ok_Crossing___init__ (C := CC) B CQ d_check_size d_check_clash d_rising F4, PySem.W.mg_of X G aC, ⟨mk, a4, i4, kc⟩, b4⟩
  have d_figure_at : Dn l.prog w K mg base "figure_at" ["text", "place"] 1 (spD K CC tFigure) := ⟨_, _, ok_figure_at (C := CC) B g_FIGURES F9, PySem.W.mg_of X G a9, k9, b9⟩
  have d_guessed : Dn l.prog w K mg base "guessed" ["text"] 5 (spD K CC tGuessN) := ⟨_, _, ok_guessed (C := CC) B CQ m_TurnError d_Crossing___init__ d_figure_at F10, PySem.W.mg_of X G a10, k10, b10⟩
  have d_read : Dn l.prog w K mg base "read" ["text"] 6 (spD K CC tReadN) := ⟨_, _, ok_read (C := CC) B d_shown d_guessed F11, PySem.W.mg_of X G a11, k11, b11⟩
  have dg_check_size : L2.DL.G.DnR l.prog w K mg base "check_size" ["streams"] 1 (L2.DL.G.spR K CC mg tCheckSizeR) := ⟨_, _, okg_check_size (C := CC) B g_MOST_STREAMS ek_BadSize F0, PySem.W.mg_of X G a0, k0, b0⟩
  have dg_check_clash : L2.DL.G.DnR l.prog w K mg base "check_clash" ["streams", "pair"] 2 (L2.DL.G.spR K CC mg tCheckClashR) := ⟨_, _, okg_check_clash (C := CC) B ek_BadClash d_is_stream F2, PySem.W.mg_of X G a2, k2, b2⟩
  have dg_Crossing___init__ : L2.DL.G.DnIR l.prog w K mg base CC "Crossing" ["self", "streams", "clashes"] 3 (L2.DL.G.spR K CC mg tMakeR) := ⟨_, _, okg_Crossing___init__ (C := CC) B d_check_size d_check_clash dg_check_size dg_check_clash F4, PySem.W.mg_of X G aC, ⟨mk, a4, i4, kc⟩, b4⟩
  have dr_guessed : DnR l.prog w K mg base "guessed" ["text"] 5 (spR K CC mg tGuessR) := ⟨_, _, okr_guessed (C := CC) B CQ m_TurnError ek_BadNote XN d_figure_at dg_Crossing___init__ F10, PySem.W.mg_of X G a10, k10, b10⟩
  have dr_read : DnR l.prog w K mg base "read" ["text"] 6 (spR K CC mg tReadR) := ⟨_, _, okr_read (C := CC) B ek_BadNote d_shown d_guessed dr_guessed F11, PySem.W.mg_of X G a11, k11, b11⟩
  have d__law_told : Dn l.prog w K mg base "_law_told" ["text"] 7 (spD K CC tTold) := ⟨_, _, ok__law_told (C := CC) B m_BadClash m_BadNote m_BadSize m_BadWish m_NoStream m_TurnError XN d_read dr_read F19, PySem.W.mg_of X G a19, k19, b19⟩
  have d__law_right : Dn l.prog w K mg base "_law_right" ["text", "due"] 8 (spD K CC tRight) := ⟨_, _, ok__law_right (C := CC) B CQ CI m_Crossing d_Crossing_size d_Crossing_clashes d_shown d__law_told F20, PySem.W.mg_of X G a20, k20, b20⟩
  exact law_imp (ok_law (C := CC) B d__law_cell_at d__law_clashes d__law_shown d__law_spoiled d__law_odd d__law_due d__law_right F21)
theorem walk {l : PySem.W.OpenLaw} {q : Program} {loose : List Str} {XP : (Str → Option Value) → Heap → Prop} {YP : World → Heap → Prop} {d : DefRec} {K : Params → PySem.W.Frag} (hn : l.most = some 63) (hdf : d.params.defaults = [])
    (hY : ∀ (w : World) (h : Heap), YP w h → (K w.params).In h)
    (F : ∀ (w : World) (mg : Str → Option Value) (fa : Addr) (h : Heap), (K w.params).In h → h.Ns mainGlobals mg → mg d.name = some (.ref fa) →
      ∃ fd : FuncData, (∀ (s : Shared) (u : Value), BindsTo s fd ⟨[u], []⟩ [("script", u)]) ∧ ∀ base : Heap, (K w.params).In base → base.Ns mainGlobals mg → FnOk l.prog w (K w.params) mg base CX0 9 fa fd ["script"] (spLaw (K w.params))) :
    PySem.W.WalkO q loose XP YP l.row.toRowW d [] (fun f vs => PySem.call f vs) :=
  L2.walk_of (n := 63) (k := 9) (x := "script") (CX := fun _ => CX0) (sp := fun w => spLaw (K w.params)) hn (by decide) hdf ⟨rfl, by decide, by decide⟩ hY F (fun _ _ a ns hl _ hS => law_start hl hS) fun _ _ _ _ _ z => z
end K10
-- the names that these rows take are those of equations of quadratic size, which the head would else lay for the literal heap and trees of the text's top
theorem PySem.W.Fast.tw17671457427124367578 : True := trivial
theorem PySem.W.Fast.tw1854057062456989483 : True := trivial
theorem PySem.W.Fast.tw16432836259738164058 : True := trivial
theorem PySem.W.Fast.tw13013773470203342442 : True := trivial
theorem PySem.W.Fast.tw8106238068389771916 : True := trivial
theorem PySem.W.Fast.tw11048639251569129090 : True := trivial
theorem PySem.W.Fast.tw17784409164604839963 : True := trivial
theorem PySem.W.Fast.tw3460531269953746442 : True := trivial
theorem PySem.W.Fast.tw12673324970858726897 : True := trivial
theorem PySem.W.Fast.tw1101497332275484034 : True := trivial
open PySem PySem.W PyProof.Rows
set_option maxRecDepth 100000 in
set_option maxHeartbeats 0 in
theorem PySem.Challenge.cw_greenturns_k10_texts_read_holds : PySem.Challenge.rw_greenturns_k10_texts_read.Holds := by
  w_on; o_law; k_head; (case hw => w_witness2)
  k_fill
  refine K10.walk (l := PySem.Challenge.rw_greenturns_k10_texts_read) rfl rfl (fun w h Y => PySem.W.kIn_of Y) ?F
  case F =>
    intro w mg fa h KX G hmg
    refine' K10.all_mk KX G hmg ?aN_FIGURES ?aN_MOST_STREAMS ?aC ?pg ?hdC ?po ?sa ?mk ?kc ?naS ?naP ?qc_at ?qc_ob ?aX_TurnError ?aX_BadSize ?aX_BadClash ?aX_NoStream ?aX_BadWish ?aX_BadNote ?qe_BadSize ?q_ex_BadSize ?qe_BadClash ?q_ex_BadClash ?qe_BadNote ?q_ex_BadNote ?q_cls_BadNote ?q_ga_BadNote ?q_hk_BadNote ?q_at_BadNote ?q_ob_BadNote ?q_be_BadNote ?q_kv_BadNote ?q_k_BadNote_BadSize ?q_k_BadNote_BadClash ?q_k_BadNote_NoStream ?q_k_BadNote_BadWish ?q_k_BadNote_BadNote ?q_gt ?q_tk ?a0 ?l0 ?c0 ?k0 ?a1 ?l1 ?c1 ?k1 ?a2 ?l2 ?c2 ?k2 ?a3 ?l3 ?c3 ?k3 ?a4 ?i4 ?l4 ?c4 ?k4 ?a5 ?i5 ?l5 ?c5 ?k5 ?a6 ?i6 ?l6 ?c6 ?k6 ?a7 ?l7 ?c7 ?k7 ?a8 ?l8 ?c8 ?k8 ?a9 ?l9 ?c9 ?k9 ?a10 ?l10 ?c10 ?k10 ?a11 ?l11 ?c11 ?k11 ?a12 ?l12 ?c12 ?k12 ?a13 ?l13 ?c13 ?k13 ?a14 ?l14 ?c14 ?k14 ?a15 ?l15 ?c15 ?k15 ?a16 ?l16 ?c16 ?k16 ?a17 ?l17 ?c17 ?k17 ?a18 ?l18 ?c18 ?k18 ?a19 ?l19 ?c19 ?k19 ?a20 ?l20 ?c20 ?k20 ?a21 ?l21 ?c21 ?k21 ?z_ValueError ?z_isinstance ?z_len ?z_list ?z_max ?z_min ?z_range ?z_reversed ?z_set ?z_sorted ?z_str
    (case aN_FIGURES => k_is)
    (case aN_MOST_STREAMS => k_is)
    (case aC => k_is)
    (case pg => k_is)
    (case hdC => k_is)
    (case po => k_is)
    (case sa => k_is)
    (case mk => k_is)
    (case kc => k_is)
    (case naS => k_is)
    (case naP => k_is)
    (case qc_at => k_is)
    (case qc_ob => k_is)
    (case aX_TurnError => k_is)
    (case aX_BadSize => k_is)
    (case aX_BadClash => k_is)
    (case aX_NoStream => k_is)
    (case aX_BadWish => k_is)
    (case aX_BadNote => k_is)
    (case qe_BadSize => k_exc)
    (case q_ex_BadSize => kts_exm)
    (case qe_BadClash => k_exc)
    (case q_ex_BadClash => kts_exm)
    (case qe_BadNote => k_exc)
    (case q_ex_BadNote => kts_exm)
    (case q_cls_BadNote => k_is)
    (case q_ga_BadNote => k_is)
    (case q_hk_BadNote => k_is)
    (case q_at_BadNote => k_is)
    (case q_ob_BadNote => k_is)
    (case q_be_BadNote => k_is)
    (case q_kv_BadNote => kit_is)
    (case q_k_BadNote_BadSize => kit_is)
    (case q_k_BadNote_BadClash => kit_is)
    (case q_k_BadNote_NoStream => kit_is)
    (case q_k_BadNote_BadWish => kit_is)
    (case q_k_BadNote_BadNote => kit_is)
    (case q_gt => k_is)
    (case q_tk => k_is)
    (case a0 => k_is)
    (case l0 => k_is)
    (case c0 => k_is)
    (case k0 => k_is)
    (case a1 => k_is)
    (case l1 => k_is)
    (case c1 => k_is)
    (case k1 => k_is)
    (case a2 => k_is)
    (case l2 => k_is)
    (case c2 => k_is)
    (case k2 => k_is)
    (case a3 => k_is)
    (case l3 => k_is)
    (case c3 => k_is)
    (case k3 => k_is)
    (case a4 => k_is)
    (case i4 => k_is)
    (case l4 => k_is)
    (case c4 => k_is)
    (case k4 => k_is)
    (case a5 => k_is)
    (case i5 => k_is)
    (case l5 => k_is)
    (case c5 => k_is)
    (case k5 => k_is)
    (case a6 => k_is)
    (case i6 => k_is)
    (case l6 => k_is)
    (case c6 => k_is)
    (case k6 => k_is)
    (case a7 => k_is)
    (case l7 => k_is)
    (case c7 => k_is)
    (case k7 => k_is)
    (case a8 => k_is)
    (case l8 => k_is)
    (case c8 => k_is)
    (case k8 => k_is)
    (case a9 => k_is)
    (case l9 => k_is)
    (case c9 => k_is)
    (case k9 => k_is)
    (case a10 => k_is)
    (case l10 => k_is)
    (case c10 => k_is)
    (case k10 => k_is)
    (case a11 => k_is)
    (case l11 => k_is)
    (case c11 => k_is)
    (case k11 => k_is)
    (case a12 => k_is)
    (case l12 => k_is)
    (case c12 => k_is)
    (case k12 => k_is)
    (case a13 => k_is)
    (case l13 => k_is)
    (case c13 => k_is)
    (case k13 => k_is)
    (case a14 => k_is)
    (case l14 => k_is)
    (case c14 => k_is)
    (case k14 => k_is)
    (case a15 => k_is)
    (case l15 => k_is)
    (case c15 => k_is)
    (case k15 => k_is)
    (case a16 => k_is)
    (case l16 => k_is)
    (case c16 => k_is)
    (case k16 => k_is)
    (case a17 => k_is)
    (case l17 => k_is)
    (case c17 => k_is)
    (case k17 => k_is)
    (case a18 => k_is)
    (case l18 => k_is)
    (case c18 => k_is)
    (case k18 => k_is)
    (case a19 => k_is)
    (case l19 => k_is)
    (case c19 => k_is)
    (case k19 => k_is)
    (case a20 => k_is)
    (case l20 => k_is)
    (case c20 => k_is)
    (case k20 => k_is)
    (case a21 => k_is)
    (case l21 => k_is)
    (case c21 => k_is)
    (case k21 => k_is)
    (case z_ValueError => k_is)
    (case z_isinstance => k_is)
    (case z_len => k_is)
    (case z_list => k_is)
    (case z_max => k_is)
    (case z_min => k_is)
    (case z_range => k_is)
    (case z_reversed => k_is)
    (case z_set => k_is)
    (case z_sorted => k_is)
    (case z_str => k_is)
