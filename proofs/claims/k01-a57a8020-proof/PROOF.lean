import PyProof.Rows.All
import Wide.All
import OpenK.AllK
import Wide.FinOn
import Lean
import PyProof.EqAt
import PyProof.EqKinds
import PyProof.TupleCall
import PyProof.CompFree
import PyProof.P3In
import PyProof.Rows.EqDataRows
import PySem.Challenge.RW_twotimes_k01_names_moments_stretches
set_option Elab.async false
set_option linter.all false
set_option maxRecDepth 100000
/-! THE HAND LAYER, for ints, bools, texts, own classes, LISTS and tuples (index, slices, in, append, pop ..), calls, loops. Paste it whole ahead of your own text; what your proof does not reach may be deleted. -/
namespace L2
open PySem PySem.Spec PyProof.Rows

/-- a key: an int or a str -/
abbrev Key := Sum Int Str
def keyIs : Key → Value → Bool
  | .inl k, v => Value.isInt k v
  | .inr x, v => Value.isStrOf x v
def keyH (w : World) : Key → Int
  | .inl k => hashInt k
  | .inr x => hashStr w x
theorem keyIs_shape : ∀ {k : Key} {v : Value}, keyIs k v = true → (∃ i t, k = Sum.inl i ∧ v = Value.int i t) ∨ (∃ x t, k = Sum.inr x ∧ v = Value.str x t)
  | .inl i, v, h => by
    obtain ⟨t, e⟩ := Value.isInt_shape (k := i) (v := v) h
    exact .inl ⟨i, t, rfl, e⟩
  | .inr x, v, h => by
    obtain ⟨t, e⟩ := Value.isStrOf_shape (x := x) (v := v) h
    exact .inr ⟨x, t, rfl, e⟩
theorem keyIs_int (i : Int) (t : Tok) : keyIs (.inl i) (.int i t) = true := by simp [keyIs, Value.isInt]
theorem keyIs_str (x : Str) (t : Tok) : keyIs (.inr x) (.str x t) = true := by simp [keyIs, Value.isStrOf]
theorem key_ll (a b : Int) : decide ((Sum.inl a : Key) = Sum.inl b) = (a == b) := by
  by_cases e : a = b
  · subst e; simp
  · have h : ¬ (Sum.inl a : Key) = Sum.inl b := fun q => e (Sum.inl.inj q)
    rw [decide_eq_false h]
    exact (beq_eq_false_iff_ne.mpr e).symm
theorem key_rr (a b : Str) : decide ((Sum.inr a : Key) = Sum.inr b) = decide (a = b) := by
  by_cases e : a = b
  · subst e; simp
  · have h : ¬ (Sum.inr a : Key) = Sum.inr b := fun q => e (Sum.inr.inj q)
    rw [decide_eq_false h, decide_eq_false e]
theorem key_lr (a : Int) (b : Str) : decide ((Sum.inl a : Key) = Sum.inr b) = false := decide_eq_false (fun q => nomatch q)
theorem key_rl (a : Str) (b : Int) : decide ((Sum.inr a : Key) = Sum.inl b) = false := decide_eq_false (fun q => nomatch q)

def mixKind (prog : Program) (w : World) : PySem.KeyKind prog w Key where
  is := keyIs
  hash := keyH w
  inj := fun v a b ha hb => by
    rcases keyIs_shape ha with ⟨i, t, rfl, rfl⟩ | ⟨x, t, rfl, rfl⟩
    · rcases keyIs_shape hb with ⟨j, u, rfl, e⟩ | ⟨y, u, rfl, e⟩
      · injection e with e1 _; rw [e1]
      · exact nomatch e
    · rcases keyIs_shape hb with ⟨j, u, rfl, e⟩ | ⟨y, u, rfl, e⟩
      · exact nomatch e
      · injection e with e1 _; rw [e1]
  byValue := fun k v h => by
    rcases keyIs_shape h with ⟨i, t, rfl, rfl⟩ | ⟨x, t, rfl, rfl⟩ <;> rfl
  pyHash := fun hv h => by
    rcases keyIs_shape hv with ⟨i, t, rfl, rfl⟩ | ⟨x, t, rfl, rfl⟩
    · exact wpAny_pyHash_int h
    · exact wpAny_pyHash_str h
  eqBool := fun hu hv h => by
    rcases keyIs_shape hu with ⟨i, t, rfl, rfl⟩ | ⟨x, t, rfl, rfl⟩
    · rcases keyIs_shape hv with ⟨j, u, rfl, rfl⟩ | ⟨y, u, rfl, rfl⟩
      · rw [key_ll] at h; exact wpAny_eqBool_int h
      · rw [key_lr] at h; exact SeqAt.EqAt.int_str i t y u _ _ _ _ h
    · rcases keyIs_shape hv with ⟨j, u, rfl, rfl⟩ | ⟨y, u, rfl, rfl⟩
      · rw [key_rl] at h; exact SeqAt.EqAt.str_int x t j u _ _ _ _ h
      · rw [key_rr] at h; exact wpAny_eqBool_str h
  «strs» := fun k x t v h => by
    rcases keyIs_shape h with ⟨i, u, rfl, e⟩ | ⟨y, u, rfl, e⟩
    · exact nomatch e
    · injection e with e1 _
      subst e1
      cases v <;> rfl

theorem mixKind_is (prog : Program) (w : World) (k : Key) (v : Value) : (mixKind prog w).is k v = keyIs k v := rfl
theorem mixKind_int (prog : Program) (w : World) (i : Int) (t : Tok) : (mixKind prog w).is (.inl i) (.int i t) = true := keyIs_int i t
theorem mixKind_str (prog : Program) (w : World) (x : Str) (t : Tok) : (mixKind prog w).is (.inr x) (.str x t) = true := keyIs_str x t
end L2

namespace L2
open PySem PySem.Spec PyProof.Rows

/-- a value, without the heap -/
inductive V where
  | non | bl (b : Bool) | int (i : Int) | str (x : Str) | byt (b : Array UInt8) | flt (b : UInt64) | ref (a : Addr) | ty (n : String)
  deriving DecidableEq

def RelV : V → Value → Prop
  | .non, u => u = Value.none
  | .bl b, u => u = Value.bool b
  | .int i, u => ∃ t, u = Value.int i t
  | .str x, u => ∃ t, u = Value.str x t
  | .byt b, u => ∃ t, u = Value.bytes b t
  | .flt b, u => ∃ t, u = Value.float b t
  | .ref a, u => u = Value.ref a
  | .ty n, u => u = Value.type n

abbrev Vals : List V → List Value → Prop := Paired RelV
theorem Vals.length {xs : List V} {us : List Value} (r : Vals xs us) : xs.length = us.length := Paired.length r
theorem Vals.get : ∀ {xs : List V} {us : List Value} {i : Nat} {x : V}, Vals xs us → xs[i]? = some x → ∃ u, us[i]? = some u ∧ RelV x u
  | _, _, _, _, .nil, e => by simp at e
  | _, _, 0, _, .cons r _, e => by simp at e; subst e; exact ⟨_, rfl, r⟩
  | _, _, i + 1, x, .cons _ t, e => by
    obtain ⟨u, h1, h2⟩ := Vals.get (i := i) (x := x) t (by simpa using e)
    exact ⟨u, by simpa using h1, h2⟩
theorem Vals.set {x : V} {u : Value} (r : RelV x u) : ∀ {xs : List V} {us : List Value} (i : Nat), Vals xs us → Vals (xs.set i x) (us.set i u)
  | _, _, _, .nil => .nil
  | _, _, 0, .cons _ t => .cons r t
  | _, _, i + 1, .cons q t => .cons q (Vals.set r i t)
theorem Vals.append : ∀ {xs ys : List V} {us ws : List Value}, Vals xs us → Vals ys ws → Vals (xs ++ ys) (us ++ ws)
  | _, _, _, _, .nil, s => s
  | _, _, _, _, .cons r t, s => .cons r (Vals.append t s)
theorem Vals.take : ∀ {xs : List V} {us : List Value} (n : Nat), Vals xs us → Vals (xs.take n) (us.take n)
  | _, _, 0, _ => .nil
  | _, _, _ + 1, .nil => .nil
  | _, _, n + 1, .cons r t => .cons r (Vals.take n t)
theorem Vals.drop : ∀ {xs : List V} {us : List Value} (n : Nat), Vals xs us → Vals (xs.drop n) (us.drop n)
  | _, _, 0, r => r
  | _, _, _ + 1, .nil => .nil
  | _, _, n + 1, .cons _ t => Vals.drop n t
theorem Vals.none_of : ∀ {xs : List V} {us : List Value} {i : Nat}, Vals xs us → xs[i]? = none → us[i]? = none := fun {xs us i} r e => by
  have h1 := r.length
  have h2 : xs.length ≤ i := List.getElem?_eq_none_iff.mp e
  exact List.getElem?_eq_none_iff.mpr (by omega)

def RelO : Option V → Option Value → Prop
  | some v, some u => RelV v u
  | none, none => True
  | _, _ => False
def KV {κ : Type} : List (κ × V) → List (κ × Value) → Prop := Paired fun (p : κ × V) (q : κ × Value) => p.1 = q.1 ∧ RelV p.2 q.2

/-- a key of a dict (00_mix): an int or a text -/
def kV : Key → V
  | .inl i => .int i
  | .inr x => .str x

/-- what stands at a tracked address -/
inductive HO where
  /-- a list -/
  | lst (xs : List V)
  /-- a tuple (never changes) -/
  | tup (xs : List V)
  /-- a dict whose keys are ints and texts; one whose keys are tuples of ints and texts (the empty one is both) -/
  | dK (kvs : List (Key × V)) | dT (kvs : List (List Key × V))
  /-- a set of ints: its members, its size -/
  | set (S : Int → Bool) (n : Nat)
  /-- an instance of the class at C, its dict at dx, its attributes -/
  | ins (C dx : Addr) (fs : List (Str × V))
  /-- the dict of the instance at x -/
  | own (x : Addr)
  /-- the dict of an exception -/
  | xd (fs : List (Str × V))
  /-- a bound method, f of x -/
  | met (f x : Addr)
  /-- a range object lo, lo + 1, .. below hi -/
  | rng (lo hi : Int)
  /-- a thing that is known to the object (the script; a dict while a loop walks it): read, never written while it is so -/
  | frz (o : Obj) (u : HO)
  /-- a code object's table -/
  | tbl (ps : Array Value)
  /-- any other thing, by what is true of its one object (a def of one's own: SetO a S n := HO.ext fun h => ..) -/
  | ext (φ : Heap → Prop)

abbrev Hp := Addr → Option HO
def upd (H : Hp) (a : Addr) (o : HO) : Hp := fun b => if b = a then some o else H b
theorem upd_same {H : Hp} {a : Addr} {o : HO} : upd H a o a = some o := by unfold upd; rw [if_pos rfl]
theorem upd_ne {H : Hp} {a b : Addr} {o : HO} (h : b ≠ a) : upd H a o b = H b := by unfold upd; rw [if_neg h]
theorem upd_upd {H : Hp} {a : Addr} {o u : HO} : upd (upd H a o) a u = upd H a u := by
  funext b; unfold upd; split <;> rfl
/-- two objects of different content stand apart -/
theorem ne_of {H : Hp} {a b : Addr} {o u : HO} (h : H a = some o) (h' : H b = some u) (d : o ≠ u) : a ≠ b := by
  intro e; subst e; rw [h] at h'; exact d (Option.some.inj h')
theorem ne_of_none {H : Hp} {a b : Addr} {o : HO} (h : H a = some o) (h' : H b = none) : a ≠ b := by
  intro e; subst e; rw [h] at h'; cases h'

section
variable (P : Program) (w : World)
def ObjOk (H : Hp) (h : Heap) (a : Addr) : HO → Prop
  | .lst xs => xs.length ≤ sizeLine ∧ ∃ (its : List Value) (n : Nat), Vals xs its ∧ h.get? a = some { cls := .type "list", data := .seq its.toArray n }
  | .tup xs => xs.length ≤ sizeLine ∧ ∃ its : List Value, Vals xs its ∧ IsTup h a its.toArray
  | .dK kvs => kvs.length ≤ sizeLine ∧ (a == sysModules) = false ∧ ∃ vs, KV kvs vs ∧ h.DictOf (mixKind P w) a vs
  | .dT kvs => kvs.length ≤ sizeLine ∧ (a == sysModules) = false ∧ ∃ xs : List (List Key × Addr × Value),
      Paired (fun (p : List Key × V) (q : List Key × Addr × Value) => p.1 = q.1 ∧ H q.2.1 = some (.tup (p.1.map kV)) ∧ RelV p.2 q.2.2) kvs xs ∧
      ∃ o es ep, h.get? a = some o ∧ o.ExactDict ∧ o.data = .dict es ep ∧ es.toList = xs.map (entryOfKey (tupleKind (mixKind P w))) ∧ (xs.map (·.1)).Nodup
  | .set S n => h.SetOf (intKind P w) a S n
  | .ins C dx fs => H dx = some (.own a) ∧ fs.length ≤ 1000 ∧ dx ≠ a ∧ h.get? a = some (PySem.W.instObj C dx) ∧
      ∃ mA, h.Ns1 dx mA ∧ (∀ f, RelO (fs.lookup f) (mA f)) ∧ PySem.Within mA (fs.map (·.1))
  | .own _ => ∃ o, h.get? a = some o
  | .xd fs => ∃ mA, h.Ns1 a mA ∧ ∀ f, RelO (fs.lookup f) (mA f)
  | .rng lo hi => ∃ t u v, h.get? a = some { cls := .type "range", data := .fields #[.int lo t, .int hi u, .int 1 v] }
  | .frz o u => h.get? a = some o ∧ ObjOk H h a u
  | .tbl ps => h.get? a = some { cls := .none, data := .fields ps }
  | .met f x => h.get? a = some (PySem.W.methodObj (.ref f) (.ref x))
  | .ext φ => φ h ∧ (∃ o, h.get? a = some o) ∧ ∀ h1 h2 : Heap, φ h1 → (∀ o, h1.get? a = some o → h2.get? a = some o) → φ h2
/-- the abstract heap is held -/
def HOk (H : Hp) (h : Heap) : Prop := ∀ a o, H a = some o → ObjOk P w H h a o
end

section
variable {P : Program} {w : World} {H H' : Hp} {h h' : Heap} {a : Addr} {o : HO}
theorem ObjOk.lt (x : ObjOk P w H h a o) : a < h.objs.size := by
  cases o with
  | lst xs => obtain ⟨_, _, _, _, e⟩ := x; exact Heap.lt_size e
  | tup xs => obtain ⟨_, _, _, p⟩ := x; exact p.lt
  | dK kvs => obtain ⟨_, _, _, _, o, _, _, e, _⟩ := x; exact Heap.lt_size e
  | dT kvs => obtain ⟨_, _, _, _, o, _, _, e, _⟩ := x; exact Heap.lt_size e
  | set S n => obtain ⟨o, _, _, _, e, _⟩ := x; exact Heap.lt_size e
  | ins C dx fs => obtain ⟨_, _, _, e, _⟩ := x; exact Heap.lt_size e
  | own y => obtain ⟨_, e⟩ := x; exact Heap.lt_size e
  | xd fs => obtain ⟨_, ⟨_, _, _, e, _⟩, _⟩ := x; exact Heap.lt_size e
  | rng lo hi => obtain ⟨_, _, _, e⟩ := x; exact Heap.lt_size e
  | frz ob u => obtain ⟨e, _⟩ := x; exact Heap.lt_size e
  | tbl ps => exact Heap.lt_size (show h.get? a = some _ from x)
  | met f y => exact Heap.lt_size (show h.get? a = some _ from x)
  | ext φ => obtain ⟨_, ⟨_, e⟩, _⟩ := x; exact Heap.lt_size e
theorem Paired.mapP {α β : Type} {F G : α → β → Prop} : ∀ {l₁ : List α} {l₂ : List β}, Paired F l₁ l₂ → (∀ a b, F a b → G a b) → Paired G l₁ l₂
  | _, _, .nil, _ => .nil
  | _, _, .cons r t, f => .cons (f _ _ r) (Paired.mapP t f)
theorem Paired.imp' {α β : Type} {F G : α → β → Prop} (f : ∀ a b, F a b → G a b) {l₁ : List α} {l₂ : List β} (r : Paired F l₁ l₂) : Paired G l₁ l₂ := Paired.mapP r f
/-- what an object's description leans on: its own object, its own dict, the tuples -/
theorem ObjOk.stay (x : ObjOk P w H h a o) (k : ∀ b u, (b = a ∨ H b = some (.own a)) → h.get? b = some u → h'.get? b = some u)
    (ho : ∀ b, H b = some (.own a) → H' b = some (.own a)) (ht : ∀ b xs, H b = some (.tup xs) → H' b = some (.tup xs)) : ObjOk P w H' h' a o := by
  induction o with
  | lst xs => obtain ⟨z, its, n, r, e⟩ := x; exact ⟨z, its, n, r, k _ _ (.inl rfl) e⟩
  | tup xs => obtain ⟨z, its, r, ob, e, c⟩ := x; exact ⟨z, its, r, ob, k _ _ (.inl rfl) e, c⟩
  | dK kvs => obtain ⟨z, y, vs, r, ob, es, ep, e, c⟩ := x; exact ⟨z, y, vs, r, ob, es, ep, k _ _ (.inl rfl) e, c⟩
  | dT kvs =>
    obtain ⟨z, y, xs, r, ob, es, ep, e, c⟩ := x
    exact ⟨z, y, xs, Paired.mapP r fun p q z => ⟨z.1, ht _ _ z.2.1, z.2.2⟩, ob, es, ep, k _ _ (.inl rfl) e, c⟩
  | set S n => obtain ⟨ob, es, ep, t, e, c⟩ := x; exact ⟨ob, es, ep, t, k _ _ (.inl rfl) e, c⟩
  | ins C dx fs =>
    obtain ⟨d, z, ne, e, mA, ⟨od, es, ep, e2, c⟩, r⟩ := x
    exact ⟨ho _ d, z, ne, k _ _ (.inl rfl) e, mA, ⟨od, es, ep, k _ _ (.inr d) e2, c⟩, r⟩
  | own y => obtain ⟨ob, e⟩ := x; exact ⟨ob, k _ _ (.inl rfl) e⟩
  | xd fs => obtain ⟨mA, ⟨od, es, ep, e, c⟩, r⟩ := x; exact ⟨mA, ⟨od, es, ep, k _ _ (.inl rfl) e, c⟩, r⟩
  | rng lo hi => obtain ⟨t, u, v, e⟩ := x; exact ⟨t, u, v, k _ _ (.inl rfl) e⟩
  | frz ob u ih => obtain ⟨e, q⟩ := x; exact ⟨k _ _ (.inl rfl) e, ih q⟩
  | tbl ps =>
    have e : h.get? a = some { cls := .none, data := .fields ps } := x
    show h'.get? a = some { cls := .none, data := .fields ps }
    exact k a _ (.inl rfl) e
  | met f y =>
    have e : h.get? a = some (PySem.W.methodObj (.ref f) (.ref y)) := x
    show h'.get? a = some (PySem.W.methodObj (.ref f) (.ref y))
    exact k a _ (.inl rfl) e
  | ext φ => obtain ⟨p, ⟨o, e⟩, st⟩ := x; exact ⟨st _ _ p fun o q => k _ _ (.inl rfl) q, ⟨o, k _ _ (.inl rfl) e⟩, st⟩
theorem HOk.lt (x : HOk P w H h) (e : H a = some o) : a < h.objs.size := (x a o e).lt
theorem HOk.fresh (x : HOk P w H h) (e : h.objs.size ≤ a) : H a = none := by
  cases q : H a with
  | none => rfl
  | some u => exact absurd (Nat.lt_of_lt_of_le (x.lt q) e) (Nat.lt_irrefl _)
/-- every object of the heap is kept -/
theorem HOk.kept (x : HOk P w H h) (k : ∀ b u, h.get? b = some u → h'.get? b = some u) : HOk P w H h' := fun a o e =>
  (x a o e).stay (fun b u _ q => k b u q) (fun _ q => q) fun _ _ q => q
/-- a new object is laid and tracked -/
theorem HOk.laid (x : HOk P w H h) (k : ∀ b u, h.get? b = some u → h'.get? b = some u) (hp : h.objs.size ≤ a) (new : ObjOk P w (upd H a o) h' a o) : HOk P w (upd H a o) h' := fun b u e => by
  have hn := x.fresh hp
  by_cases hb : b = a
  · subst hb; rw [upd_same] at e; cases e; exact new
  · rw [upd_ne hb] at e
    exact (x b u e).stay (fun c v _ q => k c v q) (fun c q => by rw [upd_ne (ne_of_none q hn)]; exact q) fun c xs q => by rw [upd_ne (ne_of_none q hn)]; exact q
end

/-- what may be read as u: it is u, or a known u -/
def Rd (H : Hp) (a : Addr) (u : HO) : Prop := H a = some u ∨ ∃ o, H a = some (.frz o u)
theorem Rd.of {H : Hp} {a : Addr} {u : HO} (h : H a = some u) : Rd H a u := .inl h
theorem Rd.ok {P : Program} {w : World} {H : Hp} {h : Heap} {a : Addr} {u : HO} (r : Rd H a u) (x : HOk P w H h) : ObjOk P w H h a u := by
  rcases r with r | ⟨o, r⟩
  · exact x a u r
  · obtain ⟨_, q⟩ := x a _ r
    exact q
/-- what may be written -/
def Mut : Option HO → Prop
  | some (.lst _) => True
  | some (.dK _) => True
  | some (.dT _) => True
  | some (.set _ _) => True
  | some (.ins _ _ _) => True
  | some (.ext _) => True
  | _ => False
section
variable {P : Program} {w : World} {H : Hp} {h h' : Heap} {x e : Addr} {o' : HO}
/-- the object at e is changed: x itself, or the dict of the instance x -/
theorem HOk.write (ok : HOk P w H h) (mu : Mut (H x)) (he : e = x ∨ H e = some (.own x)) (k : ∀ b u, b ≠ e → h.get? b = some u → h'.get? b = some u) (heo : ∃ u, h'.get? e = some u)
    (new : ObjOk P w (upd H x o') h' x o') : HOk P w (upd H x o') h' := fun b u q => by
  have nown : ∀ c y, H c = some (.own y) → c ≠ x := fun c y r z => by subst z; rw [r] at mu; exact mu
  have ntup : ∀ c xs, H c = some (.tup xs) → c ≠ x := fun c xs r z => by subst z; rw [r] at mu; exact mu
  by_cases hb : b = x
  · subst hb; rw [upd_same] at q; cases q; exact new
  · rw [upd_ne hb] at q
    by_cases hbe : b = e
    · have q' : H b = some (.own x) := by
        rcases he with z | z
        · exact absurd (hbe.trans z) hb
        · rw [hbe]; exact z
      rw [q] at q'; cases q'
      obtain ⟨v, hv⟩ := heo
      exact ⟨v, by rw [hbe]; exact hv⟩
    · refine (ok b u q).stay (fun c v hc r => k c v ?_ r) (fun c r => by rw [upd_ne (nown c b r)]; exact r) fun c xs r => by rw [upd_ne (ntup c xs r)]; exact r
      rcases hc with rfl | hc
      · exact hbe
      · rintro rfl
        rcases he with z | z
        · exact nown c b hc z
        · rw [hc] at z; cases z; exact hb rfl
end

/-! ### kept unless tracked; of the frames at fs (the callers') the slots may change (an exception that passes writes there); of the records at ex (iterators) nothing is said -/
structure Un (fs ex : List Addr) (H H' : Hp) (h h' : Heap) : Prop where
  keep : ∀ b o, h.get? b = some o → H b = none → b ∉ fs → b ∉ ex → h'.get? b = some o
  slot : ∀ b o, h.get? b = some o → H b = none → b ∈ fs → b ∉ ex → ∃ sl, h'.get? b = some { o with slots := sl }
  free : ∀ b o, h.get? b = some o → H b = none → b ∉ ex → H' b = none
  there : ∀ b o, h.get? b = some o → b ∉ ex → ∃ o', h'.get? b = some o'
  tups : ∀ b xs, H b = some (.tup xs) → H' b = some (.tup xs)
  frzs : ∀ b o u, H b = some (.frz o u) → H' b = some (.frz o u)
  tbls : ∀ b ps, H b = some (.tbl ps) → ∃ more, H' b = some (.tbl (ps ++ more))
section
variable {fs fs' ex ex' : List Addr} {H H1 H2 : Hp} {h h1 h2 h' : Heap} {a x e : Addr} {o : HO}
theorem Un.any (u : Un fs ex H H1 h h1) {b : Addr} {ob : Obj} (q : h.get? b = some ob) (n : H b = none) (hx : b ∉ ex) : ∃ sl, h1.get? b = some { ob with slots := sl } := by
  by_cases hb : b ∈ fs
  · exact u.slot b ob q n hb hx
  · exact ⟨ob.slots, u.keep b ob q n hb hx⟩
theorem Un.trans (a : Un fs ex H H1 h h1) (b : Un fs ex H1 H2 h1 h2) : Un fs ex H H2 h h2 where
  keep := fun c ob q n hc hx => b.keep c ob (a.keep c ob q n hc hx) (a.free c ob q n hx) hc hx
  slot := fun c ob q n hc hx => by
    obtain ⟨sl, e1⟩ := a.slot c ob q n hc hx
    obtain ⟨sl', e2⟩ := b.slot c _ e1 (a.free c ob q n hx) hc hx
    exact ⟨sl', e2⟩
  free := fun c ob q n hx => by
    obtain ⟨o', e1⟩ := a.there c ob q hx
    exact b.free c o' e1 (a.free c ob q n hx) hx
  there := fun c ob q hx => by
    obtain ⟨o', e1⟩ := a.there c ob q hx
    exact b.there c o' e1 hx
  tups := fun c xs q => b.tups c xs (a.tups c xs q)
  frzs := fun c ob xs q => b.frzs c ob xs (a.frzs c ob xs q)
  tbls := fun c ps q => by
    obtain ⟨m1, e1⟩ := a.tbls c ps q
    obtain ⟨m2, e2⟩ := b.tbls c _ e1
    exact ⟨m1 ++ m2, by rw [e2, Array.append_assoc]⟩
theorem Un.kept (k : ∀ b u, h.get? b = some u → h'.get? b = some u) : Un fs ex H H h h' :=
  ⟨fun b ob q _ _ _ => k b ob q, fun b ob q _ _ _ => ⟨ob.slots, k b ob q⟩, fun _ _ _ n _ => n, fun b ob q _ => ⟨ob, k b ob q⟩, fun _ _ q => q, fun _ _ _ q => q, fun _ ps q => ⟨#[], by rw [q]; simp⟩⟩
theorem Un.refl : Un fs ex H H h h := Un.kept fun _ _ q => q
theorem Un.laid (k : ∀ b u, h.get? b = some u → h'.get? b = some u) (hp : h.objs.size ≤ a) (hn : H a = none) : Un fs ex H (upd H a o) h h' where
  keep := fun b u q _ _ _ => k b u q
  slot := fun b u q _ _ _ => ⟨u.slots, k b u q⟩
  free := fun b u q n _ => by rw [upd_ne (Nat.ne_of_lt (Nat.lt_of_lt_of_le (Heap.lt_size q) hp))]; exact n
  there := fun b u q _ => ⟨u, k b u q⟩
  tups := fun b xs q => by rw [upd_ne (ne_of_none q hn)]; exact q
  frzs := fun b u xs q => by rw [upd_ne (ne_of_none q hn)]; exact q
  tbls := fun b ps q => ⟨#[], by rw [upd_ne (ne_of_none q hn), q]; simp⟩
theorem Un.write (mu : Mut (H x)) (he : e = x ∨ H e = some (.own x)) (k : ∀ b u, b ≠ e → h.get? b = some u → h'.get? b = some u) (heo : ∃ u, h'.get? e = some u) : Un fs ex H (upd H x o) h h' := by
  have hx : ∀ b, H b = none → b ≠ x := fun b n z => by subst z; rw [n] at mu; exact mu
  have hb : ∀ b, H b = none → b ≠ e := fun b n z => by
    subst z
    rcases he with r | r
    · exact hx b n r
    · rw [n] at r; cases r
  have hm : ∀ b u, H b = some u → ¬ Mut (some u) → b ≠ x := fun b u q nm z => by subst z; rw [q] at mu; exact nm mu
  refine ⟨fun b u q n _ _ => k b u (hb b n) q, fun b u q n _ _ => ⟨u.slots, k b u (hb b n) q⟩, fun b u q n _ => by rw [upd_ne (hx b n)]; exact n, fun b u q _ => ?_,
    fun b xs q => by rw [upd_ne (hm b _ q fun z => z)]; exact q, fun b u xs q => by rw [upd_ne (hm b _ q fun z => z)]; exact q, fun b ps q => ⟨#[], by rw [upd_ne (hm b _ q fun z => z), q]; simp⟩⟩
  by_cases hbe : b = e
  · subst hbe; exact heo
  · exact ⟨u, k b u hbe q⟩
theorem Un.mono (u : Un fs ex H H1 h h1) (hs : ∀ b ∈ fs, b ∈ fs') (hx : ∀ b ∈ ex, b ∈ ex') : Un fs' ex' H H1 h h1 :=
  ⟨fun b ob q n hb he => u.keep b ob q n (fun z => hb (hs b z)) fun z => he (hx b z), fun _ _ q n _ he => u.any q n fun z => he (hx _ z), fun b ob q n he => u.free b ob q n fun z => he (hx b z), fun b ob q he => u.there b ob q fun z => he (hx b z), u.tups, u.frzs, u.tbls⟩
end

/-! ### the heap without what is tracked -/
def trk (h : Heap) (H : Hp) : List Addr := (List.range h.objs.size).filter fun a => (H a).isSome
def hidT (h : Heap) (H : Hp) : Heap := PySem.W.hideAll h (trk h H)
theorem hidT_size (h : Heap) (H : Hp) : (hidT h H).objs.size = h.objs.size := PySem.W.hideAll_size _ _
theorem hidT_get {h : Heap} {H : Hp} {b : Addr} {o : Obj} (e : h.get? b = some o) (n : H b = none) : (hidT h H).get? b = some o :=
  PySem.W.hideAll_get _ e fun hm => by
    have q : (H b).isSome = true := (List.mem_filter.mp hm).2
    rw [n] at q; simp at q
theorem of_hidT {h : Heap} {H : Hp} {b : Addr} {o : Obj} (e : (hidT h H).get? b = some o) : h.get? b = some o ∧ H b = none := by
  have e' : h.get? b = some o := PySem.W.of_hideAll (trk h H) e
  refine ⟨e', ?_⟩
  cases q : H b with
  | none => rfl
  | some x =>
    have hm : b ∈ trk h H := List.mem_filter.mpr ⟨List.mem_range.mpr (Heap.lt_size e'), by simp [q]⟩
    have z : (hidT h H).get? b = none := PySem.W.hideAll_none (trk h H) hm
    rw [z] at e; cases e

/-! ### OpenK's ledger, filled with every new object but one -/
def allNews (g h : Heap) (L : Addr) : List (Addr × Obj) := (List.range h.objs.size).filterMap fun a => if a = L ∨ (g.get? a).isSome = true then none else (h.get? a).map fun o => (a, o)
theorem mem_allNews {g h : Heap} {L a : Addr} {o : Obj} (h1 : a ≠ L) (h2 : g.get? a = none) (h3 : h.get? a = some o) : (a, o) ∈ allNews g h L :=
  List.mem_filterMap.mpr ⟨a, List.mem_range.mpr (Heap.lt_size h3), by simp [h1, h2, h3]⟩
theorem of_mem_allNews {g h : Heap} {L : Addr} {p : Addr × Obj} (hp : p ∈ allNews g h L) : p.1 ≠ L ∧ g.get? p.1 = none ∧ h.get? p.1 = some p.2 := by
  obtain ⟨b, _, e⟩ := List.mem_filterMap.mp hp
  split at e
  · cases e
  · rename_i hn
    cases q : h.get? b with
    | none => rw [q] at e; simp at e
    | some u =>
      rw [q] at e
      simp only [Option.map_some, Option.some.injEq] at e
      subst e
      refine ⟨fun z => hn (.inl z), ?_, q⟩
      show g.get? b = none
      cases r : g.get? b with
      | none => rfl
      | some v => exact (hn (.inr (by simp [r]))).elim
def rest (g h : Heap) (L d : Addr) : List (Addr × Obj) := (allNews g h L).filter fun p => decide (p.1 ≠ d)
theorem rest_ne {g h : Heap} {L d : Addr} : ∀ p ∈ rest g h L d, p.1 ≠ d := fun p hp => of_decide_eq_true (List.mem_filter.mp hp).2
theorem mem_rest {g h : Heap} {L d a : Addr} {o : Obj} (h1 : a ≠ L) (h2 : g.get? a = none) (h3 : h.get? a = some o) (h4 : a ≠ d) : (a, o) ∈ rest g h L d :=
  List.mem_filter.mpr ⟨mem_allNews h1 h2 h3, decide_eq_true h4⟩
theorem news_all {g h : Heap} {L : Addr} : News g L h (allNews g h L) := fun p hp => let ⟨a, b, c⟩ := of_mem_allNews hp; ⟨c, a, b⟩
theorem news_at {g h : Heap} {L d : Addr} {o : Obj} (h1 : d ≠ L) (h2 : g.get? d = none) (h3 : h.get? d = some o) : News g L h ((d, o) :: rest g h L d) := fun p hp => by
  rcases List.mem_cons.mp hp with rfl | hp
  · exact ⟨h3, h1, h2⟩
  · exact news_all p (List.mem_filter.mp hp).1
/-- behind a rule that changed d alone: all else but the frame is kept -/
theorem kept_of_news {g h h' : Heap} {L d : Addr} {m : Str → Option Value} (k : ∀ b o, g.get? b = some o → h.get? b = some o) (F : Fr g L h' m) (N : News g L h' (rest g h L d)) :
    ∀ b o, b ≠ L → b ≠ d → h.get? b = some o → h'.get? b = some o := fun b o h1 h2 e => by
  cases q : g.get? b with
  | some u =>
    have := k b u q
    rw [e] at this; cases this
    exact F.keep b _ q
  | none => exact (N (b, o) (mem_rest h1 q e h2)).1
end L2

namespace L2
open PySem PySem.Spec PyProof.Rows

/-- the module's facts, over the base: the heap at the law's entry without what is tracked there -/
structure Mod (K : PySem.W.Frag) (mg : Str → Option Value) (base : Heap) : Prop where
  kin : K.In base
  glob : base.Ns mainGlobals mg
  blt : ∃ mb, base.Ns builtinsNs mb ∧ ∀ x : Str, x ≠ "__name__" → mb x = bootBuiltins x
  nolimit : base.NoLimit

/-- the context: a def's body (or a comprehension's block) running. base: fixed through the whole law; s₀, H₀: the entry; outer: the frames whose slots others may change (a def's callers); stack: all frames that run;
   ex: iterators that were made ahead of the entry and are walked here (a comprehension's); fn: the names whose cells were made at the entry (a def: all; a comprehension's block: its own); calm: not within an except suite; pn: pins that every state bears; xe: what is wanted of an exception that leaves the code -/
structure Cx where
  prog : Program
  w : World
  K : PySem.W.Frag
  mg : Str → Option Value
  base : Heap
  A : Around
  N : List Str
  s₀ : Shared
  H₀ : Hp
  env : Env
  outer : List Env
  stack : List Env
  ex : List Addr
  fn : Str → Bool
  calm : Bool
  pn : List (Addr × Obj)
  xe : Value → Shared → Prop
/-- the callers' frames -/
def frs (l : List Env) : List Addr := l.filterMap (·.frame)
abbrev Cx.fs (X : Cx) : List Addr := frs X.outer

def Vis (sc : Scope) (x : Str) : Prop := sc.names.lookup x = some .local ∨ sc.names.lookup x = some .cell ∨ sc.names.lookup x = some .free
def Loc (sc : Scope) (x : Str) : Prop := sc.names.lookup x = some .local ∨ sc.names.lookup x = some .cell
def Look (env : Env) (h : Heap) (m : Str → Option Value) (x : Str) (u : Value) : Prop :=
  (env.kindOf x = some .local ∧ m x = some u) ∨ ((env.kindOf x = some .cell ∨ env.kindOf x = some .free) ∧ ∃ c, env.cells.lookup x = some c ∧ h.IsCell c (some u))

structure Cx.Ok (X : Cx) : Prop where
  mod : Mod X.K X.mg X.base
  kind : X.env.scope.kind = .function
  glob : X.env.globals = mainGlobals
  blt : X.env.builtins = builtinsNs
  above : X.s₀.heap.objs.size ≤ X.env.locals
  inj : ∀ x y c, X.env.cells.lookup x = some c → X.env.cells.lookup y = some c → x = y
  has : ∀ x, (X.env.kindOf x = some .cell ∨ X.env.kindOf x = some .free) → ∃ c, X.env.cells.lookup x = some c
  cab : ∀ x c, X.fn x = true → X.env.cells.lookup x = some c → X.s₀.heap.objs.size ≤ c
  hd : X.calm = true → X.A.handled = none
  frames : X.A.frames = some X.stack
  stk : X.stack = X.outer ∨ (X.stack = X.env :: X.outer ∧ X.env.frame = some X.env.locals)
  exf : ∀ b ∈ X.ex, b ≠ X.env.locals ∧ ∀ x c, X.env.cells.lookup x = some c → c ≠ b
  bs : ∀ b o, X.base.get? b = some o → X.s₀.heap.get? b = some o ∧ X.H₀ b = none
  bsz : X.base.objs.size ≤ X.s₀.heap.objs.size
  noex : ∀ b o, X.base.get? b = some o → b ∉ X.ex
  exfs : ∀ b ∈ X.ex, b ∉ X.fs
  funs : X.s₀.heap.FunFrames X.base X.outer
  frf : ∀ b ∈ X.fs, X.H₀ b = none

structure Inv (X : Cx) (pins : List (Addr × Obj)) (σ : List (Option V)) (H : Hp) (s : Shared) : Prop where
  ok : X.Ok
  os : s.os = X.s₀.os
  bare : AllBare s.gens
  base : Un X.fs X.ex X.H₀ H X.s₀.heap s.heap
  loc : ∃ m, s.heap.Ns X.env.locals m ∧ ∀ (i : Nat) (x : Str) (v : V), X.N[i]? = some x → σ[i]? = some (some v) → Vis X.env.scope x → ∃ u, RelV v u ∧ Look X.env s.heap m x u
  cell : ∀ x c, X.env.cells.lookup x = some c → ∃ v, s.heap.IsCell c v
  free : H X.env.locals = none
  freeC : ∀ x c, X.env.cells.lookup x = some c → H c = none
  pin : ∀ p ∈ X.pn ++ pins, s.heap.get? p.1 = some p.2 ∧ H p.1 = none ∧ p.1 ≠ X.env.locals ∧ p.1 ∉ X.fs ∧ ∀ v, p.2.data ≠ .cell v
  hok : HOk X.prog X.w H s.heap
  len : σ.length = X.N.length

section
variable {X : Cx} {pins : List (Addr × Obj)} {σ : List (Option V)} {H H' : Hp} {s : Shared} {h' : Heap}

theorem Cx.Ok.nofr (ok : X.Ok) {b : Addr} {o : Obj} (e : X.base.get? b = some o) : b ∉ X.fs := fun hb => by
  have := (ok.funs.mem hb).1
  rw [e] at this; cases this
theorem Inv.bs (I : Inv X pins σ H s) : ∀ b o, X.base.get? b = some o → s.heap.get? b = some o ∧ H b = none := fun b o e =>
  ⟨I.base.keep b o (I.ok.bs b o e).1 (I.ok.bs b o e).2 (I.ok.nofr e) (I.ok.noex b o e), I.base.free b o (I.ok.bs b o e).1 (I.ok.bs b o e).2 (I.ok.noex b o e)⟩
theorem Inv.bk (I : Inv X pins σ H s) : ∀ b o, X.base.get? b = some o → s.heap.get? b = some o := fun b o e => (I.bs b o e).1
theorem Inv.mod (I : Inv X pins σ H s) : Mod X.K X.mg X.base := I.ok.mod
theorem Inv.kIn (I : Inv X pins σ H s) : X.K.In s.heap := I.ok.mod.kin.keeps I.bk
theorem Inv.nolimit (I : Inv X pins σ H s) : s.heap.NoLimit := I.ok.mod.nolimit.keeps I.bk
/-- the frame over the base: for OpenK's rules (K.In X.base is I.mod.kin) -/
theorem Inv.fr (I : Inv X pins σ H s) : ∃ m, Fr X.base X.env.locals s.heap m :=
  let ⟨m, hn, _⟩ := I.loc
  ⟨m, hn, I.bk, Nat.le_trans I.ok.bsz I.ok.above⟩
theorem Inv.lt (I : Inv X pins σ H s) : X.env.locals < s.heap.objs.size := let ⟨_, hn, _⟩ := I.loc; hn.lt
theorem Inv.sz (I : Inv X pins σ H s) : X.s₀.heap.objs.size ≤ s.heap.objs.size := Nat.le_trans I.ok.above (Nat.le_of_lt I.lt)
theorem Inv.nofs (I : Inv X pins σ H s) {a : Addr} (h : s.heap.objs.size ≤ a) : a ∉ X.fs := fun hb => by
  obtain ⟨_, o, ho, _⟩ := I.ok.funs.mem hb
  exact absurd (Nat.lt_of_lt_of_le (Heap.lt_size ho) (Nat.le_trans I.sz h)) (Nat.lt_irrefl _)
theorem Inv.cne (I : Inv X pins σ H s) : ∀ x c, X.env.cells.lookup x = some c → c ≠ X.env.locals := fun x c e z => by
  obtain ⟨v, o, ho, hd⟩ := I.cell x c e
  obtain ⟨m, ⟨o', es, ep, ho', hd', _⟩, _⟩ := I.loc
  rw [z, ho'] at ho; cases ho; rw [hd'] at hd; cases hd
theorem Inv.funs (I : Inv X pins σ H s) : s.heap.FunFrames X.base X.outer := by
  have all : ∀ (l : List Env), (∀ b ∈ frs l, b ∈ X.fs) → X.s₀.heap.FunFrames X.base l → s.heap.FunFrames X.base l := by
    intro l
    induction l with
    | nil => intro _ _; trivial
    | cons env r ih =>
      intro hs hl
      obtain ⟨hk, ⟨L, o, hf, hn, ho, hd⟩, hr⟩ := hl
      have hL : L ∈ X.fs := hs L (by unfold frs; rw [List.filterMap_cons, hf]; exact List.mem_cons_self)
      obtain ⟨sl, e⟩ := I.base.slot L o ho (I.ok.frf L hL) hL fun z => I.ok.exfs L z hL
      exact ⟨hk, ⟨L, _, hf, hn, e, hd⟩, ih (fun b hb => hs b (by unfold frs; rw [List.filterMap_cons, hf]; exact List.mem_cons_of_mem _ hb)) hr⟩
  exact all X.outer (fun _ hb => hb) I.ok.funs

/-- the frames that run, for a call -/
theorem Inv.stack (I : Inv X pins σ H s) : s.heap.FunFrames X.base X.stack := by
  rcases I.ok.stk with e | ⟨e, hf⟩
  · rw [e]; exact I.funs
  · rw [e]
    obtain ⟨m, hn, _⟩ := I.loc
    refine .cons (by rw [I.ok.kind]; decide) hf hn ?_ I.funs
    exact Heap.get?_none_of_le (Nat.le_trans I.ok.bsz I.ok.above)
theorem Inv.stkSub (I : Inv X pins σ H s) : ∀ b ∈ frs X.stack, b ∈ X.env.locals :: X.fs := fun b hb => by
  rcases I.ok.stk with e | ⟨e, hf⟩
  · rw [e] at hb; exact List.mem_cons_of_mem _ hb
  · rw [e] at hb
    unfold frs at hb
    rw [List.filterMap_cons, hf] at hb
    exact hb
theorem Inv.stkFree (I : Inv X pins σ H s) : ∀ b ∈ frs X.stack, H b = none := fun b hb => by
  rcases List.mem_cons.mp (I.stkSub b hb) with e | hb
  · rw [e]; exact I.free
  · obtain ⟨_, o, ho, _⟩ := I.ok.funs.mem hb
    exact I.base.free b o ho (I.ok.frf b hb) fun z => I.ok.exfs b z hb

/-- THE STEP: the untracked objects but the frame and the records at ch are kept (the callers' frames up to slots), the frame's map is kept, the new abstract heap is held -/
theorem Inv.step {g' : Array GenState} {t' : Nat} {d' : Drawn} {ch : List Addr} (I : Inv X pins σ H s)
    (hch : ∀ b ∈ ch, (b ∈ X.ex ∨ X.s₀.heap.objs.size ≤ b) ∧ b ≠ X.env.locals ∧ (∀ x c, X.env.cells.lookup x = some c → c ≠ b) ∧ ∀ p ∈ X.pn ++ pins, p.1 ≠ b)
    (keep : ∀ b o, b ≠ X.env.locals → b ∉ X.fs → b ∉ ch → s.heap.get? b = some o → H b = none → h'.get? b = some o)
    (slot : ∀ b o, b ≠ X.env.locals → b ∈ X.fs → b ∉ ch → s.heap.get? b = some o → H b = none → ∃ sl, h'.get? b = some { o with slots := sl }) (free : ∀ b o, b ∉ ch → s.heap.get? b = some o → H b = none → H' b = none)
    (there : ∀ b o, b ∉ ch → s.heap.get? b = some o → ∃ o', h'.get? b = some o')
    (tups : ∀ b xs, H b = some (.tup xs) → H' b = some (.tup xs)) (frzs : ∀ b o u, H b = some (.frz o u) → H' b = some (.frz o u)) (tbls : ∀ b ps, H b = some (.tbl ps) → ∃ more, H' b = some (.tbl (ps ++ more)))
    (ns : ∀ m, s.heap.Ns X.env.locals m → h'.Ns X.env.locals m) (hok : HOk X.prog X.w H' h') (hg : AllBare g') :
    Inv X pins σ H' { s with heap := h', gens := g', drawn := d', toks := t' } := by
  have neL : ∀ b o, X.s₀.heap.get? b = some o → b ≠ X.env.locals := fun b o e => Nat.ne_of_lt (Nat.lt_of_lt_of_le (Heap.lt_size e) I.ok.above)
  have neC : ∀ b o, X.s₀.heap.get? b = some o → b ∉ X.ex → b ∉ ch := fun b o e hx hb => by
    rcases (hch b hb).1 with z | z
    · exact hx z
    · exact absurd (Nat.lt_of_lt_of_le (Heap.lt_size e) z) (Nat.lt_irrefl _)
  have cellK : ∀ x c, X.env.cells.lookup x = some c → ∀ v, s.heap.IsCell c v → h'.IsCell c v := fun x c e v ⟨o, ho, hd⟩ => by
    have nch : c ∉ ch := fun z => (hch c z).2.2.1 x c e rfl
    by_cases hc : c ∈ X.fs
    · obtain ⟨sl, q⟩ := slot c o (I.cne x c e) hc nch ho (I.freeC x c e)
      exact ⟨_, q, hd⟩
    · exact ⟨o, keep c o (I.cne x c e) hc nch ho (I.freeC x c e), hd⟩
  refine ⟨I.ok, I.os, hg, ⟨fun b o e n hb hx => ?_, fun b o e n hb hx => ?_, fun b o e n hx => ?_, fun b o e hx => ?_, fun b xs e => tups b xs (I.base.tups b xs e), fun b o xs e => frzs b o xs (I.base.frzs b o xs e), fun b ps e => ?_⟩, ?_, fun x c e => ?_, ?_, fun x c e => ?_, fun p hp => ?_, hok, I.len⟩
  · exact keep b o (neL b o e) hb (neC b o e hx) (I.base.keep b o e n hb hx) (I.base.free b o e n hx)
  · obtain ⟨sl, e1⟩ := I.base.slot b o e n hb hx
    obtain ⟨sl', e2⟩ := slot b _ (neL b o e) hb (neC b o e hx) e1 (I.base.free b o e n hx)
    exact ⟨sl', e2⟩
  · obtain ⟨o', e1⟩ := I.base.there b o e hx
    exact free b o' (neC b o e hx) e1 (I.base.free b o e n hx)
  · obtain ⟨o', e1⟩ := I.base.there b o e hx
    exact there b o' (neC b o e hx) e1
  · obtain ⟨m1, e1⟩ := I.base.tbls b ps e
    obtain ⟨m2, e2⟩ := tbls b _ e1
    exact ⟨m1 ++ m2, by rw [e2, Array.append_assoc]⟩
  · obtain ⟨m, hn, hl⟩ := I.loc
    refine ⟨m, ns m hn, fun i x v e1 e2 e3 => ?_⟩
    obtain ⟨u, r, l⟩ := hl i x v e1 e2 e3
    refine ⟨u, r, ?_⟩
    rcases l with l | ⟨k, c, e, z⟩
    · exact .inl l
    · exact .inr ⟨k, c, e, cellK x c e _ z⟩
  · obtain ⟨v, z⟩ := I.cell x c e
    exact ⟨v, cellK x c e v z⟩
  · obtain ⟨m, ⟨o, _, _, ho, _⟩, _⟩ := I.loc
    exact free _ o (fun z => (hch _ z).2.1 rfl) ho I.free
  · obtain ⟨v, o, ho, hd⟩ := I.cell x c e
    exact free c o (fun z => (hch c z).2.2.1 x c e rfl) ho (I.freeC x c e)
  · obtain ⟨e, n, ne, nf, d⟩ := I.pin p hp
    have nch : p.1 ∉ ch := fun z => (hch p.1 z).2.2.2 p hp rfl
    exact ⟨keep p.1 p.2 ne nf nch e n, free p.1 p.2 nch e n, ne, nf, d⟩
/-- .. where the frame's own object is kept too -/
theorem Inv.un {t' : Nat} (I : Inv X pins σ H s) (u : Un X.fs [] H H' s.heap h') (hok : HOk X.prog X.w H' h') : Inv X pins σ H' { s with heap := h', toks := t' } := by
  obtain ⟨m, ⟨o, es, ep, ho, r⟩, _⟩ := id I.loc
  obtain ⟨sl, hL⟩ := u.any ho I.free (by simp)
  exact I.step (g' := s.gens) (d' := s.drawn) (ch := []) (fun _ z => nomatch z) (fun b o _ hb _ e n => u.keep b o e n hb (by simp)) (fun b o _ hb _ e n => u.slot b o e n hb (by simp)) (fun b o _ e n => u.free b o e n (by simp)) (fun b o _ e => u.there b o e (by simp)) u.tups u.frzs u.tbls (fun m' hm => by
    obtain ⟨o', es', ep', ho', r'⟩ := hm
    rw [ho] at ho'; cases ho'
    exact ⟨_, es', ep', hL, r'⟩) hok I.bare
/-- behind a call (or a comprehension's block): the slots of this frame may have changed too, the records at ch may have turned -/
theorem Inv.call {g' : Array GenState} {t' : Nat} {d' : Drawn} {ch : List Addr} (I : Inv X pins σ H s) (u : Un (frs X.stack) ch H H' s.heap h') (hok : HOk X.prog X.w H' h') (hg : AllBare g')
    (hch : ∀ b ∈ ch, (b ∈ X.ex ∨ X.s₀.heap.objs.size ≤ b) ∧ b ≠ X.env.locals ∧ (∀ x c, X.env.cells.lookup x = some c → c ≠ b) ∧ ∀ p ∈ X.pn ++ pins, p.1 ≠ b) :
    Inv X pins σ H' { s with heap := h', gens := g', drawn := d', toks := t' } := by
  obtain ⟨m, ⟨o, es, ep, ho, r⟩, _⟩ := id I.loc
  obtain ⟨sl, hL⟩ := u.any ho I.free fun z => (hch _ z).2.1 rfl
  exact I.step (ch := ch) hch (fun b o hL hb hc e n => u.keep b o e n (fun z => (List.mem_cons.mp (I.stkSub b z)).elim hL hb) hc) (fun b o _ _ hc e n => u.any e n hc) (fun b o hc e n => u.free b o e n hc) (fun b o hc e => u.there b o e hc) u.tups u.frzs u.tbls (fun m' hm => by
    obtain ⟨o', es', ep', ho', r'⟩ := hm
    rw [ho] at ho'; cases ho'
    exact ⟨_, es', ep', hL, r'⟩) hok hg
/-- an untracked record of ours (an iterator) has turned -/
theorem Inv.turned {t' : Nat} {it : Addr} (I : Inv X pins σ H s) (k : ∀ b o, b ≠ it → s.heap.get? b = some o → h'.get? b = some o) (hn : H it = none) (hL : it ≠ X.env.locals)
    (h1 : it ∈ X.ex ∨ X.s₀.heap.objs.size ≤ it) (h2 : ∀ x c, X.env.cells.lookup x = some c → c ≠ it) (h3 : ∀ p ∈ X.pn ++ pins, p.1 ≠ it) : Inv X pins σ H { s with heap := h', toks := t' } := by
  have nit : ∀ b u, H b = some u → b ≠ it := fun b u e z => by rw [z, hn] at e; cases e
  refine I.step (g' := s.gens) (d' := s.drawn) (ch := [it]) (fun b hb => ?_) (fun b o _ _ hc e _ => k b o (fun z => hc (by simp [z])) e) (fun b o _ _ hc e _ => ⟨o.slots, k b o (fun z => hc (by simp [z])) e⟩) (fun _ _ _ _ n => n)
    (fun b o hc e => ⟨o, k b o (fun z => hc (by simp [z])) e⟩) (fun _ _ e => e) (fun _ _ _ e => e) (fun b ps e => ⟨#[], by rw [e]; simp⟩) (fun m hm => ?_) (fun b u e => ?_) I.bare
  · have e : b = it := by simpa using hb
    subst e
    exact ⟨h1, hL, h2, h3⟩
  · obtain ⟨o, es, ep, ho, r⟩ := hm
    exact ⟨o, es, ep, k _ o (Ne.symm hL) ho, r⟩
  · refine (I.hok b u e).stay (fun c v hc q => k c v ?_ q) (fun _ q => q) fun _ _ q => q
    rcases hc with z | z
    · rw [z]; exact nit b u e
    · exact nit c _ z
theorem Inv.tok (I : Inv X pins σ H s) (t : Nat) : Inv X pins σ H { s with toks := t } := I.un (h' := s.heap) (t' := t) Un.refl I.hok
/-- all objects kept -/
theorem Inv.kept {t' : Nat} (I : Inv X pins σ H s) (k : ∀ b u, s.heap.get? b = some u → h'.get? b = some u) : Inv X pins σ H { s with heap := h', toks := t' } := I.un (Un.kept k) (I.hok.kept k)
/-- a new object laid and tracked -/
theorem Inv.laid {a : Addr} {o : HO} {t' : Nat} (I : Inv X pins σ H s) (k : ∀ b u, s.heap.get? b = some u → h'.get? b = some u) (hp : s.heap.objs.size ≤ a) (new : ObjOk X.prog X.w (upd H a o) h' a o) :
    Inv X pins σ (upd H a o) { s with heap := h', toks := t' } := I.un (Un.laid k hp (I.hok.fresh hp)) (I.hok.laid k hp new)
/-- an object written -/
theorem Inv.write {x e : Addr} {o : HO} {t' : Nat} (I : Inv X pins σ H s) (mu : Mut (H x)) (he : e = x ∨ H e = some (.own x)) (k : ∀ b u, b ≠ e → s.heap.get? b = some u → h'.get? b = some u) (heo : ∃ u, h'.get? e = some u)
    (new : ObjOk X.prog X.w (upd H x o) h' x o) : Inv X pins σ (upd H x o) { s with heap := h', toks := t' } := I.un (Un.write mu he k heo) (I.hok.write mu he k heo new)
/-- forgetting slots, pins -/
theorem Inv.weak {σ' : List (Option V)} (I : Inv X pins σ H s) (hl : σ'.length = σ.length) (w : ∀ (i : Nat) v, σ'[i]? = some (some v) → σ[i]? = some (some v)) : Inv X pins σ' H s :=
  ⟨I.ok, I.os, I.bare, I.base, let ⟨m, hn, hl'⟩ := I.loc; ⟨m, hn, fun i x v e1 e2 e3 => hl' i x v e1 (w i v e2) e3⟩, I.cell, I.free, I.freeC, I.pin, I.hok, hl.trans I.len⟩
theorem Inv.pins_of {pins' : List (Addr × Obj)} (I : Inv X pins σ H s) (h : ∀ p ∈ pins', s.heap.get? p.1 = some p.2 ∧ H p.1 = none ∧ p.1 ≠ X.env.locals ∧ p.1 ∉ X.fs ∧ ∀ v, p.2.data ≠ .cell v) : Inv X pins' σ H s :=
  ⟨I.ok, I.os, I.bare, I.base, I.loc, I.cell, I.free, I.freeC, fun p hp => (List.mem_append.mp hp).elim (fun z => I.pin p (List.mem_append_left _ z)) (h p), I.hok, I.len⟩

theorem nodup_ix {N : List Str} (hN : N.Nodup) {i j : Nat} {x : Str} (a : N[i]? = some x) (b : N[j]? = some x) : i = j := by
  obtain ⟨h1, e1⟩ := List.getElem?_eq_some_iff.mp a
  obtain ⟨h2, e2⟩ := List.getElem?_eq_some_iff.mp b
  exact (List.getElem_inj hN).mp (e1.trans e2.symm)

/-- a name is stored; what changed -/
theorem store_ok2 {M : Model} {A : Around} {E : Value → Shared → Prop} {i : Nat} {x : Str} {v : V} {u : Value} {Q : Unit → Shared → Prop} (I : Inv X pins σ H s) (hN : X.N.Nodup) (hi : X.N[i]? = some x) (hx : Loc X.env.scope x) (r : RelV v u)
    (h : ∀ s', Inv X pins (σ.set i (some v)) H s' → (∃ a, Heap.SameBut a s.heap s'.heap ∧ (a = X.env.locals ∨ X.env.cells.lookup x = some a)) → Q () s') (hf : X.fn x = true ∨ X.env.scope.names.lookup x = some .local := by first | exact .inl rfl | exact .inr rfl | assumption) : wpAny M A (storeName X.env x u) Q E s := by
  obtain ⟨m, hn, hl⟩ := id I.loc
  have hcls : (X.env.scope.kind == .class || (X.env.scope.kind == .module && X.env.locals != X.env.globals)) = false := by rw [I.ok.kind]; rfl
  have hiσ : i < σ.length := by rw [I.len]; exact (List.getElem?_eq_some_iff.mp hi).1
  have cne := I.cne
  have tracked : ∀ {a : Addr} {h' : Heap}, (∃ o, s.heap.get? a = some o ∧ H a = none) → Heap.SameBut a s.heap h' → HOk X.prog X.w H h' := fun {a h'} ha hs b ob e => by
    obtain ⟨_, _, hfree⟩ := ha
    refine (I.hok b ob e).stay (fun c w' hc q => (hs.2 c ?_).trans q) (fun _ q => q) fun _ _ q => q
    rintro rfl
    rcases hc with rfl | hc
    · rw [hfree] at e; cases e
    · rw [hfree] at hc; cases hc
  rcases hx with hk | hk
  · refine wpAny_storeName_local hk hn (fun h' hn' hs => ?_) hcls
    obtain ⟨oL, _, _, hoL, _⟩ := id hn
    refine h _ ⟨I.ok, I.os, I.bare, ⟨fun b o e n hb hx => ?_, fun b o e n hb hx => ?_, I.base.free, fun b o e hx => ?_, I.base.tups, I.base.frzs, I.base.tbls⟩, ⟨_, hn', fun j y v' e1 e2 e3 => ?_⟩, fun y c e => ?_, I.free, I.freeC, fun p hp => ?_, tracked ⟨oL, hoL, I.free⟩ hs, by simpa using I.len⟩ ⟨_, hs, .inl rfl⟩
    · exact (hs.2 b (Nat.ne_of_lt (Nat.lt_of_lt_of_le (Heap.lt_size e) I.ok.above))).trans (I.base.keep b o e n hb hx)
    · obtain ⟨sl, e1⟩ := I.base.slot b o e n hb hx
      exact ⟨sl, (hs.2 b (Nat.ne_of_lt (Nat.lt_of_lt_of_le (Heap.lt_size e) I.ok.above))).trans e1⟩
    · obtain ⟨o', e1⟩ := I.base.there b o e hx
      exact ⟨o', (hs.2 b (Nat.ne_of_lt (Nat.lt_of_lt_of_le (Heap.lt_size e) I.ok.above))).trans e1⟩
    · by_cases hj : j = i
      · subst hj
        rw [hi] at e1; cases e1
        rw [List.getElem?_set_self hiσ] at e2
        cases e2
        exact ⟨u, r, .inl ⟨hk, by simp⟩⟩
      · rw [List.getElem?_set_ne (Ne.symm hj)] at e2
        obtain ⟨u', r', q⟩ := hl j y v' e1 e2 e3
        refine ⟨u', r', ?_⟩
        rcases q with ⟨k, e⟩ | ⟨k, c, e, z⟩
        · refine .inl ⟨k, ?_⟩
          have : y ≠ x := fun e => hj (nodup_ix hN e1 (e ▸ hi))
          simp [this, e]
        · exact .inr ⟨k, c, e, z.sameBut hs (cne y c e)⟩
    · obtain ⟨w', z⟩ := I.cell y c e
      exact ⟨w', z.sameBut hs (cne y c e)⟩
    · obtain ⟨e, n, ne, nf, d⟩ := I.pin p hp
      exact ⟨(hs.2 p.1 ne).trans e, n, ne, nf, d⟩
  · have hfn : X.fn x = true := by
      rcases hf with z | z
      · exact z
      · rw [z] at hk; cases hk
    obtain ⟨c, hc⟩ := I.ok.has x (.inl hk)
    obtain ⟨w', z⟩ := I.cell x c hc
    refine wpAny_storeName_cell I.ok.kind hk hc z (fun h' hc' hs => ?_)
    obtain ⟨oc, hoc, hocd⟩ := id z
    refine h { s with heap := h' } ⟨I.ok, I.os, I.bare, ⟨fun b o e n hb hx => ?_, fun b o e n hb hx => ?_, I.base.free, fun b o e hx => ?_, I.base.tups, I.base.frzs, I.base.tbls⟩, ⟨m, hn.sameBut hs (Ne.symm (cne x c hc)), fun j y v' e1 e2 e3 => ?_⟩, fun y c' e => ?_, I.free, I.freeC, fun p hp => ?_, tracked ⟨oc, hoc, I.freeC x c hc⟩ hs, by simpa using I.len⟩ ⟨c, hs, .inr hc⟩
    · exact (hs.2 b (Nat.ne_of_lt (Nat.lt_of_lt_of_le (Heap.lt_size e) (I.ok.cab x c hfn hc)))).trans (I.base.keep b o e n hb hx)
    · obtain ⟨sl, e1⟩ := I.base.slot b o e n hb hx
      exact ⟨sl, (hs.2 b (Nat.ne_of_lt (Nat.lt_of_lt_of_le (Heap.lt_size e) (I.ok.cab x c hfn hc)))).trans e1⟩
    · obtain ⟨o', e1⟩ := I.base.there b o e hx
      exact ⟨o', (hs.2 b (Nat.ne_of_lt (Nat.lt_of_lt_of_le (Heap.lt_size e) (I.ok.cab x c hfn hc)))).trans e1⟩
    · by_cases hj : j = i
      · subst hj
        rw [hi] at e1; cases e1
        rw [List.getElem?_set_self hiσ] at e2
        cases e2
        exact ⟨u, r, .inr ⟨.inl hk, c, hc, hc'⟩⟩
      · rw [List.getElem?_set_ne (Ne.symm hj)] at e2
        obtain ⟨u', r', q⟩ := hl j y v' e1 e2 e3
        refine ⟨u', r', ?_⟩
        rcases q with q | ⟨k, c', e, z'⟩
        · exact .inl q
        · refine .inr ⟨k, c', e, z'.sameBut hs ?_⟩
          rintro rfl
          exact hj (nodup_ix hN e1 (I.ok.inj _ _ _ e hc ▸ hi))
    · by_cases hcc : c' = c
      · subst hcc; exact ⟨_, hc'⟩
      · obtain ⟨w2, z2⟩ := I.cell y c' e
        exact ⟨w2, z2.sameBut hs hcc⟩
    · obtain ⟨e, n, ne, nf, d⟩ := I.pin p hp
      refine ⟨(hs.2 p.1 ?_).trans e, n, ne, nf, d⟩
      intro q
      rw [q, hoc] at e
      have q' : oc = p.2 := Option.some.inj e
      exact d w' (by rw [← q']; exact hocd)
theorem store_ok {M : Model} {A : Around} {E : Value → Shared → Prop} {i : Nat} {x : Str} {v : V} {u : Value} {Q : Unit → Shared → Prop} (I : Inv X pins σ H s) (hN : X.N.Nodup) (hi : X.N[i]? = some x) (hx : Loc X.env.scope x) (r : RelV v u)
    (h : ∀ s', Inv X pins (σ.set i (some v)) H s' → Q () s') (hf : X.fn x = true ∨ X.env.scope.names.lookup x = some .local := by first | exact .inl rfl | exact .inr rfl | assumption) : wpAny M A (storeName X.env x u) Q E s :=
  store_ok2 I hN hi hx r (fun s' I' _ => h s' I') hf
/-- behind a call or a block, the state as it is -/
theorem Inv.call' {s' : Shared} {ch : List Addr} (I : Inv X pins σ H s) (ho : s'.os = s.os) (u : Un (frs X.stack) ch H H' s.heap s'.heap) (hok : HOk X.prog X.w H' s'.heap) (hg : AllBare s'.gens)
    (hch : ∀ b ∈ ch, (b ∈ X.ex ∨ X.s₀.heap.objs.size ≤ b) ∧ b ≠ X.env.locals ∧ (∀ x c, X.env.cells.lookup x = some c → c ≠ b) ∧ ∀ p ∈ X.pn ++ pins, p.1 ≠ b) : Inv X pins σ H' s' := by
  obtain ⟨h', g', d', t', o'⟩ := s'
  have e : o' = s.os := ho
  subst e
  exact I.call (g' := g') (t' := t') (d' := d') u hok hg hch
end

/-! ### the judgements -/
/-- an exception: its class, its own dict's address (where it has one), the abstract heap behind it -/
abbrev XK := Value → Option Addr → Hp → Prop
abbrev St := List (Option V)
abbrev VK := V → Hp → Prop
/-- an expression's reading; a test's; an argument list's -/
abbrev TE := St → Hp → VK → Prop
abbrev TT := St → Hp → (Bool → Hp → Prop) → Prop
abbrev TA := St → Hp → (List V → Hp → Prop) → Prop
/-- what is wanted behind a statement -/
structure Ends where
  nx : St → Hp → Prop
  rt : VK
  bk : St → Hp → Prop := fun _ _ => False
  ct : St → Hp → Prop := fun _ _ => False
abbrev TS := Ends → St → Hp → Prop

def EP (X : Cx) (pins : List (Addr × Obj)) (σ : St) (Q : VK) (u : Value) (s' : Shared) : Prop := ∃ v H', Inv X pins σ H' s' ∧ RelV v u ∧ Q v H'
def TP (X : Cx) (pins : List (Addr × Obj)) (σ : St) (Q : Bool → Hp → Prop) (b : Bool) (s' : Shared) : Prop := ∃ H', Inv X pins σ H' s' ∧ Q b H'
def AP (X : Cx) (pins : List (Addr × Obj)) (σ : St) (Q : List V → Hp → Prop) (us : List Value) (s' : Shared) : Prop := ∃ vs H', Inv X pins σ H' s' ∧ Vals vs us ∧ Q vs H'
def SP (X : Cx) (pins : List (Addr × Obj)) (D : Ends) (f : Flow) (s' : Shared) : Prop :=
  match f with
  | .next => ∃ σ' H', Inv X pins σ' H' s' ∧ D.nx σ' H'
  | .brk => ∃ σ' H', Inv X pins σ' H' s' ∧ D.bk σ' H'
  | .cont => ∃ σ' H', Inv X pins σ' H' s' ∧ D.ct σ' H'
  | .ret u => ∃ v σ' H', Inv X pins σ' H' s' ∧ RelV v u ∧ D.rt v H'

def PE (X : Cx) (e : Expr) (t : TE) : Prop :=
  ∀ (pins : List (Addr × Obj)) (s : Shared) (σ : St) (H : Hp) (Q : VK), Inv X pins σ H s → t σ H Q → wpAny (model X.prog X.w) X.A (eval e X.env) (EP X pins σ Q) X.xe s
def PT (X : Cx) (e : Expr) (t : TT) : Prop :=
  ∀ (pins : List (Addr × Obj)) (s : Shared) (σ : St) (H : Hp) (Q : Bool → Hp → Prop), Inv X pins σ H s → t σ H Q → wpAny (model X.prog X.w) X.A (isTrue e X.env (eval e X.env)) (TP X pins σ Q) X.xe s
/-- a test whatever its 'whole' is (and, or) -/
def PW (X : Cx) (e : Expr) (t : TT) : Prop :=
  ∀ (whole : Sem Value) (pins : List (Addr × Obj)) (s : Shared) (σ : St) (H : Hp) (Q : Bool → Hp → Prop), Inv X pins σ H s → t σ H Q → wpAny (model X.prog X.w) X.A (isTrue e X.env whole) (TP X pins σ Q) X.xe s
theorem PW.pt {X : Cx} {e : Expr} {t : TT} (h : PW X e t) : PT X e t := h _
/-- an argument list (no star), from the left -/
def PA (X : Cx) (es : List Expr) (t : TA) : Prop :=
  ∀ (pos : Pos) (pins : List (Addr × Obj)) (s : Shared) (σ : St) (H : Hp) (Q : List V → Hp → Prop), Inv X pins σ H s → t σ H Q → wpAny (model X.prog X.w) X.A (spliced (backTo pos (starEach es X.env))) (AP X pins σ Q) X.xe s
def PS (X : Cx) (st : Stmt) (t : TS) : Prop :=
  ∀ (pins : List (Addr × Obj)) (s : Shared) (σ : St) (H : Hp) (D : Ends), Inv X pins σ H s → t D σ H → wpAny (model X.prog X.w) X.A (exec st X.env) (SP X pins D) X.xe s
def PSs (X : Cx) (st : List Stmt) (t : TS) : Prop :=
  ∀ (pins : List (Addr × Obj)) (s : Shared) (σ : St) (H : Hp) (D : Ends), Inv X pins σ H s → t D σ H → wpAny (model X.prog X.w) X.A (execs st X.env) (SP X pins D) X.xe s
/-- weaken the end -/
theorem thn {α : Type} {t : Sem α} {Q Q' : α → Shared → Prop} {M : Model} {A : Around} {E : Value → Shared → Prop} {s : Shared} (h : wpAny M A t Q E s) (hQ : ∀ a s, Q a s → Q' a s) : wpAny M A t Q' E s := wpAny_mono h hQ fun _ _ x => x
end L2

namespace L2
open PySem PySem.Spec PyProof.Rows
section
variable {X : Cx}

/-- two expressions in a row -/
theorem bin {a b : Expr} {ta tb : TE} (ha : PE X a ta) (hb : PE X b tb) {pins : List (Addr × Obj)} {s : Shared} {σ : St} {H : Hp} {R : V → V → Hp → Prop} (I : Inv X pins σ H s) (h : ta σ H fun x H1 => tb σ H1 fun y H2 => R x y H2)
    {α : Type} {Q : α → Shared → Prop} {f : Value → Value → Sem α}
    (hf : ∀ v u s2 x y H2, Inv X pins σ H2 s2 → RelV x v → RelV y u → R x y H2 → wpAny (model X.prog X.w) X.A (f v u) Q X.xe s2) :
    wpAny (model X.prog X.w) X.A (eval a X.env) (fun v s₁ => wpAny (model X.prog X.w) X.A (eval b X.env) (fun u s₂ => wpAny (model X.prog X.w) X.A (f v u) Q X.xe s₂) X.xe s₁) X.xe s := by
  refine thn (ha pins s σ H _ I h) fun v s1 ⟨x, H1, I1, r1, q1⟩ => ?_
  refine thn (hb pins s1 σ H1 _ I1 q1) fun u s2 ⟨y, H2, I2, r2, q2⟩ => ?_
  exact hf v u s2 x y H2 I2 r1 r2 q2

/-! ### names and constants -/
def tVar (i : Nat) : TE := fun σ H Q => ∃ v, σ[i]? = some (some v) ∧ Q v H
def tC (v : V) : TE := fun _ H Q => Q v H
theorem pe_var {i : Nat} {x : Str} {pos : Pos} (hN : X.N[i]? = some x) (hv : Vis X.env.scope x) (hd : (x == ("__debug__" : Str)) = false := by decide) (hcd : (x == ("__classdict__" : Str)) = false := by decide) : PE X (.Name x pos) (tVar i) := by
  intro pins s σ H Q I h
  obtain ⟨v, e, h⟩ := h
  obtain ⟨m, hn, hl⟩ := I.loc
  obtain ⟨u, r, l⟩ := hl i x v hN e hv
  have fin : EP X pins σ Q u s := ⟨v, H, I, r, h⟩
  rcases l with ⟨hk, hm⟩ | ⟨hk, c, hc, hcell⟩
  · exact wpAny_Name (wpAny_loadName_local I.ok.kind hk hn hm fin) hd
  · rcases hk with hk | hk
    · exact wpAny_Name (wpAny_loadName_cell I.ok.kind hk hc hcell fin) hd
    · exact wpAny_Name (wpAny_loadName_free I.ok.kind hk hc hcell fin hcd) hd
theorem pe_int {i j pos} : PE X (.Constant (.int i) j pos) (tC (.int i)) := fun _ _ _ H _ I h => wpAny_Constant_int ⟨.int i, H, I.tok _, ⟨_, rfl⟩, h⟩
theorem pe_bl {b j pos} : PE X (.Constant (.bool b) j pos) (tC (.bl b)) := fun _ _ _ H _ I h => Constant_bool ⟨.bl b, H, I, rfl, h⟩
theorem pe_non {j pos} : PE X (.Constant .none j pos) (tC .non) := fun _ _ _ H _ I h => Constant_none ⟨.non, H, I, rfl, h⟩
theorem pe_str {x j pos} : PE X (.Constant (.str x) j pos) (tC (.str x)) := fun _ _ _ H _ I h => Calls.Constant_str ⟨.str x, H, I.tok _, ⟨_, rfl⟩, h⟩

/-- a global name of the def -/
def Gl (X : Cx) (x : Str) : Prop := X.env.kindOf x = some .globalImplicit
theorem ld_glob {E : Value → Shared → Prop} {pins : List (Addr × Obj)} {s : Shared} {σ : St} {H : Hp} {x : Str} {u : Value} {pos : Pos} {Q : Value → Shared → Prop} (I : Inv X pins σ H s) (hg : Gl X x) (hm : X.mg x = some u) (h : Q u s)
    (hd : (x == ("__debug__" : Str)) = false := by decide) : wpAny (model X.prog X.w) X.A (eval (.Name x pos) X.env) Q E s :=
  Calls.Name_function_global I.ok.kind hg (Calls.loadGlobal_global (by rw [I.ok.glob]; exact I.mod.glob.keeps I.bk) hm h) hd
theorem ld_blt {E : Value → Shared → Prop} {pins : List (Addr × Obj)} {s : Shared} {σ : St} {H : Hp} {x : Str} {u : Value} {pos : Pos} {Q : Value → Shared → Prop} (I : Inv X pins σ H s) (hg : Gl X x) (hm : X.mg x = none) (hv : bootBuiltins x = some u) (h : Q u s)
    (hn : x ≠ "__name__" := by decide) (hd : (x == ("__debug__" : Str)) = false := by decide) : wpAny (model X.prog X.w) X.A (eval (.Name x pos) X.env) Q E s := by
  obtain ⟨mb, h1, h2⟩ := I.mod.blt
  exact Calls.Name_function_global I.ok.kind hg (Calls.loadGlobal_builtin (by rw [I.ok.glob]; exact I.mod.glob.keeps I.bk) hm (by rw [I.ok.blt]; exact h1.keeps I.bk) ((h2 x hn).trans hv) h) hd
/-- a module's constant, a class, a function, as a value -/
theorem pe_glob {x : Str} {v : V} {u : Value} {pos : Pos} (hg : Gl X x) (hm : X.mg x = some u) (r : RelV v u) (hd : (x == ("__debug__" : Str)) = false := by decide) : PE X (.Name x pos) (tC v) :=
  fun _ _ _ H _ I h => ld_glob I hg hm ⟨v, H, I, r, h⟩ hd
theorem pe_bltn {x : Str} {v : V} {u : Value} {pos : Pos} (hg : Gl X x) (hm : X.mg x = none) (hv : bootBuiltins x = some u) (r : RelV v u) (hn : x ≠ "__name__" := by decide) (hd : (x == ("__debug__" : Str)) = false := by decide) : PE X (.Name x pos) (tC v) :=
  fun _ _ _ H _ I h => ld_blt I hg hm hv ⟨v, H, I, r, h⟩ hn hd

/-! ### arithmetic -/
/-- two ints -/
def t2I (ta tb : TE) (k : Int → Int → Hp → Prop) : St → Hp → Prop := fun σ H => ta σ H fun x H1 => tb σ H1 fun y H2 => ∃ i j, x = .int i ∧ y = .int j ∧ k i j H2
def tAdd (ta tb : TE) : TE := fun σ H Q => t2I ta tb (fun i j H2 => Q (.int (i + j)) H2) σ H
def tSub (ta tb : TE) : TE := fun σ H Q => t2I ta tb (fun i j H2 => Q (.int (i - j)) H2) σ H
/-- the left factor below 2^64 -/
def tMul (ta tb : TE) : TE := fun σ H Q => t2I ta tb (fun i j H2 => (-(2 ^ 64) < i ∧ i < 2 ^ 64) ∧ Q (.int (i * j)) H2) σ H
variable {a b : Expr} {ta tb : TE} {pos : Pos}
theorem pe_add (ha : PE X a ta) (hb : PE X b tb) : PE X (.BinOp a .Add b pos) (tAdd ta tb) := by
  intro pins s σ H Q I h
  refine wpAny_BinOp (bin ha hb I h fun v u s2 x y H2 I2 rx ry q => ?_)
  obtain ⟨i, j, rfl, rfl, q⟩ := q
  obtain ⟨t, rfl⟩ := rx
  obtain ⟨t', rfl⟩ := ry
  exact add_int ⟨.int _, H2, I2.tok _, ⟨_, rfl⟩, q⟩
theorem pe_sub (ha : PE X a ta) (hb : PE X b tb) : PE X (.BinOp a .Sub b pos) (tSub ta tb) := by
  intro pins s σ H Q I h
  refine wpAny_BinOp (bin ha hb I h fun v u s2 x y H2 I2 rx ry q => ?_)
  obtain ⟨i, j, rfl, rfl, q⟩ := q
  obtain ⟨t, rfl⟩ := rx
  obtain ⟨t', rfl⟩ := ry
  exact sub_int ⟨.int _, H2, I2.tok _, ⟨_, rfl⟩, q⟩
theorem pe_mul (ha : PE X a ta) (hb : PE X b tb) : PE X (.BinOp a .Mult b pos) (tMul ta tb) := by
  intro pins s σ H Q I h
  refine wpAny_BinOp (bin ha hb I h fun v u s2 x y H2 I2 rx ry q => ?_)
  obtain ⟨i, j, rfl, rfl, ⟨q1, q2⟩, q⟩ := q
  obtain ⟨t, rfl⟩ := rx
  obtain ⟨t', rfl⟩ := ry
  exact mul_int ⟨.int _, H2, I2.tok _, ⟨_, rfl⟩, q⟩ (.of_left (intBits_le_64 q1 q2))

/-! ### comparisons -/
def PC (X : Cx) (op : CmpOp) (a b : Expr) (t : TE) : Prop :=
  ∀ (pins : List (Addr × Obj)) (s : Shared) (σ : St) (H : Hp) (Q : VK), Inv X pins σ H s → t σ H Q →
    wpAny (model X.prog X.w) X.A (eval a X.env) (fun v s₁ => wpAny (model X.prog X.w) X.A (eval b X.env) (fun u s₂ => wpAny (model X.prog X.w) X.A (compareOp op v u) (EP X pins σ Q) X.xe s₂) X.xe s₁) X.xe s
theorem nobehind (b : Expr) {op : CmpOp} (h : op ≠ .In) (h2 : op ≠ .NotIn) : behindInMarks op b = false := by
  have e1 : (op == CmpOp.In) = false := by cases op <;> first | rfl | exact absurd rfl h
  have e2 : (op == CmpOp.NotIn) = false := by cases op <;> first | rfl | exact absurd rfl h2
  cases b <;> simp [behindInMarks, e1, e2]
def tCmp (p : Int → Int → Bool) (ta tb : TE) : TE := fun σ H Q => t2I ta tb (fun i j H2 => Q (.bl (p i j)) H2) σ H
abbrev tLt : TE → TE → TE := tCmp fun i j => decide (i < j)
abbrev tLe : TE → TE → TE := tCmp fun i j => decide (i ≤ j)
abbrev tGt : TE → TE → TE := tCmp fun i j => decide (j < i)
abbrev tGe : TE → TE → TE := tCmp fun i j => decide (j ≤ i)
abbrev tEqI : TE → TE → TE := tCmp fun i j => decide (i = j)
abbrev tNeI : TE → TE → TE := tCmp fun i j => !decide (i = j)
/-- a comparison of two ints, by its rule -/
theorem pc_int {op : CmpOp} {p : Int → Int → Bool} (ha : PE X a ta) (hb : PE X b tb)
    (rule : ∀ (i j : Int) (t u : Tok) (Q : Value → Shared → Prop) (s : Shared), Q (.bool (p i j)) s → wpAny (model X.prog X.w) X.A (compareOp op (.int i t) (.int j u)) Q X.xe s) : PC X op a b (tCmp p ta tb) := by
  intro pins s σ H Q I h
  refine bin ha hb I h fun v u s2 x y H2 I2 rx ry q => ?_
  obtain ⟨i, j, rfl, rfl, q⟩ := q
  obtain ⟨t, rfl⟩ := rx
  obtain ⟨t', rfl⟩ := ry
  exact rule i j t t' _ s2 ⟨.bl _, H2, I2, rfl, q⟩
theorem pc_lt (ha : PE X a ta) (hb : PE X b tb) : PC X .Lt a b (tLt ta tb) := pc_int ha hb fun _ _ _ _ _ _ h => lt_int h
theorem pc_le (ha : PE X a ta) (hb : PE X b tb) : PC X .LtE a b (tLe ta tb) := pc_int ha hb fun _ _ _ _ _ _ h => le_int h
theorem pc_gt (ha : PE X a ta) (hb : PE X b tb) : PC X .Gt a b (tGt ta tb) := pc_int ha hb fun _ _ _ _ _ _ h => gt_int h
theorem pc_ge (ha : PE X a ta) (hb : PE X b tb) : PC X .GtE a b (tGe ta tb) := pc_int ha hb fun _ _ _ _ _ _ h => ge_int h
theorem pc_eqI (ha : PE X a ta) (hb : PE X b tb) : PC X .Eq a b (tEqI ta tb) := pc_int ha hb fun _ _ _ _ _ _ h => eq_int (by rw [Bool.beq_eq_decide_eq]; exact h)
theorem pc_neI (ha : PE X a ta) (hb : PE X b tb) : PC X .NotEq a b (tNeI ta tb) := pc_int ha hb fun _ _ _ _ _ _ h => ne_int (by rw [bne, Bool.beq_eq_decide_eq]; exact h)
/-- is None -/
def tIsN (ta : TE) : TE := fun σ H Q => ta σ H fun x H1 => Q (.bl (decide (x = .non))) H1
def tNotN (ta : TE) : TE := fun σ H Q => ta σ H fun x H1 => Q (.bl (!decide (x = .non))) H1
theorem RelV.none_iff {x : V} {v : Value} (r : RelV x v) : (v == Value.none) = decide (x = .non) := by
  cases x with
  | non => cases r; rfl
  | bl _ => cases r; rfl
  | int _ => obtain ⟨t, rfl⟩ := r; rfl
  | str _ => obtain ⟨t, rfl⟩ := r; rfl
  | byt _ => obtain ⟨t, rfl⟩ := r; rfl
  | flt _ => obtain ⟨t, rfl⟩ := r; rfl
  | ref _ => cases r; rfl
  | ty _ => cases r; rfl
theorem pc_isN {j pos'} (ha : PE X a ta) : PC X .Is a (.Constant .none j pos') (tIsN ta) := by
  intro pins s σ H Q I h
  refine thn (ha pins s σ H _ I h) fun v s1 ⟨x, H1, I1, r1, q1⟩ => ?_
  exact Constant_none (is_none_gen ⟨.bl _, H1, I1, by rw [r1.none_iff]; rfl, q1⟩)
theorem pc_notN {j pos'} (ha : PE X a ta) : PC X .IsNot a (.Constant .none j pos') (tNotN ta) := by
  intro pins s σ H Q I h
  refine thn (ha pins s σ H _ I h) fun v s1 ⟨x, H1, I1, r1, q1⟩ => ?_
  exact Constant_none (isnot_none_gen ⟨.bl _, H1, I1, by rw [r1.none_iff]; rfl, q1⟩)
/-- a comparison as a value, as a test -/
def tB (t : TE) : TT := fun σ H Q => t σ H fun x H1 => ∃ c, x = .bl c ∧ Q c H1
theorem pe_cmp {op : CmpOp} {t : TE} (h : PC X op a b t) (h1 : behindInMarks op b = false := by first | exact nobehind _ (by decide) (by decide) | rfl) : PE X (.Compare a [op] [b] pos) t := fun pins s σ H Q I hw => wpAny_Compare1 (h pins s σ H Q I hw) h1
theorem pt_cmp {op : CmpOp} {t : TE} (h : PC X op a b t) (h1 : behindInMarks op b = false := by first | exact nobehind _ (by decide) (by decide) | rfl) : PT X (.Compare a [op] [b] pos) (tB t) := by
  intro pins s σ H Q I hw
  refine wpAny_isTrue_Compare1 (thn (h pins s σ H _ I hw) fun v s1 h1 => thn h1 fun u s2 h2 => thn h2 fun c s3 ⟨x, H1, I1, r1, q1⟩ => ?_) h1
  obtain ⟨d, rfl, q⟩ := q1
  cases r1
  exact wpAny_truthy_bool ⟨H1, I1, q⟩
/-- an expression whose value is a bool, as a test -/
theorem pt_val {e : Expr} {t : TE} (h : PE X e t) (he : ∀ whole, isTrue e X.env whole = (do let v ← whole; standAt e.pos; holding [v] (truthy v)) := by intro _; rfl) : PT X e (tB t) := by
  intro pins s σ H Q I hw
  refine isTrue_plain (thn (h pins s σ H _ I hw) fun v s1 ⟨x, H1, I1, r1, q1⟩ => ?_) (he _)
  obtain ⟨d, rfl, q⟩ := q1
  cases r1
  exact wpAny_truthy_bool ⟨H1, I1, q⟩

/-! ### and, or, not -/
variable {tA tB' : TT} {rest : List Expr}
def tAnd (t u : TT) : TT := fun σ H Q => t σ H fun c H1 => if c = true then u σ H1 Q else Q false H1
def tOr (t u : TT) : TT := fun σ H Q => t σ H fun c H1 => if c = true then Q true H1 else u σ H1 Q
def tNot (t : TT) : TT := fun σ H Q => t σ H fun c H1 => Q (!c) H1
theorem pw_and1 (ha : PT X a tA) : PW X (.BoolOp .And [a] pos) tA := by
  intro wh pins s σ H Q I h
  refine isTrue_and (thn (ha pins s σ H Q I h) fun c s1 e => ?_)
  cases c with
  | true => exact isTrue_and_nil e
  | false => exact e
theorem pw_or1 (ha : PT X a tA) : PW X (.BoolOp .Or [a] pos) tA := by
  intro wh pins s σ H Q I h
  refine isTrue_or (thn (ha pins s σ H Q I h) fun c s1 e => ?_)
  cases c with
  | false => exact isTrue_or_nil e
  | true => exact e
theorem pw_and (ha : PT X a tA) (hb : PW X (.BoolOp .And (b :: rest) pos) tB') : PW X (.BoolOp .And (a :: b :: rest) pos) (tAnd tA tB') := by
  intro wh pins s σ H Q I h
  refine isTrue_and (thn (ha pins s σ H _ I h) fun c s1 ⟨H1, I1, q1⟩ => ?_)
  cases c with
  | true => exact hb wh pins s1 σ H1 Q I1 q1
  | false => exact ⟨H1, I1, q1⟩
theorem pw_or (ha : PT X a tA) (hb : PW X (.BoolOp .Or (b :: rest) pos) tB') : PW X (.BoolOp .Or (a :: b :: rest) pos) (tOr tA tB') := by
  intro wh pins s σ H Q I h
  refine isTrue_or (thn (ha pins s σ H _ I h) fun c s1 ⟨H1, I1, q1⟩ => ?_)
  cases c with
  | true => exact ⟨H1, I1, q1⟩
  | false => exact hb wh pins s1 σ H1 Q I1 q1
theorem pt_not (ha : PT X a tA) : PT X (.UnaryOp .Not a pos) (tNot tA) := by
  intro pins s σ H Q I h
  exact isTrue_not (ha pins s σ H (fun c H1 => Q (!c) H1) I h)
/-- .. as values (bools) -/
def tAndV (ta tb : TE) : TE := fun σ H Q => ta σ H fun x H1 => ∃ c, x = .bl c ∧ if c = true then tb σ H1 Q else Q (.bl false) H1
def tOrV (ta tb : TE) : TE := fun σ H Q => ta σ H fun x H1 => ∃ c, x = .bl c ∧ if c = true then Q (.bl true) H1 else tb σ H1 Q
def tNotV (ta : TE) : TE := fun σ H Q => ta σ H fun x H1 => ∃ c, x = .bl c ∧ Q (.bl (!c)) H1
theorem pe_one {op} {t : TE} (h : PE X a t) : PE X (.BoolOp op [a] pos) t := fun pins s σ H Q I hw => BoolOp_one (h pins s σ H Q I hw)
theorem pe_and (ha : PE X a ta) (hb : PE X (.BoolOp .And (b :: rest) pos) tb) : PE X (.BoolOp .And (a :: b :: rest) pos) (tAndV ta tb) := by
  intro pins s σ H Q I h
  refine BoolOp_and (thn (ha pins s σ H _ I h) fun v s1 ⟨x, H1, I1, r1, q1⟩ => ?_)
  obtain ⟨c, rfl, q1⟩ := q1
  cases r1
  refine wpAny_truthy_bool ?_
  cases c with
  | true => exact hb pins s1 σ H1 Q I1 q1
  | false => exact ⟨.bl false, H1, I1, rfl, q1⟩
theorem pe_or (ha : PE X a ta) (hb : PE X (.BoolOp .Or (b :: rest) pos) tb) : PE X (.BoolOp .Or (a :: b :: rest) pos) (tOrV ta tb) := by
  intro pins s σ H Q I h
  refine BoolOp_or (thn (ha pins s σ H _ I h) fun v s1 ⟨x, H1, I1, r1, q1⟩ => ?_)
  obtain ⟨c, rfl, q1⟩ := q1
  cases r1
  refine wpAny_truthy_bool ?_
  cases c with
  | false => exact hb pins s1 σ H1 Q I1 q1
  | true => exact ⟨.bl true, H1, I1, rfl, q1⟩
theorem pe_not (ha : PE X a ta) : PE X (.UnaryOp .Not a pos) (tNotV ta) := by
  intro pins s σ H Q I h
  refine UnaryOp_ (thn (ha pins s σ H _ I h) fun v s1 ⟨x, H1, I1, r1, q1⟩ => ?_)
  obtain ⟨c, rfl, q1⟩ := q1
  cases r1
  exact not_of (wpAny_truthy_bool ⟨.bl (!c), H1, I1, rfl, q1⟩)
/-- a if t else b -/
def tIf (t : TT) (ta tb : TE) : TE := fun σ H Q => t σ H fun c H1 => if c = true then ta σ H1 Q else tb σ H1 Q
theorem pe_ifExp {c : Expr} (hc : PT X c tA) (ha : PE X a ta) (hb : PE X b tb) : PE X (.IfExp c a b pos) (tIf tA ta tb) := by
  intro pins s σ H Q I h
  refine wpAny_IfExp (thn (hc pins s σ H _ I h) fun d s1 ⟨H1, I1, q1⟩ => ?_)
  cases d with
  | true => exact ha pins s1 σ H1 Q I1 q1
  | false => exact hb pins s1 σ H1 Q I1 q1
end
end L2

namespace L2
open PySem PySem.Spec PyProof.Rows

/-! ### a list, a tuple that is read: tracked, frozen, or an object of the module -/
def SqL (K : PySem.W.Frag) (H : Hp) (a : Addr) (xs : List V) : Prop :=
  Rd H a (.lst xs) ∨
    ∃ (o : Obj) (its : Array Value) (n : Nat), K.lookup a = some o ∧ o.cls = .type "list" ∧ o.dict = none ∧ o.data = .seq its n ∧ its.size ≤ sizeLine ∧ Vals xs its.toList
def SqT (K : PySem.W.Frag) (H : Hp) (a : Addr) (xs : List V) : Prop :=
  Rd H a (.tup xs) ∨
    ∃ (o : Obj) (its : Array Value) (n : Nat), K.lookup a = some o ∧ o.cls = .type "tuple" ∧ o.data = .seq its n ∧ its.size ≤ sizeLine ∧ Vals xs its.toList
def absV : Value → Option V
  | .none => some .non
  | .bool b => some (.bl b)
  | .int i _ => some (.int i)
  | .str x _ => some (.str x)
  | .bytes b _ => some (.byt b)
  | .float b _ => some (.flt b)
  | .ref a => some (.ref a)
  | .type n => some (.ty n)
  | _ => none
theorem RelV.abs {x : V} {u : Value} (r : RelV x u) : absV u = some x := by
  cases x with
  | non => cases r; rfl
  | bl _ => cases r; rfl
  | int _ => obtain ⟨t, rfl⟩ := r; rfl
  | str _ => obtain ⟨t, rfl⟩ := r; rfl
  | byt _ => obtain ⟨t, rfl⟩ := r; rfl
  | flt _ => obtain ⟨t, rfl⟩ := r; rfl
  | ref _ => cases r; rfl
  | ty _ => cases r; rfl
theorem RelV.inj {x y : V} {u : Value} (r : RelV x u) (q : RelV y u) : x = y := Option.some.inj (r.abs.symm.trans q.abs)
theorem Vals.inj : ∀ {xs ys : List V} {us : List Value}, Vals xs us → Vals ys us → xs = ys
  | _, _, _, .nil, .nil => rfl
  | _, _, _, .cons r t, .cons r' t' => by rw [r.inj r', Vals.inj t t']
section
variable {X : Cx} {pins : List (Addr × Obj)} {σ : St} {H : Hp} {s : Shared} {a : Addr} {xs ys : List V}
theorem SqL.of {K : PySem.W.Frag} (h : H a = some (.lst xs)) : SqL K H a xs := .inl (.inl h)
theorem SqT.of {K : PySem.W.Frag} (h : H a = some (.tup xs)) : SqT K H a xs := .inl (.inl h)
theorem Inv.list (I : Inv X pins σ H s) (h : SqL X.K H a xs) : ∃ its : List Value, Vals xs its ∧ PlainL s.heap a its.toArray ∧ xs.length ≤ sizeLine := by
  rcases h with h | ⟨o, its, n, hk, hc, hd, hs, hz, r⟩
  · obtain ⟨z, its, n, r, e⟩ := h.ok I.hok
    exact ⟨its, r, ⟨_, n, e, rfl, rfl, rfl⟩, z⟩
  · refine ⟨its.toList, r, ⟨o, n, I.kIn a o hk, hc, hd, by simpa using hs⟩, ?_⟩
    have e := r.length
    simp only [Array.length_toList] at e
    omega
theorem Inv.tuple (I : Inv X pins σ H s) (h : SqT X.K H a xs) : ∃ its : List Value, Vals xs its ∧ IsTup s.heap a its.toArray ∧ xs.length ≤ sizeLine := by
  rcases h with h | ⟨o, its, n, hk, hc, hs, hz, r⟩
  · obtain ⟨z, its, r, p⟩ := h.ok I.hok
    exact ⟨its, r, p, z⟩
  · refine ⟨its.toList, r, ⟨o, I.kIn a o hk, hc, n, by simpa using hs⟩, ?_⟩
    have e := r.length
    simp only [Array.length_toList] at e
    omega
theorem Inv.list_inj (I : Inv X pins σ H s) (h : SqL X.K H a xs) (h' : SqL X.K H a ys) : xs = ys := by
  obtain ⟨its, r, ⟨o, n, e, _, _, d⟩, _⟩ := I.list h
  obtain ⟨its', r', ⟨o', n', e', _, _, d'⟩, _⟩ := I.list h'
  rw [e] at e'; cases e'
  rw [d] at d'
  injection d' with d1 _
  have : its = its' := by simpa using congrArg Array.toList d1
  subst this
  exact r.inj r'
theorem Inv.tuple_inj (I : Inv X pins σ H s) (h : SqT X.K H a xs) (h' : SqT X.K H a ys) : xs = ys := by
  obtain ⟨its, r, ⟨o, e, _, n, d⟩, _⟩ := I.tuple h
  obtain ⟨its', r', ⟨o', e', _, n', d'⟩, _⟩ := I.tuple h'
  rw [e] at e'; cases e'
  rw [d] at d'
  injection d' with d1 _
  have : its = its' := by simpa using congrArg Array.toList d1
  subst this
  exact r.inj r'
end

/-! ### another wish about exceptions -/
abbrev Cx.wish (X : Cx) (E : Value → Shared → Prop) : Cx := { X with xe := E }
/-- no exception leaves -/
abbrev Cx.nox (X : Cx) : Cx := X.wish fun _ _ => False
theorem Cx.Ok.wish {X : Cx} (ok : X.Ok) (E : Value → Shared → Prop) : (X.wish E).Ok :=
  ⟨ok.mod, ok.kind, ok.glob, ok.blt, ok.above, ok.inj, ok.has, ok.cab, ok.hd, ok.frames, ok.stk, ok.exf, ok.bs, ok.bsz, ok.noex, ok.exfs, ok.funs, ok.frf⟩
theorem Cx.Ok.unwish {X : Cx} {E : Value → Shared → Prop} (ok : (X.wish E).Ok) : X.Ok :=
  ⟨ok.mod, ok.kind, ok.glob, ok.blt, ok.above, ok.inj, ok.has, ok.cab, ok.hd, ok.frames, ok.stk, ok.exf, ok.bs, ok.bsz, ok.noex, ok.exfs, ok.funs, ok.frf⟩
section
variable {X : Cx} {pins : List (Addr × Obj)} {σ : St} {H : Hp} {s : Shared} {E : Value → Shared → Prop}
theorem Inv.wish (I : Inv X pins σ H s) (E : Value → Shared → Prop) : Inv (X.wish E) pins σ H s := ⟨I.ok.wish E, I.os, I.bare, I.base, I.loc, I.cell, I.free, I.freeC, I.pin, I.hok, I.len⟩
theorem Inv.unwish (I : Inv (X.wish E) pins σ H s) : Inv X pins σ H s := ⟨I.ok.unwish, I.os, I.bare, I.base, I.loc, I.cell, I.free, I.freeC, I.pin, I.hok, I.len⟩
theorem SP.unwish {D : Ends} {f : Flow} {s' : Shared} (h : SP (X.wish E) pins D f s') : SP X pins D f s' := by
  cases f with
  | next => obtain ⟨σ', H', I, q⟩ := h; exact ⟨σ', H', I.unwish, q⟩
  | brk => obtain ⟨σ', H', I, q⟩ := h; exact ⟨σ', H', I.unwish, q⟩
  | cont => obtain ⟨σ', H', I, q⟩ := h; exact ⟨σ', H', I.unwish, q⟩
  | ret u => obtain ⟨v, σ', H', I, r, q⟩ := h; exact ⟨v, σ', H', I.unwish, r, q⟩
theorem PE.nox {e : Expr} {t : TE} (h : PE X.nox e t) : PE X e t := fun pins s σ H Q I hw =>
  wpAny_mono (h pins s σ H Q (I.wish _) hw) (fun _ _ ⟨v, H', I', r, q⟩ => ⟨v, H', I'.unwish, r, q⟩) fun _ _ z => False.elim z
theorem PT.nox {e : Expr} {t : TT} (h : PT X.nox e t) : PT X e t := fun pins s σ H Q I hw =>
  wpAny_mono (h pins s σ H Q (I.wish _) hw) (fun _ _ ⟨H', I', q⟩ => ⟨H', I'.unwish, q⟩) fun _ _ z => False.elim z
theorem PSs.nox {st : List Stmt} {t : TS} (h : PSs X.nox st t) : PSs X st t := fun pins s σ H D I hw =>
  wpAny_mono (h pins s σ H D (I.wish _) hw) (fun _ _ q => q.unwish) fun _ _ z => False.elim z
end

/-! ### blocks and small statements -/
section
variable {X : Cx} {st : Stmt} {rest : List Stmt} {t u : TS} {e : Expr} {te : TE} {pos : Pos}
def tNext : TS := fun D σ H => D.nx σ H
def tSeq (t u : TS) : TS := fun D σ H => t { D with nx := u D } σ H
theorem pss_nil : PSs X [] tNext := fun _ _ σ H _ I h => wpAny_execs_nil ⟨σ, H, I, h⟩
theorem pss_cons (h1 : PS X st t) (h2 : PSs X rest u) : PSs X (st :: rest) (tSeq t u) := by
  intro pins s σ H D I h
  refine wpAny_execs_cons (thn (h1 pins s σ H { D with nx := u D } I h) fun f s1 q => ?_)
  cases f with
  | next =>
    obtain ⟨σ', H', I', q⟩ := q
    exact h2 pins s1 σ' H' D I' q
  | ret v => exact q
  | brk => exact q
  | cont => exact q
theorem pss_one (h1 : PS X st t) : PSs X [st] t := by
  intro pins s σ H D I h
  refine wpAny_execs_cons (thn (h1 pins s σ H D I h) fun f s1 q => ?_)
  cases f with
  | next => exact wpAny_execs_nil q
  | ret v => exact q
  | brk => exact q
  | cont => exact q
def tBreak : TS := fun D σ H => D.bk σ H
def tCont : TS := fun D σ H => D.ct σ H
theorem ps_pass : PS X (.Pass pos) tNext := fun _ _ σ H _ I h => wpAny_Pass ⟨σ, H, I, h⟩
theorem ps_break : PS X (.Break pos) tBreak := fun _ _ σ H _ I h => wpAny_Break ⟨σ, H, I, h⟩
theorem ps_continue : PS X (.Continue pos) tCont := fun _ _ σ H _ I h => wpAny_Continue ⟨σ, H, I, h⟩
/-- in a def's body nothing is shown -/
theorem Inv.quiet {pins : List (Addr × Obj)} {σ : St} {H : Hp} {s : Shared} (I : Inv X pins σ H s) : interactive X.env = false := by simp [interactive, I.ok.kind]
/-- a docstring -/
theorem ps_doc {x j pos pos'} : PS X (.Expr (.Constant (.str x) j pos) pos') tNext := fun _ s σ H _ I h => wpAny_Expr (Calls.Constant_str (show SP X _ _ .next { s with toks := s.toks + 1 } from ⟨σ, H, I.tok _, h⟩)) I.quiet
/-- an expression whose value is dropped -/
def tDrop (te : TE) : TS := fun D σ H => te σ H fun _ H1 => D.nx σ H1
theorem ps_expr (he : PE X e te) (hs : swapsWith e none pos.line X.env = pure false := by rfl) : PS X (.Expr e pos) (tDrop te) := by
  intro pins s σ H D I h
  exact wpAny_Expr_any (thn (he pins s σ H _ I h) fun v s1 ⟨x, H1, I1, r1, q1⟩ => ⟨σ, H1, I1, q1⟩) I.quiet hs
def tRet (te : TE) : TS := fun D σ H => te σ H D.rt
theorem ps_ret (he : PE X e te) : PS X (.Return (some e) pos) (tRet te) := by
  intro pins s σ H D I h
  exact wpAny_Return_some (thn (he pins s σ H _ I h) fun v s1 ⟨x, H1, I1, r1, q1⟩ => ⟨x, σ, H1, I1, r1, q1⟩)
def tRetN : TS := fun D _ H => D.rt .non H
theorem ps_retN : PS X (.Return none pos) tRetN := fun _ _ σ H _ I h => wpAny_Return_none ⟨.non, σ, H, I, rfl, h⟩
def tIfS (c : TT) (t u : TS) : TS := fun D σ H => c σ H fun b H1 => if b = true then t D σ H1 else u D σ H1
theorem ps_if {c : Expr} {a b : List Stmt} {tc : TT} (hc : PT X c tc) (ha : PSs X a t) (hb : PSs X b u) : PS X (.If c a b pos) (tIfS tc t u) := by
  intro pins s σ H D I h
  refine wpAny_If (thn (hc pins s σ H _ I h) fun d s1 ⟨H1, I1, q1⟩ => ?_)
  cases d with
  | true => exact ha pins s1 σ H1 D I1 q1
  | false => exact hb pins s1 σ H1 D I1 q1
/-- code that the proof never comes to -/
def tNever : TS := fun _ _ _ => False
theorem ps_never : PS X st tNever := fun _ _ _ _ _ _ h => h.elim
theorem pss_never {sts : List Stmt} : PSs X sts tNever := fun _ _ _ _ _ _ h => h.elim
end

/-! ### targets -/
abbrev TG := V → St → Hp → (St → Hp → Prop) → Prop
abbrev TGs := List V → St → Hp → (St → Hp → Prop) → Prop
def PG (X : Cx) (target : Expr) (t : TG) : Prop :=
  ∀ (pins : List (Addr × Obj)) (s : Shared) (σ : St) (H : Hp) (v : V) (u : Value) (Q : St → Hp → Prop), Inv X pins σ H s → RelV v u → t v σ H Q →
    wpAny (model X.prog X.w) X.A (assign target X.env u) (fun _ s' => ∃ σ' H', Inv X pins σ' H' s' ∧ Q σ' H') X.xe s
/-- several targets, one after another -/
def PGs (X : Cx) (ts : List Expr) (t : TGs) : Prop :=
  ∀ (pins : List (Addr × Obj)) (s : Shared) (σ : St) (H : Hp) (vs : List V) (us : List Value) (Q : St → Hp → Prop), Inv X pins σ H s → Vals vs us → t vs σ H Q →
    wpAny (model X.prog X.w) X.A (assignInOrder ((assignEach ts X.env).map (·.2)) us) (fun _ s' => ∃ σ' H', Inv X pins σ' H' s' ∧ Q σ' H') X.xe s
/-- o[i] = v, by values -/
abbrev TSet := V → V → V → Hp → (Hp → Prop) → Prop
def PSet (X : Cx) (t : TSet) : Prop :=
  ∀ (pins : List (Addr × Obj)) (s : Shared) (σ : St) (H : Hp) (o i v : V) (ov iv u : Value) (Q : Hp → Prop), Inv X pins σ H s → RelV o ov → RelV i iv → RelV v u → t o i v H Q →
    wpAny (model X.prog X.w) X.A (setItem ov iv u) (fun _ s' => ∃ H', Inv X pins σ H' s' ∧ Q H') X.xe s
/-- a op= b, by values -/
abbrev TIp := V → V → Hp → VK → Prop
def PIp (X : Cx) (op : Operator) (t : TIp) : Prop :=
  ∀ (pins : List (Addr × Obj)) (s : Shared) (σ : St) (H : Hp) (x y : V) (v u : Value) (Q : VK), Inv X pins σ H s → RelV x v → RelV y u → t x y H Q →
    wpAny (model X.prog X.w) X.A (inplaceOp op v u) (EP X pins σ Q) X.xe s
section
variable {X : Cx} {pos : Pos}
def gName (i : Nat) : TG := fun v σ H Q => Q (σ.set i (some v)) H
theorem pg_name {i : Nat} {x : Str} (hN : X.N.Nodup) (hi : X.N[i]? = some x) (hx : Loc X.env.scope x) (hf : X.fn x = true ∨ X.env.scope.names.lookup x = some .local := by first | exact .inl rfl | exact .inr rfl | assumption) : PG X (.Name x pos) (gName i) := by
  intro pins s σ H v u Q I r h
  exact wpAny_assign_Name (store_ok I hN hi hx r (fun s' I' => ⟨_, H, I', h⟩) hf)
def gNil : TGs := fun vs σ H Q => vs = [] ∧ Q σ H
def gCons (t : TG) (u : TGs) : TGs := fun vs σ H Q => ∃ v r, vs = v :: r ∧ t v σ H fun σ' H' => u r σ' H' Q
theorem pgs_nil : PGs X [] gNil := by
  intro pins s σ H vs us Q I r h
  obtain ⟨e, h⟩ := h
  subst e
  cases r
  exact assignInOrder_nil ⟨σ, H, I, h⟩
theorem pgs_cons {e : Expr} {es : List Expr} {t : TG} {u : TGs} (h1 : PG X e t) (h2 : PGs X es u)
    (hs : (assignEach (e :: es) X.env).map (·.2) = assign e X.env :: (assignEach es X.env).map (·.2) := by rfl) : PGs X (e :: es) (gCons t u) := by
  intro pins s σ H vs us Q I r h
  obtain ⟨v, vr, e1, h⟩ := h
  subst e1
  cases r with
  | cons r rr =>
    rw [hs]
    refine assignInOrder_cons (thn (h1 pins s σ H _ _ _ I r h) fun _ s1 ⟨σ1, H1, I1, q1⟩ => ?_)
    exact h2 pins s1 σ1 H1 _ _ Q I1 rr q1
/-- (a, b, ..) = a tuple of that length -/
def gTup (K : PySem.W.Frag) (n : Nat) (t : TGs) : TG := fun v σ H Q => ∃ a xs, v = .ref a ∧ SqT K H a xs ∧ xs.length = n ∧ t xs σ H Q
theorem pg_tup {es : List Expr} {k : Nat} {t : TGs} {n : Nat} (hc : X.calm = true) (h : PGs X es t)
    (hn : (assignEach es X.env).length = n := by rfl) (hst : (assignEach es X.env).findIdx? (·.1) = none := by rfl) : PG X (.Tuple es k pos) (gTup X.K n t) := by
  intro pins s σ H v u Q I r hw
  obtain ⟨a, xs, e1, hq, hl, hw⟩ := hw
  subst e1
  cases r
  obtain ⟨its, rv, ht, hz⟩ := I.tuple hq
  refine assign_Tuple_tuple (I.ok.hd hc) ht (by simp [hn, ← hl, rv.length]) hst fun h' hx => ?_
  have I1 : Inv X pins σ H { s with heap := h' } := I.kept (t' := s.toks) fun b o e => hx b o (Nat.ne_of_lt (Heap.lt_size e)) e
  exact h pins _ σ H xs _ Q I1 (by simpa using rv) hw
/-- o[i] = .. -/
def gSub (to ti : TE) (t : TSet) : TG := fun v σ H Q => to σ H fun o H1 => ti σ H1 fun i H2 => t o i v H2 fun H3 => Q σ H3
theorem pg_sub {o i : Expr} {to ti : TE} {t : TSet} (ho : PE X o to) (hi : PE X i ti) (hs : PSet X t)
    (ha : ∀ v, assign (.Subscript o i pos) X.env v = (do
      let ov ← holding [v] (eval o X.env)
      let iv ← holding [v, ov] (eval i X.env)
      standAt pos
      holding [v, ov, iv] (setItem ov iv v)
      release [v, ov, iv] []) := by intro _; rfl) : PG X (.Subscript o i pos) (gSub to ti t) := by
  intro pins s σ H v u Q I r h
  rw [ha]
  refine wpAny_bind (wpAny_holding (thn (ho pins s σ H _ I h) fun ov s1 ⟨x, H1, I1, r1, q1⟩ => ?_))
  refine wpAny_bind (wpAny_holding (thn (hi pins s1 σ H1 _ I1 q1) fun iv s2 ⟨y, H2, I2, r2, q2⟩ => ?_))
  refine wpAny_bind (wpAny_standAt (wpAny_bind (wpAny_holding (thn (hs pins s2 σ H2 x y v ov iv u _ I2 r1 r2 r q2) fun _ s3 ⟨H3, I3, q3⟩ => ?_))))
  exact wpAny_release ⟨σ, H3, I3, q3⟩
/-- target = value -/
def tAsg (te : TE) (g : TG) : TS := fun D σ H => te σ H fun x H1 => g x σ H1 D.nx
theorem ps_asg {tg e : Expr} {te : TE} {g : TG} (he : PE X e te) (hg : PG X tg g) (hs : swapsWithSole [tg] e pos.line X.env = pure false := by rfl) (hw : swappedStores [tg] e X.env = pure none := by rfl)
    (h1 : (assignEach [tg] X.env).map (·.2) = [assign tg X.env] := by rfl) : PS X (.Assign [tg] e pos) (tAsg te g) := by
  intro pins s σ H D I h
  refine wpAny_Assign_stores (thn (he pins s σ H _ I h) fun v s1 ⟨x, H1, I1, r1, q1⟩ => ?_) hs hw
  rw [h1]
  exact thn (hg pins s1 σ H1 x v _ I1 r1 q1) fun _ s2 q => q
/-- name = value -/
theorem ps_set {i : Nat} {x : Str} {e : Expr} {te : TE} {pos' : Pos} (hN : X.N.Nodup) (hi : X.N[i]? = some x) (hx : Loc X.env.scope x) (he : PE X e te) (hs : swapsWith e (some (.Name x pos')) pos.line X.env = pure false := by rfl) (hf : X.fn x = true ∨ X.env.scope.names.lookup x = some .local := by first | exact .inl rfl | exact .inr rfl | assumption) :
    PS X (.Assign [.Name x pos'] e pos) (tAsg te (gName i)) := by
  intro pins s σ H D I h
  refine wpAny_Assign_Name (thn (he pins s σ H _ I h) fun v s1 ⟨y, H1, I1, r1, q1⟩ => ?_) hs
  exact store_ok I1 hN hi hx r1 (fun s2 I2 => ⟨_, H1, I2, q1⟩) hf
/-- a, b = x, y with plain local names: stored from the right; the pair itself is not tracked (the opening rows as in PyProof/Rows/TupAssign.lean:23) -/
def tPar (i j : Nat) (ta : TA) : TS := fun D σ H => ta σ H fun vs H1 => ∃ v w, vs = [v, w] ∧ D.nx ((σ.set i (some v)).set j (some w)) H1
theorem ps_par {i j : Nat} {x y : Str} {a b : Expr} {ta : TA} {px py pt : Pos} {kt k2 pt2} (hc : X.calm = true) (hN : X.N.Nodup) (hi : X.N[i]? = some x) (hj : X.N[j]? = some y) (hij : i ≠ j)
    (hx : X.env.scope.names.lookup x = some .local) (hy : X.env.scope.names.lookup y = some .local) (ha : PA X [a, b] ta)
    (hw : swappedStores [.Tuple [.Name x px, .Name y py] kt pt] (.Tuple [a, b] k2 pt2) X.env = pure (some [x, y]))
    (hs : swapsWithSole [.Tuple [.Name x px, .Name y py] kt pt] (.Tuple [a, b] k2 pt2) pos.line X.env = pure false := by rfl) :
    PS X (.Assign [.Tuple [.Name x px, .Name y py] kt pt] (.Tuple [a, b] k2 pt2) pos) (tPar i j ta) := by
  intro pins s σ H D I h
  rw [exec_Assign_arm]
  refine wpAny_bind (wpAny_standAt ?_)
  rw [hs]
  refine wpAny_bind (wpAny_pure ?_)
  rw [if_neg (by decide)]
  refine wpAny_bind (Tuple_ (thn (ha _ pins s σ H _ I h) fun us s1 ⟨vs, H1, I1, r1, q1⟩ => ?_))
  obtain ⟨v, w, e1, q1⟩ := q1
  subst e1
  obtain ⟨u1, u2, rfl, rv, rw'⟩ : ∃ u1 u2, us = [u1, u2] ∧ RelV v u1 ∧ RelV w u2 := by
    cases r1 with
    | cons p q =>
      cases q with
      | cons p' q' =>
        cases q'
        exact ⟨_, _, rfl, p, p'⟩
  refine wpAny_newObj_type ?_ (by show 2 ≤ sizeLine; decide)
  have I2 : Inv X pins σ H1 { s1 with heap := s1.heap.push { cls := .type "tuple", data := .seq [u1, u2].toArray } } := I1.kept (t' := s1.toks) fun b o e => Heap.get?_push_of_some _ e
  rw [hw]
  refine wpAny_bind (wpAny_pure ?_)
  show wpAny (model X.prog X.w) X.A (do rule "assign.swapped-stores"; let items ← unpackItems (.ref s1.heap.objs.size) 2 none; assignInOrder [fun v => bindName X.env y v, fun v => bindName X.env x v] items.reverse; pure Flow.next) _ _ _
  refine wpAny_bind (wpAny_rule (wpAny_bind (unpackItems_tuple (items := #[u1, u2]) (I.ok.hd hc) (IsTup.new s1.heap _) fun h' hx' => ?_)))
  have I3 := I2.kept (h' := h') (t' := s1.toks) fun b o e => hx' b o (Nat.ne_of_lt (Heap.lt_size e)) e
  show wpAny _ _ (assignInOrder [fun v => bindName X.env y v, fun v => bindName X.env x v] [u2, u1] >>= fun _ => pure Flow.next) _ _ _
  refine wpAny_bind (assignInOrder_cons (wpAny_bindName (store_ok I3 hN hj (.inl hy) rw' (fun s2 I4 => ?_) (.inr hy))))
  refine assignInOrder_cons (wpAny_bindName (store_ok I4 hN hi (.inl hx) rv (fun s3 I5 => assignInOrder_nil (wpAny_pure ?_)) (.inr hx)))
  rw [List.set_comm _ _ (Ne.symm hij)] at I5
  exact ⟨_, H1, I5, q1⟩
/-- name op= e -/
def tAug (i : Nat) (te : TE) (ti : TIp) : TS := fun D σ H => ∃ x, σ[i]? = some (some x) ∧ te σ H fun y H1 => ti x y H1 fun z H2 => D.nx (σ.set i (some z)) H2
theorem ps_aug {i : Nat} {x : Str} {e : Expr} {te : TE} {op : Operator} {ti : TIp} {pos' : Pos} (hN : X.N.Nodup) (hi : X.N[i]? = some x) (hx : Loc X.env.scope x) (he : PE X e te) (ho : PIp X op ti) (hf : X.fn x = true ∨ X.env.scope.names.lookup x = some .local := by first | exact .inl rfl | exact .inr rfl | assumption) :
    PS X (.AugAssign (.Name x pos') op e pos) (tAug i te ti) := by
  intro pins s σ H D I h
  obtain ⟨v, e1, h⟩ := h
  obtain ⟨m, hn, hl⟩ := I.loc
  have vis : Vis X.env.scope x := by rcases hx with k | k; exact .inl k; exact .inr (.inl k)
  obtain ⟨u, r, l⟩ := hl i x v hi e1 vis
  refine wpAny_AugAssign_Name ?_
  have go : wpAny (model X.prog X.w) X.A (eval e X.env) (fun w s₂ => wpAny (model X.prog X.w) X.A (inplaceOp op u w) (fun r s₃ => wpAny (model X.prog X.w) X.A (storeName X.env x r) (fun _ => SP X pins D .next) X.xe s₃) X.xe s₂) X.xe s := by
    refine thn (he pins s σ H _ I h) fun w s1 ⟨y, H1, I1, r1, q1⟩ => ?_
    refine thn (ho pins s1 σ H1 v y u w _ I1 r r1 q1) fun z s2 ⟨zv, H2, I2, r2, q2⟩ => ?_
    exact store_ok I2 hN hi hx r2 (fun s3 I3 => ⟨_, H2, I3, q2⟩) hf
  rcases l with ⟨hk, hm⟩ | ⟨hk, c, hc, hcell⟩
  · exact wpAny_loadName_local I.ok.kind hk hn hm go
  · rcases hk with hk | hk
    · exact wpAny_loadName_cell I.ok.kind hk hc hcell go
    · rcases hx with k | k
      · have : X.env.scope.names.lookup x = some .free := hk
        rw [k] at this; cases this
      · have : X.env.scope.names.lookup x = some .free := hk
        rw [k] at this; cases this
/-- o[i] op= e -/
def tAugS (to ti te : TE) (tget : V → V → Hp → VK → Prop) (tip : TIp) (tset : TSet) : TS := fun D σ H => to σ H fun o H1 => ti σ H1 fun i H2 => tget o i H2 fun x H3 => te σ H3 fun y H4 => tip x y H4 fun z H5 => tset o i z H5 fun H6 => D.nx σ H6
/-- o[i], by values -/
def PGet (X : Cx) (t : V → V → Hp → VK → Prop) : Prop :=
  ∀ (pins : List (Addr × Obj)) (s : Shared) (σ : St) (H : Hp) (o i : V) (ov iv : Value) (Q : VK), Inv X pins σ H s → RelV o ov → RelV i iv → t o i H Q →
    wpAny (model X.prog X.w) X.A (getItem ov iv) (EP X pins σ Q) X.xe s
theorem ps_augS {o i e : Expr} {to ti te : TE} {tget : V → V → Hp → VK → Prop} {tip : TIp} {tset : TSet} {op : Operator} {tpos : Pos} (ho : PE X o to) (hi : PE X i ti) (hg : PGet X tget) (he : PE X e te) (hp : PIp X op tip) (hs : PSet X tset)
    (ha : ∀ ov iv new, augStore i ov iv new = (do holding [new, ov, iv] (setItem ov iv new); release [new, ov, iv] []; pure .next) := by intros; rfl) : PS X (.AugAssign (.Subscript o i tpos) op e pos) (tAugS to ti te tget tip tset) := by
  intro pins s σ H D I h
  refine wpAny_AugAssign_SubscriptAny (thn (ho pins s σ H _ I h) fun ov s1 ⟨x1, H1, I1, r1, q1⟩ => ?_) ha
  refine thn (hi pins s1 σ H1 _ I1 q1) fun iv s2 ⟨x2, H2, I2, r2, q2⟩ => ?_
  refine thn (hg pins s2 σ H2 x1 x2 ov iv _ I2 r1 r2 q2) fun old s3 ⟨x3, H3, I3, r3, q3⟩ => ?_
  refine thn (he pins s3 σ H3 _ I3 q3) fun v s4 ⟨x4, H4, I4, r4, q4⟩ => ?_
  refine thn (hp pins s4 σ H4 x3 x4 old v _ I4 r3 r4 q4) fun new s5 ⟨x5, H5, I5, r5, q5⟩ => ?_
  exact thn (hs pins s5 σ H5 x1 x2 x5 ov iv new _ I5 r1 r2 r5 q5) fun _ s6 ⟨H6, I6, q6⟩ => ⟨σ, H6, I6, q6⟩
/-- ints -/
def ipI (f : Int → Int → Int) : TIp := fun x y H Q => ∃ i j, x = .int i ∧ y = .int j ∧ Q (.int (f i j)) H
theorem ip_add : PIp X .Add (ipI fun i j => i + j) := by
  intro pins s σ H x y v u Q I r1 r2 h
  obtain ⟨i, j, e1, e2, q⟩ := h
  subst e1; subst e2
  obtain ⟨t, rfl⟩ := r1
  obtain ⟨t', rfl⟩ := r2
  exact iadd_int ⟨.int _, H, I.tok _, ⟨_, rfl⟩, q⟩
theorem ip_sub : PIp X .Sub (ipI fun i j => i - j) := by
  intro pins s σ H x y v u Q I r1 r2 h
  obtain ⟨i, j, e1, e2, q⟩ := h
  subst e1; subst e2
  obtain ⟨t, rfl⟩ := r1
  obtain ⟨t', rfl⟩ := r2
  exact isub_int ⟨.int _, H, I.tok _, ⟨_, rfl⟩, q⟩
end

/-! ### while -/
section
variable {X : Cx} {pos : Pos}
/-- the invariant W with its measure -/
def tWhile (c : TT) (tb : TS) : TS := fun D σ H => ∃ W : Nat → St → Hp → Prop, (∃ m, W m σ H) ∧ ∀ m σ H, W m σ H →
  c σ H fun b H1 => if b = true then ∃ N : St → Hp → Prop, (∀ σ' H', N σ' H' → ∃ m', m' < m ∧ W m' σ' H') ∧ tb { D with nx := N, ct := N, bk := D.nx } σ H1 else D.nx σ H1
theorem ps_while {c : Expr} {body : List Stmt} {tc : TT} {tb : TS} (hp : PassesOwn (model X.prog X.w) X.A X.env X.xe) (hc : PT X c tc) (hb : PSs X body tb) : PS X (.While c body [] pos) (tWhile tc tb) := by
  intro pins s σ H D I h
  obtain ⟨W, ⟨m0, w0⟩, turn⟩ := h
  refine wpAny_While (codeAny_whileLoop (fun n s' => ∃ σ' H', Inv X pins σ' H' s' ∧ W n σ' H') ?_ m0 ⟨σ, H, I, w0⟩)
  rintro n s1 ⟨σ1, H1, I1, w1⟩
  refine wpAny_passesOwn hp (thn (hc pins s1 σ1 H1 _ I1 (turn n σ1 H1 w1)) fun b s2 ⟨H2, I2, q2⟩ => ?_)
  cases b with
  | true =>
    obtain ⟨N, hN, q2⟩ := q2
    rw [if_pos rfl]
    refine wpAny_passesOwn hp (thn (hb pins s2 σ1 H2 _ I2 q2) fun f s3 q3 => ?_)
    cases f with
    | next =>
      obtain ⟨σ3, H3, I3, n3⟩ := q3
      obtain ⟨m', hm, w3⟩ := hN σ3 H3 n3
      exact ⟨m', hm, σ3, H3, I3, w3⟩
    | cont =>
      obtain ⟨σ3, H3, I3, n3⟩ := q3
      obtain ⟨m', hm, w3⟩ := hN σ3 H3 n3
      exact ⟨m', hm, σ3, H3, I3, w3⟩
    | brk => exact q3
    | ret v => exact q3
  | false =>
    rw [if_neg Bool.false_ne_true]
    exact wpAny_execs_nil ⟨σ1, H2, I2, q2⟩
end

/-! ### what a loop or a comprehension walks -/
/-- at turn i: it yields x (the heap may grow), or it stops -/
structure It where
  go : Nat → Hp → Prop
  yld : Nat → Hp → V → Hp → Prop
  stop : Nat → Hp → Prop
/-- the iterator's own objects may turn: they are not the frame's, not pinned, younger than the entry (or a comprehension's own) -/
def FpOk (X : Cx) (pins : List (Addr × Obj)) (H : Hp) (b : Addr) : Prop :=
  H b = none ∧ b ≠ X.env.locals ∧ b ∉ X.fs ∧ (b ∈ X.ex ∨ X.s₀.heap.objs.size ≤ b) ∧ (∀ x c, X.env.cells.lookup x = some c → c ≠ b) ∧ ∀ p ∈ X.pn ++ pins, p.1 ≠ b
theorem Inv.fpOk {X : Cx} {pins : List (Addr × Obj)} {σ : St} {H H' : Hp} {s : Shared} {b : Addr} (I : Inv X pins σ H s) (hb : s.heap.objs.size ≤ b) (hn : H' b = none) : FpOk X pins H' b := by
  refine ⟨hn, Nat.ne_of_gt (Nat.lt_of_lt_of_le I.lt hb), I.nofs hb, .inr (Nat.le_trans I.sz hb), fun x c e z => ?_, fun p hp z => ?_⟩
  · obtain ⟨v, q⟩ := I.cell x c e
    exact absurd (Nat.lt_of_lt_of_le q.lt (by rw [z]; exact hb)) (Nat.lt_irrefl _)
  · exact absurd (Nat.lt_of_lt_of_le (Heap.lt_size (I.pin p hp).1) (by rw [z]; exact hb)) (Nat.lt_irrefl _)
structure Turn (P : Program) (w : World) (K : PySem.W.Frag) (tg : Expr) (J : It) (fp : List Addr) (it : Addr) (tn : Nat → Heap → Prop) : Prop where
  mem : it ∈ fp
  obj : ∀ i h, tn i h → ∀ b ∈ fp, ∃ o, h.get? b = some o ∧ ∀ v, o.data ≠ .cell v
  keep : ∀ i h h', tn i h → (∀ b ∈ fp, ∀ o, h.get? b = some o → h'.get? b = some o) → tn i h'
  item : ∀ (X : Cx), X.prog = P → X.w = w → X.K = K → X.calm = true → ∀ (i : Nat) (pins : List (Addr × Obj)) (s : Shared) (σ : St) (H : Hp) (E : Value → Shared → Prop), Inv X pins σ H s → (∀ b ∈ fp, FpOk X pins H b) → tn i s.heap → J.go i H →
    wpAny (model P w) X.A (pyNext (.ref it)) (fun r s1 => ∃ u, r = some u ∧
      wpAny (model P w) X.A (letOwnedTupleGo tg (.ref it) u) (fun _ s2 => ∃ x H', Inv X pins σ H' s2 ∧ RelV x u ∧ J.yld i H x H' ∧ tn (i + 1) s2.heap ∧ ∀ b ∈ fp, H' b = none) E s1) E s
  done : ∀ (X : Cx), X.prog = P → X.w = w → X.K = K → X.calm = true → ∀ (i : Nat) (pins : List (Addr × Obj)) (s : Shared) (σ : St) (H : Hp) (E : Value → Shared → Prop), Inv X pins σ H s → (∀ b ∈ fp, FpOk X pins H b) → tn i s.heap → J.stop i H →
    wpAny (model P w) X.A (pyNext (.ref it)) (fun r s1 => r = none ∧ Inv X pins σ H s1) E s
  self : ∀ (A : Around) (i : Nat) (s : Shared) (Q : Value → Shared → Prop) (E : Value → Shared → Prop), tn i s.heap → Q (.ref it) s → wpAny (model P w) A (pyIter (.ref it)) Q E s
abbrev TI := St → Hp → (It → Hp → Prop) → Prop
/-- an iterator has come -/
def PIE (X : Cx) (pins : List (Addr × Obj)) (σ : St) (tg : Expr) (R : It → Hp → Prop) (itv : Value) (s2 : Shared) : Prop :=
  ∃ (it : Addr) (fp : List Addr) (tn : Nat → Heap → Prop) (J : It) (H' : Hp), itv = .ref it ∧ Inv X pins σ H' s2 ∧ Turn X.prog X.w X.K tg J fp it tn ∧ tn 0 s2.heap ∧ (∀ b ∈ fp, FpOk X pins H' b) ∧ R J H'
def PI (X : Cx) (tg iter : Expr) (wi : TI) : Prop :=
  ∀ (pins : List (Addr × Obj)) (s : Shared) (σ : St) (H : Hp) (R : It → Hp → Prop), Inv X pins σ H s → wi σ H R →
    wpAny (model X.prog X.w) X.A (eval iter X.env) (fun v s1 => wpAny (model X.prog X.w) X.A (pyIter v) (PIE X pins σ tg R) X.xe s1) X.xe s

/-- the step ahead of the store is nothing for an iterator that keeps no tuple -/
theorem go_of {M : Model} {A : Around} {E : Value → Shared → Prop} {s : Shared} {tg : Expr} {it : Addr} {u : Value} {o : Obj} {n : String} {vs : Array Value} {Q : Unit → Shared → Prop} (ho : s.heap.get? it = some o) (hc : o.cls = .type n) (hd : o.data = .fields vs)
    (hn : ["enumerate", "zip", "dict_itemiterator", "dict_reverseitemiterator", "odict_iterator", "itertools.zip_longest", "itertools.pairwise"].contains n = false) (hQ : Q () s) : wpAny M A (letOwnedTupleGo tg (.ref it) u) Q E s := by
  unfold letOwnedTupleGo
  cases tg <;> first
    | exact wpAny_pure hQ
    | (cases u <;> first
        | exact wpAny_pure hQ
        | (refine wpAny_bind (wpAny_load ho ?_)
           rw [hc, hd]
           show wpAny M A (if (["enumerate", "zip", "dict_itemiterator", "dict_reverseitemiterator", "odict_iterator", "itertools.zip_longest", "itertools.pairwise"].contains n && vs[0]? == some (rawInt _)) = true then _ else _) Q E s
           rw [if_neg (by intro h; rw [hn, Bool.false_and] at h; cases h)]
           exact wpAny_pure hQ))

/-- the list at a, as it stands at each turn (a loop may append to it) -/
def Itl (K : PySem.W.Frag) (a : Addr) : It :=
  ⟨fun i H => ∃ xs x, SqL K H a xs ∧ xs[i]? = some x, fun i H x H' => H' = H ∧ ∀ xs, SqL K H a xs → xs[i]? = some x, fun i H => ∃ xs, SqL K H a xs ∧ xs.length ≤ i⟩
def Itt (K : PySem.W.Frag) (a : Addr) : It :=
  ⟨fun i H => ∃ xs x, SqT K H a xs ∧ xs[i]? = some x, fun i H x H' => H' = H ∧ ∀ xs, SqT K H a xs → xs[i]? = some x, fun i H => ∃ xs, SqT K H a xs ∧ xs.length ≤ i⟩
/-- lo, lo + 1, .. (n of them) -/
def Itr (lo : Int) (n : Nat) : It := ⟨fun i _ => i < n, fun i H x H' => H' = H ∧ x = .int (lo + i), fun i _ => n ≤ i⟩
theorem turn_list {P : Program} {w : World} {K : PySem.W.Frag} {tg : Expr} (a it : Addr) : Turn P w K tg (Itl K a) [it] it (fun i h => h.IsListIter it a i) where
  mem := by simp
  obj := fun i h st b hb => by
    have e : b = it := by simpa using hb
    subst e
    obtain ⟨o, e, c, d⟩ := st
    exact ⟨o, e, fun v z => by rw [d] at z; cases z⟩
  keep := fun i h h' st k => st.at fun o e => k it (by simp) o e
  item := by
    intro X hP hw hK hc i pins s σ H E I hf st hg
    subst hP hw hK
    obtain ⟨xs, x, hq, hx⟩ := hg
    obtain ⟨its, rv, p, hz⟩ := I.list hq
    obtain ⟨u, hu, ru⟩ := rv.get hx
    obtain ⟨f0, f1, f2, f3, f4, f5⟩ := hf it (by simp)
    refine wpAny_pyNext_list_item st p.isList (x := u) (by simpa using hu) fun h' st' sb => ?_
    have I1 : Inv X pins σ H { s with heap := h' } := I.turned (t' := s.toks) (fun b o hb e => (sb.2 b hb).trans e) f0 f1 f3 f4 f5
    obtain ⟨o, e, c, d⟩ := id st'
    exact ⟨u, rfl, go_of (s := { s with heap := h' }) e c d (by decide) ⟨x, H, I1, ru, ⟨rfl, fun ys hy => by rw [I.list_inj hy hq]; exact hx⟩, st', fun b hb => (hf b hb).1⟩⟩
  done := by
    intro X hP hw hK hc i pins s σ H E I hf st hg
    subst hP hw hK
    obtain ⟨xs, hq, hx⟩ := hg
    obtain ⟨its, rv, p, hz⟩ := I.list hq
    obtain ⟨f0, f1, f2, f3, f4, f5⟩ := hf it (by simp)
    have hl := rv.length
    exact wpAny_pyNext_list_end (I.ok.hd hc) st p.isList (by simp; omega) fun h' eb => ⟨rfl, I.turned (t' := s.toks) (fun b o hb e => eb b o hb e) f0 f1 f3 f4 f5⟩
  self := fun _ _ _ _ _ st h => wpAny_pyIter_listiter st h
theorem turn_tuple {P : Program} {w : World} {K : PySem.W.Frag} {tg : Expr} (a it : Addr) : Turn P w K tg (Itt K a) [it] it (fun i h => h.IsTupleIter it a i) where
  mem := by simp
  obj := fun i h st b hb => by
    have e : b = it := by simpa using hb
    subst e
    obtain ⟨o, e, c, d⟩ := st
    exact ⟨o, e, fun v z => by rw [d] at z; cases z⟩
  keep := fun i h h' st k => st.at fun o e => k it (by simp) o e
  item := by
    intro X hP hw hK hc i pins s σ H E I hf st hg
    subst hP hw hK
    obtain ⟨xs, x, hq, hx⟩ := hg
    obtain ⟨its, rv, p, hz⟩ := I.tuple hq
    obtain ⟨u, hu, ru⟩ := rv.get hx
    obtain ⟨f0, f1, f2, f3, f4, f5⟩ := hf it (by simp)
    refine wpAny_pyNext_tuple_item st (show s.heap.IsTuple a its.toArray from p) (x := u) (by simpa using hu) fun h' st' sb => ?_
    have I1 : Inv X pins σ H { s with heap := h' } := I.turned (t' := s.toks) (fun b o hb e => (sb.2 b hb).trans e) f0 f1 f3 f4 f5
    obtain ⟨o, e, c, d⟩ := id st'
    exact ⟨u, rfl, go_of (s := { s with heap := h' }) e c d (by decide) ⟨x, H, I1, ru, ⟨rfl, fun ys hy => by rw [I.tuple_inj hy hq]; exact hx⟩, st', fun b hb => (hf b hb).1⟩⟩
  done := by
    intro X hP hw hK hc i pins s σ H E I hf st hg
    subst hP hw hK
    obtain ⟨xs, hq, hx⟩ := hg
    obtain ⟨its, rv, p, hz⟩ := I.tuple hq
    obtain ⟨f0, f1, f2, f3, f4, f5⟩ := hf it (by simp)
    have hl := rv.length
    exact wpAny_pyNext_tuple_end (I.ok.hd hc) st (show s.heap.IsTuple a its.toArray from p) (by simp; omega) fun h' eb => ⟨rfl, I.turned (t' := s.toks) (fun b o hb e => eb b o hb e) f0 f1 f3 f4 f5⟩
  self := fun _ _ _ _ _ st h => wpAny_pyIter_tupleiter st h
theorem turn_range {P : Program} {w : World} {K : PySem.W.Frag} {tg : Expr} (it : Addr) (lo : Int) (n : Nat) : Turn P w K tg (Itr lo n) [it] it (fun i h => IsRangeIter h it (lo + (i : Nat) * 1) ((n : Int) - (i : Nat)) 1) where
  mem := by simp
  obj := fun i h st b hb => by
    have e : b = it := by simpa using hb
    subst e
    exact ⟨_, st, fun v z => by
      have z' : Data.fields _ = Data.cell v := z
      cases z'⟩
  keep := fun i h h' st k => k it (by simp) _ st
  item := by
    intro X hP hw hK hc i pins s σ H E I hf st hg
    subst hP hw hK
    obtain ⟨f0, f1, f2, f3, f4, f5⟩ := hf it (by simp)
    have W := Walks.range (prog := X.prog) (w := X.w) (I.ok.hd hc) it lo 1 n
    refine W.item i s _ _ hg st fun v h' tk hv st' kk => ?_
    obtain ⟨t, rfl⟩ := hv
    have I1 : Inv X pins σ H { s with heap := h', toks := tk } := I.turned (fun b o hb e => kk b o (by simpa using hb) e) f0 f1 f3 f4 f5
    refine ⟨_, rfl, go_of (s := { s with heap := h', toks := tk }) (n := "range_iterator") st' rfl rfl (by decide) ⟨.int (lo + i), H, I1, ⟨t, ?_⟩, ⟨rfl, rfl⟩, st', fun b hb => (hf b hb).1⟩⟩
    rw [Int.mul_one]
  done := by
    intro X hP hw hK hc i pins s σ H E I hf st hg
    subst hP hw hK
    obtain ⟨f0, f1, f2, f3, f4, f5⟩ := hf it (by simp)
    exact wpAny_pyNext_range_end (I.ok.hd hc) st (by have : n ≤ i := hg; omega) fun h' eb => ⟨rfl, I.turned (t' := s.toks) (fun b o hb e => eb b o hb e) f0 f1 f3 f4 f5⟩
  self := fun _ _ _ _ _ st h => wpAny_pyIter_rangeiter st h
end L2

namespace L2
open PySem PySem.Spec PyProof.Rows
section
variable {X : Cx} {tg : Expr}
def iList (K : PySem.W.Frag) (tl : TE) : TI := fun σ H R => tl σ H fun x H1 => ∃ a, x = .ref a ∧ (∃ xs, SqL K H1 a xs) ∧ R (Itl K a) H1
def iTup (K : PySem.W.Frag) (tl : TE) : TI := fun σ H R => tl σ H fun x H1 => ∃ a, x = .ref a ∧ (∃ xs, SqT K H1 a xs) ∧ R (Itt K a) H1
theorem pi_list {l : Expr} {tl : TE} (hl : PE X l tl) : PI X tg l (iList X.K tl) := by
  intro pins s σ H R I h
  refine thn (hl pins s σ H _ I h) fun v s1 ⟨x, H1, I1, r1, q1⟩ => ?_
  obtain ⟨a, e, ⟨xs, hq⟩, q⟩ := q1
  subst e
  cases r1
  obtain ⟨its, rv, p, hz⟩ := I1.list hq
  refine wpAny_pyIter_list p.isList ?_
  refine ⟨s1.heap.objs.size, [s1.heap.objs.size], _, _, H1, rfl, I1.kept (t' := s1.toks) fun b o e => Heap.get?_push_of_some _ e, turn_list a _, ⟨_, Heap.get?_push_size _ rfl, rfl, rfl⟩, fun b hb => ?_, q⟩
  have e : b = s1.heap.objs.size := by simpa using hb
  subst e
  exact I1.fpOk (Nat.le_refl _) (I1.hok.fresh (Nat.le_refl _))
theorem pi_tup {l : Expr} {tl : TE} (hl : PE X l tl) : PI X tg l (iTup X.K tl) := by
  intro pins s σ H R I h
  refine thn (hl pins s σ H _ I h) fun v s1 ⟨x, H1, I1, r1, q1⟩ => ?_
  obtain ⟨a, e, ⟨xs, hq⟩, q⟩ := q1
  subst e
  cases r1
  obtain ⟨its, rv, p, hz⟩ := I1.tuple hq
  refine wpAny_pyIter_tuple (show s1.heap.IsTuple a its.toArray from p) ?_
  refine ⟨s1.heap.objs.size, [s1.heap.objs.size], _, _, H1, rfl, I1.kept (t' := s1.toks) fun b o e => Heap.get?_push_of_some _ e, turn_tuple a _, ⟨_, Heap.get?_push_size _ rfl, rfl, rfl⟩, fun b hb => ?_, q⟩
  have e : b = s1.heap.objs.size := by simpa using hb
  subst e
  exact I1.fpOk (Nat.le_refl _) (I1.hok.fresh (Nat.le_refl _))
/-- a range object just made, walked -/
theorem range_it {pins : List (Addr × Obj)} {σ : St} {H : Hp} {s : Shared} {R : It → Hp → Prop} {E : Value → Shared → Prop} {lo hi : Int} {t u v : Tok} {tk : Nat} (I : Inv X pins σ H s) (h1 : -(2 ^ 62) ≤ lo) (h2 : lo < 2 ^ 62) (h3 : -(2 ^ 62) ≤ hi) (h4 : hi < 2 ^ 62)
    (q : R (Itr lo (hi - lo).toNat) H) : wpAny (model X.prog X.w) X.A (pyIter (.ref s.heap.objs.size)) (PIE X pins σ tg R) E { s with heap := s.heap.push { cls := .type "range", data := .fields #[.int lo t, .int hi u, .int 1 v] }, toks := tk } := by
  refine wpAny_pyIter_range (IsRange.new ..) (small_one h1 h2 h3 h4) ?_
  have I1 : Inv X pins σ H { s with heap := s.heap.push { cls := .type "range", data := .fields #[.int lo t, .int hi u, .int 1 v] }, toks := tk } := I.kept fun b o e => Heap.get?_push_of_some _ e
  refine ⟨(s.heap.push { cls := .type "range", data := .fields #[.int lo t, .int hi u, .int 1 v] }).objs.size, [(s.heap.push { cls := .type "range", data := .fields #[.int lo t, .int hi u, .int 1 v] }).objs.size], _, _, H, rfl,
    I1.kept (t' := tk) fun b o e => Heap.get?_push_of_some _ e, turn_range _ lo (hi - lo).toNat, ?_, fun b hb => ?_, q⟩
  · have e1 : lo + ((0 : Nat) : Int) * 1 = lo := by simp
    have e2 : (((hi - lo).toNat : Nat) : Int) - ((0 : Nat) : Int) = Builtin.Range.rangeSize lo hi 1 := by rw [rangeSize_one]; split <;> omega
    show IsRangeIter _ _ (lo + ((0 : Nat) : Int) * 1) ((((hi - lo).toNat : Nat) : Int) - ((0 : Nat) : Int)) 1
    rw [e1, e2]
    exact Heap.get?_push_size _ rfl
  · have e : b = (s.heap.push { cls := .type "range", data := .fields #[.int lo t, .int hi u, .int 1 v] }).objs.size := by simpa using hb
    subst e
    exact I1.fpOk (Nat.le_refl _) (I1.hok.fresh (Nat.le_refl _))
def iRng1 (ta : TA) : TI := fun σ H R => ta σ H fun vs H1 => ∃ j : Int, vs = [.int j] ∧ -(2 ^ 62) ≤ j ∧ j < 2 ^ 62 ∧ R (Itr 0 j.toNat) H1
def iRng2 (ta : TA) : TI := fun σ H R => ta σ H fun vs H1 => ∃ i j : Int, vs = [.int i, .int j] ∧ (-(2 ^ 62) ≤ i ∧ i < 2 ^ 62 ∧ -(2 ^ 62) ≤ j ∧ j < 2 ^ 62) ∧ R (Itr i (j - i).toNat) H1
theorem pi_range1 {a : Expr} {ta : TA} {p pos : Pos} (hg : Gl X "range") (hm : X.mg "range" = none) (ha : PA X [a] ta) (hs : starEach [a] X.env = [(false, eval a X.env)] := by rfl) : PI X tg (.Call (.Name "range" p) [a] [] pos) (iRng1 ta) := by
  intro pins s σ H R I h
  refine Call_ (ld_blt I hg hm boot_range (PyProof.Rows.callWith_type1 (thn (ha pos pins s σ H _ I h) fun us s1 ⟨vs, H1, I1, r1, q1⟩ => ?_) hs rfl))
  obtain ⟨j, e, q1, q2, q⟩ := q1
  subst e
  cases r1 with
  | cons r rr =>
    cases rr
    obtain ⟨t, rfl⟩ := r
    exact call_range_1 (range_it I1 (by omega) (by omega) q1 q2 (by simpa using q))
theorem pi_range2 {a b : Expr} {ta : TA} {p pos : Pos} (hg : Gl X "range") (hm : X.mg "range" = none) (ha : PA X [a, b] ta) (hs : starEach [a, b] X.env = [(false, eval a X.env), (false, eval b X.env)] := by rfl) (hs2 : starEach [b] X.env = [(false, eval b X.env)] := by rfl) :
    PI X tg (.Call (.Name "range" p) [a, b] [] pos) (iRng2 ta) := by
  intro pins s σ H R I h
  refine Call_ (ld_blt I hg hm boot_range (PyProof.Rows.callWith_type1 (thn (ha pos pins s σ H _ I h) fun us s1 ⟨vs, H1, I1, r1, q1⟩ => ?_) (by rw [hs, hs2]) (by rw [hs2]; rfl)))
  obtain ⟨i, j, e, ⟨q1, q2, q3, q4⟩, q⟩ := q1
  subst e
  cases r1 with
  | cons r rr =>
    cases rr with
    | cons r' rr =>
      cases rr
      obtain ⟨t, rfl⟩ := r
      obtain ⟨t', rfl⟩ := r'
      exact call_range_2 (range_it I1 q1 q2 q3 q4 q)

/-! ### for -/
/-- W: the invariant by the turn and a measure; N: what the body is to reach -/
def tFor (wi : TI) (g : TG) (tb : TS) : TS := fun D σ H => wi σ H fun J H1 => ∃ W : Nat → Nat → St → Hp → Prop, (∃ m, W 0 m σ H1) ∧ ∀ i m σ H, W i m σ H →
  (J.stop i H ∧ D.nx σ H) ∨ (J.go i H ∧ ∃ N : St → Hp → Prop, (∀ σ' H', N σ' H' → ∃ m', m' < m ∧ W (i + 1) m' σ' H') ∧ ∀ x H', J.yld i H x H' → g x σ H' fun σ2 H2 => tb { D with nx := N, ct := N, bk := D.nx } σ2 H2)
/-- the records at fp as they stand -/
def pinsAt (fp : List Addr) (h : Heap) : List (Addr × Obj) := fp.filterMap fun b => (h.get? b).map fun o => (b, o)
theorem mem_pinsAt {fp : List Addr} {h : Heap} {b : Addr} {o : Obj} (hb : b ∈ fp) (e : h.get? b = some o) : (b, o) ∈ pinsAt fp h := List.mem_filterMap.mpr ⟨b, hb, by rw [e]; rfl⟩
theorem of_pinsAt {fp : List Addr} {h : Heap} {p : Addr × Obj} (hp : p ∈ pinsAt fp h) : p.1 ∈ fp ∧ h.get? p.1 = some p.2 := by
  obtain ⟨b, hb, e⟩ := List.mem_filterMap.mp hp
  cases q : h.get? b with
  | none => rw [q] at e; cases e
  | some o =>
    rw [q] at e
    have e' : (b, o) = p := Option.some.inj e
    subst e'
    exact ⟨hb, q⟩
theorem Inv.pinned {pins : List (Addr × Obj)} {σ : St} {H : Hp} {s : Shared} {fp : List Addr} (I : Inv X pins σ H s) (hf : ∀ b ∈ fp, FpOk X pins H b) (ho : ∀ b ∈ fp, ∃ o, s.heap.get? b = some o ∧ ∀ v, o.data ≠ .cell v) : Inv X (pins ++ pinsAt fp s.heap) σ H s :=
  I.pins_of fun p hp => (List.mem_append.mp hp).elim (fun z => I.pin p (List.mem_append_right _ z)) fun z => by
    obtain ⟨hb, e⟩ := of_pinsAt z
    obtain ⟨f0, f1, f2, _⟩ := hf p.1 hb
    obtain ⟨o, e', d⟩ := ho p.1 hb
    rw [e] at e'; cases e'
    exact ⟨e, f0, f1, f2, d⟩
theorem Inv.unpinned {pins pl : List (Addr × Obj)} {σ : St} {H : Hp} {s : Shared} (I : Inv X (pins ++ pl) σ H s) : Inv X pins σ H s := I.pins_of fun p hp => I.pin p (List.mem_append_right _ (List.mem_append_left _ hp))
theorem ps_for {iter : Expr} {body : List Stmt} {wi : TI} {g : TG} {tb : TS} {pos : Pos} (hp : PassesOwn (model X.prog X.w) X.A X.env X.xe) (hc : X.calm = true) (hi : PI X tg iter wi) (hg : PG X tg g) (hb : PSs X body tb)
    (hs : ∀ x, foldedSetIterable iter X.env x = pure x := by intro _; rfl) : PS X (.For tg iter body [] pos) (tFor wi g tb) := by
  intro pins s σ H D I h
  refine wpAny_For (thn (hi pins s σ H _ I h) fun v s1 h1 => thn h1 fun itv s2 h2 => ?_) hs
  obtain ⟨it, fp, tn, J, H2, e, I2, T, st2, f2, W, ⟨m0, w0⟩, turn⟩ := h2
  subst e
  -- what stays true of the iterator's objects through the loop
  have stat : ∀ {H' : Hp}, (∀ b ∈ fp, H' b = none) → ∀ b ∈ fp, FpOk X pins H' b := fun hn b hb => ⟨hn b hb, (f2 b hb).2⟩
  refine codeAny_forLoop_any (fun n s' => ∃ i σ' H', Inv X pins σ' H' s' ∧ tn i s'.heap ∧ (∀ b ∈ fp, H' b = none) ∧ W i n σ' H') ?_ m0 ⟨0, σ, H2, I2, st2, fun b hb => (f2 b hb).1, w0⟩
  rintro n s3 ⟨i, σ3, H3, I3, st3, fr3, w3⟩
  rcases turn i n σ3 H3 w3 with ⟨stop, qn⟩ | ⟨go, N, hN, step⟩
  · refine wpAny_passesOwn hp (thn (T.done X rfl rfl rfl hc i pins s3 σ3 H3 X.xe I3 (stat fr3) st3 stop) fun r s4 ⟨hr, I4⟩ => ?_)
    subst hr
    exact wpAny_execs_nil ⟨σ3, H3, I4, qn⟩
  · refine wpAny_passesOwn hp (thn (T.item X rfl rfl rfl hc i pins s3 σ3 H3 X.xe I3 (stat fr3) st3 go) fun r s4 ⟨u, hr, h4⟩ => ?_)
    subst hr
    refine wpAny_passesOwn hp (thn h4 fun _ s5 ⟨x, H5, I5, r5, y5, st5, fr5⟩ => ?_)
    have I5' := I5.pinned (stat fr5) (T.obj _ _ st5)
    refine wpAny_passesOwn hp (thn (hg _ s5 σ3 H5 x u _ I5' r5 (step x H5 y5)) fun _ s6 ⟨σ6, H6, I6, q6⟩ => ?_)
    refine wpAny_passesOwn hp (thn (hb _ s6 σ6 H6 _ I6 q6) fun f s7 q7 => ?_)
    have again : ∀ {σ7 : St} {H7 : Hp}, Inv X (pins ++ pinsAt fp s5.heap) σ7 H7 s7 → N σ7 H7 → ∃ m, m < n ∧ ∃ i σ' H', Inv X pins σ' H' s7 ∧ tn i s7.heap ∧ (∀ b ∈ fp, H' b = none) ∧ W i m σ' H' := fun {σ7 H7} I7 n7 => by
      obtain ⟨m', hm, w7⟩ := hN σ7 H7 n7
      refine ⟨m', hm, i + 1, σ7, H7, I7.unpinned, T.keep _ _ _ st5 fun b hb o e => (I7.pin (b, o) (List.mem_append_right _ (List.mem_append_right _ (mem_pinsAt hb e)))).1, fun b hb => ?_, w7⟩
      obtain ⟨o, e, d⟩ := T.obj _ _ st5 b hb
      exact (I7.pin (b, o) (List.mem_append_right _ (List.mem_append_right _ (mem_pinsAt hb e)))).2.1
    cases f with
    | next => obtain ⟨σ7, H7, I7, n7⟩ := q7; exact again I7 n7
    | cont => obtain ⟨σ7, H7, I7, n7⟩ := q7; exact again I7 n7
    | brk => obtain ⟨σ7, H7, I7, q7⟩ := q7; exact ⟨σ7, H7, I7.unpinned, q7⟩
    | ret v => obtain ⟨x7, σ7, H7, I7, r7, q7⟩ := q7; exact ⟨x7, σ7, H7, I7.unpinned, r7, q7⟩
end

/-! ### the forms one uses -/
/-- over a list that the body leaves as it is -/
theorem for_list {K : PySem.W.Frag} {a : Addr} {xs : List V} {g : TG} {tb : TS} {D : Ends} {σ : St} {H : Hp} (Pv : Nat → St → Hp → Prop) (h0 : Pv 0 σ H) (hl : ∀ i σ H, i ≤ xs.length → Pv i σ H → SqL K H a xs)
    (hs : ∀ i x σ H, xs[i]? = some x → Pv i σ H → g x σ H fun σ2 H2 => tb { D with nx := Pv (i + 1), ct := Pv (i + 1), bk := D.nx } σ2 H2) (hd : ∀ σ H, Pv xs.length σ H → D.nx σ H) :
    ∃ W : Nat → Nat → St → Hp → Prop, (∃ m, W 0 m σ H) ∧ ∀ i m σ H, W i m σ H →
      ((Itl K a).stop i H ∧ D.nx σ H) ∨ ((Itl K a).go i H ∧ ∃ N : St → Hp → Prop, (∀ σ' H', N σ' H' → ∃ m', m' < m ∧ W (i + 1) m' σ' H') ∧ ∀ x H', (Itl K a).yld i H x H' → g x σ H' fun σ2 H2 => tb { D with nx := N, ct := N, bk := D.nx } σ2 H2) := by
  refine ⟨fun i m σ H => m = xs.length - i ∧ i ≤ xs.length ∧ Pv i σ H, ⟨xs.length, by simp, Nat.zero_le _, h0⟩, ?_⟩
  rintro i m σ H ⟨rfl, hi, p⟩
  have q := hl i σ H hi p
  by_cases hlt : i < xs.length
  · refine .inr ⟨⟨xs, xs[i], q, by simp [hlt]⟩, Pv (i + 1), fun σ' H' p' => ⟨xs.length - (i + 1), by omega, rfl, hlt, p'⟩, fun x H' y => ?_⟩
    obtain ⟨e, y⟩ := y
    subst e
    exact hs i x σ _ (y xs q) p
  · have e : i = xs.length := by omega
    subst e
    exact .inl ⟨⟨xs, q, Nat.le_refl _⟩, hd σ H p⟩
theorem for_tup {K : PySem.W.Frag} {a : Addr} {xs : List V} {g : TG} {tb : TS} {D : Ends} {σ : St} {H : Hp} (Pv : Nat → St → Hp → Prop) (h0 : Pv 0 σ H) (hl : ∀ i σ H, i ≤ xs.length → Pv i σ H → SqT K H a xs)
    (hs : ∀ i x σ H, xs[i]? = some x → Pv i σ H → g x σ H fun σ2 H2 => tb { D with nx := Pv (i + 1), ct := Pv (i + 1), bk := D.nx } σ2 H2) (hd : ∀ σ H, Pv xs.length σ H → D.nx σ H) :
    ∃ W : Nat → Nat → St → Hp → Prop, (∃ m, W 0 m σ H) ∧ ∀ i m σ H, W i m σ H →
      ((Itt K a).stop i H ∧ D.nx σ H) ∨ ((Itt K a).go i H ∧ ∃ N : St → Hp → Prop, (∀ σ' H', N σ' H' → ∃ m', m' < m ∧ W (i + 1) m' σ' H') ∧ ∀ x H', (Itt K a).yld i H x H' → g x σ H' fun σ2 H2 => tb { D with nx := N, ct := N, bk := D.nx } σ2 H2) := by
  refine ⟨fun i m σ H => m = xs.length - i ∧ i ≤ xs.length ∧ Pv i σ H, ⟨xs.length, by simp, Nat.zero_le _, h0⟩, ?_⟩
  rintro i m σ H ⟨rfl, hi, p⟩
  have q := hl i σ H hi p
  by_cases hlt : i < xs.length
  · refine .inr ⟨⟨xs, xs[i], q, by simp [hlt]⟩, Pv (i + 1), fun σ' H' p' => ⟨xs.length - (i + 1), by omega, rfl, hlt, p'⟩, fun x H' y => ?_⟩
    obtain ⟨e, y⟩ := y
    subst e
    exact hs i x σ _ (y xs q) p
  · have e : i = xs.length := by omega
    subst e
    exact .inl ⟨⟨xs, q, Nat.le_refl _⟩, hd σ H p⟩
theorem for_range {lo : Int} {n : Nat} {g : TG} {tb : TS} {D : Ends} {σ : St} {H : Hp} (Pv : Nat → St → Hp → Prop) (h0 : Pv 0 σ H)
    (hs : ∀ i σ H, i < n → Pv i σ H → g (.int (lo + i)) σ H fun σ2 H2 => tb { D with nx := Pv (i + 1), ct := Pv (i + 1), bk := D.nx } σ2 H2) (hd : ∀ σ H, Pv n σ H → D.nx σ H) :
    ∃ W : Nat → Nat → St → Hp → Prop, (∃ m, W 0 m σ H) ∧ ∀ i m σ H, W i m σ H →
      ((Itr lo n).stop i H ∧ D.nx σ H) ∨ ((Itr lo n).go i H ∧ ∃ N : St → Hp → Prop, (∀ σ' H', N σ' H' → ∃ m', m' < m ∧ W (i + 1) m' σ' H') ∧ ∀ x H', (Itr lo n).yld i H x H' → g x σ H' fun σ2 H2 => tb { D with nx := N, ct := N, bk := D.nx } σ2 H2) := by
  refine ⟨fun i m σ H => m = n - i ∧ i ≤ n ∧ Pv i σ H, ⟨n, by simp, Nat.zero_le _, h0⟩, ?_⟩
  rintro i m σ H ⟨rfl, hi, p⟩
  by_cases hlt : i < n
  · refine .inr ⟨hlt, Pv (i + 1), fun σ' H' p' => ⟨n - (i + 1), by omega, rfl, hlt, p'⟩, fun x H' y => ?_⟩
    obtain ⟨e, y⟩ := y
    subst e y
    exact hs i σ _ hlt p
  · have e : i = n := by omega
    subst e
    exact .inl ⟨Nat.le_refl _, hd σ H p⟩
/-- while, by a word and a measure of the state -/
theorem while_by {c : TT} {tb : TS} {D : Ends} {σ : St} {H : Hp} (Pv : St → Hp → Prop) (μ : St → Hp → Nat) (h0 : Pv σ H)
    (hs : ∀ σ H, Pv σ H → c σ H fun b H1 => if b = true then tb { D with nx := fun σ' H' => Pv σ' H' ∧ μ σ' H' < μ σ H, ct := fun σ' H' => Pv σ' H' ∧ μ σ' H' < μ σ H, bk := D.nx } σ H1 else D.nx σ H1)
    (mono : ∀ σ H Q Q', (∀ b H1, Q b H1 → Q' b H1) → c σ H Q → c σ H Q') : tWhile c tb D σ H := by
  refine ⟨fun m σ H => m = μ σ H ∧ Pv σ H, ⟨_, rfl, h0⟩, ?_⟩
  rintro m σ H ⟨rfl, p⟩
  refine mono σ H _ _ (fun b H1 q => ?_) (hs σ H p)
  cases b with
  | true => exact ⟨_, fun σ' H' ⟨p', l⟩ => ⟨_, l, rfl, p'⟩, q⟩
  | false => exact q
end L2

namespace L2
open PySem PySem.Spec PyProof.Rows

abbrev R2 := V → V → Hp → VK → Prop
/-- a two-place operation on values: f is binaryOp op, inplaceOp op or compareOp op -/
def OpR (X : Cx) (f : Value → Value → Sem Value) (r : R2) : Prop :=
  ∀ (pins : List (Addr × Obj)) (s : Shared) (σ : St) (H : Hp) (x y : V) (v u : Value) (Q : VK), Inv X pins σ H s → RelV x v → RelV y u → r x y H Q →
    wpAny (model X.prog X.w) X.A (f v u) (EP X pins σ Q) X.xe s
/-- a one-place operation -/
def UnR (X : Cx) (f : Value → Sem Value) (r : V → Hp → VK → Prop) : Prop :=
  ∀ (pins : List (Addr × Obj)) (s : Shared) (σ : St) (H : Hp) (x : V) (v : Value) (Q : VK), Inv X pins σ H s → RelV x v → r x H Q →
    wpAny (model X.prog X.w) X.A (f v) (EP X pins σ Q) X.xe s
/-- a call of a value that is known (a builtin, a type) with values -/
def CallR (X : Cx) (f : Value) (r : List V → Hp → VK → Prop) : Prop :=
  ∀ (pins : List (Addr × Obj)) (s : Shared) (σ : St) (H : Hp) (xs : List V) (us : List Value) (Q : VK), Inv X pins σ H s → Vals xs us → r xs H Q →
    wpAny (model X.prog X.w) X.A (call f us) (EP X pins σ Q) X.xe s
/-- a value's truth -/
def TruR (X : Cx) (r : V → Hp → (Bool → Hp → Prop) → Prop) : Prop :=
  ∀ (pins : List (Addr × Obj)) (s : Shared) (σ : St) (H : Hp) (x : V) (v : Value) (Q : Bool → Hp → Prop), Inv X pins σ H s → RelV x v → r x H Q →
    wpAny (model X.prog X.w) X.A (truthy v) (TP X pins σ Q) X.xe s

def tOp (r : R2) (ta tb : TE) : TE := fun σ H Q => ta σ H fun x H1 => tb σ H1 fun y H2 => r x y H2 Q
def tUn (r : V → Hp → VK → Prop) (ta : TE) : TE := fun σ H Q => ta σ H fun x H1 => r x H1 Q
/-- ints in, under C, and a value out -/
def rI (C : Int → Int → Prop) (g : Int → Int → V) : R2 := fun x y H Q => ∃ i j, x = .int i ∧ y = .int j ∧ C i j ∧ Q (g i j) H
def rI0 (g : Int → Int → V) : R2 := fun x y H Q => ∃ i j, x = .int i ∧ y = .int j ∧ Q (g i j) H
def rU (g : Int → V) : V → Hp → VK → Prop := fun x H Q => ∃ i, x = .int i ∧ Q (g i) H

section
variable {X : Cx} {a b c : Expr} {ta tb tc : TE} {pos : Pos}

theorem binT (ha : PE X a ta) (hb : PE X b tb) {pins : List (Addr × Obj)} {s : Shared} {σ : St} {H : Hp} {R : V → V → Hp → Prop} (I : Inv X pins σ H s)
    (h : ta σ H fun x H1 => tb σ H1 fun y H2 => R x y H2) {Q : Value → Shared → Prop} {f : Value → Value → Sem Value}
    (hf : ∀ v u s2 x y H2, Inv X pins σ H2 s2 → RelV x v → RelV y u → R x y H2 → wpAny (model X.prog X.w) X.A (f v u) Q X.xe s2) :
    wpAny (model X.prog X.w) X.A (eval a X.env) (fun v s₁ => wpAny (model X.prog X.w) X.A (eval b X.env) (fun u s₂ => wpAny (model X.prog X.w) X.A (f v u) Q X.xe s₂) X.xe s₁) X.xe s := by
  refine thn (ha pins s σ H _ I h) fun v s1 ⟨x, H1, I1, r1, q1⟩ => ?_
  refine thn (hb pins s1 σ H1 _ I1 q1) fun u s2 ⟨y, H2, I2, r2, q2⟩ => ?_
  exact hf v u s2 x y H2 I2 r1 r2 q2

theorem pe_op {op : Operator} {r : R2} (ho : OpR X (binaryOp op) r) (ha : PE X a ta) (hb : PE X b tb) : PE X (.BinOp a op b pos) (tOp r ta tb) := by
  intro pins s σ H Q I h
  exact wpAny_BinOp (binT ha hb I h fun v u s2 x y H2 I2 rx ry q => ho pins s2 σ H2 x y v u Q I2 rx ry q)
theorem pe_un {op : UnaryOp} {r : V → Hp → VK → Prop} (ho : UnR X (unaryOp op) r) (ha : PE X a ta) : PE X (.UnaryOp op a pos) (tUn r ta) := by
  intro pins s σ H Q I h
  exact UnaryOp_ (thn (ha pins s σ H _ I h) fun v s1 ⟨x, H1, I1, r1, q1⟩ => ho pins s1 σ H1 x v Q I1 r1 q1)
/-- a op= e at a name: the name's slot i -/
theorem augR {op : Operator} {r : R2} (ho : OpR X (inplaceOp op) r) {pins : List (Addr × Obj)} {s : Shared} {σ : St} {H : Hp} {x y : V} {v u : Value} {Q : VK} (I : Inv X pins σ H s)
    (rx : RelV x v) (ry : RelV y u) (q : r x y H Q) : wpAny (model X.prog X.w) X.A (inplaceOp op v u) (EP X pins σ Q) X.xe s := ho pins s σ H x y v u Q I rx ry q

/-! ### ints -/
theorem opI {f : Value → Value → Sem Value} {C : Int → Int → Prop} {g : Int → Int → Int}
    (rule : ∀ (i j : Int) (t u : Tok) (s : Shared) (Q : Value → Shared → Prop) (E : Value → Shared → Prop), C i j → Q (.int (g i j) s.toks) { s with toks := s.toks + 1 } → wpAny (model X.prog X.w) X.A (f (.int i t) (.int j u)) Q E s) :
    OpR X f (rI C fun i j => .int (g i j)) := by
  intro pins s σ H x y v u Q I rx ry h
  obtain ⟨i, j, rfl, rfl, hc, q⟩ := h
  obtain ⟨t, rfl⟩ := rx
  obtain ⟨t', rfl⟩ := ry
  exact rule i j t t' s _ _ hc ⟨.int (g i j), H, I.tok _, ⟨_, rfl⟩, q⟩
theorem opI0 {f : Value → Value → Sem Value} {g : Int → Int → Int}
    (rule : ∀ (i j : Int) (t u : Tok) (s : Shared) (Q : Value → Shared → Prop) (E : Value → Shared → Prop), Q (.int (g i j) s.toks) { s with toks := s.toks + 1 } → wpAny (model X.prog X.w) X.A (f (.int i t) (.int j u)) Q E s) :
    OpR X f (rI0 fun i j => .int (g i j)) := by
  intro pins s σ H x y v u Q I rx ry h
  obtain ⟨i, j, rfl, rfl, q⟩ := h
  obtain ⟨t, rfl⟩ := rx
  obtain ⟨t', rfl⟩ := ry
  exact rule i j t t' s _ _ ⟨.int (g i j), H, I.tok _, ⟨_, rfl⟩, q⟩
theorem opB0 {f : Value → Value → Sem Value} {g : Int → Int → Bool}
    (rule : ∀ (i j : Int) (t u : Tok) (s : Shared) (Q : Value → Shared → Prop) (E : Value → Shared → Prop), Q (.bool (g i j)) s → wpAny (model X.prog X.w) X.A (f (.int i t) (.int j u)) Q E s) :
    OpR X f (rI0 fun i j => .bl (g i j)) := by
  intro pins s σ H x y v u Q I rx ry h
  obtain ⟨i, j, rfl, rfl, q⟩ := h
  obtain ⟨t, rfl⟩ := rx
  obtain ⟨t', rfl⟩ := ry
  exact rule i j t t' s _ _ ⟨.bl (g i j), H, I, rfl, q⟩

def CDiv (i j : Int) : Prop := 0 < j ∧ j < 1073741824
def CDivN (i j : Int) : Prop := j ≠ 0 ∧ j.natAbs < 1073741824
def CPow (i j : Int) : Prop := 0 ≤ j ∧ j ≤ 1000000 ∧ i.natAbs < 2 ^ 64
def CMul (i j : Int) : Prop := (-(2 ^ 64) < i ∧ i < 2 ^ 64) ∨ (-(2 ^ 64) < j ∧ j < 2 ^ 64)
theorem CMul.ok {i j : Int} (h : CMul i j) : IntMulOk i j := by
  rcases h with ⟨h1, h2⟩ | ⟨h1, h2⟩
  · exact .of_left (intBits_le_64 h1 h2)
  · exact .of_right (intBits_le_64 h1 h2)
theorem two_pow_nn (k : Nat) : (0 : Int) ≤ 2 ^ k := by
  rw [two_pow_cast]
  exact Int.natCast_nonneg _

theorem op_add : OpR X (binaryOp .Add) (rI0 fun i j => .int (i + j)) := opI0 fun _ _ _ _ _ _ _ q => add_int q
theorem op_sub : OpR X (binaryOp .Sub) (rI0 fun i j => .int (i - j)) := opI0 fun _ _ _ _ _ _ _ q => sub_int q
theorem op_mul : OpR X (binaryOp .Mult) (rI CMul fun i j => .int (i * j)) := opI fun _ _ _ _ _ _ _ hc q => mul_int q hc.ok
/-- // by a positive divisor -/
theorem op_fdiv : OpR X (binaryOp .FloorDiv) (rI CDiv fun i j => .int (i / j)) := opI fun i j _ _ _ _ _ hc q => by
  have h1 : (0 : Int) < j := hc.1
  have h2 : j < 1073741824 := hc.2
  exact floordiv_int (by omega) (by rw [Int.fdiv_eq_ediv_of_nonneg i (by omega)]; exact q) (.inl (PyProof.noPylong_small (by omega)))
theorem op_fdivN : OpR X (binaryOp .FloorDiv) (rI CDivN fun i j => .int (i.fdiv j)) := opI fun _ _ _ _ _ _ _ hc q => floordiv_int hc.1 q (.inl (PyProof.noPylong_small hc.2))
/-- % by a positive divisor of any size -/
theorem op_mod : OpR X (binaryOp .Mod) (rI (fun _ j => 0 < j) fun i j => .int (i % j)) := opI fun i j _ _ _ _ _ hc q => by
  have h1 : (0 : Int) < j := hc
  exact mod_int' (by omega) (by rw [Int.fmod_eq_emod_of_nonneg i (by omega)]; exact q)
theorem op_modN : OpR X (binaryOp .Mod) (rI (fun _ j => j ≠ 0) fun i j => .int (i.fmod j)) := opI fun _ _ _ _ _ _ _ hc q => mod_int' hc q
theorem op_pow : OpR X (binaryOp .Pow) (rI CPow fun i j => .int (i ^ j.toNat)) := opI fun _ _ _ _ _ _ _ hc q => pow_int_small hc.1 hc.2.1 hc.2.2 q
theorem op_shl : OpR X (binaryOp .LShift) (rI CPow fun i j => .int (i * 2 ^ j.toNat)) := opI fun _ _ _ _ _ _ _ hc q => lshift_int_small hc.1 hc.2.1 hc.2.2 q
theorem op_shr : OpR X (binaryOp .RShift) (rI (fun _ j => 0 ≤ j) fun i j => .int (i / 2 ^ j.toNat)) := opI fun i j _ _ _ _ _ hc q =>
  rshift_int hc (by rw [Int.fdiv_eq_ediv_of_nonneg i (two_pow_nn _)]; exact q)
theorem op_and : OpR X (binaryOp .BitAnd) (rI0 fun i j => .int (Builtin.bitAnd i j)) := opI0 fun _ _ _ _ _ _ _ q => and_int q
theorem op_or : OpR X (binaryOp .BitOr) (rI0 fun i j => .int (Builtin.bitOr i j)) := opI0 fun _ _ _ _ _ _ _ q => or_int q
theorem op_xor : OpR X (binaryOp .BitXor) (rI0 fun i j => .int (Builtin.bitXor i j)) := opI0 fun _ _ _ _ _ _ _ q => xor_int q

theorem iop_add : OpR X (inplaceOp .Add) (rI0 fun i j => .int (i + j)) := opI0 fun _ _ _ _ _ _ _ q => iadd_int q
theorem iop_sub : OpR X (inplaceOp .Sub) (rI0 fun i j => .int (i - j)) := opI0 fun _ _ _ _ _ _ _ q => isub_int q
theorem iop_mul : OpR X (inplaceOp .Mult) (rI CMul fun i j => .int (i * j)) := opI fun _ _ _ _ _ _ _ hc q => imul_int q hc.ok
theorem iop_fdiv : OpR X (inplaceOp .FloorDiv) (rI CDiv fun i j => .int (i / j)) := opI fun i j _ _ _ _ _ hc q => by
  have h1 : (0 : Int) < j := hc.1
  have h2 : j < 1073741824 := hc.2
  exact ifloordiv_int (by omega) (by rw [Int.fdiv_eq_ediv_of_nonneg i (by omega)]; exact q) (.inl (PyProof.noPylong_small (by omega)))
theorem iop_mod : OpR X (inplaceOp .Mod) (rI (fun _ j => 0 < j) fun i j => .int (i % j)) := opI fun i j _ _ _ _ _ hc q => by
  have h1 : (0 : Int) < j := hc
  exact imod_int (by omega) (by rw [Int.fmod_eq_emod_of_nonneg i (by omega)]; exact q)
theorem iop_shl : OpR X (inplaceOp .LShift) (rI CPow fun i j => .int (i * 2 ^ j.toNat)) := opI fun _ _ _ _ _ _ _ hc q => ilshift_int_small hc.1 hc.2.1 hc.2.2 q
theorem iop_shr : OpR X (inplaceOp .RShift) (rI (fun _ j => 0 ≤ j) fun i j => .int (i / 2 ^ j.toNat)) := opI fun i j _ _ _ _ _ hc q =>
  irshift_int hc (by rw [Int.fdiv_eq_ediv_of_nonneg i (two_pow_nn _)]; exact q)
theorem iop_and : OpR X (inplaceOp .BitAnd) (rI0 fun i j => .int (Builtin.bitAnd i j)) := opI0 fun _ _ _ _ _ _ _ q => iand_int q
theorem iop_or : OpR X (inplaceOp .BitOr) (rI0 fun i j => .int (Builtin.bitOr i j)) := opI0 fun _ _ _ _ _ _ _ q => ior_int q
theorem iop_xor : OpR X (inplaceOp .BitXor) (rI0 fun i j => .int (Builtin.bitXor i j)) := opI0 fun _ _ _ _ _ _ _ q => ixor_int q

theorem unI {f : Value → Sem Value} {g : Int → Int}
    (rule : ∀ (i : Int) (t : Tok) (s : Shared) (Q : Value → Shared → Prop) (E : Value → Shared → Prop), Q (.int (g i) s.toks) { s with toks := s.toks + 1 } → wpAny (model X.prog X.w) X.A (f (.int i t)) Q E s) :
    UnR X f (rU fun i => .int (g i)) := by
  intro pins s σ H x v Q I rx h
  obtain ⟨i, rfl, q⟩ := h
  obtain ⟨t, rfl⟩ := rx
  exact rule i t s _ _ ⟨.int (g i), H, I.tok _, ⟨_, rfl⟩, q⟩
theorem un_neg : UnR X (unaryOp .USub) (rU fun i => .int (-i)) := unI fun _ _ _ _ _ q => neg_int q
theorem un_inv : UnR X (unaryOp .Invert) (rU fun i => .int (Builtin.bitNot i)) := unI fun _ _ _ _ _ q => invert_int q

/-! ### bools among ints: n += (a < b) -/
theorem op_add_ib : OpR X (binaryOp .Add) (fun x y H Q => ∃ i k, x = .int i ∧ y = .bl k ∧ Q (.int (i + b2i k)) H) := by
  intro pins s σ H x y v u Q I rx ry h
  obtain ⟨i, k, rfl, rfl, q⟩ := h
  obtain ⟨t, rfl⟩ := rx
  cases ry
  exact add_int_bool ⟨.int (i + b2i k), H, I.tok _, ⟨_, rfl⟩, q⟩
end

/-! ### comparisons -/
/-- the scalars that == tells apart as data does -/
def scal : V → V → Bool
  | .non, .non => true | .non, .int _ => true | .int _, .non => true | .non, .bl _ => true | .bl _, .non => true | .non, .str _ => true | .str _, .non => true
  | .int _, .int _ => true | .bl _, .bl _ => true | .str _, .str _ => true | .byt _, .byt _ => true
  | .int _, .str _ => true | .str _, .int _ => true | .bl _, .str _ => true | .str _, .bl _ => true
  | _, _ => false
def rEq : R2 := fun x y H Q => scal x y = true ∧ Q (.bl (decide (x = y))) H
def rNe : R2 := fun x y H Q => scal x y = true ∧ Q (.bl (!decide (x = y))) H

theorem dec_int {i j : Int} : decide (V.int i = V.int j) = (i == j) := by
  rw [Bool.eq_iff_iff]
  simp
theorem dec_bl {i j : Bool} : decide (V.bl i = V.bl j) = (i == j) := by
  rw [Bool.eq_iff_iff]
  simp
theorem dec_str {i j : Str} : decide (V.str i = V.str j) = (i == j) := by
  rw [Bool.eq_iff_iff]
  simp
theorem dec_byt {i j : Array UInt8} : decide (V.byt i = V.byt j) = (i.toList == j.toList) := by
  rw [Bool.eq_iff_iff]
  cases i
  cases j
  simp

section
variable {X : Cx} {a b c : Expr} {ta tb tc : TE} {pos : Pos}
theorem fin_bl {pins : List (Addr × Obj)} {σ : St} {H : Hp} {s : Shared} {Q : VK} {k k' : Bool} (I : Inv X pins σ H s) (q : Q (.bl k) H) (e : k = k') : EP X pins σ Q (.bool k') s := by
  subst e
  exact ⟨.bl k, H, I, rfl, q⟩
theorem op_eq : OpR X (compareOp .Eq) rEq := by
  intro pins s σ H x y v u Q I rx ry h
  obtain ⟨hs, q⟩ := h
  cases x with
  | non =>
    cases rx
    cases y with
    | non => cases ry; exact PySem.EqNone.eq_none_none (fin_bl I q (by simp))
    | bl j => cases ry; exact PySem.EqNone.eq_none_bool (fin_bl I q (by simp))
    | int j => obtain ⟨t', rfl⟩ := ry; exact PySem.EqNone.eq_none_int (fin_bl I q (by simp))
    | str j => obtain ⟨t', rfl⟩ := ry; exact PySem.EqNone.eq_none_str (fin_bl I q (by simp))
    | _ => exact absurd (show false = true from hs) Bool.false_ne_true
  | bl i =>
    cases rx
    cases y with
    | non => cases ry; exact PySem.EqNone.eq_bool_none (fin_bl I q (by simp))
    | bl j => cases ry; exact eq_bool (fin_bl I q dec_bl)
    | str j => obtain ⟨t', rfl⟩ := ry; exact PySem.EqMixed.eq_bool_str (fin_bl I q (by simp))
    | _ => exact absurd (show false = true from hs) Bool.false_ne_true
  | int i =>
    obtain ⟨t, rfl⟩ := rx
    cases y with
    | non => cases ry; exact PySem.EqNone.eq_int_none (fin_bl I q (by simp))
    | int j => obtain ⟨t', rfl⟩ := ry; exact eq_int (fin_bl I q dec_int)
    | str j => obtain ⟨t', rfl⟩ := ry; exact PySem.EqMixed.eq_int_str (fin_bl I q (by simp))
    | _ => exact absurd (show false = true from hs) Bool.false_ne_true
  | str i =>
    obtain ⟨t, rfl⟩ := rx
    cases y with
    | non => cases ry; exact PySem.EqNone.eq_str_none (fin_bl I q (by simp))
    | bl j => cases ry; exact PySem.EqMixed.eq_str_bool (fin_bl I q (by simp))
    | int j => obtain ⟨t', rfl⟩ := ry; exact PySem.EqMixed.eq_str_int (fin_bl I q (by simp))
    | str j => obtain ⟨t', rfl⟩ := ry; exact eq_str (fin_bl I q dec_str)
    | _ => exact absurd (show false = true from hs) Bool.false_ne_true
  | byt i =>
    obtain ⟨t, rfl⟩ := rx
    cases y with
    | byt j => obtain ⟨t', rfl⟩ := ry; exact PySem.W.eq_bytes (fin_bl I q dec_byt)
    | _ => exact absurd (show false = true from hs) Bool.false_ne_true
  | _ => cases y <;> exact absurd (show false = true from hs) Bool.false_ne_true
theorem op_ne : OpR X (compareOp .NotEq) rNe := by
  intro pins s σ H x y v u Q I rx ry h
  obtain ⟨hs, q⟩ := h
  cases x with
  | non =>
    cases rx
    cases y with
    | non => cases ry; exact PySem.EqNone.ne_none_none (fin_bl I q (by simp))
    | bl j => cases ry; exact PySem.EqNone.ne_none_bool (fin_bl I q (by simp))
    | int j => obtain ⟨t', rfl⟩ := ry; exact PySem.EqNone.ne_none_int (fin_bl I q (by simp))
    | str j => obtain ⟨t', rfl⟩ := ry; exact PySem.EqNone.ne_none_str (fin_bl I q (by simp))
    | _ => exact absurd (show false = true from hs) Bool.false_ne_true
  | bl i =>
    cases rx
    cases y with
    | non => cases ry; exact PySem.EqNone.ne_bool_none (fin_bl I q (by simp))
    | bl j => cases ry; exact ne_bool (fin_bl I q (congrArg not dec_bl))
    | str j => obtain ⟨t', rfl⟩ := ry; exact PySem.EqMixed.ne_bool_str (fin_bl I q (by simp))
    | _ => exact absurd (show false = true from hs) Bool.false_ne_true
  | int i =>
    obtain ⟨t, rfl⟩ := rx
    cases y with
    | non => cases ry; exact PySem.EqNone.ne_int_none (fin_bl I q (by simp))
    | int j => obtain ⟨t', rfl⟩ := ry; exact ne_int (fin_bl I q (congrArg not dec_int))
    | str j => obtain ⟨t', rfl⟩ := ry; exact PySem.EqMixed.ne_int_str (fin_bl I q (by simp))
    | _ => exact absurd (show false = true from hs) Bool.false_ne_true
  | str i =>
    obtain ⟨t, rfl⟩ := rx
    cases y with
    | non => cases ry; exact PySem.EqNone.ne_str_none (fin_bl I q (by simp))
    | bl j => cases ry; exact PySem.EqMixed.ne_str_bool (fin_bl I q (by simp))
    | int j => obtain ⟨t', rfl⟩ := ry; exact PySem.EqMixed.ne_str_int (fin_bl I q (by simp))
    | str j => obtain ⟨t', rfl⟩ := ry; exact ne_str (fin_bl I q (congrArg not dec_str))
    | _ => exact absurd (show false = true from hs) Bool.false_ne_true
  | byt i =>
    obtain ⟨t, rfl⟩ := rx
    cases y with
    | byt j => obtain ⟨t', rfl⟩ := ry; exact PySem.W.ne_bytes (fin_bl I q (congrArg not dec_byt))
    | _ => exact absurd (show false = true from hs) Bool.false_ne_true
  | _ => cases y <;> exact absurd (show false = true from hs) Bool.false_ne_true

theorem op_lt : OpR X (compareOp .Lt) (rI0 fun i j => .bl (decide (i < j))) := opB0 fun _ _ _ _ _ _ _ q => lt_int q
theorem op_le : OpR X (compareOp .LtE) (rI0 fun i j => .bl (decide (i ≤ j))) := opB0 fun _ _ _ _ _ _ _ q => le_int q
theorem op_gt : OpR X (compareOp .Gt) (rI0 fun i j => .bl (decide (j < i))) := opB0 fun _ _ _ _ _ _ _ q => gt_int q
theorem op_ge : OpR X (compareOp .GtE) (rI0 fun i j => .bl (decide (j ≤ i))) := opB0 fun _ _ _ _ _ _ _ q => ge_int q
theorem op_lt_str : OpR X (compareOp .Lt) (fun x y H Q => ∃ i j, x = .str i ∧ y = .str j ∧ Q (.bl (decide (i.cps.toList < j.cps.toList))) H) := by
  intro pins s σ H x y v u Q I rx ry h
  obtain ⟨i, j, rfl, rfl, q⟩ := h
  obtain ⟨t, rfl⟩ := rx
  obtain ⟨t', rfl⟩ := ry
  exact lt_str (fin_bl I q rfl)
/-- the one string within the other -/
theorem op_in_str : OpR X (compareOp .In) (fun x y H Q => ∃ i j, x = .str i ∧ y = .str j ∧ Q (.bl (!(Builtin.Str.occurrences j i 0 j.length 1).isEmpty)) H) := by
  intro pins s σ H x y v u Q I rx ry h
  obtain ⟨i, j, rfl, rfl, q⟩ := h
  obtain ⟨t, rfl⟩ := rx
  obtain ⟨t', rfl⟩ := ry
  exact in_str (fin_bl I q rfl)

/-- is None, is not None: the right side a value none -/
theorem op_isN : OpR X (compareOp .Is) (fun x y H Q => y = .non ∧ Q (.bl (decide (x = .non))) H) := by
  intro pins s σ H x y v u Q I rx ry h
  obtain ⟨rfl, q⟩ := h
  cases ry
  refine is_none_gen (fin_bl I q ?_)
  cases x <;> first
    | (cases rx; rfl)
    | (obtain ⟨t, rfl⟩ := rx; rfl)
theorem op_notN : OpR X (compareOp .IsNot) (fun x y H Q => y = .non ∧ Q (.bl (!decide (x = .non))) H) := by
  intro pins s σ H x y v u Q I rx ry h
  obtain ⟨rfl, q⟩ := h
  cases ry
  refine isnot_none_gen (fin_bl I q ?_)
  cases x <;> first
    | (cases rx; rfl)
    | (obtain ⟨t, rfl⟩ := rx; rfl)

theorem op_notin_str : OpR X (compareOp .NotIn) (fun x y H Q => ∃ i j, x = .str i ∧ y = .str j ∧ Q (.bl (!(!(Builtin.Str.occurrences j i 0 j.length 1).isEmpty))) H) := by
  intro pins s σ H x y v u Q I rx ry h
  obtain ⟨i, j, rfl, rfl, q⟩ := h
  obtain ⟨t, rfl⟩ := rx
  obtain ⟨t', rfl⟩ := ry
  exact notIn_str (fin_bl I q rfl)
/-- is, is not of two objects that are tracked lists or instances -/
def isObj : HO → Bool
  | .lst _ => true
  | .ins _ _ _ => true
  | _ => false
theorem obj_there {pins : List (Addr × Obj)} {s : Shared} {σ : St} {H : Hp} {a : Addr} {o : HO} (I : Inv X pins σ H s) (h : H a = some o) (p : isObj o = true) : ∃ ob, s.heap.get? a = some ob ∧ ob.cls ≠ .type "tuple" := by
  cases o with
  | lst xs =>
    obtain ⟨_, its, n, _, e⟩ : xs.length ≤ sizeLine ∧ ∃ (its : List Value) (n : Nat), Vals xs its ∧ s.heap.get? a = some { cls := .type "list", data := .seq its.toArray n } := I.hok a _ h
    exact ⟨_, e, (by show Value.type "list" ≠ .type "tuple"; decide +kernel)⟩
  | ins C dx fs =>
    have x := I.hok a _ h
    obtain ⟨_, _, _, e, _⟩ := x
    exact ⟨_, e, (by show Value.ref C ≠ .type "tuple"; exact fun z => by cases z)⟩
  | _ => exact absurd (show false = true from p) Bool.false_ne_true
theorem op_is_ref : OpR X (compareOp .Is) (fun x y H Q => ∃ a b oa ob, x = .ref a ∧ y = .ref b ∧ H a = some oa ∧ isObj oa = true ∧ H b = some ob ∧ isObj ob = true ∧ Q (.bl (decide (a = b))) H) := by
  intro pins s σ H x y v u Q I rx ry h
  obtain ⟨a, b, oa, ob, rfl, rfl, ha, pa, hb, pb, q⟩ := h
  cases rx
  cases ry
  obtain ⟨o1, e1, n1⟩ := obj_there I ha pa
  obtain ⟨o2, e2, _⟩ := obj_there I hb pb
  by_cases z : a = b
  · subst z
    exact wpAny_is_ref_self (fin_bl I q (by simp))
  · exact wpAny_is_ref_other z e1 e2 n1 (fin_bl I q (by simp [z]))
theorem op_isnot_ref : OpR X (compareOp .IsNot) (fun x y H Q => ∃ a b oa ob, x = .ref a ∧ y = .ref b ∧ H a = some oa ∧ isObj oa = true ∧ H b = some ob ∧ isObj ob = true ∧ Q (.bl (!decide (a = b))) H) := by
  intro pins s σ H x y v u Q I rx ry h
  obtain ⟨a, b, oa, ob, rfl, rfl, ha, pa, hb, pb, q⟩ := h
  cases rx
  cases ry
  obtain ⟨o1, e1, n1⟩ := obj_there I ha pa
  obtain ⟨o2, e2, _⟩ := obj_there I hb pb
  by_cases z : a = b
  · subst z
    exact wpAny_isNot_ref_self (fin_bl I q (by simp))
  · exact wpAny_isNot_ref_other z e1 e2 n1 (fin_bl I q (by simp [z]))

/-- two rules for one operation: by cases -/
theorem OpR.or {f : Value → Value → Sem Value} {r r' : R2} (h : OpR X f r) (h' : OpR X f r') : OpR X f (fun x y H Q => r x y H Q ∨ r' x y H Q) := by
  intro pins s σ H x y v u Q I rx ry q
  rcases q with q | q
  · exact h pins s σ H x y v u Q I rx ry q
  · exact h' pins s σ H x y v u Q I rx ry q

theorem nomark (b : Expr) {op : CmpOp} (h : op ≠ .In := by decide) (h2 : op ≠ .NotIn := by decide) : behindInMarks op b = false := by
  have e1 : (op == CmpOp.In) = false := by cases op <;> first | rfl | exact absurd rfl h
  have e2 : (op == CmpOp.NotIn) = false := by cases op <;> first | rfl | exact absurd rfl h2
  cases b <;> simp [behindInMarks, e1, e2]
/-- a comparison as a value; hm: nomark b, or (for in, not in) by with_unfolding_all rfl -/
theorem pe_cmpR {op : CmpOp} {r : R2} (ho : OpR X (compareOp op) r) (ha : PE X a ta) (hb : PE X b tb) (hm : behindInMarks op b = false) : PE X (.Compare a [op] [b] pos) (tOp r ta tb) := by
  intro pins s σ H Q I h
  exact wpAny_Compare1 (binT ha hb I h fun v u s2 x y H2 I2 rx ry q => ho pins s2 σ H2 x y v u Q I2 rx ry q) hm
/-- a reading of a value as a test -/
def tTest (t : TE) : TT := fun σ H Q => t σ H fun x H' => ∃ k, x = .bl k ∧ Q k H'
theorem pt_cmpR {op : CmpOp} {r : R2} (ho : OpR X (compareOp op) r) (ha : PE X a ta) (hb : PE X b tb) (hm : behindInMarks op b = false) : PT X (.Compare a [op] [b] pos) (tTest (tOp r ta tb)) := by
  intro pins s σ H Q I h
  refine wpAny_isTrue_Compare1 (thn (ha pins s σ H _ I h) fun v s1 ⟨x, H1, I1, r1, q1⟩ => thn (hb pins s1 σ H1 _ I1 q1) fun u s2 ⟨y, H2, I2, r2, q2⟩ =>
    thn (ho pins s2 σ H2 x y v u _ I2 r1 r2 q2) fun c s3 ⟨z, H3, I3, r3, k, e, q3⟩ => ?_) hm
  subst e
  cases r3
  exact wpAny_truthy_bool ⟨H3, I3, q3⟩
/-- a op1 b op2 c -/
def tChain (r r' : R2) (ta tb tc : TE) : TE := fun σ H Q => ta σ H fun x H1 => tb σ H1 fun y H2 => r x y H2 fun z H3 => ∃ k, z = .bl k ∧
  (if k = true then tc σ H3 fun w' H4 => r' y w' H4 Q else Q (.bl false) H3)
theorem pe_chain {op op' : CmpOp} {r r' : R2} (ho : OpR X (compareOp op) r) (ho' : OpR X (compareOp op') r') (ha : PE X a ta) (hb : PE X b tb) (hc : PE X c tc)
    (hm : lastMarks [op, op'] [b, c] = false := by with_unfolding_all rfl) : PE X (.Compare a [op, op'] [b, c] pos) (tChain r r' ta tb tc) := by
  intro pins s σ H Q I h
  refine Compare_chain (thn (ha pins s σ H _ I h) fun v s1 ⟨x, H1, I1, r1, q1⟩ => chain_link (thn (hb pins s1 σ H1 _ I1 q1) fun u s2 ⟨y, H2, I2, r2, q2⟩ =>
    thn (ho pins s2 σ H2 x y v u _ I2 r1 r2 q2) fun d s3 ⟨z, H3, I3, r3, k, e, q3⟩ => ?_)) hm
  subst e
  cases r3
  refine wpAny_truthy_bool ?_
  cases k with
  | false => exact ite_ff ⟨.bl false, H3, I3, rfl, q3⟩
  | true => exact ite_tt (chain_last (thn (hc pins s3 σ H3 _ I3 q3) fun w' s4 ⟨z', H4, I4, r4, q4⟩ => ho' pins s4 σ H4 y z' u w' Q I4 r2 r4 q4))
theorem pt_chain {op op' : CmpOp} {r r' : R2} (ho : OpR X (compareOp op) r) (ho' : OpR X (compareOp op') r') (ha : PE X a ta) (hb : PE X b tb) (hc : PE X c tc)
    (hm : lastMarks [op, op'] [b, c] = false := by with_unfolding_all rfl) : PT X (.Compare a [op, op'] [b, c] pos) (tTest (tChain r r' ta tb tc)) := by
  intro pins s σ H Q I h
  refine isTrue_chain (thn (ha pins s σ H _ I h) fun v s1 ⟨x, H1, I1, r1, q1⟩ => test_link (thn (hb pins s1 σ H1 _ I1 q1) fun u s2 ⟨y, H2, I2, r2, q2⟩ =>
    thn (ho pins s2 σ H2 x y v u _ I2 r1 r2 q2) fun d s3 ⟨z, H3, I3, r3, k, e, q3⟩ => ?_)) hm
  subst e
  cases r3
  refine wpAny_truthy_bool ?_
  cases k with
  | false =>
    obtain ⟨k', e', q'⟩ := q3
    cases e'
    exact ite_ff ⟨H3, I3, q'⟩
  | true =>
    refine ite_tt (test_last (thn (hc pins s3 σ H3 _ I3 q3) fun w' s4 ⟨z', H4, I4, r4, q4⟩ => thn (ho' pins s4 σ H4 y z' u w' _ I4 r2 r4 q4) fun d' s5 ⟨z2, H5, I5, r5, k2, e2, q5⟩ => ?_))
    subst e2
    cases r5
    exact wpAny_truthy_bool ⟨H5, I5, q5⟩

/-! ### truth -/
/-- a value's truth by the abstract heap -/
def TruV (K : PySem.W.Frag) (x : V) (H : Hp) (k : Bool) : Prop :=
  match x with
  | .non => k = false
  | .bl b => k = b
  | .int i => k = (i != 0)
  | .str y => y.length ≤ sizeLine ∧ k = ((y.length : Int) != 0)
  | .byt y => y.size ≤ sizeLine ∧ k = ((y.size : Int) != 0)
  | .ref p => (∃ xs, SqL K H p xs ∧ k = !xs.isEmpty) ∨ (∃ xs, SqT K H p xs ∧ k = !xs.isEmpty) ∨ ∃ kvs, H p = some (.dK kvs) ∧ k = !kvs.isEmpty
  | _ => False
theorem isEmpty_kv {κ : Type} {kvs : List (κ × V)} {vs : List (κ × Value)} (r : KV kvs vs) : (!vs.isEmpty) = !kvs.isEmpty := by
  cases r <;> rfl
theorem isEmpty_of {xs : List V} {its : List Value} (r : Vals xs its) : (!its.toArray.isEmpty) = !xs.isEmpty := by
  cases r <;> simp
theorem line63 : (sizeLine : Nat) < 2 ^ 63 := by rw [sizeLine_eq]; decide
theorem tru_ok : TruR X (fun x H Q => ∃ k, TruV X.K x H k ∧ Q k H) := by
  intro pins s σ H x v Q I rx h
  obtain ⟨k, e, q⟩ := h
  have hl := line63
  have hs : sizeLine = 16777216 := sizeLine_eq
  cases x with
  | non =>
    cases rx
    have e' : k = false := e
    subst e'
    exact truthy_none ⟨H, I, q⟩
  | bl b =>
    cases rx
    have e' : k = b := e
    subst e'
    exact wpAny_truthy_bool ⟨H, I, q⟩
  | int i =>
    obtain ⟨t, rfl⟩ := rx
    have e' : k = (i != 0) := e
    subst e'
    exact PySem.P.truthy_int ⟨H, I, q⟩
  | str y =>
    obtain ⟨t, rfl⟩ := rx
    obtain ⟨hy, e'⟩ : y.length ≤ sizeLine ∧ k = ((y.length : Int) != 0) := e
    subst e'
    exact PySem.P.truthy_str (by omega) ⟨H, I.tok _, q⟩
  | byt y =>
    obtain ⟨t, rfl⟩ := rx
    obtain ⟨hy, e'⟩ : y.size ≤ sizeLine ∧ k = ((y.size : Int) != 0) := e
    subst e'
    exact PySem.W.truthy_bytes (by omega) ⟨H, I.tok _, q⟩
  | ref p =>
    cases rx
    have e' : (∃ xs, SqL X.K H p xs ∧ k = !xs.isEmpty) ∨ (∃ xs, SqT X.K H p xs ∧ k = !xs.isEmpty) ∨ ∃ kvs, H p = some (.dK kvs) ∧ k = !kvs.isEmpty := e
    rcases e' with ⟨xs, hx, e'⟩ | ⟨xs, hx, e'⟩ | ⟨kvs, hx, e'⟩
    · subst e'
      obtain ⟨its, r, pl, hz⟩ := I.list hx
      have hlen := r.length
      exact wpAny_truthy_list pl.isList (by simp only [List.size_toArray]; omega) ⟨H, I.tok _, by rw [isEmpty_of r]; exact q⟩
    · subst e'
      obtain ⟨its, r, pl, hz⟩ := I.tuple hx
      have hlen := r.length
      exact truthy_tuple pl (by simp only [List.size_toArray]; omega) ⟨H, I.tok _, by rw [isEmpty_of r]; exact q⟩
    · subst e'
      obtain ⟨hz, hS, vs, r, m⟩ : kvs.length ≤ sizeLine ∧ (p == sysModules) = false ∧ ∃ vs, KV kvs vs ∧ s.heap.DictOf (mixKind X.prog X.w) p vs := I.hok p _ hx
      have hlen : kvs.length = vs.length := Paired.length r
      exact wpAny_truthy_dict hS m (by omega) ⟨H, I.tok _, by rw [isEmpty_kv r]; exact q⟩
  | _ => exact (show False from e).elim
/-- any expression whose test is its value's truth (a name, a call, a subscript, a field ..: he by fun _ => rfl) -/
theorem pt_truth (ha : PE X a ta) (he : ∀ whole, isTrue a X.env whole = (do let v ← whole; standAt a.pos; holding [v] (truthy v))) :
    PT X a (fun σ H Q => ta σ H fun x H' => ∃ k, TruV X.K x H' k ∧ Q k H') := by
  intro pins s σ H Q I h
  exact isTrue_plain (thn (ha pins s σ H _ I h) fun v s1 ⟨x, H1, I1, r1, q1⟩ => tru_ok pins s1 σ H1 x v Q I1 r1 q1) (he _)

/-! ### strs and bytes -/
theorem pe_byt {x : List UInt8} {k : Nat} : PE X (.Constant (.bytes x) k pos) (fun _ H Q => Q (.byt x.toArray) H) := fun _ _ _ H _ I h => PySem.W.Constant_bytes ⟨.byt x.toArray, H, I.tok _, ⟨_, rfl⟩, h⟩
theorem op_add_str : OpR X (binaryOp .Add) (fun x y H Q => ∃ i j, x = .str i ∧ y = .str j ∧ i.length + j.length ≤ sizeLine ∧ Q (.str (i ++ j)) H) := by
  intro pins s σ H x y v u Q I rx ry h
  obtain ⟨i, j, rfl, rfl, hz, q⟩ := h
  obtain ⟨t, rfl⟩ := rx
  obtain ⟨t', rfl⟩ := ry
  exact add_str (fun t' tk => ⟨.str (i ++ j), H, I.tok _, ⟨_, rfl⟩, q⟩) hz
theorem iop_add_str : OpR X (inplaceOp .Add) (fun x y H Q => ∃ i j, x = .str i ∧ y = .str j ∧ i.length + j.length ≤ sizeLine ∧ Q (.str (i ++ j)) H) := by
  intro pins s σ H x y v u Q I rx ry h
  obtain ⟨i, j, rfl, rfl, hz, q⟩ := h
  obtain ⟨t, rfl⟩ := rx
  obtain ⟨t', rfl⟩ := ry
  exact iadd_str (fun t' tk => ⟨.str (i ++ j), H, I.tok _, ⟨_, rfl⟩, q⟩) hz
theorem op_add_byt : OpR X (binaryOp .Add) (fun x y H Q => ∃ i j, x = .byt i ∧ y = .byt j ∧ i.size + j.size ≤ 16777216 ∧ Q (.byt (i ++ j)) H) := by
  intro pins s σ H x y v u Q I rx ry h
  obtain ⟨i, j, rfl, rfl, hz, q⟩ := h
  obtain ⟨t, rfl⟩ := rx
  obtain ⟨t', rfl⟩ := ry
  exact PySem.W.KBy.add_bytes hz (fun t' tk => ⟨.byt (i ++ j), H, I.tok _, ⟨_, rfl⟩, q⟩)

def PlainIxT (b : Expr) : Prop := ∀ o i, subscripted b false o i = operate [o, i] (getItem o i)
/-- s[i], 0 ≤ i < len -/
theorem pe_item_str (ha : PE X a ta) (hb : PE X b tb) (hs : PlainIxT b) :
    PE X (.Subscript a b pos) (tOp (fun x y H Q => ∃ z i c, x = .str z ∧ y = .int i ∧ 0 ≤ i ∧ i < 2 ^ 63 ∧ i < z.length ∧ z.cps[i.toNat]? = some c ∧ Q (.str ⟨#[c]⟩) H) ta tb) := by
  intro pins s σ H Q I h
  refine Subscript_ (binT ha hb I h fun v u s2 x y H2 I2 rx ry q => ?_)
  obtain ⟨z, i, c, rfl, rfl, h0, h63, h1, hc, q⟩ := q
  obtain ⟨t, rfl⟩ := rx
  obtain ⟨t', rfl⟩ := ry
  have e : seqIndex? i z.length = some i.toNat := PySem.StrLaws.seqIndex_nonneg h0 h1
  exact tail_any (typeIs_str s2 z t) slot_str_getitem.lookup (getItem_str (c := c) (by
    have e1 : decide (i < -(2 ^ 63 : Int)) = false := decide_eq_false (by omega)
    have e2 : decide (i ≥ 2 ^ 63) = false := decide_eq_false (by omega)
    rw [e1, e2] <;> rfl) (by rw [e]; exact hc) ⟨.str ⟨#[c]⟩, H2, I2.tok _, ⟨_, rfl⟩, q⟩) (hs _ _)
/-- b[i], 0 ≤ i < len -/
theorem pe_item_byt (ha : PE X a ta) (hb : PE X b tb) (hs : PlainIxT b) :
    PE X (.Subscript a b pos) (tOp (fun x y H Q => ∃ (z : List UInt8) (i : Int), x = .byt z.toArray ∧ y = .int i ∧ z.length ≤ sizeLine ∧ 0 ≤ i ∧ i < z.length ∧ Q (.int ((z.getD i.toNat 0).toNat : Nat)) H) ta tb) := by
  intro pins s σ H Q I h
  refine Subscript_ (binT ha hb I h fun v u s2 x y H2 I2 rx ry q => ?_)
  obtain ⟨z, i, rfl, rfl, hz, h0, h1, q⟩ := q
  obtain ⟨t, rfl⟩ := rx
  obtain ⟨t', rfl⟩ := ry
  have hl : sizeLine = 16777216 := sizeLine_eq
  exact tail_any (PySem.W.typeIs_bytes s2 z.toArray t) PySem.W.FB.slot_bytes_getitem.lookup (PySem.W.getItem_bytes (by omega) h0 h1 ⟨.int ((z.getD i.toNat 0).toNat : Nat), H2, I2.tok _, ⟨_, rfl⟩, q⟩) (hs _ _)

/-! ### scalar builtins, by CallR -/
theorem vals1 {x : V} {us : List Value} (r : Vals [x] us) : ∃ u, us = [u] ∧ RelV x u := by
  cases r with
  | cons r1 r2 => cases r2; exact ⟨_, rfl, r1⟩
theorem vals2 {x y : V} {us : List Value} (r : Vals [x, y] us) : ∃ u w', us = [u, w'] ∧ RelV x u ∧ RelV y w' := by
  cases r with
  | cons r1 r2 =>
    cases r2 with
    | cons r3 r4 => cases r4; exact ⟨_, _, rfl, r1, r3⟩
theorem call_abs : CallR X (.builtin "abs") (fun xs H Q => ∃ i, xs = [.int i] ∧ Q (.int (if i < 0 then -i else i)) H) := by
  intro pins s σ H xs us Q I r h
  obtain ⟨i, rfl, q⟩ := h
  obtain ⟨u, rfl, t, rfl⟩ := vals1 r
  exact call_abs_int fun u tk => ⟨.int (if i < 0 then -i else i), H, I.tok _, ⟨_, rfl⟩, q⟩
theorem call_max2 (hc : X.calm = true) : CallR X (.builtin "max") (fun xs H Q => ∃ i j, xs = [.int i, .int j] ∧ Q (.int (if j > i then j else i)) H) := by
  intro pins s σ H xs us Q I r h
  obtain ⟨i, j, rfl, q⟩ := h
  obtain ⟨u, w', rfl, ⟨t, rfl⟩, ⟨t', rfl⟩⟩ := vals2 r
  refine max_two_ints (I.ok.hd hc) fun h' tk k => ⟨_, H, I.kept k, ?_, q⟩
  by_cases hj : j > i
  · rw [if_pos hj, if_pos hj]; exact ⟨_, rfl⟩
  · rw [if_neg hj, if_neg hj]; exact ⟨_, rfl⟩
theorem call_min2 (hc : X.calm = true) : CallR X (.builtin "min") (fun xs H Q => ∃ i j, xs = [.int i, .int j] ∧ Q (.int (if j < i then j else i)) H) := by
  intro pins s σ H xs us Q I r h
  obtain ⟨i, j, rfl, q⟩ := h
  obtain ⟨u, w', rfl, ⟨t, rfl⟩, ⟨t', rfl⟩⟩ := vals2 r
  refine min_two_ints (I.ok.hd hc) fun h' tk k => ⟨_, H, I.kept k, ?_, q⟩
  by_cases hj : j < i
  · rw [if_pos hj, if_pos hj]; exact ⟨_, rfl⟩
  · rw [if_neg hj, if_neg hj]; exact ⟨_, rfl⟩
theorem call_int1 : CallR X (.type "int") (fun xs H Q => (∃ i, xs = [.int i] ∧ Q (.int i) H) ∨ ∃ k, xs = [.bl k] ∧ Q (.int (if k then 1 else 0)) H) := by
  intro pins s σ H xs us Q I r h
  rcases h with ⟨i, rfl, q⟩ | ⟨k, rfl, q⟩
  · obtain ⟨u, rfl, t, rfl⟩ := vals1 r
    exact call_int_int ⟨.int i, H, I, ⟨_, rfl⟩, q⟩
  · obtain ⟨u, rfl, r1⟩ := vals1 r
    cases r1
    exact call_int_bool ⟨.int (if k then 1 else 0), H, I.tok _, ⟨_, rfl⟩, q⟩
theorem call_bool1 : CallR X (.type "bool") (fun xs H Q => (∃ i, xs = [.int i] ∧ Q (.bl (i != 0)) H) ∨ ∃ k, xs = [.bl k] ∧ Q (.bl k) H) := by
  intro pins s σ H xs us Q I r h
  rcases h with ⟨i, rfl, q⟩ | ⟨k, rfl, q⟩
  · obtain ⟨u, rfl, t, rfl⟩ := vals1 r
    exact call_bool_int ⟨.bl (i != 0), H, I, rfl, q⟩
  · obtain ⟨u, rfl, r1⟩ := vals1 r
    cases r1
    exact call_bool_bool ⟨.bl k, H, I, rfl, q⟩
theorem call_str_int : CallR X (.type "str") (fun xs H Q => ∃ i, xs = [.int i] ∧ i.natAbs.log2 < 1920 ∧ Q (.str (toString i)) H) := by
  intro pins s σ H xs us Q I r h
  obtain ⟨i, rfl, hz, q⟩ := h
  obtain ⟨u, rfl, t, rfl⟩ := vals1 r
  exact PySem.P.str_of_int hz ⟨.str _, H, I.tok _, ⟨_, rfl⟩, q⟩
theorem call_ord : CallR X (.builtin "ord") (fun xs H Q => ∃ x, xs = [.str x] ∧ x.length = 1 ∧ Q (.int (x.cps.getD 0 0 : Nat)) H) := by
  intro pins s σ H xs us Q I r h
  obtain ⟨x, rfl, hz, q⟩ := h
  obtain ⟨u, rfl, t, rfl⟩ := vals1 r
  exact ord_of_one hz ⟨.int _, H, I.tok _, ⟨_, rfl⟩, q⟩
theorem call_chr : CallR X (.builtin "chr") (fun xs H Q => ∃ i, xs = [.int i] ∧ 0 ≤ i ∧ i ≤ 1114111 ∧ Q (.str ⟨#[i.toNat]⟩) H) := by
  intro pins s σ H xs us Q I r h
  obtain ⟨i, rfl, h0, h1, q⟩ := h
  obtain ⟨u, rfl, t, rfl⟩ := vals1 r
  exact chr_of_range h0 h1 ⟨.str _, H, I.tok _, ⟨_, rfl⟩, q⟩
/-- len of a str, a bytes, a list, a tuple -/
def LenV (K : PySem.W.Frag) (x : V) (H : Hp) (n : Nat) : Prop :=
  match x with
  | .str y => y.length ≤ sizeLine ∧ n = y.length
  | .byt y => y.size ≤ sizeLine ∧ n = y.size
  | .ref p => (∃ xs, SqL K H p xs ∧ n = xs.length) ∨ ∃ xs, SqT K H p xs ∧ n = xs.length
  | _ => False
theorem call_len : CallR X (.builtin "len") (fun xs H Q => ∃ x n, xs = [x] ∧ LenV X.K x H n ∧ Q (.int n) H) := by
  intro pins s σ H xs us Q I r h
  obtain ⟨x, n, rfl, e, q⟩ := h
  obtain ⟨u, rfl, rx⟩ := vals1 r
  have hl := line63
  have hs : sizeLine = 16777216 := sizeLine_eq
  cases x with
  | str y =>
    obtain ⟨t, rfl⟩ := rx
    obtain ⟨hy, e'⟩ : y.length ≤ sizeLine ∧ n = y.length := e
    subst e'
    exact len_str (by omega) ⟨.int _, H, I.tok _, ⟨_, rfl⟩, q⟩
  | byt y =>
    obtain ⟨t, rfl⟩ := rx
    obtain ⟨hy, e'⟩ : y.size ≤ sizeLine ∧ n = y.size := e
    subst e'
    exact PySem.W.len_bytes (by omega) ⟨.int _, H, I.tok _, ⟨_, rfl⟩, q⟩
  | ref p =>
    cases rx
    have e' : (∃ xs, SqL X.K H p xs ∧ n = xs.length) ∨ ∃ xs, SqT X.K H p xs ∧ n = xs.length := e
    rcases e' with ⟨xs, hx, e'⟩ | ⟨xs, hx, e'⟩
    · subst e'
      obtain ⟨its, r', pl, hz⟩ := I.list hx
      have hlen := r'.length
      exact Calls.call_len_list pl.isList (by simp only [List.size_toArray]; omega) ⟨.int xs.length, H, I.tok _, ⟨_, by simp only [List.size_toArray]; rw [hlen]⟩, q⟩
    · subst e'
      obtain ⟨its, r', pl, hz⟩ := I.tuple hx
      have hlen := r'.length
      exact len_tuple pl (by simp only [List.size_toArray]; omega) ⟨.int xs.length, H, I.tok _, ⟨_, by simp only [List.size_toArray]; rw [hlen]⟩, q⟩
  | _ => exact (show False from e).elim
/-- divmod: a new tuple -/
theorem call_divmod : CallR X (.builtin "divmod") (fun xs H Q => ∃ i j, xs = [.int i, .int j] ∧ CDiv i j ∧ ∀ p, H p = none → Q (.ref p) (upd H p (.tup [.int (i / j), .int (i % j)]))) := by
  intro pins s σ H xs us Q I r h
  obtain ⟨i, j, rfl, ⟨h1, h2⟩, q⟩ := h
  obtain ⟨u, w', rfl, ⟨t, rfl⟩, ⟨t', rfl⟩⟩ := vals2 r
  refine divmod_int (by omega) ?_ (.inl (PyProof.noPylong_small (by omega)))
  rw [Int.fdiv_eq_ediv_of_nonneg i (by omega), Int.fmod_eq_emod_of_nonneg i (by omega)]
  have hn : H s.heap.objs.size = none := I.hok.fresh (Nat.le_refl _)
  refine ⟨.ref s.heap.objs.size, _, ?_, rfl, q _ hn⟩
  refine I.laid (fun b o e => Heap.get?_push_of_some _ e) (Nat.le_refl _) ⟨by simp only [List.length_cons, List.length_nil]; rw [sizeLine_eq]; decide, [.int (i / j) s.toks, .int (i % j) (s.toks + 1)], .cons ⟨_, rfl⟩ (.cons ⟨_, rfl⟩ .nil), ?_⟩
  exact ⟨_, Heap.get?_push_size s.heap rfl, rfl, 0, rfl⟩
end
end L2

namespace L2
open PySem PySem.Spec PyProof.Rows

/-! ### an instance, its attributes a map -/
structure ObjM (h : Heap) (x dx C : Addr) (mA : Str → Option Value) : Prop where
  obj : h.get? x = some (PySem.W.instObj C dx)
  ns : h.Ns1 dx mA
  ne : dx ≠ x

theorem lookIn_ns {h : Heap} {dx : Addr} {mA : Str → Option Value} (n : h.Ns1 dx mA) : ∃ od, h.get? dx = some od ∧ ∀ name, PySem.W.lookIn name od = some (mA name) := by
  obtain ⟨o, es, ep, ho, hd, hk, _, hm⟩ := n
  refine ⟨o, ho, fun name => ?_⟩
  have e := hm name
  unfold nsFind findBy at e
  rw [← Array.find?_toList] at e
  unfold PySem.W.lookIn
  rw [hd]
  dsimp only
  split
  · rename_i y q
    rw [q] at e
    exact congrArg some e
  · rename_i q
    rw [q] at e
    have a : es.toList.any (·.refKey) = false := by
      rw [List.any_eq_false]
      intro y hy
      obtain ⟨z, t, hkey⟩ := hk y (Array.mem_toList_iff.mp hy)
      simp [DictEntry.refKey, hkey]
    have a' : ¬ es.toList.any (·.refKey) = true := by rw [a]; exact Bool.false_ne_true
    rw [if_neg a']
    exact congrArg some e

theorem ObjM.look {h : Heap} {x dx C : Addr} {mA : Str → Option Value} (I : ObjM h x dx C mA) : ∃ od, PySem.W.InstAt h x (PySem.W.instObj C dx) C (some od) ∧ ∀ name, PySem.W.lookIn name od = some (mA name) :=
  let ⟨od, ho, hl⟩ := lookIn_ns I.ns
  ⟨od, ⟨I.obj, rfl, rfl, ho⟩, hl⟩

section
variable {prog : Program} {w : World} {A : Around} {E : Value → Shared → Prop} {s : Shared} {K : PySem.W.Frag} {x dx C f : Addr} {mA : Str → Option Value} {name : Str} {v : Value}

theorem get_map {expr : Bool} {Q : Value → Shared → Prop} (X : K.In s.heap) (I : ObjM s.heap x dx C mA) (hg : PySem.W.plainGet K C name = true) (hh : PySem.W.hasDictIn K C = true)
    (ha : PySem.W.findIn K (.ref C) name = some none) (hv : mA name = some v) (hv' : PySem.W.handedIn v = true) (h : Q v { s with toks := s.toks + 1 }) :
    wpAny (model prog w) A (getAttr (.ref x) name expr) Q E s := by
  obtain ⟨od, J, hl⟩ := I.look
  exact PySem.W.get_value X J (PySem.W.plainGet_of hg).1 (PySem.W.findObj_own hh ha rfl (by rw [hl, hv])) hv' h

theorem get_const {expr : Bool} {a : Value} {Q : Value → Shared → Prop} (X : K.In s.heap) (I : ObjM s.heap x dx C mA) (hg : PySem.W.plainGet K C name = true) (hh : PySem.W.hasDictIn K C = true)
    (ha : PySem.W.findIn K (.ref C) name = some (some a)) (hn : PySem.W.specialIn K a "__get__" = some none) (hc : PySem.W.copiedNames.contains name = false) (hv : mA name = none) (hv' : PySem.W.handedIn a = true)
    (h : Q a { s with toks := s.toks + 1 }) : wpAny (model prog w) A (getAttr (.ref x) name expr) Q E s := by
  obtain ⟨od, J, hl⟩ := I.look
  exact PySem.W.get_value X J (PySem.W.plainGet_of hg).1 (PySem.W.findObj_cls hh ha hn hv' hc (by rw [hl, hv])) hv' h

theorem get_meth {pl : Sem Bool} {Q : Value × List Value → Shared → Prop} (X : K.In s.heap) (I : ObjM s.heap x dx C mA) (hg : PySem.W.plainGet K C name = true)
    (hf : PySem.W.findIn K (.ref C) name = some (some (.ref f))) (ht : PySem.W.isFn K (.ref f) = true) (hv : mA name = none) (h : Q (.ref f, [.ref x]) s) :
    wpAny (model prog w) A (getMethod (.ref x) name pl) Q E s := by
  obtain ⟨od, J, hl⟩ := I.look
  exact PySem.W.method_fn X J (PySem.W.plainGet_of hg).1 (PySem.W.plainGet_of hg).2 hf (beq_iff_eq.mp ht) (by show (PySem.W.lookIn name od).map (·.isSome) = some false; rw [hl, hv]; rfl) h

theorem set_map {ns : List Str} {Q : Unit → Shared → Prop} (X : K.In s.heap) (I : ObjM s.heap x dx C mA)
    (hs : PySem.W.findIn K (.ref C) "__setattr__" = some (some (.builtin "object.__setattr__"))) (hp : PySem.W.plainOver K C = true) (ht : PySem.W.takerIn K C name = some none) (hh : PySem.W.hasDictIn K C = true)
    (hw : PySem.Within mA ns) (hsz : ns.length ≤ sizeLine)
    (h : ∀ h', ObjM h' x dx C (fun y => if y = name then some v else mA y) → Heap.SameBut dx s.heap h' → Q () { s with heap := h', toks := s.toks + 2 }) :
    wpAny (model prog w) A (setAttr (.ref x) name v) Q E s := by
  obtain ⟨od, J, hl⟩ := I.look
  refine PySem.W.set_plain X J hs (PySem.W.osa_open (s := { s with toks := s.toks + 1 }) (r := none) X J hp ht fun b => ?_)
  obtain ⟨cd, hc, hd'⟩ := PySem.W.any_some hh
  have hx : s.heap.get? x = some ⟨.ref C, some dx, .plain, #[]⟩ := I.obj
  refine wpAny_bind (wpAny_pure (wpAny_bind (wpAny_bind (wpAny_loadPart hx (wpAny_bind (PySem.W.Looks.here (s := { s with toks := s.toks + 1 }) (PySem.W.looks_clsIn X hc) ?_))))))
  rw [hd']
  refine wpAny_pure (a := some dx) (wpAny_bind (wpAny_pure (wpAny_bind ?_)))
  refine wpAny_nsSet1 (s := { s with toks := s.toks + 1 }) I.ns fun h' hn2 hs2 => ?_
  obtain ⟨oD, esD, epD, hoD, hdD, hcD⟩ := hn2.count (PySem.Within.cons name v hw)
  refine wpAny_bind (wpAny_lookBehind hoD (by rw [hdD]; exact pastItsLine_dict (Nat.le_trans hcD (by rw [List.length_cons]; omega))) ?_)
  exact wpAny_pure (h _ ⟨(hs2.2 _ (Ne.symm I.ne)).trans I.obj, hn2, I.ne⟩ hs2)

/-- C(..): the dict at the heap's end, the instance behind it; then its __init__ -/
theorem make_map {R : Result → Shared → Prop} {vs : List Value} {kw : List (Str × Value)} (X : K.In s.heap) (hm : PySem.W.makesIn K C = true)
    (hi : PySem.W.findIn K (.ref C) "__init__" = some (some (.ref f))) (hf : PySem.W.typeIn K (.ref f) = some (.type "function"))
    (h : codeAny (model prog w) (A.under (.builtin "type.__call__" ⟨.ref C :: vs, kw⟩)) (.call (.ref f) ⟨.ref (s.heap.objs.size + 1) :: vs, kw⟩) (PySem.W.InitBack (s.heap.objs.size + 1) R)
      { s with heap := (s.heap.push PySem.W.emptyDict).push (PySem.W.instObj C s.heap.objs.size) }) :
    codeAny (model prog w) A (.call (.ref C) ⟨vs, kw⟩) R s := by
  obtain ⟨hh, g, d, t, os⟩ := s
  exact PySem.W.make_core (PySem.W.makes_of X hm) (PySem.W.looks_findIn X hi) (fun self => PySem.W.bind_fn X self hf) (.inl rfl) h
/-- C() where there is no __init__ but object's -/
theorem make_map0 {R : Result → Shared → Prop} (X : K.In s.heap) (hm : PySem.W.makesIn K C = true)
    (hi : PySem.W.findIn K (.ref C) "__init__" = some (some (.builtin "object.__init__")))
    (hb : ∀ self, PySem.W.Looks (model prog w) s.heap (bindSpecial (.builtin "object.__init__") self) (.builtin "object.__init__", [self]))
    (h : codeAny (model prog w) (A.under (.builtin "type.__call__" ⟨[.ref C], []⟩)) (.call (.builtin "object.__init__") ⟨[.ref (s.heap.objs.size + 1)], []⟩) (PySem.W.InitBack (s.heap.objs.size + 1) R)
      { s with heap := (s.heap.push PySem.W.emptyDict).push (PySem.W.instObj C s.heap.objs.size) }) :
    codeAny (model prog w) A (.call (.ref C) ⟨[], []⟩) R s := by
  obtain ⟨hh, g, d, t, os⟩ := s
  exact PySem.W.make_core (PySem.W.makes_of X hm) (PySem.W.looks_findIn X hi) hb (.inr ⟨rfl, rfl⟩) h
end

/-! ### the attributes as a list of pairs -/
def putF (f : Str) (v : V) : List (Str × V) → List (Str × V)
  | [] => [(f, v)]
  | (g, x) :: r => if g = f then (g, v) :: r else (g, x) :: putF f v r
theorem lookup_putF (f g : Str) (v : V) : ∀ fs : List (Str × V), (putF f v fs).lookup g = if g = f then some v else fs.lookup g
  | [] => by
    show List.lookup g [(f, v)] = _
    by_cases h : g = f
    · have hb : (g == f) = true := beq_iff_eq.mpr h
      simp only [List.lookup, hb, if_pos h]
    · have hb : (g == f) = false := beq_eq_false_iff_ne.mpr h
      simp only [List.lookup, hb, if_neg h]
  | (k, x) :: r => by
    have ih := lookup_putF f g v r
    rw [show putF f v ((k, x) :: r) = (if k = f then (k, v) :: r else (k, x) :: putF f v r) from rfl]
    by_cases hk : k = f
    · rw [if_pos hk]
      by_cases h : g = k
      · have hb : (g == k) = true := beq_iff_eq.mpr h
        simp only [List.lookup, hb, if_pos (h.trans hk)]
      · have hb : (g == k) = false := beq_eq_false_iff_ne.mpr h
        simp only [List.lookup, hb, if_neg (fun e : g = f => h (e.trans hk.symm))]
    · rw [if_neg hk]
      by_cases h : g = k
      · have hb : (g == k) = true := beq_iff_eq.mpr h
        simp only [List.lookup, hb, if_neg (fun e : g = f => hk (h.symm.trans e))]
      · have hb : (g == k) = false := beq_eq_false_iff_ne.mpr h
        simp only [List.lookup, hb]
        exact ih
theorem keys_putF (f : Str) (v : V) : ∀ fs : List (Str × V), f ∈ (putF f v fs).map (·.1) ∧ ∀ g, g ∈ fs.map (·.1) → g ∈ (putF f v fs).map (·.1)
  | [] => ⟨by simp [putF], fun g h => by simp at h⟩
  | (k, x) :: r => by
    obtain ⟨i1, i2⟩ := keys_putF f v r
    rw [show putF f v ((k, x) :: r) = (if k = f then (k, v) :: r else (k, x) :: putF f v r) from rfl]
    by_cases hk : k = f
    · rw [if_pos hk]
      subst hk
      exact ⟨by simp, fun g h => by simpa using h⟩
    · rw [if_neg hk]
      refine ⟨?_, fun g h => ?_⟩
      · rw [List.map_cons]
        exact List.mem_cons_of_mem _ i1
      · rw [List.map_cons] at h ⊢
        rcases List.mem_cons.mp h with e | e
        · exact List.mem_cons.mpr (.inl e)
        · exact List.mem_cons_of_mem _ (i2 g e)
theorem length_putF (f : Str) (v : V) : ∀ fs : List (Str × V), (putF f v fs).length ≤ fs.length + 1
  | [] => by simp [putF]
  | (k, x) :: r => by
    have ih := length_putF f v r
    rw [show putF f v ((k, x) :: r) = (if k = f then (k, v) :: r else (k, x) :: putF f v r) from rfl]
    by_cases hk : k = f
    · rw [if_pos hk, List.length_cons, List.length_cons]; omega
    · rw [if_neg hk, List.length_cons, List.length_cons]; omega

theorem RelO.some_of {v : V} {o : Option Value} (r : RelO (some v) o) : ∃ u, o = some u ∧ RelV v u := by
  cases o with
  | none => exact (show False from r).elim
  | some u => exact ⟨u, rfl, r⟩
theorem RelO.none_of {o : Option Value} (r : RelO none o) : o = none := by
  cases o with
  | none => rfl
  | some u => exact (show False from r).elim
theorem handed_of {v : V} {u : Value} (r : RelV v u) : PySem.W.handedIn u = true := by
  cases v with
  | non => cases (show u = Value.none from r); rfl
  | bl b => cases (show u = Value.bool b from r); rfl
  | int i => obtain ⟨t, e⟩ := (show ∃ t, u = Value.int i t from r); cases e; rfl
  | str x => obtain ⟨t, e⟩ := (show ∃ t, u = Value.str x t from r); cases e; rfl
  | byt b => obtain ⟨t, e⟩ := (show ∃ t, u = Value.bytes b t from r); cases e; rfl
  | flt b => obtain ⟨t, e⟩ := (show ∃ t, u = Value.float b t from r); cases e; rfl
  | ref a => cases (show u = Value.ref a from r); rfl
  | ty n => cases (show u = Value.type n from r); rfl

section
variable {P : Program} {w : World} {H H' : Hp} {h h' : Heap} {a C dx : Addr} {fs fs' : List (Str × V)}
theorem ins_get (hok : HOk P w H h) (e : H a = some (.ins C dx fs)) : ∃ mA, ObjM h a dx C mA ∧ (∀ f, RelO (fs.lookup f) (mA f)) ∧ PySem.Within mA (fs.map (·.1)) ∧ fs.length ≤ 1000 ∧ H dx = some (.own a) := by
  obtain ⟨d, z, ne, ob, mA, n, r, q⟩ := (show ObjOk P w H h a (.ins C dx fs) from hok a _ e)
  exact ⟨mA, ⟨ob, n, ne⟩, r, q, z, d⟩
end

/-! ### what of the text a class must have -/
structure Cls (K : PySem.W.Frag) (C : Addr) : Prop where
  pg : PySem.W.plainGet K C Str.empty = true
  hd : PySem.W.hasDictIn K C = true
  po : PySem.W.plainOver K C = true
  sa : PySem.W.findIn K (.ref C) "__setattr__" = some (some (.builtin "object.__setattr__"))
theorem Cls.get {K : PySem.W.Frag} {C : Addr} (c : Cls K C) (f : Str) : PySem.W.plainGet K C f = true := c.pg
/-- no class of it has the name -/
def NoAttr (K : PySem.W.Frag) (C : Addr) (f : Str) : Prop := PySem.W.findIn K (.ref C) f = some none
theorem NoAttr.taker {K : PySem.W.Frag} {C : Addr} {f : Str} (n : NoAttr K C f) : PySem.W.takerIn K C f = some none := by
  unfold PySem.W.takerIn
  rw [show PySem.W.findIn K (.ref C) f = some none from n]
  rfl
/-- a constant of the class -/
structure Con (K : PySem.W.Frag) (C : Addr) (f : Str) (v : V) (u : Value) : Prop where
  at_ : PySem.W.findIn K (.ref C) f = some (some u)
  rel : RelV v u
  get : PySem.W.specialIn K u "__get__" = some none
  cp : PySem.W.copiedNames.contains f = false
/-- a method: a plain def of the class or of one above it -/
structure Meth (K : PySem.W.Frag) (C : Addr) (m : Str) (f : Addr) : Prop where
  at_ : PySem.W.findIn K (.ref C) m = some (some (.ref f))
  fn : PySem.W.isFn K (.ref f) = true
  kp : PySem.W.keepIn K (.ref f) = true

section
variable {X : Cx} {pins : List (Addr × Obj)} {σ : St} {H : Hp} {s : Shared} {a C dx : Addr} {fs : List (Str × V)} {f : Str} {v : V} {A : Around} {E : Value → Shared → Prop}

theorem getattr_ok {b : Bool} {Q : Value → Shared → Prop} (I : Inv X pins σ H s) (e : H a = some (.ins C dx fs)) (c : Cls X.K C) (n : NoAttr X.K C f) (l : fs.lookup f = some v)
    (h : ∀ u s', Inv X pins σ H s' → RelV v u → Q u s') : wpAny (model X.prog X.w) A (getAttr (.ref a) f b) Q E s := by
  obtain ⟨mA, O, r, _, _, _⟩ := ins_get I.hok e
  obtain ⟨u, hu, ru⟩ := RelO.some_of (v := v) (o := mA f) (by rw [← l]; exact r f)
  exact get_map I.kIn O (c.get f) c.hd n hu (handed_of ru) (h u _ (I.tok _) ru)

theorem getcon_ok {b : Bool} {u : Value} {Q : Value → Shared → Prop} (I : Inv X pins σ H s) (e : H a = some (.ins C dx fs)) (c : Cls X.K C) (k : Con X.K C f v u) (l : fs.lookup f = none)
    (h : ∀ s', Inv X pins σ H s' → Q u s') : wpAny (model X.prog X.w) A (getAttr (.ref a) f b) Q E s := by
  obtain ⟨mA, O, r, _, _, _⟩ := ins_get I.hok e
  have hn : mA f = none := RelO.none_of (by rw [← l]; exact r f)
  exact get_const I.kIn O (c.get f) c.hd k.at_ k.get k.cp hn (handed_of k.rel) (h _ (I.tok _))

theorem getmeth_ok {m : Str} {g : Addr} {pl : Sem Bool} {Q : Value × List Value → Shared → Prop} (I : Inv X pins σ H s) (e : H a = some (.ins C dx fs)) (c : Cls X.K C) (k : Meth X.K C m g) (l : fs.lookup m = none)
    (h : Q (.ref g, [.ref a]) s) : wpAny (model X.prog X.w) A (getMethod (.ref a) m pl) Q E s := by
  obtain ⟨mA, O, r, _, _, _⟩ := ins_get I.hok e
  have hn : mA m = none := RelO.none_of (by rw [← l]; exact r m)
  exact get_meth I.kIn O (c.get m) k.at_ k.fn hn h

theorem setattr_ok {y : V} {u : Value} {Q : Unit → Shared → Prop} (I : Inv X pins σ H s) (e : H a = some (.ins C dx fs)) (c : Cls X.K C) (n : NoAttr X.K C f) (hl : fs.length < 1000) (ry : RelV y u)
    (h : ∀ s', Inv X pins σ (upd H a (.ins C dx (putF f y fs))) s' → Q () s') : wpAny (model X.prog X.w) A (setAttr (.ref a) f u) Q E s := by
  obtain ⟨mA, O, r, wi, _, ho⟩ := ins_get I.hok e
  have hz : (fs.map (·.1)).length ≤ sizeLine := by rw [List.length_map, sizeLine_eq]; omega
  refine set_map I.kIn O c.sa c.po n.taker c.hd wi hz fun h' O' sb => h _ ?_
  have hd : ∃ o, h'.get? dx = some o := let ⟨o, _, _, e', _⟩ := O'.ns; ⟨o, e'⟩
  refine I.write (x := a) (e := dx) (by rw [e]; exact True.intro) (.inr ho) (fun b q hb z => (sb.2 b hb).trans z) hd ?_
  refine ⟨by rw [upd_ne O.ne]; exact ho, ?_, O.ne, O'.obj, _, O'.ns, fun g => ?_, fun g hg => ?_⟩
  · have := length_putF f y fs; omega
  · show RelO ((putF f y fs).lookup g) (if g = f then some u else mA g)
    rw [lookup_putF]
    by_cases q : g = f
    · rw [if_pos q, if_pos q]; exact ry
    · rw [if_neg q, if_neg q]; exact r g
  · by_cases q : g = f
    · rw [q]; exact (keys_putF f y fs).1
    · refine (keys_putF f y fs).2 g (wi g fun z => hg ?_)
      show (if g = f then some u else mA g) = none
      rw [if_neg q]; exact z

/-- a new instance, tracked, without attributes -/
theorem Inv.made (I : Inv X pins σ H s) : Inv X pins σ (upd (upd H s.heap.objs.size (.own (s.heap.objs.size + 1))) (s.heap.objs.size + 1) (.ins C s.heap.objs.size []))
    { s with heap := (s.heap.push PySem.W.emptyDict).push (PySem.W.instObj C s.heap.objs.size) } := by
  have e1 : (s.heap.push PySem.W.emptyDict).get? s.heap.objs.size = some PySem.W.emptyDict := Heap.get?_push_size s.heap rfl
  have e2 : ((s.heap.push PySem.W.emptyDict).push (PySem.W.instObj C s.heap.objs.size)).get? (s.heap.objs.size + 1) = some (PySem.W.instObj C s.heap.objs.size) := by
    have := Heap.get?_push_size (s.heap.push PySem.W.emptyDict) (o := PySem.W.instObj C s.heap.objs.size) rfl
    rwa [Heap.size_push] at this
  have e3 : (s.heap.push PySem.W.emptyDict).Ns s.heap.objs.size (fun _ => none) := ⟨PySem.W.emptyDict, #[], _, e1, rfl, (fun e he => absurd he (by simp)), fun _ => rfl⟩
  have I1 := I.laid (a := s.heap.objs.size) (o := .own (s.heap.objs.size + 1)) (h' := s.heap.push PySem.W.emptyDict) (t' := s.toks) (fun b u q => Heap.get?_push_of_some _ q) (Nat.le_refl _) ⟨_, e1⟩
  refine I1.laid (a := s.heap.objs.size + 1) (o := .ins C s.heap.objs.size []) (t' := s.toks) (fun b u q => Heap.get?_push_of_some _ q) (Nat.le_of_eq (Heap.size_push _ _)) ?_
  have ne : s.heap.objs.size ≠ s.heap.objs.size + 1 := Nat.ne_of_lt (Nat.lt_succ_self _)
  refine ⟨by rw [upd_ne ne, upd_same], Nat.zero_le _, ne, e2, fun _ => none, (Heap.Ns1.of_empty e3).at fun o q => Heap.get?_push_of_some _ q, fun _ => True.intro, fun y hy => absurd rfl hy⟩

/-- e.f where nothing but the object is asked: through attributeBase (super) and the last hold -/
theorem attr_of {prog : Program} {w : World} {env : Env} {e : Expr} {f : Str} {pos : Pos} {s : Shared} {Q : Value → Shared → Prop} (hb : attributeBase e f env (eval e env) = eval e env)
    (h : wpAny (model prog w) A (eval e env) (fun o s₁ => wpAny (model prog w) A (getAttr o f true) Q E s₁) E s) : wpAny (model prog w) A (eval (.Attribute e f pos) env) Q E s :=
  Attribute_any_ h (by rw [arm_eval_Attribute, hb])
end

/-! ### readings and rules -/
/-- e.f, an attribute of the instance -/
def tFld (K : PySem.W.Frag) (ta : TE) (f : Str) : TE := fun σ H Q => ta σ H fun x H1 => ∃ a C dx fs v, x = .ref a ∧ H1 a = some (.ins C dx fs) ∧ Cls K C ∧ NoAttr K C f ∧ fs.lookup f = some v ∧ Q v H1
/-- e.f, a constant of the class -/
def tCon (K : PySem.W.Frag) (ta : TE) (f : Str) : TE := fun σ H Q => ta σ H fun x H1 => ∃ a C dx fs v u, x = .ref a ∧ H1 a = some (.ins C dx fs) ∧ Cls K C ∧ Con K C f v u ∧ fs.lookup f = none ∧ Q v H1
/-- e.f = value -/
def sFld (K : PySem.W.Frag) (ta tv : TE) (f : Str) : TS := fun D σ H => tv σ H fun y H1 => ta σ H1 fun x H2 => ∃ a C dx fs, x = .ref a ∧ H2 a = some (.ins C dx fs) ∧ Cls K C ∧ NoAttr K C f ∧ fs.length < 1000 ∧
  D.nx σ (upd H2 a (.ins C dx (putF f y fs)))
/-- an augmented operator on two values -/
def InOp (X : Cx) (op : Operator) (rd : V → V → Hp → VK → Prop) : Prop :=
  ∀ (pins : List (Addr × Obj)) (s : Shared) (σ : St) (H : Hp) (x y : V) (u v : Value) (Q : VK), Inv X pins σ H s → RelV x u → RelV y v → rd x y H Q → wpAny (model X.prog X.w) X.A (inplaceOp op u v) (EP X pins σ Q) X.xe s
/-- e.f op= value -/
def sFldAug (K : PySem.W.Frag) (ta tv : TE) (rd : V → V → Hp → VK → Prop) (f : Str) : TS := fun D σ H => ta σ H fun x H1 => ∃ a C dx fs v, x = .ref a ∧ H1 a = some (.ins C dx fs) ∧ Cls K C ∧ NoAttr K C f ∧ fs.lookup f = some v ∧
  tv σ H1 fun y H2 => rd v y H2 fun z H3 => ∃ dx' fs', H3 a = some (.ins C dx' fs') ∧ fs'.length < 1000 ∧ D.nx σ (upd H3 a (.ins C dx' (putF f z fs')))

section
variable {X : Cx} {o e value : Expr} {f : Str} {pos pos' tpos : Pos} {ta tv : TE}
theorem pe_fld (he : PE X e ta) (hb : attributeBase e f X.env (eval e X.env) = eval e X.env) : PE X (.Attribute e f pos) (tFld X.K ta f) := by
  intro pins s σ H Q I h
  refine attr_of hb (thn (he pins s σ H _ I h) fun u s1 ⟨x, H1, I1, rx, a, C, dx, fs, v, ex, ea, c, n, l, q⟩ => ?_)
  subst ex
  obtain rfl : u = Value.ref a := rx
  exact getattr_ok I1 ea c n l fun u' s2 I2 ru => ⟨v, H1, I2, ru, q⟩
theorem pe_con (he : PE X e ta) (hb : attributeBase e f X.env (eval e X.env) = eval e X.env) : PE X (.Attribute e f pos) (tCon X.K ta f) := by
  intro pins s σ H Q I h
  refine attr_of hb (thn (he pins s σ H _ I h) fun u s1 ⟨x, H1, I1, rx, a, C, dx, fs, v, u0, ex, ea, c, k, l, q⟩ => ?_)
  subst ex
  obtain rfl : u = Value.ref a := rx
  exact getcon_ok I1 ea c k l fun s2 I2 => ⟨v, H1, I2, k.rel, q⟩
theorem ps_fld (ha : PE X o ta) (hv : PE X value tv) (hs : swapsWith value (some (.Attribute o f pos')) pos.line X.env = pure false) : PS X (.Assign [.Attribute o f pos'] value pos) (sFld X.K ta tv f) := by
  intro pins s σ H D I h
  refine plainObj_wpAny_Assign_Attribute (thn (hv pins s σ H _ I h) fun u s1 ⟨y, H1, I1, ry, q⟩ => thn (ha pins s1 σ H1 _ I1 q) fun ov s2 ⟨x, H2, I2, rx, a, C, dx, fs, ex, ea, c, n, l, q2⟩ => ?_) hs
  subst ex
  obtain rfl : ov = Value.ref a := rx
  exact setattr_ok I2 ea c n l ry fun s3 I3 => ⟨σ, _, I3, q2⟩
theorem ps_fldaug {op : Operator} {rd : V → V → Hp → VK → Prop} (ha : PE X o ta) (hv : PE X value tv) (hop : InOp X op rd) : PS X (.AugAssign (.Attribute o f tpos) op value pos) (sFldAug X.K ta tv rd f) := by
  intro pins s σ H D I h
  refine wpAny_AugAssign_AttributeAny (thn (ha pins s σ H _ I h) fun ov s1 ⟨x, H1, I1, rx, a, C, dx, fs, v, ex, ea, c, n, l, q⟩ => ?_)
  subst ex
  obtain rfl : ov = Value.ref a := rx
  refine getattr_ok I1 ea c n l fun u s2 I2 ru => thn (hv pins s2 σ H1 _ I2 q) fun w3 s3 ⟨y, H2, I3, ry, q3⟩ => thn (hop pins s3 σ H2 v y u w3 _ I3 ru ry q3) fun w4 s4 ⟨z, H3, I4, rz, dx', fs', ea', l', q4⟩ => ?_
  exact setattr_ok I4 ea' c n l' rz fun s5 I5 => ⟨σ, _, I5, q4⟩
def rAdd : V → V → Hp → VK → Prop := fun x y H Q => ∃ i j, x = .int i ∧ y = .int j ∧ Q (.int (i + j)) H
def rSub : V → V → Hp → VK → Prop := fun x y H Q => ∃ i j, x = .int i ∧ y = .int j ∧ Q (.int (i - j)) H
theorem in_add : InOp X .Add rAdd := by
  rintro pins s σ H x y u v Q I rx ry ⟨i, j, rfl, rfl, q⟩
  obtain ⟨t, rfl⟩ := (show ∃ t, u = Value.int i t from rx)
  obtain ⟨t', rfl⟩ := (show ∃ t', v = Value.int j t' from ry)
  exact PyProof.Rows.iadd_int ⟨.int (i + j), H, I.tok _, ⟨_, rfl⟩, q⟩
theorem in_sub : InOp X .Sub rSub := by
  rintro pins s σ H x y u v Q I rx ry ⟨i, j, rfl, rfl, q⟩
  obtain ⟨t, rfl⟩ := (show ∃ t, u = Value.int i t from rx)
  obtain ⟨t', rfl⟩ := (show ∃ t', v = Value.int j t' from ry)
  exact PyProof.Rows.isub_int ⟨.int (i - j), H, I.tok _, ⟨_, rfl⟩, q⟩

/-- what is between an instance and its method: the tree of a method call -/
theorem methcall_of {pl : Sem Bool} {m : Str} {apos : Pos} {args : List Expr} {pins : List (Addr × Obj)} {s : Shared} {σ : St} {H : Hp} {Q : Value → Shared → Prop} {te : TE} (he : PE X e te) (I : Inv X pins σ H s)
    (h : te σ H fun x H1 => ∃ a C dx fs g, x = .ref a ∧ H1 a = some (.ins C dx fs) ∧ Cls X.K C ∧ Meth X.K C m g ∧ fs.lookup m = none ∧
      ∀ s1, Inv X pins σ H1 s1 → wpAny (model X.prog X.w) X.A (callWith pos (.ref g) [.ref a] (backTo pos (starEach args X.env)) (backToKw pos (keywordEach [] X.env))) Q X.xe s1)
    (ht : eval (.Call (.Attribute e m apos) args [] pos) X.env = (do
      let ov ← eval e X.env
      standAt apos.atName
      let (f, first) ← holding [ov] (getMethod ov m pl)
      callWith pos f first (backTo pos (starEach args X.env)) (backToKw pos (keywordEach [] X.env)))) :
    wpAny (model X.prog X.w) X.A (eval (.Call (.Attribute e m apos) args [] pos) X.env) Q X.xe s := by
  refine PySem.W.methodCall_KW (pl := pl) (thn (he pins s σ H _ I h) fun u s1 ⟨x, H1, I1, rx, a, C, dx, fs, g, ex, ea, c, k, l, q⟩ => ?_) ht
  subst ex
  obtain rfl : u = Value.ref a := rx
  exact getmeth_ok I1 ea c k l (q s1 I1)
end

/-! ### isinstance -/
section
variable {X : Cx} {pins : List (Addr × Obj)} {σ : St} {H : Hp} {s : Shared} {A : Around} {E : Value → Shared → Prop} {Q : Value → Shared → Prop} {c : Value} {b : Bool}
/-- the type of a value, as the fragment's deciders take it; for an instance its class -/
inductive TyOf (K : PySem.W.Frag) (H : Hp) : V → Value → Prop where
  | non : TyOf K H .non (.type "NoneType")
  | bl (x : Bool) : TyOf K H (.bl x) (.type "bool")
  | int (i : Int) : TyOf K H (.int i) (.type "int")
  | str (x : Str) : TyOf K H (.str x) (.type "str")
  | flt (x : UInt64) : TyOf K H (.flt x) (.type "float")
  | lst {a : Addr} {xs : List V} (e : H a = some (.lst xs)) : TyOf K H (.ref a) (.type "list")
  | frz {a : Addr} {o : Obj} {xs : List V} (e : H a = some (.frz o (.lst xs))) : TyOf K H (.ref a) (.type "list")
  | tup {a : Addr} {xs : List V} (e : H a = some (.tup xs)) : TyOf K H (.ref a) (.type "tuple")
  | dK {a : Addr} {kvs : List (Key × V)} (e : H a = some (.dK kvs)) : TyOf K H (.ref a) (.type "dict")
  | dT {a : Addr} {kvs : List (List Key × V)} (e : H a = some (.dT kvs)) : TyOf K H (.ref a) (.type "dict")
  | ins {a C dx : Addr} {fs : List (Str × V)} (e : H a = some (.ins C dx fs)) (cl : Cls K C) (ha : PySem.W.findIn K (.ref C) "__class__" = some (some (.builtin "object.__class__")))
      (hn : PySem.W.specialIn K (.builtin "object.__class__") "__get__" = some (some (.builtin "getset_descriptor.__get__"))) (htk : PySem.W.takesIn K (.builtin "object.__class__") = some true)
      (hm : PySem.W.mroIn K C (.type "object") = some true) : TyOf K H (.ref a) (.ref C)
/-- isinstance(x, c) for one class c, a built-in or an own one: kitOne's answer -/
theorem isinst_ok {x : V} {u t : Value} (I : Inv X pins σ H s) (rx : RelV x u) (ty : TyOf X.K H x t) (e : PySem.W.kitOne X.K t c = some b) (h : ∀ tk, Q (.bool b) { s with toks := tk }) :
    wpAny (model X.prog X.w) A (call (.builtin "isinstance") [u, c]) Q E s := by
  cases ty with
  | non => cases (show u = Value.none from rx); exact PySem.W.kia_one PySem.W.kitx_none I.kIn True.intro e (fun z => nomatch z) h
  | bl y => cases (show u = Value.bool y from rx); exact PySem.W.kia_one PySem.W.kitx_bool I.kIn True.intro e (fun z => nomatch z) h
  | int i => obtain ⟨t, q⟩ := (show ∃ t, u = Value.int i t from rx); cases q; exact PySem.W.kia_one PySem.W.kitx_int I.kIn True.intro e (fun z => nomatch z) h
  | str y => obtain ⟨t, q⟩ := (show ∃ t, u = Value.str y t from rx); cases q; exact PySem.W.kia_one PySem.W.kitx_str I.kIn True.intro e (fun z => nomatch z) h
  | flt y => obtain ⟨t, q⟩ := (show ∃ t, u = Value.float y t from rx); cases q; exact PySem.W.kia_one PySem.W.kitx_float I.kIn True.intro e (fun z => nomatch z) h
  | @lst a xs ea =>
    cases (show u = Value.ref a from rx)
    obtain ⟨_, _, n, _, h1⟩ := (show ObjOk X.prog X.w H s.heap a (.lst xs) from I.hok a _ ea)
    exact PySem.W.kia_one PySem.W.kitx_list I.kIn ⟨_, h1, rfl⟩ e (fun z => nomatch z) h
  | @frz a ob xs ea =>
    cases (show u = Value.ref a from rx)
    obtain ⟨_, _, _, n, _, h1⟩ := (show ObjOk X.prog X.w H s.heap a (.frz ob (.lst xs)) from I.hok a _ ea)
    exact PySem.W.kia_one PySem.W.kitx_list I.kIn ⟨_, h1, rfl⟩ e (fun z => nomatch z) h
  | @tup a xs ea =>
    cases (show u = Value.ref a from rx)
    obtain ⟨_, _, _, p⟩ := (show ObjOk X.prog X.w H s.heap a (.tup xs) from I.hok a _ ea)
    obtain ⟨o, h1, h2, _⟩ := p
    exact PySem.W.kia_one PySem.W.kitx_tuple I.kIn ⟨o, h1, h2⟩ e (fun z => nomatch z) h
  | @dK a kvs ea =>
    cases (show u = Value.ref a from rx)
    obtain ⟨_, _, vs, _, p⟩ := (show ObjOk X.prog X.w H s.heap a (.dK kvs) from I.hok a _ ea)
    obtain ⟨o, es, ep, h1, h2, _⟩ := p
    exact PySem.W.kia_one PySem.W.kitx_dict I.kIn ⟨o, h1, h2.1⟩ e (fun z => nomatch z) h
  | @dT a kvs ea =>
    cases (show u = Value.ref a from rx)
    obtain ⟨_, _, xs, _, o, es, ep, h1, h2, _⟩ := (show ObjOk X.prog X.w H s.heap a (.dT kvs) from I.hok a _ ea)
    exact PySem.W.kia_one PySem.W.kitx_dict I.kIn ⟨o, h1, h2.1⟩ e (fun z => nomatch z) h
  | @ins a C dx fs ea cl ha hn htk hm =>
    cases (show u = Value.ref a from rx)
    obtain ⟨mA, O, _⟩ := ins_get I.hok ea
    obtain ⟨od, J, _⟩ := O.look
    exact PySem.W.kia_one (PySem.W.kitx_own (cl.get _) cl.hd ha hn htk hm) I.kIn J e (fun z => nomatch z) h
end
end L2

namespace L2
open PySem PySem.Spec PyProof.Rows

/-! ### room -/
structure Room (k : Nat) (A : Around) : Prop where
  hd : A.handled = none
  dp : A.depth + 3 * k + 5 < recursionLimit
  un : A.units + 16 * k + 200 < cLine
theorem Room.mono {j k : Nat} {A : Around} (r : Room k A) (h : j ≤ k) : Room j A := ⟨r.hd, by have := r.dp; omega, by have := r.un; omega⟩
theorem Room.deeper {k : Nat} {A : Around} (r : Room (k + 1) A) (env : Env) : Room k (A.deeper env) :=
  ⟨r.hd, by have := r.dp; show A.depth + 1 + 3 * k + 5 < _; omega, by have := r.un; show A.units + 3 + 16 * k + 200 < _; omega⟩
theorem Room.in1 {k : Nat} {A : Around} (r : Room (k + 1) A) : Room k A.in1 :=
  ⟨r.hd, by have := r.dp; show A.depth + 3 * k + 5 < _; omega, by have := r.un; show A.units + 1 + 16 * k + 200 < _; omega⟩
theorem make_depth {A : Around} {C : Addr} {us : List Value} {kw : List (Str × Value)} : (A.under (.builtin "type.__call__" ⟨.ref C :: us, kw⟩)).depth = A.depth + 1 := by
  first | rfl | simp [Around.under, Code.weight, Code.isCreation, Code.isGuard, Code.isCaller, Code.frames, Code.isFrame, guardIds]
theorem make_units {A : Around} {C : Addr} {us : List Value} {kw : List (Str × Value)} : (A.under (.builtin "type.__call__" ⟨.ref C :: us, kw⟩)).units = A.units + 1 := by
  first | rfl | simp [Around.under, Code.cUnits, Code.frames, Code.isFrame]
theorem Room.make {k : Nat} {A : Around} (r : Room (k + 1) A) (C : Addr) (us : List Value) (kw : List (Str × Value)) : Room k (A.under (.builtin "type.__call__" ⟨.ref C :: us, kw⟩)) :=
  ⟨r.hd, by have := r.dp; rw [make_depth]; omega, by have := r.un; rw [make_units]; omega⟩
theorem Room.depth {k : Nat} {A : Around} (r : Room k A) : A.depth < recursionLimit := by have := r.dp; omega
theorem Room.units {k : Nat} {A : Around} (r : Room k A) : A.units + 64 < cLine := by have := r.un; omega
theorem Room.units0 {k : Nat} {A : Around} (r : Room k A) : A.units < cLine := by have := r.un; omega

/-! ### argument lists and displays -/
def tNil : TA := fun _ H Q => Q [] H
def tCons (ta : TE) (tr : TA) : TA := fun σ H Q => ta σ H fun x H1 => tr σ H1 fun xs H2 => Q (x :: xs) H2
section
variable {X : Cx} {e : Expr} {es : List Expr} {te : TE} {t : TA} {pos : Pos}
theorem pa_nil : PA X [] tNil := fun _ _ _ _ H Q I h => Calls.spliced_nil ⟨[], H, I, .nil, h⟩
theorem pa_cons (ha : PE X e te) (hr : PA X es t) (hs : starEach (e :: es) X.env = (false, eval e X.env) :: starEach es X.env := by rfl) : PA X (e :: es) (tCons te t) := by
  intro pos pins s σ H Q I h
  rw [hs]
  show wpAny _ _ (spliced ((false, eval e X.env) :: backTo pos (starEach es X.env))) _ _ s
  refine Calls.spliced_cons (thn (ha pins s σ H _ I h) fun u s1 ⟨x, H1, I1, r1, q1⟩ => ?_)
  exact thn (hr pos pins s1 σ H1 _ I1 q1) fun us s2 ⟨xs, H2, I2, r2, q2⟩ => ⟨x :: xs, H2, I2, .cons r1 r2, q2⟩

/-- a tuple, a list of written items -/
def tTup (t : TA) : TE := fun σ H Q => t σ H fun xs H1 => xs.length ≤ sizeLine ∧ ∀ p, H1 p = none → Q (.ref p) (upd H1 p (.tup xs))
def tLst (t : TA) : TE := fun σ H Q => t σ H fun xs H1 => xs.length ≤ sizeLine ∧ ∀ p, H1 p = none → Q (.ref p) (upd H1 p (.lst xs))
theorem pe_tup {x1} (h : PA X es t) : PE X (.Tuple es x1 pos) (tTup t) := by
  intro pins s σ H Q I hq
  refine wpAny_Tuple_spliced (thn (h pos pins s σ H _ I hq) fun us s1 ⟨xs, H1, I1, r, z, q⟩ => ⟨by rw [← r.length]; exact z, ?_⟩)
  have hf : H1 s1.heap.objs.size = none := I1.hok.fresh (Nat.le_refl _)
  refine ⟨.ref s1.heap.objs.size, upd H1 s1.heap.objs.size (.tup xs), I1.laid (t' := s1.toks) (fun b u e => Heap.get?_push_of_some _ e) (Nat.le_refl _) ?_, rfl, q _ hf⟩
  exact ⟨z, us, r, ⟨_, Heap.get?_push_size _ rfl, rfl, _, rfl⟩⟩
theorem pe_lst (h : PA X es t) : PE X (.List es pos) (tLst t) := by
  intro pins s σ H Q I hq
  refine wpAny_List_spliced (thn (h pos pins s σ H _ I hq) fun us s1 ⟨xs, H1, I1, r, z, q⟩ => ⟨by rw [← r.length]; exact z, ?_⟩)
  have hf : H1 s1.heap.objs.size = none := I1.hok.fresh (Nat.le_refl _)
  refine ⟨.ref s1.heap.objs.size, upd H1 s1.heap.objs.size (.lst xs), I1.laid (t' := s1.toks) (fun b u e => Heap.get?_push_of_some _ e) (Nat.le_refl _) ?_, rfl, q _ hf⟩
  exact ⟨z, us, 0, r, Heap.get?_push_size _ rfl⟩
end

/-! ### what a def promises -/
/-- a def's promise: the bound arguments in the parameters' order, the heap, the wanted end, the wanted exception -/
abbrev Sp := List V → Hp → VK → XK → Prop
/-- how an exception lies behind a call (file 08 gives it): the callers' frames, abstract heap and state ahead of the call, the wish, the exception, the state -/
abbrev CXT := List Env → Hp → Shared → XK → Value → Shared → Prop

/-- the state at a call -/
structure Env0 (P : Program) (w : World) (K : PySem.W.Frag) (mg : Str → Option Value) (base : Heap) (A : Around) (outer : List Env) (s : Shared) (H : Hp) : Prop where
  frames : A.frames = some outer
  mod : Mod K mg base
  bs : ∀ b o, base.get? b = some o → s.heap.get? b = some o ∧ H b = none
  bsz : base.objs.size ≤ s.heap.objs.size
  funs : s.heap.FunFrames base outer
  frf : ∀ b ∈ frs outer, H b = none
  hok : HOk P w H s.heap
  bare : AllBare s.gens
/-- a call's end -/
def CE (outer : List Env) (P : Program) (w : World) (H : Hp) (s : Shared) (Q : VK) (u : Value) (s' : Shared) : Prop :=
  ∃ v H', s'.os = s.os ∧ AllBare s'.gens ∧ Un (frs outer) [] H H' s.heap s'.heap ∧ HOk P w H' s'.heap ∧ RelV v u ∧ Q v H'
def CR (CX : CXT) (outer : List Env) (P : Program) (w : World) (H : Hp) (s : Shared) (Q : VK) (E : XK) (r : Result) (s' : Shared) : Prop :=
  match r with
  | .ok (.ret u) => CE outer P w H s Q u s'
  | .ok _ => False
  | .error e => CX outer H s E e s'
structure FnOk (P : Program) (w : World) (K : PySem.W.Frag) (mg : Str → Option Value) (base : Heap) (CX : CXT) (k : Nat) (f : Addr) (fd : FuncData) (ps : List Str) (sp : Sp) : Prop where
  len : ∀ vs H Q E, sp vs H Q E → vs.length = ps.length
  run : ∀ (A : Around) (outer : List Env) (s : Shared) (H : Hp) (args : Args) (us : List Value) (vs : List V) (Q : VK) (E : XK), Room k A → Env0 P w K mg base A outer s H → BindsTo s fd args (ps.zip us) → Vals vs us → sp vs H Q E →
    codeAny (model P w) A (.call (.ref f) args) (CR CX outer P w H s Q E) s
theorem FnOk.mono {P : Program} {w : World} {K : PySem.W.Frag} {mg : Str → Option Value} {base : Heap} {CX : CXT} {j k : Nat} {f : Addr} {fd : FuncData} {ps : List Str} {sp : Sp} (F : FnOk P w K mg base CX j f fd ps sp) (h : j ≤ k) :
    FnOk P w K mg base CX k f fd ps sp := ⟨F.len, fun A outer s H args us vs Q E hr => F.run A outer s H args us vs Q E (hr.mono h)⟩
/-- a weaker promise -/
theorem FnOk.imp {P : Program} {w : World} {K : PySem.W.Frag} {mg : Str → Option Value} {base : Heap} {CX : CXT} {k : Nat} {f : Addr} {fd : FuncData} {ps : List Str} {sp sp' : Sp} (F : FnOk P w K mg base CX k f fd ps sp)
    (h : ∀ vs H Q E, sp' vs H Q E → sp vs H Q E) : FnOk P w K mg base CX k f fd ps sp' :=
  ⟨fun vs H Q E q => F.len vs H Q E (h _ _ _ _ q), fun A outer s H args us vs Q E hr he hb hv hs => F.run A outer s H args us vs Q E hr he hb hv (h _ _ _ _ hs)⟩

theorem Env0.make {P : Program} {w : World} {K : PySem.W.Frag} {mg : Str → Option Value} {base : Heap} {A : Around} {outer : List Env} {s : Shared} {H : Hp} (e : Env0 P w K mg base A outer s H) (C : Addr) (us : List Value) (kw : List (Str × Value)) :
    Env0 P w K mg base (A.under (.builtin "type.__call__" ⟨.ref C :: us, kw⟩)) outer s H := ⟨by first | exact e.frames | (simpa [Around.under, Code.envs, Code.isFrame, pushEnvs] using e.frames), e.mod, e.bs, e.bsz, e.funs, e.frf, e.hok, e.bare⟩
theorem Env0.in1 {P : Program} {w : World} {K : PySem.W.Frag} {mg : Str → Option Value} {base : Heap} {A : Around} {outer : List Env} {s : Shared} {H : Hp} (e : Env0 P w K mg base A outer s H) :
    Env0 P w K mg base A.in1 outer s H := ⟨e.frames, e.mod, e.bs, e.bsz, e.funs, e.frf, e.hok, e.bare⟩

section
variable {X : Cx} {pins : List (Addr × Obj)} {σ : St} {H : Hp} {s s' : Shared}
/-- from a body: what a callee wants -/
theorem Inv.env0 (I : Inv X pins σ H s) : Env0 X.prog X.w X.K X.mg X.base X.A X.stack s H :=
  ⟨I.ok.frames, I.ok.mod, I.bs, Nat.le_trans I.ok.bsz I.sz, I.stack, I.stkFree, I.hok, I.bare⟩
/-- behind a call -/
theorem Inv.after {Q : VK} {u : Value} (I : Inv X pins σ H s) (h : CE X.stack X.prog X.w H s Q u s') : EP X pins σ Q u s' := by
  obtain ⟨v, H', os, bare, un, hok, r, q⟩ := h
  obtain ⟨hh, g, d, t, os'⟩ := s'
  obtain rfl : os' = s.os := os
  exact ⟨v, H', I.call (h' := hh) (g' := g) (d' := d) (t' := t) (ch := []) un hok bare (fun b z => absurd z (by simp)), r, q⟩
end

/-! ### calls -/
/-- f(..): the written arguments, then the defaults dvs; E: what is wanted of an exception -/
def tCall (sp : Sp) (dvs : List V) (E : XK) (t : TA) : TE := fun σ H Q => t σ H fun vs H1 => sp (vs ++ dvs) H1 Q E
/-- o.m(..) of an instance of the class at C -/
def tMeth (C : Addr) (m : Str) (sp : Sp) (dvs : List V) (E : XK) (ta : TE) (t : TA) : TE := fun σ H Q => ta σ H fun x H1 => ∃ a dx fs, x = .ref a ∧ H1 a = some (.ins C dx fs) ∧ fs.lookup m = none ∧
  t σ H1 fun vs H2 => sp (x :: (vs ++ dvs)) H2 Q E
/-- C(..): a new instance and its dict, then __init__ -/
def tMake (C : Addr) (sp : Sp) (dvs : List V) (E : XK) (t : TA) : TE := fun σ H Q => t σ H fun vs H1 => ∀ x dx, H1 x = none → H1 dx = none → dx ≠ x →
  sp (.ref x :: (vs ++ dvs)) (upd (upd H1 dx (.own x)) x (.ins C dx [])) (fun v H2 => v = .non ∧ Q (.ref x) H2) E

/-- how the parameters are bound: us the positional arguments, kw the keywords' values by name, ds the defaults that fill up -/
def Binds (K : PySem.W.Frag) (fd : FuncData) (ps : List Str) (ds : List Value) : Prop :=
  ∀ (s : Shared) (us : List Value), K.In s.heap → (us ++ ds).length = ps.length → BindsTo s fd ⟨us, []⟩ (ps.zip (us ++ ds))
/-- every parameter is given -/
theorem Binds.all {K : PySem.W.Frag} {fd : FuncData} {ps : List Str} (h : ∀ us : List Value, us.length = ps.length → bindArgs fd ⟨us, []⟩ = pure (ps.zip us)) : Binds K fd ps [] := fun s us _ hl => by
  rw [List.append_nil] at hl ⊢
  exact .of_eq (h us hl)

/-- an exception of a callee reaches what this body wants of exceptions -/
def Passes (CX : CXT) (X : Cx) (E : XK) : Prop := ∀ (pins : List (Addr × Obj)) (σ : St) (H : Hp) (s : Shared) (e : Value) (s' : Shared), Inv X pins σ H s → CX X.stack H s E e s' → X.xe e s'

section
variable {X : Cx} {CX : CXT} {k : Nat} {f C : Addr} {fd : FuncData} {ps : List Str} {sp : Sp} {dvs : List V} {ds : List Value} {E : XK} {x m : Str} {p pos apos : Pos} {e o : Expr} {es : List Expr} {ta : TE} {t : TA}

/-- the callee runs -/
theorem run_fn {pins : List (Addr × Obj)} {σ : St} {H : Hp} {s : Shared} {Q : VK} {us : List Value} {vs : List V} (F : FnOk X.prog X.w X.K X.mg X.base CX k f fd ps sp) (hr : Room k X.A) (hb : Binds X.K fd ps ds) (hd : Vals dvs ds) (hx : Passes CX X E)
    (I : Inv X pins σ H s) (r : Vals vs us) (h : sp (vs ++ dvs) H Q E) : wpAny (model X.prog X.w) X.A (call (.ref f) us) (EP X pins σ Q) X.xe s := by
  have r2 : Vals (vs ++ dvs) (us ++ ds) := r.append hd
  have hl : (us ++ ds).length = ps.length := by rw [← r2.length]; exact F.len _ _ _ _ h
  refine wpAny_call (codeAny_mono (F.run X.A X.stack s H ⟨us, []⟩ (us ++ ds) (vs ++ dvs) Q E hr I.env0 (hb s us I.kIn hl) r2 h) fun r s' hq => ?_)
  cases r with
  | error e => exact hx pins σ H s e s' I hq
  | ok fl =>
    cases fl with
    | ret u => exact I.after hq
    | next => exact False.elim hq
    | brk => exact False.elim hq
    | cont => exact False.elim hq

theorem pe_call (F : FnOk X.prog X.w X.K X.mg X.base CX k f fd ps sp) (hr : Room k X.A) (hg : Gl X x) (hm : X.mg x = some (.ref f)) (hk : PySem.W.keepIn X.K (.ref f) = true) (hb : Binds X.K fd ps ds) (hd : Vals dvs ds) (hx : Passes CX X E)
    (ha : PA X (e :: es) t) (hdb : (x == ("__debug__" : Str)) = false := by decide) (he : starEach (e :: es) X.env = (false, eval e X.env) :: starEach es X.env := by rfl) (hpl : (backTo pos (starEach es X.env)).any (·.1) = false := by rfl) :
    PE X (.Call (.Name x p) (e :: es) [] pos) (tCall sp dvs E t) := by
  intro pins s σ H Q I h
  refine wpAny_Call_Name_kw (ld_glob I hg hm ?_ hdb)
  refine PySem.W.callWith_K (h₀ := X.base) I.ok.mod.kin hk (thn (ha pos pins s σ H _ I h) fun us s1 ⟨vs, H1, I1, r, q⟩ => ⟨I1.kIn, ?_⟩) he hpl
  exact run_fn F hr hb hd hx I1 r q
theorem pe_call0 (F : FnOk X.prog X.w X.K X.mg X.base CX k f fd ps sp) (hr : Room k X.A) (hg : Gl X x) (hm : X.mg x = some (.ref f)) (hk : PySem.W.keepIn X.K (.ref f) = true) (hb : Binds X.K fd ps ds) (hd : Vals dvs ds) (hx : Passes CX X E)
    (hdb : (x == ("__debug__" : Str)) = false := by decide) : PE X (.Call (.Name x p) [] [] pos) (tCall sp dvs E tNil) := by
  intro pins s σ H Q I h
  refine wpAny_Call_Name_kw (ld_glob I hg hm ?_ hdb)
  exact PySem.W.callWith_K0 I.kIn hk (run_fn (us := []) F hr hb hd hx I .nil h)

/-- o.m(e, ..) -/
theorem pe_meth {pl : Sem Bool} (he : PE X o ta) (c : Cls X.K C) (hm : Meth X.K C m f) (F : FnOk X.prog X.w X.K X.mg X.base CX k f fd ps sp) (hr : Room k X.A) (hb : Binds X.K fd ps ds) (hd : Vals dvs ds) (hx : Passes CX X E) (ha : PA X (e :: es) t)
    (hst : starEach (e :: es) X.env = (false, eval e X.env) :: starEach es X.env := by rfl) (hpl : (backTo pos (starEach es X.env)).any (·.1) = false := by rfl)
    (ht : eval (.Call (.Attribute o m apos) (e :: es) [] pos) X.env = (do
      let ov ← eval o X.env
      standAt apos.atName
      let (f, first) ← holding [ov] (getMethod ov m pl)
      callWith pos f first (backTo pos (starEach (e :: es) X.env)) (backToKw pos (keywordEach [] X.env))) := by rfl) :
    PE X (.Call (.Attribute o m apos) (e :: es) [] pos) (tMeth C m sp dvs E ta t) := by
  intro pins s σ H Q I h
  refine PySem.W.methodCall_KW (pl := pl) (thn (he pins s σ H _ I h) fun u s1 ⟨x, H1, I1, rx, a, dx, fs, ex, ea, l, q⟩ => ?_) ht
  subst ex
  obtain rfl : u = Value.ref a := rx
  refine getmeth_ok I1 ea c hm l ?_
  refine PySem.W.callWith_K (first := [.ref a]) (h₀ := X.base) I.ok.mod.kin hm.kp (thn (ha pos pins s1 σ H1 _ I1 q) fun us s2 ⟨vs, H2, I2, r, q2⟩ => ⟨I2.kIn, ?_⟩) hst hpl
  exact run_fn (us := .ref a :: us) (vs := .ref a :: vs) F hr hb hd hx I2 (.cons rfl r) q2
/-- o.m() -/
theorem pe_meth0 {pl : Sem Bool} (he : PE X o ta) (c : Cls X.K C) (hm : Meth X.K C m f) (F : FnOk X.prog X.w X.K X.mg X.base CX k f fd ps sp) (hr : Room k X.A) (hb : Binds X.K fd ps ds) (hd : Vals dvs ds) (hx : Passes CX X E)
    (ht : eval (.Call (.Attribute o m apos) [] [] pos) X.env = (do
      let ov ← eval o X.env
      standAt apos.atName
      let (f, first) ← holding [ov] (getMethod ov m pl)
      callWith pos f first (backTo pos (starEach [] X.env)) (backToKw pos (keywordEach [] X.env))) := by rfl) :
    PE X (.Call (.Attribute o m apos) [] [] pos) (tMeth C m sp dvs E ta tNil) := by
  intro pins s σ H Q I h
  refine PySem.W.methodCall_KW (pl := pl) (thn (he pins s σ H _ I h) fun u s1 ⟨x, H1, I1, rx, a, dx, fs, ex, ea, l, q⟩ => ?_) ht
  subst ex
  obtain rfl : u = Value.ref a := rx
  refine getmeth_ok I1 ea c hm l ?_
  exact PySem.W.callWith_K0 (first := [.ref a]) I1.kIn hm.kp (run_fn (us := [.ref a]) (vs := [.ref a]) F hr hb hd hx I1 (.cons rfl .nil) q)

/-- what a class must have to be made -/
structure Mk (K : PySem.W.Frag) (C f : Addr) : Prop where
  makes : PySem.W.makesIn K C = true
  init : PySem.W.findIn K (.ref C) "__init__" = some (some (.ref f))
  fn : PySem.W.isFn K (.ref f) = true
  kp : PySem.W.keepIn K (.ref C) = true

theorem run_make {pins : List (Addr × Obj)} {σ : St} {H : Hp} {s : Shared} {Q : VK} {us : List Value} {vs : List V} (M : Mk X.K C f) (F : FnOk X.prog X.w X.K X.mg X.base CX k f fd ps sp) (hr : Room (k + 1) X.A) (hb : Binds X.K fd ps ds) (hd : Vals dvs ds)
    (hx : Passes CX X E) (I : Inv X pins σ H s) (r : Vals vs us)
    (h : ∀ x dx, H x = none → H dx = none → dx ≠ x → sp (.ref x :: (vs ++ dvs)) (upd (upd H dx (.own x)) x (.ins C dx [])) (fun v H2 => v = .non ∧ Q (.ref x) H2) E) :
    wpAny (model X.prog X.w) X.A (call (.ref C) us) (EP X pins σ Q) X.xe s := by
  have hq := h (s.heap.objs.size + 1) s.heap.objs.size (I.hok.fresh (Nat.le_succ _)) (I.hok.fresh (Nat.le_refl _)) (Nat.ne_of_lt (Nat.lt_succ_self _))
  have I2 := Inv.made (C := C) I
  have r2 : Vals (V.ref (s.heap.objs.size + 1) :: (vs ++ dvs)) (Value.ref (s.heap.objs.size + 1) :: (us ++ ds)) := .cons rfl (r.append hd)
  have hl : (Value.ref (s.heap.objs.size + 1) :: us ++ ds).length = ps.length := by
    have e := r2.length
    rw [F.len _ _ _ _ hq] at e
    exact e.symm
  refine wpAny_call (make_map (f := f) I.kIn M.makes M.init (beq_iff_eq.mp M.fn) (codeAny_mono (F.run _ X.stack _ _ ⟨Value.ref (s.heap.objs.size + 1) :: us, []⟩ (Value.ref (s.heap.objs.size + 1) :: (us ++ ds)) _ _ E (hr.make C us [])
    (I2.env0.make C us []) (hb _ (Value.ref (s.heap.objs.size + 1) :: us) I2.kIn hl) r2 hq) fun r s' hq' => ?_))
  cases r with
  | error e => exact hx pins σ _ _ e s' I2 hq'
  | ok fl =>
    cases fl with
    | ret u =>
      obtain ⟨v, H', I3, rv, ev, q3⟩ := I2.after hq'
      subst ev
      exact ⟨rv, ⟨V.ref (s.heap.objs.size + 1), H', I3, rfl, q3⟩⟩
    | next => exact False.elim hq'
    | brk => exact False.elim hq'
    | cont => exact False.elim hq'
theorem pe_make (M : Mk X.K C f) (F : FnOk X.prog X.w X.K X.mg X.base CX k f fd ps sp) (hr : Room (k + 1) X.A) (hg : Gl X x) (hm : X.mg x = some (.ref C)) (hb : Binds X.K fd ps ds) (hd : Vals dvs ds) (hx : Passes CX X E)
    (ha : PA X (e :: es) t) (hdb : (x == ("__debug__" : Str)) = false := by decide) (he : starEach (e :: es) X.env = (false, eval e X.env) :: starEach es X.env := by rfl) (hpl : (backTo pos (starEach es X.env)).any (·.1) = false := by rfl) :
    PE X (.Call (.Name x p) (e :: es) [] pos) (tMake C sp dvs E t) := by
  intro pins s σ H Q I h
  refine wpAny_Call_Name_kw (ld_glob I hg hm ?_ hdb)
  refine PySem.W.callWith_K (h₀ := X.base) I.ok.mod.kin M.kp (thn (ha pos pins s σ H _ I h) fun us s1 ⟨vs, H1, I1, r, q⟩ => ⟨I1.kIn, ?_⟩) he hpl
  exact run_make M F hr hb hd hx I1 r q
theorem pe_make0 (M : Mk X.K C f) (F : FnOk X.prog X.w X.K X.mg X.base CX k f fd ps sp) (hr : Room (k + 1) X.A) (hg : Gl X x) (hm : X.mg x = some (.ref C)) (hb : Binds X.K fd ps ds) (hd : Vals dvs ds) (hx : Passes CX X E)
    (hdb : (x == ("__debug__" : Str)) = false := by decide) : PE X (.Call (.Name x p) [] [] pos) (tMake C sp dvs E tNil) := by
  intro pins s σ H Q I h
  refine wpAny_Call_Name_kw (ld_glob I hg hm ?_ hdb)
  exact PySem.W.callWith_K0 I.kIn M.kp (run_make (us := []) M F hr hb hd hx I .nil h)
end

/-! ### keywords -/
/-- the values of the keywords, from the left -/
def PK (X : Cx) (kws : List Keyword) (t : TA) : Prop :=
  ∀ (pos : Pos) (pins : List (Addr × Obj)) (s : Shared) (σ : St) (H : Hp) (Q : List V → Hp → Prop), Inv X pins σ H s → t σ H Q → wpAny (model X.prog X.w) X.A (evalAll ((backToKw pos (keywordEach kws X.env)).map (·.2))) (AP X pins σ Q) X.xe s
section
variable {X : Cx} {CX : CXT} {k : Nat} {f C : Addr} {fd : FuncData} {ps ks : List Str} {sp : Sp} {E : XK} {x m : Str} {p pos apos kpos : Pos} {e o : Expr} {es : List Expr} {kws : List Keyword} {te ta : TE} {t tk : TA} {nm : Option Str}
theorem pk_nil : PK X [] tNil := fun _ _ _ _ H Q I h => wpAny_evalAll_nil ⟨[], H, I, .nil, h⟩
theorem pk_cons (ha : PE X e te) (hr : PK X kws t) : PK X (⟨nm, e, kpos⟩ :: kws) (tCons te t) := by
  intro pos pins s σ H Q I h
  show wpAny _ _ (evalAll ((do let v ← eval e X.env; standAt pos; pure v) :: (backToKw pos (keywordEach kws X.env)).map (·.2))) _ _ s
  refine wpAny_evalAll_cons (wpAny_bind (thn (ha pins s σ H _ I h) fun u s1 ⟨x, H1, I1, r1, q1⟩ => wpAny_bind (wpAny_standAt (wpAny_pure ?_))))
  exact thn (hr pos pins s1 σ H1 _ I1 q1) fun us s2 ⟨xs, H2, I2, r2, q2⟩ => ⟨x :: xs, H2, I2, .cons r1 r2, q2⟩

/-- how a call with keywords binds: g puts the positional values us and the keywords' values ws (names ks) in the parameters' order, defaults among them -/
structure KBinds (K : PySem.W.Frag) (fd : FuncData) (ps ks : List Str) (g : List Value → List Value → List Value) (gV : List V → List V → List V) : Prop where
  to : ∀ (s : Shared) (us ws : List Value), K.In s.heap → (g us ws).length = ps.length → BindsTo s fd ⟨us, ks.zip ws⟩ (ps.zip (g us ws))
  rel : ∀ {vs : List V} {us : List Value} {zs : List V} {ws : List Value}, Vals vs us → Vals zs ws → Vals (gV vs zs) (g us ws)
def tCallK (sp : Sp) (gV : List V → List V → List V) (E : XK) (t tk : TA) : TE := fun σ H Q => t σ H fun vs H1 => tk σ H1 fun zs H2 => sp (gV vs zs) H2 Q E
variable {g : List Value → List Value → List Value} {gV : List V → List V → List V}
theorem run_fnk {pins : List (Addr × Obj)} {σ : St} {H : Hp} {s : Shared} {Q : VK} {us ws : List Value} {vs zs : List V} (F : FnOk X.prog X.w X.K X.mg X.base CX k f fd ps sp) (hr : Room k X.A) (hb : KBinds X.K fd ps ks g gV) (hx : Passes CX X E)
    (I : Inv X pins σ H s) (r : Vals vs us) (rz : Vals zs ws) (h : sp (gV vs zs) H Q E) : wpAny (model X.prog X.w) X.A (call (.ref f) us (ks.zip ws)) (EP X pins σ Q) X.xe s := by
  have r2 := hb.rel r rz
  have hl : (g us ws).length = ps.length := by rw [← r2.length]; exact F.len _ _ _ _ h
  refine wpAny_call (codeAny_mono (F.run X.A X.stack s H ⟨us, ks.zip ws⟩ (g us ws) (gV vs zs) Q E hr I.env0 (hb.to s us ws I.kIn hl) r2 h) fun r s' hq => ?_)
  cases r with
  | error e => exact hx pins σ H s e s' I hq
  | ok fl =>
    cases fl with
    | ret u => exact I.after hq
    | next => exact False.elim hq
    | brk => exact False.elim hq
    | cont => exact False.elim hq
/-- f(e, .., k = v, ..) -/
theorem pe_callK (F : FnOk X.prog X.w X.K X.mg X.base CX k f fd ps sp) (hr : Room k X.A) (hg : Gl X x) (hm : X.mg x = some (.ref f)) (hk : PySem.W.keepIn X.K (.ref f) = true) (hb : KBinds X.K fd ps ks g gV) (hx : Passes CX X E)
    (ha : PA X (e :: es) t) (hkw : PK X kws tk) (hall : (backToKw pos (keywordEach kws X.env)).all (·.1.isSome) = true := by rfl) (hks : (backToKw pos (keywordEach kws X.env)).filterMap (·.1) = ks := by rfl)
    (hdb : (x == ("__debug__" : Str)) = false := by decide) (he : starEach (e :: es) X.env = (false, eval e X.env) :: starEach es X.env := by rfl)
    (hpl : ((backTo pos (starEach (e :: es) X.env)).any (·.1) || (backToKw pos (keywordEach kws X.env)).any (·.1.isNone)) = false := by rfl) :
    PE X (.Call (.Name x p) (e :: es) kws pos) (tCallK sp gV E t tk) := by
  intro pins s σ H Q I h
  refine wpAny_Call_Name_kw (ld_glob I hg hm ?_ hdb)
  refine PySem.W.callWith_KW (h₀ := X.base) I.ok.mod.kin hk hall (thn (ha pos pins s σ H _ I h) fun us s1 ⟨vs, H1, I1, r, q⟩ => ?_) hpl he
  refine thn (hkw pos pins s1 σ H1 _ I1 q) fun ws s2 ⟨zs, H2, I2, rz, q2⟩ => ⟨I2.kIn, ?_⟩
  rw [hks]
  exact run_fnk F hr hb hx I2 r rz q2
end

/-! ### a def's body keeps its promise -/
/-- names: the parameters first -/
structure FnScope (N P : List Str) (sc : Scope) : Prop where
  kind : sc.kind = .function
  co : sc.isCoroutine = false
  gen : sc.isGenerator = false
  nd : N.Nodup
  pre : N.take P.length = P
  par : ∀ x ∈ P, sc.names.lookup x = some .local ∨ sc.names.lookup x = some .cell
  nofree : ∀ y ∈ sc.names, y.2 ≠ .free

theorem bindL_out {kindOf : Str → Option NameKind} {x : Str} : ∀ {binds : List (Str × Value)} {m : Str → Option Value}, (∀ v, (x, v) ∉ binds) → bindL kindOf binds m x = m x
  | [], _, _ => rfl
  | (n, v) :: r, m, h => by
    unfold bindL
    rw [bindL_out fun w hw => h w (List.mem_cons_of_mem _ hw)]
    split
    · have : x ≠ n := by rintro rfl; exact h v List.mem_cons_self
      simp [this]
    · rfl
theorem bindC_out {kindOf : Str → Option NameKind} {x : Str} : ∀ {binds : List (Str × Value)} {m : Str → Option Value}, (∀ v, (x, v) ∉ binds) → bindC kindOf binds m x = m x
  | [], _, _ => rfl
  | (n, v) :: r, m, h => by
    unfold bindC
    rw [bindC_out fun w hw => h w (List.mem_cons_of_mem _ hw)]
    split
    · rfl
    · have : x ≠ n := by rintro rfl; exact h v List.mem_cons_self
      simp [this]
theorem bindL_get {kindOf : Str → Option NameKind} {x : Str} {v : Value} : ∀ {P : List Str} {vs : List Value} {i : Nat} {m : Str → Option Value}, P.Nodup → P[i]? = some x → vs[i]? = some v → kindOf x = some .local →
    bindL kindOf (P.zip vs) m x = some v
  | [], _, _, _, _, h, _, _ => by simp at h
  | _ :: _, [], _, _, _, _, h, _ => by simp at h
  | p :: P, w :: vs, 0, m, nd, h1, h2, hk => by
    simp at h1 h2; subst h1; subst h2
    show bindL kindOf ((p, w) :: P.zip vs) m p = _
    unfold bindL
    rw [bindL_out fun v hv => (List.nodup_cons.mp nd).1 (List.of_mem_zip hv).1, if_pos hk]
    simp
  | p :: P, w :: vs, i + 1, m, nd, h1, h2, hk => by
    show bindL kindOf ((p, w) :: P.zip vs) m x = _
    unfold bindL
    exact bindL_get (i := i) (List.nodup_cons.mp nd).2 (by simpa using h1) (by simpa using h2) hk
theorem bindC_get {kindOf : Str → Option NameKind} {x : Str} {v : Value} : ∀ {P : List Str} {vs : List Value} {i : Nat} {m : Str → Option Value}, P.Nodup → P[i]? = some x → vs[i]? = some v → kindOf x ≠ some .local →
    bindC kindOf (P.zip vs) m x = some v
  | [], _, _, _, _, h, _, _ => by simp at h
  | _ :: _, [], _, _, _, _, h, _ => by simp at h
  | p :: P, w :: vs, 0, m, nd, h1, h2, hk => by
    simp at h1 h2; subst h1; subst h2
    show bindC kindOf ((p, w) :: P.zip vs) m p = _
    unfold bindC
    rw [bindC_out fun v hv => (List.nodup_cons.mp nd).1 (List.of_mem_zip hv).1, if_neg hk]
    simp
  | p :: P, w :: vs, i + 1, m, nd, h1, h2, hk => by
    show bindC kindOf ((p, w) :: P.zip vs) m x = _
    unfold bindC
    exact bindC_get (i := i) (List.nodup_cons.mp nd).2 (by simpa using h1) (by simpa using h2) hk

/-- the names' values at the entry -/
def start (N : List Str) (vs : List V) : St := vs.map some ++ List.replicate (N.length - vs.length) none

/-- the context of a def's body, at its entry; an exception leaves the frame, then lies as CX says -/
def cxOf (CX : CXT) (P : Program) (w : World) (K : PySem.W.Frag) (mg : Str → Option Value) (base : Heap) (N : List Str) (qual : Str) (scope : Scope) (f : Addr) (cd : Value) (A : Around) (outer : List Env) (s : Shared) (H : Hp) (E : XK) : Cx where
  prog := P
  w := w
  K := K
  mg := mg
  base := base
  A := A.deeper (envOfC qual scope s.heap.objs.size f cd)
  N := N
  s₀ := s
  H₀ := H
  env := envOfC qual scope s.heap.objs.size f cd
  outer := outer
  stack := envOfC qual scope s.heap.objs.size f cd :: outer
  ex := []
  calm := true
  fn := fun _ => true
  pn := []
  xe := fun e s' => wpAny (model P w) (A.deeper (envOfC qual scope s.heap.objs.size f cd)) (leaving (envOfC qual scope s.heap.objs.size f cd) e) (fun _ s'' => CX outer H s E e s'') (fun e' s'' => CX outer H s E e' s'') s'

theorem cell_has {sc : Scope} {n : Nat} {x : Str} (h : sc.names.lookup x = some .cell) : ∃ c, (cellsFrom n sc.names []).lookup x = some c := by
  have q := PySem.W.cellsFrom_some sc.names n [] (.inl h)
  exact Option.isSome_iff_exists.mp q

theorem inv_start {CX : CXT} {P : Program} {w : World} {K : PySem.W.Frag} {mg : Str → Option Value} {base : Heap} {N ps : List Str} {qual : Str} {scope : Scope} {f : Addr} {cd : Value} {A : Around} {outer : List Env} {s s1 : Shared} {H : Hp} {E : XK} {us : List Value} {vs : List V}
    (S : FnScope N ps scope) (hd : A.handled = none) (e0 : Env0 P w K mg base A outer s H) (hl : vs.length = ps.length) (r : Vals vs us)
    (x : InCallC s s.heap.objs.size (bindL (envOfC qual scope s.heap.objs.size f cd).kindOf (ps.zip us) fun _ => none) (cellsFrom (s.heap.objs.size + 1) scope.names []) (bindC (envOfC qual scope s.heap.objs.size f cd).kindOf (ps.zip us) fun _ => none) s1) :
    Inv (cxOf CX P w K mg base N qual scope f cd A outer s H E) [] (start N vs) H s1 := by
  have hpl : ps.length ≤ N.length := by have := congrArg List.length S.pre; rw [List.length_take] at this; omega
  obtain ⟨h1, tk, rfl, hk⟩ := x.done
  have noA : ∀ b : Addr, b ∉ (cxOf CX P w K mg base N qual scope f cd A outer s H E).ex := fun b z => absurd (show b ∈ ([] : List Addr) from z) (by simp)
  refine ⟨⟨e0.mod, S.kind, rfl, rfl, Nat.le_refl _, fun y z c h1 h2 => ?_, fun y hy => ?_, fun y c _ h => ?_, fun _ => hd, Around.frames_deeper e0.frames, .inr ⟨rfl, rfl⟩, fun b z => absurd z (noA b), e0.bs, e0.bsz, fun b _ _ => noA b, fun b z => absurd z (noA b), e0.funs, e0.frf⟩,
    rfl, e0.bare, Un.kept hk, ⟨_, x.toInCall.ns, fun i y v h1 h2 h3 => ?_⟩, fun y c h => ⟨_, x.cell y c h⟩, e0.hok.fresh (Nat.le_refl _), fun y c h => ?_, fun p hp => absurd (show p ∈ ([] : List (Addr × Obj)) from hp) (by simp), e0.hok.kept hk, ?_⟩
  · exact name_of_addr x.apart (PySem.mem_of_lookup h1) (PySem.mem_of_lookup h2)
  · have hy : scope.names.lookup y = some .cell ∨ scope.names.lookup y = some .free := hy
    rcases hy with hy | hy
    · exact cell_has hy
    · exact absurd rfl (S.nofree _ (PySem.mem_of_lookup hy))
  · exact Nat.le_of_lt (x.above y c (PySem.mem_of_lookup h))
  · have hi : i < vs.length := by
      unfold start at h2
      by_cases hi : i < vs.length
      · exact hi
      · rw [List.getElem?_append_right (by simpa using hi)] at h2
        rw [List.getElem?_replicate] at h2
        split at h2 <;> cases h2
    have ha : vs[i]? = some v := by
      unfold start at h2
      rw [List.getElem?_append_left (by simpa using hi), List.getElem?_map] at h2
      cases e : vs[i]? with
      | none => rw [e] at h2; cases h2
      | some a => rw [e] at h2; cases h2; rfl
    obtain ⟨u, hu, rv⟩ := r.get ha
    have hp : ps[i]? = some y := by
      rw [← S.pre, List.getElem?_take_of_lt (by omega)]; exact h1
    have ndP : ps.Nodup := by rw [← S.pre]; exact S.nd.sublist (List.take_sublist _ _)
    refine ⟨u, rv, ?_⟩
    rcases S.par y (List.mem_of_getElem? hp) with k | k
    · exact .inl ⟨k, bindL_get ndP hp hu k⟩
    · obtain ⟨c, e⟩ := cell_has (n := s.heap.objs.size + 1) k
      refine .inr ⟨.inl k, c, e, ?_⟩
      have q := x.cell y c e
      rw [bindC_get ndP hp hu (by show scope.names.lookup y ≠ _; rw [k]; decide)] at q
      exact q
  · exact e0.hok.fresh (Nat.le_of_lt (x.above y c (PySem.mem_of_lookup h)))
  · unfold start
    show _ = N.length
    rw [List.length_append, List.length_map, List.length_replicate]
    omega

/-- THE RULE: a def (or a method) of the text, by its body. The body's reading t is chosen for each entry; it is run at the parameters' values -/
theorem fn_of {CX : CXT} {P : Program} {w : World} {K : PySem.W.Frag} {mg : Str → Option Value} {base : Heap} {k : Nat} {f : Addr} {name qual : Str} {params : Arguments} {body : List Stmt} {scope : Scope} {dV kV doc pm cdv ct oc : Value} {an od : Option Addr}
    {osl : Array (Option Value)} {N ps : List Str} {sp : Sp} (lk : K.lookup f = some ⟨oc, od, .func (PySem.W.fnOf name qual params body scope dV kV doc pm an cdv ct), osl⟩) (hcd : PySem.W.codeIn K cdv qual = true) (S : FnScope N ps scope)
    (len : ∀ vs H Q E, sp vs H Q E → vs.length = ps.length)
    (hbody : ∀ (A : Around) (outer : List Env) (s : Shared) (H : Hp) (vs : List V) (Q : VK) (E : XK), Room k (A.deeper (envOfC qual scope s.heap.objs.size f cdv)) → sp vs H Q E →
      ∃ t, PSs (cxOf CX P w K mg base N qual scope f cdv A outer s H E) body t ∧ t { nx := fun _ H' => Q .non H', rt := Q } (start N vs) H) :
    FnOk P w K mg base CX (k + 1) f (PySem.W.fnOf name qual params body scope dV kV doc pm an cdv ct) ps sp := by
  refine ⟨len, fun A outer s H args us vs Q E hr e0 hb r hsp => ?_⟩
  have hl := len _ _ _ _ hsp
  have KX : K.In s.heap := e0.mod.kin.keeps fun b o e => (e0.bs b o e).1
  have lim : s.heap.NoLimit := e0.mod.nolimit.keeps fun b o e => (e0.bs b o e).1
  have hkind : ∀ y ∈ ps.zip us, scope.names.lookup y.1 = some .local ∨ (scope.names.lookup y.1 = some .cell ∧ ((cellsFrom (s.heap.objs.size + 1) scope.names []).lookup y.1).isSome = true) := fun ⟨n, v⟩ hy => by
    rcases S.par n (List.of_mem_zip hy).1 with q | q
    · exact .inl q
    · exact .inr ⟨q, PySem.W.cellsFrom_some _ _ _ (.inl q)⟩
  refine codeAny_call_function hr.depth (KX _ _ lk) rfl S.co S.gen rfl (PySem.W.codeRec_of KX hcd) (hb _ _ _ _ ?_)
  refine wpAny_newFunctionEnv_cells S.kind hkind fun env he s1 x => ?_
  subst he
  refine ⟨lim.keeps x.toInCall.keep, codeAny_func ?_⟩
  obtain ⟨t, ht, hq⟩ := hbody A outer s H vs Q E (hr.deeper _) hsp
  have I : Inv (cxOf CX P w K mg base N qual scope f cdv A outer s H E) [] (start N vs) H s1 := inv_start S hr.hd e0 hl r x
  refine wpAny_mono (ht [] s1 (start N vs) H _ I hq) (fun fl s' hs => ?_) fun e s' hs => hs
  have fin : ∀ {σ' : St} {H' : Hp} {v : V} {u : Value}, Inv (cxOf CX P w K mg base N qual scope f cdv A outer s H E) [] σ' H' s' → RelV v u → Q v H' → CE outer P w H s Q u s' :=
    fun {σ' H' v u} J rv q => ⟨v, H', J.os, J.bare, J.base, J.hok, rv, q⟩
  cases fl with
  | ret u =>
    obtain ⟨v, σ', H', J, rv, q⟩ := hs
    exact fin J rv q
  | next =>
    obtain ⟨σ', H', J, q⟩ := hs
    exact fin (v := V.non) (u := Value.none) J rfl q
  | brk =>
    obtain ⟨_, _, _, q⟩ := hs
    exact False.elim q
  | cont =>
    obtain ⟨_, _, _, q⟩ := hs
    exact False.elim q
end L2

namespace L2
open PySem PySem.Spec PyProof.Rows
section
variable {X : Cx} {x : Str} {p pos : Pos} {e : Expr} {es : List Expr} {t : TA} {id T : String} {r : List V → Hp → VK → Prop}

def tCB (r : List V → Hp → VK → Prop) (t : TA) : TE := fun σ H Q => t σ H fun vs H1 => r vs H1 Q
/-- f(e, ..), f a built-in function -/
theorem pe_callB (hc : CallR X (.builtin id) r) (hg : Gl X x) (hm : X.mg x = none) (hv : bootBuiltins x = some (.builtin id)) (ha : PA X (e :: es) t) (hn : x ≠ "__name__" := by decide) (hdb : (x == ("__debug__" : Str)) = false := by decide)
    (he : starEach (e :: es) X.env = (false, eval e X.env) :: starEach es X.env := by rfl) (hpl : (backTo pos (starEach es X.env)).any (·.1) = false := by rfl) : PE X (.Call (.Name x p) (e :: es) [] pos) (tCB r t) := by
  intro pins s σ H Q I h
  refine wpAny_Call_Name_kw (ld_blt I hg hm hv ?_ hn hdb)
  exact PyProof.Rows.callWith_builtin1 (thn (ha pos pins s σ H _ I h) fun us s1 ⟨vs, H1, I1, r1, q1⟩ => hc pins s1 σ H1 vs us Q I1 r1 q1) he hpl
/-- T(e, ..), T a built-in type -/
theorem pe_callTy (hc : CallR X (.type T) r) (hg : Gl X x) (hm : X.mg x = none) (hv : bootBuiltins x = some (.type T)) (ha : PA X (e :: es) t) (hn : x ≠ "__name__" := by decide) (hdb : (x == ("__debug__" : Str)) = false := by decide)
    (he : starEach (e :: es) X.env = (false, eval e X.env) :: starEach es X.env := by rfl) (hpl : (backTo pos (starEach es X.env)).any (·.1) = false := by rfl) : PE X (.Call (.Name x p) (e :: es) [] pos) (tCB r t) := by
  intro pins s σ H Q I h
  refine wpAny_Call_Name_kw (ld_blt I hg hm hv ?_ hn hdb)
  exact PyProof.Rows.callWith_type1 (thn (ha pos pins s σ H _ I h) fun us s1 ⟨vs, H1, I1, r1, q1⟩ => hc pins s1 σ H1 vs us Q I1 r1 q1) he hpl
/-- T() -/
theorem pe_callTy0 (hc : CallR X (.type T) r) (hg : Gl X x) (hm : X.mg x = none) (hv : bootBuiltins x = some (.type T)) (hn : x ≠ "__name__" := by decide) (hdb : (x == ("__debug__" : Str)) = false := by decide) :
    PE X (.Call (.Name x p) [] [] pos) (tCB r tNil) := by
  intro pins s σ H Q I h
  refine wpAny_Call_Name_kw (ld_blt I hg hm hv ?_ hn hdb)
  exact PyProof.Rows.callWith_type0 (hc pins s σ H [] [] Q I .nil h)
end
end L2

namespace HT
open PySem PyProof.Rows

/-- t < u of tuples of ints -/
def lexLt : List Int → List Int → Bool
  | [], [] => false
  | [], _ :: _ => true
  | _ :: _, [] => false
  | x :: xs, y :: ys => if x = y then lexLt xs ys else decide (x < y)
theorem lexLt_cons (x y : Int) (xs ys : List Int) : lexLt (x :: xs) (y :: ys) = if x = y then lexLt xs ys else decide (x < y) := rfl
theorem lexLt_nil_nil : lexLt [] [] = false := rfl
theorem lexLt_nil_cons (y : Int) (ys : List Int) : lexLt [] (y :: ys) = true := rfl
theorem lexLt_cons_nil (x : Int) (xs : List Int) : lexLt (x :: xs) [] = false := rfl

theorem eqAt_int (A : Around) (s : Shared) (a : Int) (t : Tok) (c : Int) (u : Tok) : ∃ e, SeqAt.EqAt A s (.int a t) (.int c u) e ∧ (e = true ↔ a = c) :=
  ⟨(a == c), SeqAt.EqAt.int_int a t c u, by simp⟩
theorem rcLt_int (A : Around) (s : Shared) (a : Int) (t : Tok) (c : Int) (u : Tok) (prog : Program) (w : World) (E : Value → Shared → Prop) (Q : Value → Shared → Prop) (h : Q (.bool (decide (a < c))) s) :
    wpAny (model prog w) A (richCompare .Lt (.int a t) (.int c u)) Q E s :=
  (PyProof.Rows.lt_int h : wpAny (model prog w) A (compareOp .Lt (.int a t) (.int c u)) Q E s)

section
open PySem.SeqAt
open PySem.AutoSeq1 (wpAny_loadPart')
open PySem.MeetsSeq PySem.MeetsSeq2 PySem.MeetsSeq3

theorem tuple_lt_ints (l b : Addr) (items items2 : Array Value) (n n2 : Nat) (dd dd2 : Option Addr) (sl sl2 : Array (Option Value)) (ns ms : List Int) (hi : IntsAre items.toList ns) (hj : IntsAre items2.toList ms) :
    Meets (Builtin.«tuple.__lt__» ⟨[.ref l, .ref b], []⟩)
      (fun _ R s => s.heap.get? l = some { cls := .type "tuple", dict := dd, data := .seq items n, slots := sl } ∧ s.heap.get? b = some { cls := .type "tuple", dict := dd2, data := .seq items2 n2, slots := sl2 } ∧
        R (.ok (.ret (.bool (lexLt ns ms)))) s) :=
  .of_wp fun prog w A R s h => by
    obtain ⟨hp, g, d, tk, os⟩ := s; obtain ⟨hl, hb, h⟩ := h
    have f2 := AutoSeq1.sub_tuple_tuple
    have z1 : items.size = ns.length := by rw [← hi.length]; simp
    have z2 : items2.size = ms.length := by rw [← hj.length]; simp
    wp_walk using wpAny_loadPart' hl, wpAny_loadPart' hb, wpAny_forIn_list _ (fun rest b s' => b.1 = none ∧ s' = ⟨hp, g, d, tk, os⟩ ∧ ∃ (vs ws : List Value) (ns' ms' : List Int), rest = vs.zip ws ∧
      IntsAre vs ns' ∧ IntsAre ws ms' ∧ ns'.length + items2.size = ms'.length + items.size ∧ R (.ok (.ret (.bool (lexLt ns' ms')))) ⟨hp, g, d, tk, os⟩) _
    case turn =>
      rintro ⟨y, x⟩ rest b s' ⟨hb', rfl, vs, ws, ns', ms', hz, hvi, hwi, hlen, hR⟩
      cases hvi with
      | nil => rw [List.zip_nil_left] at hz; cases hz
      | cons a t hvi' =>
        cases hwi with
        | nil => rw [List.zip_nil_right] at hz; cases hz
        | cons c u hwi' =>
          rw [List.zip_cons_cons] at hz
          injection hz with hyx hrest
          injection hyx with hy hx
          subst hy hx
          rw [lexLt_cons] at hR
          simp only [List.length_cons] at hlen
          obtain ⟨e, he, hiff⟩ := eqAt_int A.in1 ⟨hp, g, d, tk, os⟩ a t c u
          refine wpAny_bind (he prog w _ _ ?_)
          cases e with
          | true =>
            rw [if_pos (hiff.mp rfl)] at hR
            wp_walk
            exact ⟨rfl, rfl, _, _, _, _, hrest, hvi', hwi', by omega, hR⟩
          | false =>
            rw [if_neg (fun q => absurd (hiff.mpr q) Bool.false_ne_true)] at hR
            have hri := rcLt_int A.in1 ⟨hp, g, d, tk, os⟩ a t c u prog w
            wp_walk using hri
            exact ⟨_, rfl, by simpa using hR⟩
    case fin =>
      rintro ⟨b1, b2⟩ s' ⟨hb', rfl, vs, ws, ns', ms', hz, hvi, hwi, hlen, hR⟩
      simp only at hb'
      subst hb'
      have hv : lexLt ns' ms' = decide (items.size < items2.size) := by
        cases hvi with
        | nil =>
          cases hwi with
          | nil =>
            simp only [List.length_nil] at hlen
            rw [lexLt_nil_nil]
            exact (decide_eq_false (by omega)).symm
          | cons c u hw =>
            simp only [List.length_nil, List.length_cons] at hlen
            rw [lexLt_nil_cons]
            exact (decide_eq_true (by omega)).symm
        | cons a t hv =>
          cases hwi with
          | nil =>
            simp only [List.length_nil, List.length_cons] at hlen
            rw [lexLt_cons_nil]
            exact (decide_eq_false (by omega)).symm
          | cons c u hw =>
            rw [List.zip_cons_cons] at hz
            cases hz
      rw [hv] at hR
      wp_walk
      exact ⟨_, rfl, by simpa [Builtin.Tuple.tupleCompareSizes] using hR⟩
    case h =>
      exact ⟨rfl, rfl, items.toList, items2.toList, ns, ms, rfl, hi, hj, by omega, h⟩
end

section
variable {prog : Program} {w : World} {A : Around} {E : Value → Shared → Prop} {s : Shared}

theorem lt_tupInts {l b : Addr} {items items2 : Array Value} {ns ms : List Int} {Q : Value → Shared → Prop} (hl : IsTup s.heap l items) (hb : IsTup s.heap b items2) (hi : IntsAre items.toList ns) (hj : IntsAre items2.toList ms)
    (hu : A.units < cLine) (h : Q (.bool (lexLt ns ms)) s) : wpAny (model prog w) A (compareOp .Lt (.ref l) (.ref b)) Q E s := by
  obtain ⟨⟨cls, dd, data, sl⟩, ho, hc, n, hd⟩ := id hl
  obtain ⟨⟨cls2, dd2, data2, sl2⟩, ho2, hc2, n2, hd2⟩ := id hb
  simp only at hc hd hc2 hd2
  subst hc hd hc2 hd2
  exact richCompare_meets_room (op := .Lt) ⟨_, ho, rfl⟩ ⟨_, ho2, rfl⟩ PySem.F.slot_tuple_lt PySem.F.entry_tuple_lt (PySem.F.args_tuple_lt_2 _ _) (tuple_lt_ints l b items items2 n n2 dd dd2 sl sl2 ns ms hi hj)
    ⟨ho, ho2, show Value.bool (lexLt ns ms) ≠ Value.notImplemented ∧ Q (.bool (lexLt ns ms)) s from ⟨(fun x => nomatch x), h⟩⟩ hu

/-- t + u, t not empty -/
theorem cat_tup {t b : Addr} {vs ws : List Value} {Q : Value → Shared → Prop} (ht : IsTup s.heap t vs.toArray) (hb : IsTup s.heap b ws.toArray) (hv : vs ≠ [])
    (h1 : ws = [] → Q (.ref t) s) (h2 : ws ≠ [] → Q (.ref s.heap.objs.size) { s with heap := s.heap.push { cls := .type "tuple", data := .seq (vs ++ ws).toArray } })
    (hsz : vs.length + ws.length ≤ sizeLine) : wpAny (model prog w) A (binaryOp .Add (.ref t) (.ref b)) Q E s := by
  obtain ⟨⟨cls, dd, data, sl⟩, ho, hc, n, hd⟩ := id ht
  obtain ⟨⟨cls2, dd2, data2, sl2⟩, ho2, hc2, n2, hd2⟩ := id hb
  simp only at hc hd hc2 hd2
  subst hc hd hc2 hd2
  have e : vs.toArray ++ ws.toArray = (vs ++ ws).toArray := by simp
  by_cases hw : ws = []
  · exact concat_meets ⟨_, ho, rfl⟩ ⟨_, ho2, rfl⟩ noFill_tuple_add seq_tuple_add PySem.F.slot_tuple_add PySem.F.entry_tuple_add (PySem.F.args_tuple_add_2 _ _)
      (tuple_addW1 t b vs.toArray ws.toArray n n2 dd dd2 sl sl2 (by simpa using hv) (by simp [hw])) ⟨ho, ho2, h1 hw⟩
  · refine concat_meets ⟨_, ho, rfl⟩ ⟨_, ho2, rfl⟩ noFill_tuple_add seq_tuple_add PySem.F.slot_tuple_add PySem.F.entry_tuple_add (PySem.F.args_tuple_add_2 _ _)
      (tuple_addW2 t b vs.toArray ws.toArray n n2 dd dd2 sl sl2 (by simpa using hv) (by simpa using hw) (by rw [List.size_toArray, List.size_toArray]; exact hsz)) ⟨ho, ho2, ?_⟩
    rw [e]
    exact h2 hw

/-! ### t[a:b], not the whole -/
/-- a slice's bound as a place among n (d where it is left out) -/
def sIx (n d : Nat) : Option Int → Nat
  | none => d
  | some v => if v < 0 then (v + (n : Int)).toNat else min v.toNat n
theorem sIx_none (n d : Nat) : sIx n d none = d := rfl
theorem sIx_nat (n d k : Nat) : sIx n d (some (k : Int)) = min k n := by
  show (if (k : Int) < 0 then ((k : Int) + (n : Int)).toNat else min (k : Int).toNat n) = min k n
  rw [if_neg (by omega), Int.toNat_natCast]
theorem sIx_le (n d : Nat) (hd : d ≤ n) (o : Option Int) : sIx n d o ≤ n := by
  cases o with
  | none => exact hd
  | some v =>
    show (if v < 0 then (v + (n : Int)).toNat else min v.toNat n) ≤ n
    by_cases hv : v < 0
    · rw [if_pos hv]; omega
    · rw [if_neg hv]; exact Nat.min_le_right _ _
theorem clip_eq (v : Int) (n d : Nat) : (if v < 0 then max (v + (n : Int)) 0 else min v (n : Int)) = ((sIx n d (some v) : Nat) : Int) := by
  show (if v < 0 then max (v + (n : Int)) 0 else min v (n : Int)) = (((if v < 0 then (v + (n : Int)).toNat else min v.toNat n) : Nat) : Int)
  by_cases hv : v < 0
  · simp only [if_pos hv]; omega
  · simp only [if_neg hv]; omega
theorem adjust_gen (lo hi : Option Int) (n : Nat) : Builtin.Slice.sliceAdjust lo hi 1 (n : Int) = (((sIx n 0 lo : Nat) : Int), ((sIx n n hi : Nat) : Int)) := by
  have h1 : ¬ ((1 : Int) < 0) := by omega
  unfold Builtin.Slice.sliceAdjust
  simp only [h1, if_false]
  refine Prod.ext ?_ ?_
  · cases lo with
    | none => rfl
    | some v => exact clip_eq v n 0
  · cases hi with
    | none => rfl
    | some v => exact clip_eq v n n
theorem places_gen (i j : Nat) : Builtin.Slice.slicePlaces (i : Int) (j : Int) 1 = j - i := by
  unfold Builtin.Slice.slicePlaces
  have h1 : (1 : Int) > 0 := by omega
  simp only [h1, if_true, Int.ediv_one]
  split <;> omega
theorem slicePart_ {v : Value} {o : Option Int} {Q : Option Int → Shared → Prop} (p : IsPart v o) (h : Q o s) : wpAny (model prog w) A (Builtin.Slice.slicePartIndex v) Q E s := by
  cases p with
  | none => exact slicePart_none h
  | int i t => exact slicePart_int h
theorem sliceApplied_gen {sl : Addr} {vl vu : Value} {lo hi : Option Int} {n : Nat} {Q : Int × Int × Nat → Shared → Prop} (hs : s.heap.IsSliceOf sl vl vu .none) (pl : IsPart vl lo) (pu : IsPart vu hi)
    (h : Q (((sIx n 0 lo : Nat) : Int), 1, sIx n n hi - sIx n 0 lo) s) : wpAny (model prog w) A (Builtin.Slice.sliceApplied (.ref sl) (pure (n : Int))) Q E s := by
  obtain ⟨os, hos, hcs, hds⟩ := id hs
  unfold Builtin.Slice.sliceApplied Builtin.Slice.sliceFields
  refine wpAny_bind (wpAny_bind (wpAny_field hos hds (x := vl) rfl (wpAny_bind (wpAny_field hos hds (x := vu) rfl (wpAny_bind (wpAny_field hos hds (x := .none) rfl (wpAny_pure ?_)))))))
  refine wpAny_bind (slicePart_none ?_)
  show wpAny _ _ (if ((1 : Int) == 0) = true then _ else _) _ _ s
  rw [if_neg (by decide)]
  refine wpAny_bind (slicePart_ pl (wpAny_bind (slicePart_ pu (wpAny_bind (wpAny_pure ?_)))))
  show wpAny _ _ (match Builtin.Slice.sliceAdjust lo hi 1 (n : Int) with | (lo, hi) => pure (lo, (1 : Int), Builtin.Slice.slicePlaces lo hi 1)) _ _ s
  rw [adjust_gen lo hi n]
  show wpAny _ _ (pure (((sIx n 0 lo : Nat) : Int), (1 : Int), Builtin.Slice.slicePlaces ((sIx n 0 lo : Nat) : Int) ((sIx n n hi : Nat) : Int) 1)) _ _ s
  rw [places_gen]
  exact wpAny_pure h
theorem pick_gen (xs : Array Value) (i k : Nat) : ((List.range k).filterMap fun (m : Nat) => xs[((i : Int) + (m : Int) * 1).toNat]?).toArray = ((xs.toList.drop i).take k).toArray := by
  have e : (fun (m : Nat) => xs[((i : Int) + (m : Int) * 1).toNat]?) = fun m => xs[i + m]? := by
    funext m
    have : ((i : Int) + (m : Int) * 1).toNat = i + m := by omega
    rw [this]
  rw [e]
  have := pick_run xs i k
  rw [List.filterMap_map] at this
  have e2 : ((fun x => xs[x]?) ∘ fun x => i + x) = fun m => xs[i + m]? := rfl
  rw [e2] at this
  rw [this]

theorem getItem_tuple_cut {t sl : Addr} {items : Array Value} {vl vu : Value} {lo hi : Option Int} {Q : Value → Shared → Prop} (ht : IsTup s.heap t items) (hs : s.heap.IsSliceOf sl vl vu .none) (pl : IsPart vl lo) (pu : IsPart vu hi)
    (hw : ¬ (sIx items.size 0 lo = 0 ∧ sIx items.size items.size hi = items.size))
    (h : Q (.ref s.heap.objs.size) { s with heap := s.heap.push { cls := .type "tuple", data := .seq ((items.toList.drop (sIx items.size 0 lo)).take (sIx items.size items.size hi - sIx items.size 0 lo)).toArray } })
    (hsz : items.size ≤ sizeLine) : wpAny (model prog w) A (getItem (.ref t) (.ref sl)) Q E s := by
  have htake : sizeOk (.seq ((items.toList.drop (sIx items.size 0 lo)).take (sIx items.size items.size hi - sIx items.size 0 lo)).toArray) := by
    show ((items.toList.drop (sIx items.size 0 lo)).take (sIx items.size items.size hi - sIx items.size 0 lo)).toArray.size ≤ sizeLine
    rw [List.size_toArray, List.length_take, List.length_drop, Array.length_toList]
    omega
  have hj : sIx items.size items.size hi ≤ items.size := sIx_le _ _ (Nat.le_refl _) hi
  obtain ⟨os, hos, hcs, hds⟩ := id hs
  have hTs : s.TypeIs (.ref sl) "slice" := ⟨os, hos, hcs⟩
  unfold getItem
  try with_reducible refine wpAny_holding ?_
  first | refine wpAny_bind (wpAny_pure ?_) | skip
  refine wpAny_bind (wpAny_sequenceKey ht.typeIs (by decide) ?_)
  refine wpAny_bind (wpAny_callSpecial?_slot (name := Str.ofString "__getitem__") ht.typeIs PyProof.Rows.slot_tuple_getitem
    (wpAny_call_entry PyProof.Rows.slot_tuple_getitem ht.typeIs entry_tuple_getitem ?_ (args_tuple_getitem _ _)))
  show wpAny _ _ (Builtin.Tuple.tupleItemsOf (.ref t) >>= _) _ _ s
  refine wpAny_bind (tupleItemsOf_ ht ?_)
  refine wpAny_bind (wpAny_typeOf hTs ?_)
  rw [if_pos (by decide)]
  refine wpAny_bind (sliceApplied_gen hs pl pu ?_)
  have hno : ¬ ((((sIx items.size 0 lo : Nat) : Int) == 0 && (1 : Int) == 1 && (sIx items.size items.size hi - sIx items.size 0 lo) == items.size) = true) := by
    intro q
    rw [Bool.and_eq_true, Bool.and_eq_true] at q
    have q1 : ((sIx items.size 0 lo : Nat) : Int) = 0 := eq_of_beq q.1.1
    have q2 : sIx items.size items.size hi - sIx items.size 0 lo = items.size := eq_of_beq q.2
    exact hw ⟨by omega, by omega⟩
  show wpAny _ _ (if (((sIx items.size 0 lo : Nat) : Int) == 0 && (1 : Int) == 1 && (sIx items.size items.size hi - sIx items.size 0 lo) == items.size) = true then _ else _) _ _ s
  rw [if_neg hno, pick_gen]
  first
    | exact wpAny_bind (m := Builtin.Tuple.tupleExact _) (wpAny_newObj_type (wpAny_pure ⟨_, rfl, wpAny_pure h⟩) htake)
    | exact wpAny_bind (m := Builtin.Tuple.tupleExact _) (wpAny_newObj_type (wpAny_bind (wpAny_pure (wpAny_pure ⟨_, rfl, wpAny_pure h⟩))) htake)
    | exact wpAny_bind (wpAny_bind (m := Builtin.Tuple.tupleExact _) (wpAny_newObj_type (wpAny_pure (wpAny_pure ⟨_, rfl, wpAny_pure h⟩)) htake))
    | exact wpAny_bind (wpAny_bind (m := Builtin.Tuple.tupleExact _) (wpAny_newObj_type (wpAny_pure ⟨_, rfl, wpAny_pure h⟩) htake))
end
end HT

namespace L2
open PySem PySem.Spec PyProof.Rows

/-! ### the parts of a slice -/
abbrev TO := St → Hp → (Option Int → Hp → Prop) → Prop
/-- a slice's part (left out, or an int) -/
def PO (X : Cx) (e : Option Expr) (t : TO) : Prop :=
  ∀ (pins : List (Addr × Obj)) (s : Shared) (σ : St) (H : Hp) (Q : Option Int → Hp → Prop), Inv X pins σ H s → t σ H Q →
    wpAny (model X.prog X.w) X.A (evalPart e X.env) (fun u s' => ∃ o H', Inv X pins σ H' s' ∧ IsPart u o ∧ Q o H') X.xe s
def tNoPart : TO := fun _ H Q => Q none H
def tPart (t : TE) : TO := fun σ H Q => t σ H fun x H1 => ∃ i, x = .int i ∧ Q (some i) H1

theorem intsAre_of {ns : List Int} : ∀ {us : List Value}, Vals (ns.map V.int) us → IntsAre us ns := by
  induction ns with
  | nil => intro us r; rw [List.map_nil] at r; cases r; exact .nil
  | cons n ns ih =>
    intro us r
    rw [List.map_cons] at r
    cases r with
    | cons r1 r2 =>
      obtain ⟨t, e⟩ := r1
      subst e
      exact .cons n t (ih r2)

section
variable {X : Cx} {e : Expr} {te : TE} {lo hi : Option Expr} {tl th : TO} {pos p2 : Pos}

theorem po_none : PO X none tNoPart := by
  intro pins s σ H Q I h
  rw [evalPart_none]
  exact wpAny_pure ⟨none, H, I, .none, h⟩
theorem po_some (h : PE X e te) : PO X (some e) (tPart te) := by
  intro pins s σ H Q I hw
  rw [evalPart_some]
  refine thn (h pins s σ H _ I hw) fun u s1 ⟨x, H1, I1, r1, q1⟩ => ?_
  obtain ⟨i, rfl, q⟩ := q1
  obtain ⟨t, rfl⟩ := r1
  exact ⟨some i, H1, I1, .int i t, q⟩

/-- what a slice of a value is, by values: the slice object stands at sl -/
def SlR (X : Cx) (r : V → Option Int → Option Int → Hp → VK → Prop) : Prop :=
  ∀ (pins : List (Addr × Obj)) (s : Shared) (σ : St) (H : Hp) (x : V) (v vl vu : Value) (lo hi : Option Int) (sl : Addr) (Q : VK), Inv X pins σ H s → RelV x v → s.heap.IsSliceOf sl vl vu .none → IsPart vl lo → IsPart vu hi → r x lo hi H Q →
    ∃ T id, typeLookup (.type T) "__getitem__" = pure (some (.builtin id)) ∧ s.TypeIs v T ∧ wpAny (model X.prog X.w) X.A (getItem v (.ref sl)) (EP X pins σ Q) X.xe s
theorem SlR.or {r r' : V → Option Int → Option Int → Hp → VK → Prop} (h : SlR X r) (h' : SlR X r') : SlR X (fun x lo hi H Q => r x lo hi H Q ∨ r' x lo hi H Q) := by
  intro pins s σ H x v vl vu lo hi sl Q I rx hs pl pu q
  rcases q with q | q
  · exact h pins s σ H x v vl vu lo hi sl Q I rx hs pl pu q
  · exact h' pins s σ H x v vl vu lo hi sl Q I rx hs pl pu q
def tSl (r : V → Option Int → Option Int → Hp → VK → Prop) (te : TE) (tl th : TO) : TE := fun σ H Q => te σ H fun x H1 => tl σ H1 fun l H2 => th σ H2 fun u H3 => r x l u H3 Q
/-- a[lo:hi], any a -/
theorem pe_slice {r : V → Option Int → Option Int → Hp → VK → Prop} (hr : SlR X r) (he : PE X e te) (hl : PO X lo tl) (hu : PO X hi th) : PE X (.Subscript e (.Slice lo hi none p2) pos) (tSl r te tl th) := by
  intro pins s σ H Q I h
  refine Subscript_ (thn (he pins s σ H _ I h) fun v s1 ⟨x, H1, I1, r1, q1⟩ => ?_)
  refine wpAny_Slice (thn (hl pins s1 σ H1 _ I1 q1) fun vl s2 ⟨l, H2, I2, pl, q2⟩ => thn (hu pins s2 σ H2 _ I2 q2) fun vu s3 ⟨u, H3, I3, pu, q3⟩ => ?_)
  rw [evalPart_none]
  refine wpAny_pure ?_
  have I4 : Inv X pins σ H3 { s3 with heap := s3.heap.push { cls := .type "slice", data := .fields #[vl, vu, .none] } } := I3.kept (t' := s3.toks) fun b ob q => Heap.get?_push_of_some _ q
  obtain ⟨T, id, hT, ht, hg⟩ := hr pins { s3 with heap := s3.heap.push { cls := .type "slice", data := .fields #[vl, vu, .none] } } σ H3 x v vl vu l u s3.heap.objs.size Q I4 r1 (Heap.IsSliceOf.new ..) pl pu q3
  show wpAny (model X.prog X.w) X.A (subscriptTail e (.Slice lo hi none p2) v (.ref s3.heap.objs.size)) (EP X pins σ Q) X.xe { s3 with heap := s3.heap.push { cls := .type "slice", data := .fields #[vl, vu, .none] } }
  exact tail_any (ops := [.ref s3.heap.objs.size, v]) ht hT hg (by with_unfolding_all rfl)

/-- the items of xs[lo:hi] -/
def cutV (xs : List V) (lo hi : Option Int) : List V := (xs.drop (HT.sIx xs.length 0 lo)).take (HT.sIx xs.length xs.length hi - HT.sIx xs.length 0 lo)
theorem cutV_length (xs : List V) (lo hi : Option Int) : (cutV xs lo hi).length ≤ xs.length := by
  unfold cutV
  rw [List.length_take, List.length_drop]
  omega
/-- t[lo:hi], not the whole of it (the whole would be t itself) -/
def rSlT (K : PySem.W.Frag) : V → Option Int → Option Int → Hp → VK → Prop := fun x lo hi H Q => ∃ a xs, x = .ref a ∧ SqT K H a xs ∧
  ¬ (HT.sIx xs.length 0 lo = 0 ∧ HT.sIx xs.length xs.length hi = xs.length) ∧ ∀ p, H p = none → Q (.ref p) (upd H p (.tup (cutV xs lo hi)))
theorem sl_tup : SlR X (rSlT X.K) := by
  intro pins s σ H x v vl vu lo hi sl Q I rx hs pl pu h
  obtain ⟨a, xs, rfl, hx, hw, q⟩ := h
  cases rx
  obtain ⟨its, r, ht, hz⟩ := I.tuple hx
  have hlen : its.toArray.size = xs.length := by rw [List.size_toArray]; exact r.length.symm
  refine ⟨"tuple", _, PyProof.Rows.slot_tuple_getitem.lookup, ht.typeIs, ?_⟩
  refine HT.getItem_tuple_cut ht hs pl pu (by rw [hlen]; exact hw) ?_ (by rw [hlen]; exact hz)
  rw [hlen]
  refine ⟨.ref s.heap.objs.size, _, I.laid (t' := s.toks) (o := .tup (cutV xs lo hi)) (fun b ob q => Heap.get?_push_of_some _ q) (Nat.le_refl _) ?_, rfl, q _ (I.hok.fresh (Nat.le_refl _))⟩
  exact ⟨Nat.le_trans (cutV_length xs lo hi) hz, _, (r.drop (HT.sIx xs.length 0 lo)).take (HT.sIx xs.length xs.length hi - HT.sIx xs.length 0 lo), IsTup.new _ _⟩

/-! ### t < u, t + u -/
def rLtT (K : PySem.W.Frag) : R2 := fun x y H Q => ∃ a b ns ms, x = .ref a ∧ y = .ref b ∧ SqT K H a (ns.map V.int) ∧ SqT K H b (ms.map V.int) ∧ Q (.bl (HT.lexLt ns ms)) H
theorem op_ltT (hu : X.A.units < cLine) : OpR X (compareOp .Lt) (rLtT X.K) := by
  intro pins s σ H x y v u Q I rx ry h
  obtain ⟨a, b, ns, ms, rfl, rfl, ha, hb, q⟩ := h
  cases rx
  cases ry
  obtain ⟨its, r1, p1, _⟩ := I.tuple ha
  obtain ⟨its2, r2, p2, _⟩ := I.tuple hb
  have i1 : IntsAre its.toArray.toList ns := intsAre_of r1
  have i2 : IntsAre its2.toArray.toList ms := intsAre_of r2
  exact HT.lt_tupInts p1 p2 i1 i2 hu ⟨.bl (HT.lexLt ns ms), H, I, rfl, q⟩
/-- t + u, t not empty: u empty gives t itself -/
def rCatT (K : PySem.W.Frag) : R2 := fun x y H Q => ∃ a b xs ys, x = .ref a ∧ y = .ref b ∧ SqT K H a xs ∧ SqT K H b ys ∧ xs ≠ [] ∧ xs.length + ys.length ≤ sizeLine ∧
  (ys = [] → Q (.ref a) H) ∧ (ys ≠ [] → ∀ p, H p = none → Q (.ref p) (upd H p (.tup (xs ++ ys))))
theorem Vals.nil_iff {xs : List V} {us : List Value} (r : Vals xs us) : us = [] ↔ xs = [] := by
  cases r with
  | nil => simp
  | cons _ _ => simp
theorem op_catT : OpR X (binaryOp .Add) (rCatT X.K) := by
  intro pins s σ H x y v u Q I rx ry h
  obtain ⟨a, b, xs, ys, rfl, rfl, ha, hb, hx, hz, q1, q2⟩ := h
  cases rx
  cases ry
  obtain ⟨its, r1, p1, _⟩ := I.tuple ha
  obtain ⟨its2, r2, p2, _⟩ := I.tuple hb
  refine HT.cat_tup p1 p2 (fun z => hx (r1.nil_iff.mp z)) (fun z => ⟨.ref a, H, I, rfl, q1 (r2.nil_iff.mp z)⟩) (fun z => ?_) (by rw [← r1.length, ← r2.length]; exact hz)
  refine ⟨.ref s.heap.objs.size, _, I.laid (t' := s.toks) (o := .tup (xs ++ ys)) (fun b ob q => Heap.get?_push_of_some _ q) (Nat.le_refl _) ?_, rfl, q2 (fun w => z (r2.nil_iff.mpr w)) _ (I.hok.fresh (Nat.le_refl _))⟩
  exact ⟨by rw [List.length_append]; exact hz, _, r1.append r2, IsTup.new _ _⟩
/-- tuple(t) -/
theorem call_tupleT : CallR X (.type "tuple") (fun xs H Q => ∃ a ys, xs = [.ref a] ∧ SqT X.K H a ys ∧ Q (.ref a) H) := by
  intro pins s σ H xs us Q I r h
  obtain ⟨a, ys, rfl, ha, q⟩ := h
  obtain ⟨u, rfl, ru⟩ := vals1 r
  cases ru
  obtain ⟨its, _, p1, _⟩ := I.tuple ha
  exact call_tuple_same (items := its.toArray) p1 ⟨.ref a, H, I, rfl, q⟩
end
end L2

namespace L2
open PySem PySem.Spec PyProof.Rows

/-! ### places -/
/-- the place that an index of any sign means -/
def ixN (n : Nat) (i : Int) : Option Nat := if 0 ≤ i then (if i < n then some i.toNat else none) else if -(n : Int) ≤ i then some (i + n).toNat else none
def atI {α : Type} (xs : List α) (i : Int) : Option α := (ixN xs.length i).bind fun j => xs[j]?
theorem ixN_seq {n : Nat} {i : Int} {j : Nat} (h : ixN n i = some j) : seqIndex? i n = some j ∧ j < n ∧ -(n : Int) ≤ i ∧ i < n := by
  unfold ixN at h
  by_cases h0 : 0 ≤ i
  · rw [if_pos h0] at h
    by_cases h1 : i < n
    · rw [if_pos h1] at h
      have e : i.toNat = j := Option.some.inj h
      exact ⟨by rw [seqIndex_of h0 h1, e], by omega, by omega, h1⟩
    · rw [if_neg h1] at h; cases h
  · rw [if_neg h0] at h
    by_cases h1 : -(n : Int) ≤ i
    · rw [if_pos h1] at h
      have e : (i + n).toNat = j := Option.some.inj h
      exact ⟨by rw [seqIndex_neg (by omega) h1, e], by omega, h1, by omega⟩
    · rw [if_neg h1] at h; cases h
theorem atI_get {α : Type} {xs : List α} {i : Int} {v : α} (h : atI xs i = some v) : ∃ j, seqIndex? i xs.length = some j ∧ xs[j]? = some v ∧ j < xs.length ∧ -(xs.length : Int) ≤ i ∧ i < xs.length := by
  unfold atI at h
  cases e : ixN xs.length i with
  | none => rw [e] at h; cases h
  | some j =>
    rw [e] at h
    obtain ⟨h1, h2, h3, h4⟩ := ixN_seq e
    exact ⟨j, h1, h, h2, h3, h4⟩
theorem atI_nat {α : Type} {xs : List α} {j : Nat} {v : α} (h : xs[j]? = some v) : atI xs (j : Int) = some v := by
  have hj : j < xs.length := (List.getElem?_eq_some_iff.mp h).1
  have e : ixN xs.length (j : Int) = some j := by
    unfold ixN
    rw [if_pos (by omega), if_pos (by omega)]; simp
  unfold atI; rw [e]; exact h
theorem atI_last {α : Type} (xs : List α) (v : α) : atI (xs ++ [v]) (-1) = some v := by
  have hl : (xs ++ [v]).length = xs.length + 1 := by simp
  have e : ixN (xs ++ [v]).length (-1) = some xs.length := by
    unfold ixN
    rw [hl, if_neg (by decide), if_pos (by omega)]
    congr 1
    omega
  unfold atI
  rw [e]
  show (xs ++ [v])[xs.length]? = some v
  simp

/-! ### what may be subscripted -/
/-- what stands as an index of a plain subscript -/
def PlainIx (b : Expr) : Prop := ∀ o i, subscripted b false o i = operate [o, i] (getItem o i)
/-- a subscript by values -/
def IxR (X : Cx) (r : R2) : Prop :=
  ∀ (value slice : Expr) (pins : List (Addr × Obj)) (s : Shared) (σ : St) (H : Hp) (x y : V) (v u : Value) (Q : VK), Inv X pins σ H s → RelV x v → RelV y u → r x y H Q →
    subscripted slice false v u = operate [v, u] (getItem v u) → wpAny (model X.prog X.w) X.A (subscriptTail value slice v u) (EP X pins σ Q) X.xe s
/-- a call of a builtin's method by values: the receiver, the arguments -/
def MtR (X : Cx) (id : String) (r : V → List V → Hp → VK → Prop) : Prop :=
  ∀ (pins : List (Addr × Obj)) (s : Shared) (σ : St) (H : Hp) (x : V) (xs : List V) (v : Value) (us : List Value) (Q : VK), Inv X pins σ H s → RelV x v → Vals xs us → r x xs H Q →
    wpAny (model X.prog X.w) X.A (call (.builtin id) (v :: us)) (EP X pins σ Q) X.xe s
section
variable {X : Cx} {a b : Expr} {ta tb : TE} {pos : Pos}
theorem IxR.or {r r' : R2} (h : IxR X r) (h' : IxR X r') : IxR X (fun x y H Q => r x y H Q ∨ r' x y H Q) := by
  intro value slice pins s σ H x y v u Q I rx ry q hs
  rcases q with q | q
  · exact h value slice pins s σ H x y v u Q I rx ry q hs
  · exact h' value slice pins s σ H x y v u Q I rx ry q hs
theorem MtR.or {id : String} {r r' : V → List V → Hp → VK → Prop} (h : MtR X id r) (h' : MtR X id r') : MtR X id (fun x xs H Q => r x xs H Q ∨ r' x xs H Q) := by
  intro pins s σ H x xs v us Q I rx rs q
  rcases q with q | q
  · exact h pins s σ H x xs v us Q I rx rs q
  · exact h' pins s σ H x xs v us Q I rx rs q
/-- a[b] -/
theorem pe_ix {r : R2} (hr : IxR X r) (ha : PE X a ta) (hb : PE X b tb) (hs : PlainIx b) : PE X (.Subscript a b pos) (tOp r ta tb) := by
  intro pins s σ H Q I h
  exact Subscript_ (binT ha hb I h fun v u s2 x y H2 I2 rx ry q => hr a b pins s2 σ H2 x y v u Q I2 rx ry q (hs _ _))

def rIxL (K : PySem.W.Frag) : R2 := fun x y H Q => ∃ p xs i v, x = .ref p ∧ y = .int i ∧ SqL K H p xs ∧ atI xs i = some v ∧ Q v H
def rIxT (K : PySem.W.Frag) : R2 := fun x y H Q => ∃ p xs i v, x = .ref p ∧ y = .int i ∧ SqT K H p xs ∧ atI xs i = some v ∧ Q v H
def rIxS : R2 := fun x y H Q => ∃ z i c, x = .str z ∧ y = .int i ∧ z.length ≤ sizeLine ∧ atI z.cps.toList i = some c ∧ Q (.str ⟨#[c]⟩) H
theorem ix_list : IxR X (rIxL X.K) := by
  intro value slice pins s σ H x y v u Q I rx ry h hs
  obtain ⟨p, xs, i, z, rfl, rfl, hq, he, q⟩ := h
  cases rx
  obtain ⟨t, rfl⟩ := ry
  obtain ⟨its, r, pl, hz⟩ := I.list hq
  obtain ⟨j, h1, h2, h3, h4, h5⟩ := atI_get he
  obtain ⟨w, ew, rw'⟩ := r.get h2
  have hl := r.length
  have hn := line63
  have fin : EP X pins σ Q w s := ⟨z, H, I, rw', q⟩
  by_cases h0 : 0 ≤ i
  · have hj : i.toNat = j := by
      rw [seqIndex_of h0 h5] at h1
      exact Option.some.inj h1
    exact item_listR pl.isList h0 (by omega) (by rw [hj]; simpa using ew) fin hs
  · have hj : (i + (its.toArray.size : Int)).toNat = j := by
      rw [seqIndex_neg (by omega) h4] at h1
      rw [List.size_toArray, ← hl]
      exact Option.some.inj h1
    exact subscriptTail_builtinR (x := w) pl.isList.typeIs slot_list_getitem.lookup
      (wpAny_getItem_list_neg (Q := fun r s' => r = w ∧ EP X pins σ Q r s') pl.isList (by omega) (by rw [List.size_toArray] <;> omega) (by omega) (by rw [hj]; simpa using ew) ⟨rfl, fin⟩) hs
theorem ix_tup : IxR X (rIxT X.K) := by
  intro value slice pins s σ H x y v u Q I rx ry h hs
  obtain ⟨p, xs, i, z, rfl, rfl, hq, he, q⟩ := h
  cases rx
  obtain ⟨t, rfl⟩ := ry
  obtain ⟨its, r, pl, hz⟩ := I.tuple hq
  obtain ⟨j, h1, h2, h3, h4, h5⟩ := atI_get he
  obtain ⟨w, ew, rw'⟩ := r.get h2
  have hl := r.length
  have hn := line63
  have fin : EP X pins σ Q w s := ⟨z, H, I, rw', q⟩
  exact subscriptTail_builtinR (x := w) pl.typeIs slot_tuple_getitem.lookup
    (getItem_tuple (j := j) (Q := fun r s' => r = w ∧ EP X pins σ Q r s') pl (by omega) (by omega) (by rw [List.size_toArray, ← hl]; exact h1) (by simpa using ew) ⟨rfl, fin⟩) hs
theorem ix_str : IxR X rIxS := by
  intro value slice pins s σ H x y v u Q I rx ry h hs
  obtain ⟨z, i, c, rfl, rfl, hz, he, q⟩ := h
  obtain ⟨t, rfl⟩ := rx
  obtain ⟨t', rfl⟩ := ry
  obtain ⟨j, h1, h2, h3, h4, h5⟩ := atI_get he
  have hl : z.cps.toList.length = z.length := by simp [Str.length]
  rw [hl] at h1 h4 h5
  have hn := line63
  exact tail_any (typeIs_str s z t) slot_str_getitem.lookup (getItem_str (c := c) (by
    have e1 : decide (i < -(2 ^ 63 : Int)) = false := decide_eq_false (by omega)
    have e2 : decide (i ≥ 2 ^ 63) = false := decide_eq_false (by omega)
    rw [e1, e2, Bool.or_false]) (by rw [h1]; simpa using h2) ⟨.str ⟨#[c]⟩, H, I.tok _, ⟨_, rfl⟩, q⟩) hs
/-- list, tuple or str -/
def rIx (K : PySem.W.Frag) : R2 := fun x y H Q => rIxL K x y H Q ∨ rIxT K x y H Q ∨ rIxS x y H Q
theorem ix_seq : IxR X (rIx X.K) := ix_list.or (ix_tup.or ix_str)

/-! ### xs[i] = v, any sign -/
/-- the list's object behind a store -/
theorem mapSeq_set (its : List Value) (n j : Nat) (u : Value) : Obj.mapSeq (·.setIfInBounds j u) { cls := .type "list", data := .seq its.toArray n } = { cls := .type "list", data := .seq (its.set j u).toArray n } := by
  simp [Obj.mapSeq]
theorem Inv.lst {pins : List (Addr × Obj)} {σ : St} {H : Hp} {s : Shared} {p : Addr} {xs : List V} (I : Inv X pins σ H s) (h : H p = some (.lst xs)) :
    ∃ (its : List Value) (n : Nat), Vals xs its ∧ s.heap.get? p = some { cls := .type "list", data := .seq its.toArray n } ∧ xs.length ≤ sizeLine := by
  obtain ⟨z, its, n, r, e⟩ := I.hok p _ h
  exact ⟨its, n, r, e, z⟩
/-- the list at p is written by an update of its object -/
theorem Inv.lstUpd {pins : List (Addr × Obj)} {σ : St} {H : Hp} {s : Shared} {p : Addr} {xs ys : List V} {its its' : List Value} {n n' : Nat} {f : Obj → Obj} (I : Inv X pins σ H s) (h : H p = some (.lst xs))
    (ho : s.heap.get? p = some { cls := .type "list", data := .seq its.toArray n }) (hf : f { cls := .type "list", data := .seq its.toArray n } = { cls := .type "list", data := .seq its'.toArray n' }) (r : Vals ys its') (hz : ys.length ≤ sizeLine) (t : Nat) :
    Inv X pins σ (upd H p (.lst ys)) { s with heap := s.heap.update p f, toks := t } := by
  have e : (s.heap.update p f).get? p = some { cls := .type "list", data := .seq its'.toArray n' } := by
    rw [Heap.get?_update_self f ho (by rw [hf] <;> rfl), hf]
  refine I.write (x := p) (e := p) (by rw [h]; trivial) (.inl rfl) (fun b u hb q => (Heap.get?_update_other _ _ (Ne.symm hb)).trans q) ⟨_, e⟩ ?_
  exact ⟨hz, its', n', r, e⟩
def rSetL : V → V → V → Hp → (Hp → Prop) → Prop := fun o i v H Q => ∃ p xs k j, o = .ref p ∧ i = .int k ∧ H p = some (.lst xs) ∧ ixN xs.length k = some j ∧ Q (upd H p (.lst (xs.set j v)))
theorem set_list : PSet X rSetL := by
  intro pins s σ H o i v ov iv u Q I ro ri rv h
  obtain ⟨p, xs, k, j, rfl, rfl, hp, hj, q⟩ := h
  cases ro
  obtain ⟨t, rfl⟩ := ri
  obtain ⟨its, n, r, ho, hz⟩ := I.lst hp
  obtain ⟨h1, h2, h3, h4⟩ := ixN_seq hj
  have hl := r.length
  have hn := line63
  have I' : Inv X pins σ (upd H p (.lst (xs.set j v))) { s with heap := s.heap.update p (Obj.mapSeq (·.setIfInBounds j u)) } :=
    I.lstUpd hp ho (mapSeq_set its n j u) (r.set rv j) (by rw [List.length_set]; exact hz) s.toks
  by_cases h0 : 0 ≤ k
  · have hk : k.toNat = j := by
      rw [seqIndex_of h0 h4] at h1
      exact Option.some.inj h1
    exact PySem.W.ki_setAt ho h0 (by omega) (by rw [List.size_toArray, ← hl]; exact h4) (by rw [hk]; exact ⟨_, I', q⟩)
  · have hk : (k + (its.toArray.size : Int)).toNat = j := by
      rw [seqIndex_neg (by omega) h3] at h1
      rw [List.size_toArray, ← hl]
      exact Option.some.inj h1
    exact PySem.W.ki_setBack ho (by omega) (by rw [List.size_toArray, ← hl]; exact h3) (by omega) (by rw [hk]; exact ⟨_, I', q⟩)

/-! ### slices -/
theorem slice_bounds (lo hi : Option Int) (n : Nat) : (sliceBounds lo hi none n).1 = ((HT.sIx n 0 lo : Nat) : Int) ∧ (sliceBounds lo hi none n).2.1 = ((HT.sIx n n hi : Nat) : Int) ∧ (sliceBounds lo hi none n).2.2 = 1 := by
  refine ⟨?_, ?_, rfl⟩
  · cases lo with
    | none => simp [sliceBounds, HT.sIx]
    | some i =>
      simp only [sliceBounds, HT.sIx, Option.getD_none, show (1 : Int) > 0 by decide, if_true]
      by_cases h : i < 0
      · simp only [h, if_true] <;> omega
      · simp only [h, if_false] <;> omega
  · cases hi with
    | none => simp [sliceBounds, HT.sIx]
    | some i =>
      simp only [sliceBounds, HT.sIx, Option.getD_none, show (1 : Int) > 0 by decide, if_true]
      by_cases h : i < 0
      · simp only [h, if_true] <;> omega
      · simp only [h, if_false] <;> omega
theorem slicePick_cut (its : List Value) (lo hi : Option Int) : slicePick its.toArray lo hi none = ((its.drop (HT.sIx its.length 0 lo)).take (HT.sIx its.length its.length hi - HT.sIx its.length 0 lo)).toArray := by
  obtain ⟨h1, h2, h3⟩ := slice_bounds lo hi its.toArray.size
  unfold slicePick
  rw [h1, h2, h3]
  simp only [sliceRange_one, pick_run, List.size_toArray] <;> rfl
/-- xs[lo:hi] of a list: a new list -/
def rSlL (K : PySem.W.Frag) : V → Option Int → Option Int → Hp → VK → Prop := fun x lo hi H Q => ∃ a xs, x = .ref a ∧ SqL K H a xs ∧ ∀ p, H p = none → Q (.ref p) (upd H p (.lst (cutV xs lo hi)))
theorem sl_list : SlR X (rSlL X.K) := by
  intro pins s σ H x v vl vu lo hi sl Q I rx hs pl pu h
  obtain ⟨a, xs, rfl, hx, q⟩ := h
  cases rx
  obtain ⟨its, r, ht, hz⟩ := I.list hx
  have hlen := r.length
  refine ⟨"list", _, slot_list_getitem.lookup, ht.isList.typeIs, ?_⟩
  refine wpAny_getItem_list_slice ht.isList hs pl pu .none (by simp) ?_ (by rw [List.size_toArray] <;> omega)
  rw [slicePick_cut, ← hlen]
  refine ⟨.ref s.heap.objs.size, _, I.laid (t' := s.toks) (o := .lst (cutV xs lo hi)) (fun b ob q => Heap.get?_push_of_some _ q) (Nat.le_refl _) ?_, rfl, q _ (I.hok.fresh (Nat.le_refl _))⟩
  exact ⟨Nat.le_trans (cutV_length xs lo hi) hz, _, 0, (r.drop (HT.sIx xs.length 0 lo)).take (HT.sIx xs.length xs.length hi - HT.sIx xs.length 0 lo), Heap.get?_push_size _ rfl⟩

/-! ### in, not in: flat items -/
def flatV : V → Bool
  | .non => true
  | .bl _ => true
  | .int _ => true
  | .str _ => true
  | _ => false
/-- == of flat values -/
def eqV : V → V → Bool
  | .non, .non => true
  | .bl a, .bl b => a == b
  | .bl a, .int b => (if a then 1 else 0) == b
  | .int a, .bl b => a == (if b then 1 else 0)
  | .int a, .int b => a == b
  | .str a, .str b => a == b
  | _, _ => false
theorem eqAt_V {A : Around} {s : Shared} {y x : V} {u v : Value} (ry : RelV y u) (rx : RelV x v) (fy : flatV y = true) (fx : flatV x = true) : SeqAt.EqAt A s u v (eqV y x) := by
  cases y with
  | non =>
    cases ry
    cases x with
    | non => cases rx; exact SeqAt.EqAt.same _
    | bl b => cases rx; exact SeqAt.EqAt.none_bool b
    | int b => obtain ⟨t, rfl⟩ := rx; exact SeqAt.EqAt.none_int b t
    | str b => obtain ⟨t, rfl⟩ := rx; exact SeqAt.EqAt.none_str b t
    | _ => exact absurd (show false = true from fx) Bool.false_ne_true
  | bl a =>
    cases ry
    cases x with
    | non => cases rx; exact SeqAt.EqAt.bool_none a
    | bl b => cases rx; exact SeqAt.EqAt.bool_bool a b
    | int b => obtain ⟨t, rfl⟩ := rx; exact SeqAt.EqAt.bool_int a b t
    | str b => obtain ⟨t, rfl⟩ := rx; exact SeqAt.EqAt.bool_str a b t
    | _ => exact absurd (show false = true from fx) Bool.false_ne_true
  | int a =>
    obtain ⟨t', rfl⟩ := ry
    cases x with
    | non => cases rx; exact SeqAt.EqAt.int_none a t'
    | bl b => cases rx; exact SeqAt.EqAt.int_bool a t' b
    | int b => obtain ⟨t, rfl⟩ := rx; exact SeqAt.EqAt.int_int a t' b t
    | str b => obtain ⟨t, rfl⟩ := rx; exact SeqAt.EqAt.int_str a t' b t
    | _ => exact absurd (show false = true from fx) Bool.false_ne_true
  | str a =>
    obtain ⟨t', rfl⟩ := ry
    cases x with
    | non => cases rx; exact SeqAt.EqAt.str_none a t'
    | bl b => cases rx; exact SeqAt.EqAt.str_bool a t' b
    | int b => obtain ⟨t, rfl⟩ := rx; exact SeqAt.EqAt.str_int a t' b t
    | str b => obtain ⟨t, rfl⟩ := rx; exact SeqAt.EqAt.str_str a t' b t
    | _ => exact absurd (show false = true from fx) Bool.false_ne_true
  | _ => exact absurd (show false = true from fy) Bool.false_ne_true
/-- the items' answers, read off the values (a value's own answer does not lean on its token) -/
def eqU (x : V) (u : Value) : Bool := match u with
  | .none => eqV .non x
  | .bool b => eqV (.bl b) x
  | .int i _ => eqV (.int i) x
  | .str z _ => eqV (.str z) x
  | _ => false
theorem eqU_of {x y : V} {u : Value} (r : RelV y u) (f : flatV y = true) : eqU x u = eqV y x := by
  cases y with
  | non => cases r; rfl
  | bl b => cases r; rfl
  | int i => obtain ⟨t, rfl⟩ := r; rfl
  | str z => obtain ⟨t, rfl⟩ := r; rfl
  | _ => exact absurd (show false = true from f) Bool.false_ne_true
theorem any_eqU {x : V} : ∀ {xs : List V} {us : List Value}, Vals xs us → xs.all flatV = true → us.any (eqU x) = xs.any fun y => eqV y x
  | _, _, .nil, _ => rfl
  | y :: xs, u :: us, .cons r t, f => by
    rw [List.all_cons, Bool.and_eq_true] at f
    rw [List.any_cons, List.any_cons, eqU_of r f.1, any_eqU t f.2]
theorem mem_eqAt {A : Around} {s : Shared} {x : V} {v : Value} (rx : RelV x v) (fx : flatV x = true) : ∀ {xs : List V} {us : List Value}, Vals xs us → xs.all flatV = true → ∀ u ∈ us, SeqAt.EqAt A s u v (eqU x u)
  | _, _, .nil, _ => fun u hu => by cases hu
  | y :: xs, u :: us, .cons r t, f => fun u' hu => by
    rw [List.all_cons, Bool.and_eq_true] at f
    rcases List.mem_cons.mp hu with rfl | hu
    · rw [eqU_of r f.1]; exact eqAt_V r rx f.1 fx
    · exact mem_eqAt rx fx t f.2 u' hu
def inV (x : V) (xs : List V) : Bool := xs.any fun y => eqV y x
/-- x in a list or tuple of flat items -/
def rIn (K : PySem.W.Frag) (neg : Bool) : R2 := fun x y H Q => ∃ p xs, y = .ref p ∧ (SqL K H p xs ∨ SqT K H p xs) ∧ flatV x = true ∧ xs.all flatV = true ∧ Q (.bl (if neg then !inV x xs else inV x xs)) H
theorem op_in_seq : OpR X (compareOp .In) (rIn X.K false) := by
  intro pins s σ H x y v u Q I rx ry h
  obtain ⟨p, xs, rfl, hq, fx, fs, q⟩ := h
  cases ry
  rcases hq with hq | hq
  · obtain ⟨its, r, pl, hz⟩ := I.list hq
    refine SeqAt.in_listAt (eqU x) pl.isList (fun w hw => mem_eqAt rx fx r fs w (by simpa using hw)) ⟨.bl _, H, I, rfl, ?_⟩
    rw [show its.toArray.any (eqU x) = its.any (eqU x) by simp, any_eqU r fs]
    exact q
  · obtain ⟨its, r, pl, hz⟩ := I.tuple hq
    refine SeqAt.in_tupleAt (eqU x) pl (fun w hw => mem_eqAt rx fx r fs w (by simpa using hw)) ⟨.bl _, H, I, rfl, ?_⟩
    rw [show its.toArray.any (eqU x) = its.any (eqU x) by simp, any_eqU r fs]
    exact q
theorem op_notIn_seq : OpR X (compareOp .NotIn) (rIn X.K true) := by
  intro pins s σ H x y v u Q I rx ry h
  obtain ⟨p, xs, rfl, hq, fx, fs, q⟩ := h
  cases ry
  rcases hq with hq | hq
  · obtain ⟨its, r, pl, hz⟩ := I.list hq
    refine SeqAt.notIn_listAt (eqU x) pl.isList (fun w hw => mem_eqAt rx fx r fs w (by simpa using hw)) ⟨.bl _, H, I, rfl, ?_⟩
    rw [show its.toArray.any (eqU x) = its.any (eqU x) by simp, any_eqU r fs]
    exact q
  · obtain ⟨its, r, pl, hz⟩ := I.tuple hq
    refine SeqAt.notIn_tupleAt (eqU x) pl (fun w hw => mem_eqAt rx fx r fs w (by simpa using hw)) ⟨.bl _, H, I, rfl, ?_⟩
    rw [show its.toArray.any (eqU x) = its.any (eqU x) by simp, any_eqU r fs]
    exact q
theorem op_notIn_str : OpR X (compareOp .NotIn) (fun x y H Q => ∃ i j, x = .str i ∧ y = .str j ∧ Q (.bl (!(!(Builtin.Str.occurrences j i 0 j.length 1).isEmpty))) H) := by
  intro pins s σ H x y v u Q I rx ry h
  obtain ⟨i, j, rfl, rfl, q⟩ := h
  obtain ⟨t, rfl⟩ := rx
  obtain ⟨t', rfl⟩ := ry
  exact notIn_str ⟨.bl _, H, I, rfl, q⟩

/-! ### len, list(x), tuple(x) of any list or tuple that is read -/
theorem call_len_seq : CallR X (.builtin "len") (fun xs H Q => ∃ p ys, xs = [.ref p] ∧ (SqL X.K H p ys ∨ SqT X.K H p ys) ∧ Q (.int ys.length) H) := by
  intro pins s σ H xs us Q I r h
  obtain ⟨p, ys, rfl, hq, q⟩ := h
  obtain ⟨u, rfl, rx⟩ := vals1 r
  cases rx
  have hn := line63
  rcases hq with hq | hq
  · obtain ⟨its, r', pl, hz⟩ := I.list hq
    have hlen := r'.length
    exact Calls.call_len_list pl.isList (by simp only [List.size_toArray] <;> omega) ⟨.int ys.length, H, I.tok _, ⟨s.toks + 1, by rw [List.size_toArray, hlen]⟩, q⟩
  · obtain ⟨its, r', pl, hz⟩ := I.tuple hq
    have hlen := r'.length
    exact len_tuple pl (by simp only [List.size_toArray] <;> omega) ⟨.int ys.length, H, I.tok _, ⟨s.toks + 1, by rw [List.size_toArray, hlen]⟩, q⟩
theorem call_len_str : CallR X (.builtin "len") (fun xs H Q => ∃ z, xs = [.str z] ∧ z.length ≤ sizeLine ∧ Q (.int z.length) H) := by
  intro pins s σ H xs us Q I r h
  obtain ⟨z, rfl, hz, q⟩ := h
  obtain ⟨u, rfl, t, rfl⟩ := vals1 r
  have hn := line63
  exact len_str (by omega) ⟨.int z.length, H, I.tok _, ⟨_, rfl⟩, q⟩
theorem CallR.or {f : Value} {r r' : List V → Hp → VK → Prop} (h : CallR X f r) (h' : CallR X f r') : CallR X f (fun xs H Q => r xs H Q ∨ r' xs H Q) := by
  intro pins s σ H xs us Q I rs q
  rcases q with q | q
  · exact h pins s σ H xs us Q I rs q
  · exact h' pins s σ H xs us Q I rs q
theorem call_list_of : CallR X (.type "list") (fun xs H Q => ∃ p ys, xs = [.ref p] ∧ (SqL X.K H p ys ∨ SqT X.K H p ys) ∧ ∀ l, H l = none → Q (.ref l) (upd H l (.lst ys))) := by
  intro pins s σ H xs us Q I r h
  obtain ⟨p, ys, rfl, hq, q⟩ := h
  obtain ⟨u, rfl, rx⟩ := vals1 r
  cases rx
  have fin : ∀ (its : List Value), Vals ys its → ys.length ≤ sizeLine → ∀ (h' : Heap) (c' : Nat), (∀ b o', s.heap.get? b = some o' → h'.get? b = some o') →
      h'.get? s.heap.objs.size = some { cls := .type "list", dict := none, data := .seq its.toArray c', slots := #[] } → EP X pins σ Q (.ref s.heap.objs.size) { s with heap := h' } := fun its r' hz h' c' kp e =>
    ⟨.ref s.heap.objs.size, _, I.laid (t' := s.toks) kp (Nat.le_refl _) (show ObjOk X.prog X.w _ h' _ (.lst ys) from ⟨hz, its, c', r', e⟩), rfl, q _ (I.hok.fresh (Nat.le_refl _))⟩
  rcases hq with hq | hq
  · obtain ⟨its, r', pl, hz⟩ := I.list hq
    have hlen := r'.length
    obtain ⟨o, ho, hc, n, hd⟩ := pl.isList
    exact call_list_seq p (.inl rfl) ho hc hd (fun h' c' kp e => fin its r' hz h' c' kp e) (by simp only [List.size_toArray] <;> omega)
  · obtain ⟨its, r', pl, hz⟩ := I.tuple hq
    have hlen := r'.length
    obtain ⟨o, ho, hc, n, hd⟩ := pl
    exact call_list_seq p (.inr rfl) ho hc hd (fun h' c' kp e => fin its r' hz h' c' kp e) (by simp only [List.size_toArray] <;> omega)
theorem call_tuple_of : CallR X (.type "tuple") (fun xs H Q => ∃ p ys, xs = [.ref p] ∧ ((SqL X.K H p ys ∧ ∀ l, H l = none → Q (.ref l) (upd H l (.tup ys))) ∨ (SqT X.K H p ys ∧ Q (.ref p) H))) := by
  intro pins s σ H xs us Q I r h
  obtain ⟨p, ys, rfl, h⟩ := h
  obtain ⟨u, rfl, rx⟩ := vals1 r
  cases rx
  rcases h with ⟨hq, q⟩ | ⟨hq, q⟩
  · obtain ⟨its, r', pl, hz⟩ := I.list hq
    have hlen := r'.length
    refine call_tuple_list pl.isList (fun h' kp => ?_) (by simp only [List.size_toArray] <;> omega)
    have I1 : Inv X pins σ H { s with heap := h' } := I.kept (t' := s.toks) kp
    have I2 : Inv X pins σ (upd H h'.objs.size (.tup ys)) { s with heap := h'.push { cls := .type "tuple", data := .seq its.toArray } } :=
      I1.laid (t' := s.toks) (fun b o e => Heap.get?_push_of_some _ e) (Nat.le_refl _) (show ObjOk X.prog X.w _ _ _ (.tup ys) from ⟨hz, its, r', IsTup.new _ _⟩)
    exact ⟨.ref h'.objs.size, _, I2, rfl, q _ (I1.hok.fresh (Nat.le_refl _))⟩
  · obtain ⟨its, r', pl, hz⟩ := I.tuple hq
    exact call_tuple_same pl ⟨.ref p, H, I, rfl, q⟩

/-! ### the call of a builtin's method: o.m(..) -/
/-- the value is of that builtin type -/
def tyV (K : PySem.W.Frag) (T : String) (x : V) (H : Hp) : Prop := match x with
  | .str _ => T = "str"
  | .int _ => T = "int"
  | .ref p => (T = "list" ∧ ∃ xs, SqL K H p xs) ∨ (T = "tuple" ∧ ∃ o, K.lookup p = some o ∧ o.cls = .type "tuple" ∧ o.dict = none) ∨
      (T = "dict" ∧ ((∃ kvs, H p = some (.dK kvs)) ∨ ∃ kvs, H p = some (.dT kvs))) ∨ (T = "set" ∧ ∃ S n, H p = some (.set S n))
  | _ => False
theorem tyV_is {pins : List (Addr × Obj)} {σ : St} {H : Hp} {s : Shared} {T : String} {x : V} {v : Value} (I : Inv X pins σ H s) (r : RelV x v) (ty : tyV X.K T x H) :
    s.TypeIs v T ∧ ∀ a, v = .ref a → ∃ ob, s.heap.get? a = some ob ∧ ob.dict = none := by
  cases x with
  | str z =>
    obtain ⟨t, rfl⟩ := r
    cases (show T = "str" from ty)
    exact ⟨typeIs_str s z t, fun _ e => nomatch e⟩
  | int i =>
    obtain ⟨t, rfl⟩ := r
    cases (show T = "int" from ty)
    exact ⟨typeIs_int s i t, fun _ e => nomatch e⟩
  | ref p =>
    cases r
    rcases ty with ⟨rfl, xs, hq⟩ | ⟨rfl, o, hk, hc, hd⟩ | ⟨rfl, hk⟩ | ⟨rfl, S, n, hk⟩
    · obtain ⟨its, _, pl, _⟩ := I.list hq
      refine ⟨pl.isList.typeIs, fun a e => ?_⟩
      cases e
      obtain ⟨o, n, e, c, hd, _⟩ := pl
      exact ⟨o, e, hd⟩
    · refine ⟨⟨o, I.kIn p o hk, hc⟩, fun a e => ?_⟩
      cases e
      exact ⟨o, I.kIn _ o hk, hd⟩
    · have z : ∃ o, s.heap.get? p = some o ∧ o.ExactDict := by
        rcases hk with ⟨kvs, hk⟩ | ⟨kvs, hk⟩
        · obtain ⟨_, _, _, _, o, _, _, e, ex, _⟩ := I.hok p _ hk
          exact ⟨o, e, ex⟩
        · obtain ⟨_, _, _, _, o, _, _, e, ex, _⟩ := I.hok p _ hk
          exact ⟨o, e, ex⟩
      obtain ⟨o, e, ex⟩ := z
      refine ⟨⟨o, e, ex.1⟩, fun a e2 => ?_⟩
      cases e2
      exact ⟨o, e, ex.2.1⟩
    · obtain ⟨o, _, _, _, e, ex, _⟩ := I.hok p _ hk
      refine ⟨⟨o, e, ex.1⟩, fun a e2 => ?_⟩
      cases e2
      exact ⟨o, e, ex.2.1⟩
  | _ => exact False.elim ty
def tBM0 (K : PySem.W.Frag) (T : String) (r : V → List V → Hp → VK → Prop) (to : TE) : TE := fun σ H Q => to σ H fun x H1 => tyV K T x H1 ∧ r x [] H1 Q
def tBM (K : PySem.W.Frag) (T : String) (r : V → List V → Hp → VK → Prop) (to : TE) (t : TA) : TE := fun σ H Q => to σ H fun x H1 => tyV K T x H1 ∧ t σ H1 fun xs H2 => r x xs H2 Q
variable {o e : Expr} {es : List Expr} {to : TE} {t : TA} {name : Str} {apos cpos : Pos} {T id : String} {r : V → List V → Hp → VK → Prop}
theorem pe_bm0 (pa : PlainAttrs T) (slot : Slot T name id) (hty : typeOf (.builtin id) = pure (.type "method_descriptor")) (hm : MtR X id r) (ho : PE X o to)
    (hbase : attributeBase o name X.env (eval o X.env) = eval o X.env := by rfl) (hline : (apos.endLine == cpos.line) = true := by rfl) : PE X (.Call (.Attribute o name apos) [] [] cpos) (tBM0 X.K T r to) := by
  intro pins s σ H Q I h
  refine wpAny_Call_method0_late hbase hline (thn (ho pins s σ H _ I h) fun v s1 ⟨x, H1, I1, r1, ty, q1⟩ => ?_)
  obtain ⟨h1, h2⟩ := tyV_is I1 r1 ty
  exact ⟨T, id, pa, slot, hty, h1, h2, Calls.callWith_builtin rfl (PySem.evalArgs_none (hm pins s1 σ H1 x [] v [] Q I1 r1 .nil q1))⟩
theorem pe_bm (pa : PlainAttrs T) (slot : Slot T name id) (hty : typeOf (.builtin id) = pure (.type "method_descriptor")) (hm : MtR X id r) (ho : PE X o to) (ha : PA X (e :: es) t)
    (hbase : attributeBase o name X.env (eval o X.env) = eval o X.env := by rfl)
    (hfew : ((backTo cpos (starEach (e :: es) X.env)).all (fun x => !x.1) && (backToKw cpos (keywordEach [] X.env)).all (fun x => x.1.isSome)
      && decide ((e :: es).length + ([] : List Keyword).length + (if ([] : List Keyword).isEmpty then 0 else 1) < 30)) = true := by rfl)
    (hline : (apos.endLine == cpos.line) = true := by rfl) (hs : starEach (e :: es) X.env = (false, eval e X.env) :: starEach es X.env := by rfl) (hplain : (backTo cpos (starEach es X.env)).any (·.1) = false := by rfl) :
    PE X (.Call (.Attribute o name apos) (e :: es) [] cpos) (tBM X.K T r to t) := by
  intro pins s σ H Q I h
  refine wpAny_Call_method_late hbase hfew hline rfl (thn (ho pins s σ H _ I h) fun v s1 ⟨x, H1, I1, r1, ty, q1⟩ => ?_)
  obtain ⟨h1, h2⟩ := tyV_is I1 r1 ty
  refine ⟨T, id, pa, slot, hty, h1, h2, ?_⟩
  have hA := ha cpos pins s1 σ H1 _ I1 q1
  rw [hs] at hA ⊢
  refine Calls.callWith_builtin (by show (false || (backTo cpos (starEach es X.env)).any (·.1)) = false; rw [hplain] <;> rfl) (Calls.evalArgs_plain ?_)
  exact thn hA fun us s2 ⟨vs, H2, I2, r2, q2⟩ => hm pins s2 σ H2 x vs v us Q I2 r1 r2 q2
/- xs.append(e), list.index on a module's tuple .. are MtR facts of 06m -/
end
end L2

namespace L2
open PySem PySem.Spec PyProof.Rows

def MtM (X : Cx) (id : String) (r : V → List V → Hp → VK → Prop) : Prop :=
  ∀ (pins : List (Addr × Obj)) (s : Shared) (σ : St) (H : Hp) (x : V) (xs : List V) (v : Value) (us : List Value) (Q : VK), Inv X pins σ H s → RelV x v → Vals xs us → r x xs H Q →
    wpAny (model X.prog X.w) X.A (call (.builtin id) (v :: us)) (EP X pins σ Q) X.xe s

/-! ### lists of values -/
theorem Vals.one : ∀ {x : V} {us : List Value}, Vals [x] us → ∃ u, us = [u] ∧ RelV x u
  | _, _, .cons r .nil => ⟨_, rfl, r⟩
theorem Vals.two : ∀ {x y : V} {us : List Value}, Vals [x, y] us → ∃ u v, us = [u, v] ∧ RelV x u ∧ RelV y v
  | _, _, _, .cons r (.cons q .nil) => ⟨_, _, rfl, r, q⟩
theorem Vals.zero : ∀ {us : List Value}, Vals [] us → us = []
  | _, .nil => rfl
theorem Vals.dropLast {xs : List V} {us : List Value} (h : Vals xs us) : Vals xs.dropLast us.dropLast := by
  induction h with
  | nil => exact .nil
  | cons r t ih =>
    cases t with
    | nil => exact .nil
    | cons q t' => exact .cons r ih
theorem Vals.eraseIdx : ∀ {xs : List V} {us : List Value} (i : Nat), Vals xs us → Vals (xs.eraseIdx i) (us.eraseIdx i)
  | _, _, _, .nil => .nil
  | _, _, 0, .cons _ t => t
  | _, _, i + 1, .cons r t => .cons r (Vals.eraseIdx i t)
theorem Vals.reverse {xs : List V} {us : List Value} (h : Vals xs us) : Vals xs.reverse us.reverse := by
  induction h with
  | nil => exact .nil
  | cons r t ih => rw [List.reverse_cons, List.reverse_cons]; exact Vals.append ih (.cons r .nil)
theorem Vals.rep {xs : List V} {us : List Value} (h : Vals xs us) : ∀ k : Nat, Vals (List.replicate k xs).flatten (List.replicate k us).flatten
  | 0 => .nil
  | k + 1 => by
    rw [List.replicate_succ, List.replicate_succ, List.flatten_cons, List.flatten_cons]
    exact Vals.append h (Vals.rep h k)
theorem erase_last {α : Type} (l : List α) : l.eraseIdx (l.length - 1) = l.dropLast := by
  induction l with
  | nil => rfl
  | cons a r ih =>
    cases r with
    | nil => rfl
    | cons b r =>
      have e : (a :: b :: r).length - 1 = ((b :: r).length - 1) + 1 := by
        have h1 : (a :: b :: r).length = r.length + 2 := rfl
        have h2 : (b :: r).length = r.length + 1 := rfl
        omega
      rw [e, List.eraseIdx_cons_succ, ih]
      all_goals rfl
theorem len_erase {α : Type} : ∀ (l : List α) (i : Nat), (l.eraseIdx i).length ≤ l.length
  | [], _ => Nat.le_refl _
  | _ :: _, 0 => Nat.le_succ _
  | _ :: r, i + 1 => Nat.succ_le_succ (len_erase r i)
theorem foldl_rep (its : List Value) : ∀ (k : Nat) (acc : List Value),
    List.foldl (fun x1 x2 => x1 ++ x2) acc.toArray (List.replicate k its.toArray) = (acc ++ (List.replicate k its).flatten).toArray
  | 0, acc => by simp
  | k + 1, acc => by
    have e : acc.toArray ++ its.toArray = (acc ++ its).toArray := by simp
    have e2 : (acc ++ its) ++ (List.replicate k its).flatten = acc ++ (List.replicate (k + 1) its).flatten := by
      rw [List.replicate_succ, List.flatten_cons, List.append_assoc]
    rw [← e2, ← foldl_rep its k (acc ++ its), ← e, List.replicate_succ, List.foldl_cons]

section
variable {X : Cx} {pins : List (Addr × Obj)} {σ : St} {H : Hp} {s : Shared} {l b : Addr} {xs ys zs : List V}

/-! ### the two steps: a tracked list is rewritten, a new list is laid -/
theorem Inv.lset {its its' : List Value} {n : Nat} {f : Array Value → Array Value} {t' : Nat} (I : Inv X pins σ H s) (hH : H l = some (.lst xs))
    (e : s.heap.get? l = some { cls := .type "list", data := .seq its.toArray n }) (hf : f its.toArray = its'.toArray) (hv : Vals ys its') (hz : ys.length ≤ sizeLine) :
    Inv X pins σ (upd H l (.lst ys)) { s with heap := s.heap.update l (Obj.mapSeq f), toks := t' } := by
  have q := PySem.IsL.update e f
  rw [hf] at q
  refine I.write (x := l) (e := l) (by rw [hH]; exact trivial) (.inl rfl) (fun b' u hb hu => (Heap.get?_update_other s.heap (Obj.mapSeq f) (Ne.symm hb)).trans hu) ⟨_, q⟩ ?_
  exact ⟨hz, its', _, hv, q⟩
theorem Inv.lnew {its : List Value} {t' : Nat} (I : Inv X pins σ H s) (hv : Vals ys its) (hz : ys.length ≤ sizeLine) :
    Inv X pins σ (upd H s.heap.objs.size (.lst ys)) { s with heap := s.heap.push { cls := .type "list", data := .seq its.toArray }, toks := t' } :=
  I.laid (fun _ _ q => Heap.get?_push_of_some _ q) (Nat.le_refl _) ⟨hz, its, 0, hv, Heap.get?_push_size _ rfl⟩
theorem Inv.fresh (I : Inv X pins σ H s) : H s.heap.objs.size = none := I.hok.fresh (Nat.le_refl _)
theorem Inv.lstM (I : Inv X pins σ H s) (hH : H l = some (.lst xs)) : xs.length ≤ sizeLine ∧ ∃ (its : List Value) (n : Nat), Vals xs its ∧ xs.length = its.length ∧ s.heap.get? l = some { cls := .type "list", data := .seq its.toArray n } := by
  obtain ⟨z, its, n, r, e⟩ := I.hok l _ hH
  exact ⟨z, its, n, r, r.length, e⟩

theorem notLongL {n : Nat} (h : n ≤ sizeLine) : Builtin.List.listTooLong n = false := by
  unfold Builtin.List.listTooLong
  exact decide_eq_false (by omega)
end

section
variable {X : Cx}

/-! ### methods -/
def rAppend : V → List V → Hp → VK → Prop := fun x vs H Q => ∃ l xs y, x = .ref l ∧ vs = [y] ∧ H l = some (.lst xs) ∧ xs.length < sizeLine ∧ Q .non (upd H l (.lst (xs ++ [y])))
theorem mt_append : MtM X "list.append" rAppend := by
  intro pins s σ H x vs v us Q I rx rv h
  obtain ⟨l, xs, y, rfl, rfl, hH, hz, q⟩ := h
  cases rx
  obtain ⟨u, rfl, ru⟩ := rv.one
  obtain ⟨z, its, n, r, hl, e⟩ := I.lstM hH
  refine call_meets F.slot_list_append ⟨_, e, rfl⟩ F.entry_list_append (F.args_list_append_2 _ _) (PySem.list_append l its.toArray n u (by rw [List.size_toArray]; omega)) ⟨e, ?_⟩
  refine ⟨.non, _, I.lset (its' := its ++ [u]) hH e (by simp) (r.append (.cons ru .nil)) ?_, rfl, q⟩
  rw [List.length_append, List.length_singleton]
  omega

def rExtend : V → List V → Hp → VK → Prop := fun x vs H Q => ∃ l b xs zs, x = .ref l ∧ vs = [.ref b] ∧ H l = some (.lst xs) ∧ H b = some (.lst zs) ∧ xs.length + zs.length ≤ sizeLine ∧ Q .non (upd H l (.lst (xs ++ zs)))
theorem mt_extend : MtM X "list.extend" rExtend := by
  intro pins s σ H x vs v us Q I rx rv h
  obtain ⟨l, b, xs, zs, rfl, rfl, hH, hB, hz, q⟩ := h
  cases rx
  obtain ⟨u, rfl, ru⟩ := rv.one
  cases ru
  obtain ⟨z, its, n, r, hl, e⟩ := I.lstM hH
  obtain ⟨z2, its2, n2, r2, hl2, e2⟩ := I.lstM hB
  have hsz : its.toArray.size + its2.toArray.size ≤ sizeLine := by rw [List.size_toArray, List.size_toArray]; omega
  have hlong : ¬ (!its.toArray.isEmpty && Builtin.List.listTooLong (its.toArray.size + its2.toArray.size)) = true := by
    rw [notLongL hsz, Bool.and_false]
    exact Bool.false_ne_true
  refine call_meets F.slot_list_extend ⟨_, e, rfl⟩ F.entry_list_extend (F.args_list_extend_2 _ _)
    (AutoSeq1.list_extend_list_list_0 l its.toArray n b its2.toArray n2 hlong (by rw [List.size_toArray]; omega) (by omega)) ⟨e, e2, ?_⟩
  refine ⟨.non, _, I.lset (its' := its ++ its2) hH e (by simp) (r.append r2) ?_, rfl, q⟩
  rw [List.length_append]
  omega

def rPop : V → List V → Hp → VK → Prop := fun x vs H Q => ∃ l xs y, x = .ref l ∧ vs = [] ∧ H l = some (.lst xs) ∧ xs[xs.length - 1]? = some y ∧ Q y (upd H l (.lst xs.dropLast))
theorem mt_pop : MtM X "list.pop" rPop := by
  intro pins s σ H x vs v us Q I rx rv h
  obtain ⟨l, xs, y, rfl, rfl, hH, hy, q⟩ := h
  cases rx
  have hus := rv.zero
  subst hus
  obtain ⟨z, its, n, r, hl, e⟩ := I.lstM hH
  obtain ⟨u, hu, ru⟩ := r.get hy
  have hy' : its.toArray[its.toArray.size - 1]? = some u := by
    show its.toArray[its.length - 1]? = some u
    rw [← Array.getElem?_toList, ← hl]
    exact hu
  refine call_meets F.slot_list_pop ⟨_, e, rfl⟩ F.entry_list_pop (F.args_list_pop_1 _) (MeetsSeq.list_pop_last l its.toArray n u hy' (by rw [List.size_toArray]; omega)) ⟨e, ?_⟩
  refine ⟨y, _, I.lset (its' := its.dropLast) hH e ?_ r.dropLast ?_, ru, q⟩
  · show its.toArray.eraseIdxIfInBounds (its.toArray.size - 1) = its.dropLast.toArray
    rw [List.size_toArray, List.eraseIdxIfInBounds_toArray, erase_last]
  · rw [List.length_dropLast]
    omega

def rPopAt : V → List V → Hp → VK → Prop := fun x vs H Q => ∃ l xs i k y, x = .ref l ∧ vs = [.int i] ∧ H l = some (.lst xs) ∧ -(2 ^ 63) ≤ i ∧ i < 2 ^ 63 ∧ seqIndex? i xs.length = some k ∧ xs[k]? = some y ∧ Q y (upd H l (.lst (xs.eraseIdx k)))
theorem mt_popAt : MtM X "list.pop" rPopAt := by
  intro pins s σ H x vs v us Q I rx rv h
  obtain ⟨l, xs, i, k, y, rfl, rfl, hH, h1, h2, hk, hy, q⟩ := h
  cases rx
  obtain ⟨u, rfl, ru⟩ := rv.one
  obtain ⟨t, rfl⟩ := ru
  obtain ⟨z, its, n, r, hl, e⟩ := I.lstM hH
  obtain ⟨w, hw, rw'⟩ := r.get hy
  refine call_meets F.slot_list_pop ⟨_, e, rfl⟩ F.entry_list_pop (F.args_list_pop_2 _ _)
    (MeetsSeq.list_pop_at l its.toArray n i t k w (fitsIndex_both h1 h2) (by rw [List.size_toArray, ← hl]; exact hk) (by rw [← Array.getElem?_toList]; exact hw) (by rw [List.size_toArray]; omega)) ⟨e, ?_⟩
  refine ⟨y, _, I.lset (its' := its.eraseIdx k) hH e ?_ (r.eraseIdx k) ?_, rw', q⟩
  · show its.toArray.eraseIdxIfInBounds k = (its.eraseIdx k).toArray
    rw [List.eraseIdxIfInBounds_toArray]
  · have := len_erase xs k
    omega

def rReverse : V → List V → Hp → VK → Prop := fun x vs H Q => ∃ l xs, x = .ref l ∧ vs = [] ∧ H l = some (.lst xs) ∧ Q .non (upd H l (.lst xs.reverse))
theorem mt_reverse : MtM X "list.reverse" rReverse := by
  intro pins s σ H x vs v us Q I rx rv h
  obtain ⟨l, xs, rfl, rfl, hH, q⟩ := h
  cases rx
  have hus := rv.zero
  subst hus
  obtain ⟨z, its, n, r, hl, e⟩ := I.lstM hH
  refine call_meets F.slot_list_reverse ⟨_, e, rfl⟩ F.entry_list_reverse (F.args_list_reverse_1 _) (AutoSeq1.list_reverse_list_0 l its.toArray n (by rw [List.size_toArray]; omega)) ⟨e, ?_⟩
  refine ⟨.non, _, I.lset (its' := its.reverse) hH e (by simp) r.reverse ?_, rfl, q⟩
  rw [List.length_reverse]
  omega

def rClear : V → List V → Hp → VK → Prop := fun x vs H Q => ∃ l xs, x = .ref l ∧ vs = [] ∧ H l = some (.lst xs) ∧ Q .non (upd H l (.lst []))
theorem mt_clear : MtM X "list.clear" rClear := by
  intro pins s σ H x vs v us Q I rx rv h
  obtain ⟨l, xs, rfl, rfl, hH, q⟩ := h
  cases rx
  have hus := rv.zero
  subst hus
  obtain ⟨z, its, n, r, hl, e⟩ := I.lstM hH
  refine call_meets F.slot_list_clear ⟨_, e, rfl⟩ F.entry_list_clear (F.args_list_clear_1 _) (AutoSeq1.list_clear_list_0 l its.toArray n (by rw [List.size_toArray]; omega)) ⟨e, ?_⟩
  exact ⟨.non, _, I.lset (its' := []) (ys := []) hH e rfl .nil (Nat.zero_le _), rfl, q⟩

/-! ### list + list, list += list, list * int -/
def rCat : R2 := fun x y H Q => ∃ l b xs zs, x = .ref l ∧ y = .ref b ∧ H l = some (.lst xs) ∧ H b = some (.lst zs) ∧ xs.length + zs.length ≤ sizeLine ∧ ∀ p, H p = none → Q (.ref p) (upd H p (.lst (xs ++ zs)))
theorem op_cat : OpR X (binaryOp .Add) rCat := by
  intro pins s σ H x y v u Q I rx ry h
  obtain ⟨l, b, xs, zs, rfl, rfl, hH, hB, hz, q⟩ := h
  cases rx
  cases ry
  obtain ⟨z, its, n, r, hl, e⟩ := I.lstM hH
  obtain ⟨z2, its2, n2, r2, hl2, e2⟩ := I.lstM hB
  refine PySem.P.add_list e e2 ?_ (by rw [List.size_toArray, List.size_toArray]; omega)
  have ea : its.toArray ++ its2.toArray = (its ++ its2).toArray := by simp
  rw [ea]
  exact ⟨.ref _, _, I.lnew (t' := s.toks) (r.append r2) (by rw [List.length_append]; omega), rfl, q _ I.fresh⟩
/-- a list times an int (a negative one is nothing) -/
def rRep : R2 := fun x y H Q => ∃ l k xs, x = .ref l ∧ y = .int k ∧ H l = some (.lst xs) ∧ -(2 ^ 63) ≤ k ∧ k < 2 ^ 63 ∧ xs.length * k.toNat ≤ sizeLine ∧
  ∀ p, H p = none → Q (.ref p) (upd H p (.lst (List.replicate k.toNat xs).flatten))
theorem len_rep {α : Type} (xs : List α) (k : Nat) : (List.replicate k xs).flatten.length = k * xs.length := by
  induction k with
  | zero => simp
  | succ k ih => rw [List.replicate_succ, List.flatten_cons, List.length_append, ih, Nat.succ_mul, Nat.add_comm]
theorem op_rep : OpR X (binaryOp .Mult) rRep := by
  intro pins s σ H x y v u Q I rx ry h
  obtain ⟨l, k, xs, rfl, rfl, hH, h1, h2, hz, q⟩ := h
  cases rx
  obtain ⟨t, rfl⟩ := ry
  obtain ⟨z, its, n, r, hl, e⟩ := I.lstM hH
  have hlen : its.toArray.size * k.toNat ≤ sizeLine := by rw [List.size_toArray, ← hl]; exact hz
  have hcap : ¬ its.toArray.size * k.toNat > (2 ^ 63 - 1) / 8 := by
    have : (sizeLine : Nat) ≤ (2 ^ 63 - 1) / 8 := by decide
    omega
  have hfit : ¬ (!Builtin.List.listFitsIndex k) = true := by
    rw [fitsIndex_both h1 h2]
    exact Bool.false_ne_true
  have hlong : ¬ Builtin.List.listTooLong (its.toArray.size * k.toNat) = true := by
    rw [notLongL hlen]
    exact Bool.false_ne_true
  have hnew : List.foldl (fun x1 x2 => x1 ++ x2) #[] (List.replicate (if its.toArray.isEmpty = true then 0 else k.toNat) its.toArray) = (List.replicate k.toNat its).flatten.toArray := by
    have f0 : ∀ m : Nat, List.foldl (fun x1 x2 => x1 ++ x2) #[] (List.replicate m its.toArray) = (List.replicate m its).flatten.toArray := fun m => by
      have := foldl_rep its m []
      rw [List.nil_append] at this
      exact this
    rw [f0]
    cases its with
    | nil => simp
    | cons a r' => rw [if_neg (by simp)]
  refine wpAny_binaryOp_repeat_ref (T := "list") (U := "int") (by decide) ⟨_, e, rfl⟩ (fun s' => typeIs_int s' k t) noFill_list_mul F.fills_int_mul F.slot_int_rmul repeat_list F.slot_int_index.lookup
    (call_meets F.slot_int_rmul (typeIs_int s k t) F.entry_int_rmul (F.args_int_rmul_2 _ _) (int___rmul___int_list k t l its.toArray n)
      ⟨e, rfl, ⟨_, e, rfl⟩, call_meets F.slot_list_mul ⟨_, e, rfl⟩ F.entry_list_mul (F.args_list_mul_2 _ _) (AutoListH.list___mul___list_int_3 l its.toArray n k t hfit hcap hlong) ⟨e, ?_⟩⟩)
  rw [hnew]
  exact ⟨.ref _, _, I.lnew (t' := s.toks) (r.rep k.toNat) (by rw [len_rep, Nat.mul_comm]; exact hz), rfl, q _ I.fresh⟩

/-! ### del xs[i] -/
theorem del_list {pins : List (Addr × Obj)} {s : Shared} {σ : St} {H : Hp} {l : Addr} {xs : List V} {i : Int} {t : Tok} {k : Nat} {Q : Unit → Shared → Prop} (I : Inv X pins σ H s) (hH : H l = some (.lst xs))
    (h1 : -(2 ^ 63) ≤ i) (h2 : i < 2 ^ 63) (hk : seqIndex? i xs.length = some k) (h : ∀ s', Inv X pins σ (upd H l (.lst (xs.eraseIdx k))) s' → Q () s') :
    wpAny (model X.prog X.w) X.A (delItem (.ref l) (.int i t)) Q X.xe s := by
  obtain ⟨z, its, n, r, hl, e⟩ := I.lstM hH
  refine PySem.P.delItem_list (k := k) e (fitsIndex_both h1 h2) (by rw [List.size_toArray, ← hl]; exact hk) (h _ ?_) (by rw [List.size_toArray]; omega)
  refine I.lset (its' := its.eraseIdx k) (t' := s.toks) hH e ?_ (r.eraseIdx k) ?_
  · show its.toArray.eraseIdxIfInBounds k = (its.eraseIdx k).toArray
    rw [List.eraseIdxIfInBounds_toArray]
  · have := len_erase xs k
    omega
end

/-! ### xs[a:b] = ys -/
section
variable {prog : Program} {w : World} {A : Around} {E : Value → Shared → Prop} {s : Shared}
theorem splice_eq (its its2 : List Value) (a c : Nat) : its.toArray.extract 0 a ++ its2.toArray ++ its.toArray.extract c its.toArray.size = (its.take a ++ its2 ++ its.drop c).toArray := by
  apply Array.toList_inj.mp
  first
    | (simp
       exact List.take_of_length_le (by simp))
    | simp [List.take_of_length_le]
    | simp
theorem bounds_run {a c n : Nat} (hac : a ≤ c) (hc : c ≤ n) : sliceBounds (some (a : Int)) (some (c : Int)) none n = ((a : Int), (c : Int), 1) := by
  simp only [sliceBounds, Option.getD_none]
  have h1 : ¬ ((a : Int) < 0) := by omega
  have h2 : ¬ ((c : Int) < 0) := by omega
  simp only [h1, h2, if_false, show (1 : Int) > 0 by decide, if_true]
  congr 1
  · omega
  · congr 1; omega
set_option maxRecDepth 100000 in
/-- list.__setitem__ with a slice of step one and another list -/
theorem setItem_slice {l b sl : Addr} {items new : Array Value} {n n2 : Nat} {vl vu : Value} {a c : Nat} {Q : Unit → Shared → Prop}
    (e : s.heap.get? l = some { cls := .type "list", data := .seq items n }) (e2 : s.heap.get? b = some { cls := .type "list", data := .seq new n2 }) (hne : l ≠ b)
    (hs : s.heap.IsSliceOf sl vl vu .none) (pl : IsPart vl (some (a : Int))) (pu : IsPart vu (some (c : Int))) (hac : a ≤ c) (hc : c ≤ items.size)
    (hsz : items.size + new.size ≤ sizeLine) (h : Q () { s with heap := s.heap.update l (Obj.mapSeq fun xs => xs.extract 0 a ++ new ++ xs.extract c xs.size) }) :
    wpAny (model prog w) A (setItem (.ref l) (.ref sl) (.ref b)) Q E s := by
  have hl : s.heap.IsList l items := PySem.IsL.isList e
  have hb : s.heap.IsList b new := PySem.IsL.isList e2
  obtain ⟨os, hos, hcs, hds⟩ := id hs
  have hTs : s.TypeIs (.ref sl) "slice" := ⟨os, hos, hcs⟩
  have hstep : ¬ ((rawPart none == rawInt 0) = true) := Bool.false_ne_true
  have hsame : Builtin.List.listSameRef (.ref l) (.ref b) = false := by
    unfold Builtin.List.listSameRef
    exact beq_eq_false_iff_ne.mpr hne
  have hmax : (max (a : Int) (c : Int)).toNat = c := by omega
  have hz' : ((fun xs : Array Value => xs.extract 0 a ++ new ++ xs.extract c xs.size) items).size ≤ sizeLine + 1 := by
    simp only [Array.size_append, Array.size_extract]
    omega
  unfold setItem
  try with_reducible refine wpAny_holding ?_
  first | refine wpAny_bind (wpAny_pure ?_) | skip
  refine wpAny_bind (wpAny_sequenceKey hl.typeIs (by decide) ?_)
  refine wpAny_bind (wpAny_callSpecial?_slot (name := Str.ofString "__setitem__") hl.typeIs slot_list_setitem
    (wpAny_call_entry slot_list_setitem hl.typeIs entry_list_setitem ?_ (args_list_setitem _ _ _)))
  show wpAny _ _ (Builtin.List.listSubscript? (.ref sl) >>= _) _ _ s
  refine wpAny_bind ?_
  unfold Builtin.List.listSubscript?
  refine wpAny_bind (wpAny_specialOf hTs slice_no_index ?_)
  simp only [Option.isNone_none, if_true]
  refine wpAny_pure ?_
  show wpAny _ _ (typeOf (.ref sl) >>= _) _ _ s
  refine wpAny_bind (wpAny_typeOf hTs ?_)
  first
    | rw [if_neg (by decide)]
    | refine PySem.W.KFB.if_not (by decide) ?_
  rw [listSliceParts_eq]
  refine wpAny_bind (wpAny_bind (wpAny_field hos hds (x := .none) rfl (wpAny_bind (wpAny_listPart .none ?_))))
  rw [if_neg hstep]
  refine wpAny_bind (wpAny_field hos hds (x := vl) rfl (wpAny_bind (wpAny_listPart pl ?_)))
  refine wpAny_bind (wpAny_field hos hds (x := vu) rfl (wpAny_bind (wpAny_listPart pu (wpAny_pure ?_))))
  first
    | simp only [hsame, Bool.false_eq_true, if_false]
    | refine PySem.W.KFB.if_not hsame ?_
    | (dsimp only
       rw [if_neg (by rw [hsame]; exact Bool.false_ne_true)])
  refine wpAny_bind (m := Builtin.List.listAllItems (.ref b) "must assign iterable to extended slice") ?_
  unfold Builtin.List.listAllItems
  refine wpAny_bind (wpAny_typeOf hb.typeIs ?_)
  first
    | refine PySem.W.KFB.if_so (by decide) ?_
    | rw [if_pos (by decide)]
    | simp only [beq_self_eq_true, Bool.true_or, if_true]
  unfold Builtin.List.listItems
  refine wpAny_bind (wpAny_seqItems e2 rfl (wpAny_pure ?_))
  refine wpAny_bind (wpAny_bind (wpAny_seqItems e rfl (wpAny_pure ?_)))
  refine wpAny_bind (wpAny_of_eq ((sliceIndices_raw (some (a : Int)) (some (c : Int)) none items.size (by simp)).trans (congrArg (pure : Int × Int × Int → Sem (Int × Int × Int)) (bounds_run hac hc))) ?_)
  show wpAny _ _ (if ((1 : Int) == 1) = true then _ else _) _ _ s
  rw [if_pos (by decide)]
  refine wpAny_bind (wpAny_rule ?_)
  first
    | simp only [notLongL hsz, Bool.false_eq_true, if_false]
    | refine PySem.W.KFB.if_not (notLongL hsz) ?_
  first | refine wpAny_bind (wpAny_pure ?_) | skip
  show wpAny _ _ (updateSeq l (fun xs => xs.extract 0 ((a : Int)).toNat ++ new ++ xs.extract (max (a : Int) (c : Int)).toNat xs.size) >>= _) _ _ s
  rw [hmax, Int.toNat_natCast]
  refine wpAny_bind (wpAny_updateSeq (hz := Nat.le_trans (Nat.le_add_right _ _) hsz) (_hz' := hz') e rfl ?_)
  refine wpAny_bind (wpAny_letGo ?_)
  first
    | exact wpAny_bind (wpAny_pure (wpAny_pure ⟨.none, rfl, wpAny_pure h⟩))
    | exact wpAny_pure ⟨.none, rfl, wpAny_pure h⟩
end

section
variable {X : Cx}
/-- xs[a:c] = ys of another list, at the value level: sl is the slice object that was just made -/
theorem set_slice {pins : List (Addr × Obj)} {s : Shared} {σ : St} {H : Hp} {l b sl : Addr} {xs ys : List V} {a c : Int} {vl vu : Value} {Q : Unit → Shared → Prop} (I : Inv X pins σ H s)
    (hH : H l = some (.lst xs)) (hB : H b = some (.lst ys)) (hne : l ≠ b) (hs : s.heap.IsSliceOf sl vl vu .none) (ra : RelV (.int a) vl) (rc : RelV (.int c) vu) (h0 : 0 ≤ a) (hac : a ≤ c) (hc : c ≤ xs.length)
    (hz : xs.length + ys.length ≤ sizeLine) (h : ∀ s', Inv X pins σ (upd H l (.lst (xs.take a.toNat ++ ys ++ xs.drop c.toNat))) s' → Q () s') :
    wpAny (model X.prog X.w) X.A (setItem (.ref l) (.ref sl) (.ref b)) Q X.xe s := by
  obtain ⟨ta, rfl⟩ := ra
  obtain ⟨tc, rfl⟩ := rc
  obtain ⟨z, its, n, r, hl, e⟩ := I.lstM hH
  obtain ⟨z2, its2, n2, r2, hl2, e2⟩ := I.lstM hB
  obtain ⟨a', rfl⟩ := Int.eq_ofNat_of_zero_le h0
  obtain ⟨c', rfl⟩ := Int.eq_ofNat_of_zero_le (Int.le_trans h0 hac)
  simp only [Int.toNat_natCast] at h
  refine setItem_slice (a := a') (c := c') e e2 hne hs (.int _ _) (.int _ _) (by omega) (by rw [List.size_toArray]; omega) (by rw [List.size_toArray, List.size_toArray]; omega) (h _ ?_)
  refine I.lset (its' := its.take a' ++ its2 ++ its.drop c') (t' := s.toks) hH e ?_ (Vals.append (Vals.append (r.take _) r2) (r.drop _)) ?_
  · exact splice_eq its its2 a' c'
  · rw [List.length_append, List.length_append, List.length_take, List.length_drop]
    omega
end
end L2

namespace Att
open PySem PySem.W PySem.Calls PyProof.Rows

/-! ### the script -/
theorem ints_of_wellAll {P : Params} {h : Heap} : ∀ (ns : List Int) (vs : List Value), WellAll P h vs (ns.map WData.int) → IntsAre vs ns := by
  intro ns
  induction ns with
  | nil =>
    intro vs w
    rw [List.map_nil] at w
    cases w
    exact .nil
  | cons n ns ih =>
    intro vs w
    rw [List.map_cons] at w
    cases w with
    | cons a b =>
      cases a
      exact .cons _ _ (ih _ b)

theorem script_of {l : OpenLaw} {n : Nat} (hn : l.most = some n) {P : Params} {h : Heap} {args : List WData} {vals : List Value}
    (hpre : l.row.toRowW.claim.pre args = true) (hwl : WellAll P h vals args) :
    ∃ a vs ns, vals = [Value.ref a] ∧ args = [WData.list (ns.map WData.int)] ∧ h.get? a = some { cls := .type "list", data := .seq vs.toArray } ∧ IntsAre vs ns ∧ ns.length ≤ n := by
  have hsh : WShape.hasAll [] args [.list .int] = true := (pre_splitW hpre).1
  have hc : l.pre.holds [] { args := args } = true := (pre_splitW hpre).2
  obtain ⟨d, r, rfl, h1, h2⟩ := hasAllW_cons hsh
  obtain rfl := hasAllW_nil h2
  obtain ⟨xs, rfl, h3⟩ := hasW_list h1
  obtain ⟨ns, rfl⟩ := items_int h3
  have hlen : ns.length ≤ n := by
    unfold OpenLaw.pre at hc
    have h4 : (WTm.not (.lt (.lit (.int (n : Int))) (.len (.arg 0)))).holds [] { args := [.list (ns.map .int)] } = true := by
      have h4 := (holds_andW hc).1
      rw [hn] at h4
      exact h4
    have h5 := condW_of h4 (w_not (w_lt w_lit (w_len_list (w_arg rfl))))
    rw [List.length_map] at h5
    refine Nat.le_of_not_lt fun q => ?_
    have q' : (n : Int) < ((ns.length : Nat) : Int) := by omega
    first
      | (rw [decide_eq_true q'] at h5; exact absurd h5 (by decide))
      | (simp at h5; omega)
  cases hwl with
  | cons w1 w2 =>
    cases w2
    cases w1 with
    | list ho hall => exact ⟨_, _, ns, rfl, rfl, ho, ints_of_wellAll ns _ hall, hlen⟩

theorem post_true (l : OpenLaw) (args : List WData) : l.row.toRowW.claim.post args (.bool true) args = true :=
  postW_of (r := l.row.toRowW) (X := (true == true))
    (show WShape.has [] (.bool true) .bool = true by first | rfl | decide | simp [WShape.has, WShape.arms, WShape.armsAll])
    (show (WTm.eq .res (.lit (.bool true))).value [] { args := args, res := some (.bool true), after := args } = some (.bool (true == true)) from w_eq_bool (w_res rfl) w_lit) rfl

/-! ### the attachment: holds_open's last premise (the goal 'hc' behind k_head) from a wpAny of the law's body -/
theorem attach {l : OpenLaw} {n : Nat} {q : Program} {loose : List Str} {XP : (Str → Option Value) → Heap → Prop} {YP : World → Heap → Prop} {d : DefRec} {x : Str}
    (hn : l.most = some n) (hdf : d.params.defaults = [])
    (hbind : ∀ pm cd doc v : Value, bindArgs (docDef d.name d.params d.body d.scope pm cd doc) ⟨[v], []⟩ = pure [(x, v)])
    (hx : d.scope.names.lookup x = some .local ∨ d.scope.names.lookup x = some .cell)
    (hk : d.scope.kind = .function) (hco : d.scope.isCoroutine = false) (hgen : d.scope.isGenerator = false)
    (body : ∀ (w : World) (s₀ s₁ s : Shared) (mg mb : Str → Option Value) (fa : Addr) (o : Obj) (pm cd doc : Value) (a : Addr) (vs : List Value) (ns : List Int),
      Ground q loose [] XP w s₀ mg mb s₁.heap → YP w s₁.heap →
      s₁.heap.get? fa = some o → o.data = .func (docDef d.name d.params d.body d.scope pm cd doc) → s₁.heap.CodeRec cd d.name → mg d.name = some (.ref fa) →
      s₁.heap.get? a = some { cls := .type "list", data := .seq vs.toArray } → IntsAre vs ns → ns.length ≤ n →
      s.gens = #[] → s.os = s₁.os →
      Fr s₁.heap s₁.heap.objs.size s.heap (bindL (envOfC d.name d.scope s₁.heap.objs.size fa cd).kindOf [(x, .ref a)] fun _ => none) →
      Cl s₁.heap.objs.size (cellsFrom (s₁.heap.objs.size + 1) d.scope.names []) s.heap (bindC (envOfC d.name d.scope s₁.heap.objs.size fa cd).kindOf [(x, .ref a)] fun _ => none) →
      wpAny (model l.prog w) (callerA.deeper (envOfC d.name d.scope s₁.heap.objs.size fa cd)) (execs d.body (envOfC d.name d.scope s₁.heap.objs.size fa cd))
        (fun f s' => f = .ret (.bool true) ∧ OldK s₁.heap s'.heap ∧ s'.os = s₁.os ∧ AllBare s'.gens) (fun _ _ => False) s) :
    WalkO q loose XP YP l.row.toRowW d [] (fun f vs => PySem.call f vs) := by
  intro w s₀ s₁ mg mb G Y fa o pm cd doc dV kV ho hd hcd hD hmg hg args vals as hpre hlay hrd hwl hlo
  obtain rfl : dV = .none := Dflts.none hD hdf
  obtain rfl : kV = .none := Dflts.noKw hD
  obtain ⟨a, vs, ns, rfl, rfl, hobj, hints, hlen⟩ := script_of hn hpre hwl
  refine enter_call ?_
  refine call_cells_ret (o := o) (by rw [depth_caller]; decide) ho (fd_plain hd) G.T.nolimit hcd (hbind pm cd doc (.ref a)) (fun y hy => ?_) (fun h₁ tk F X => ?_) hco hgen hk
  · obtain rfl : y = (x, Value.ref a) := List.mem_singleton.mp hy
    rcases hx with e | e
    · exact .inl e
    · exact .inr ⟨e, cellsFrom_some _ _ _ (.inl e)⟩
  · refine wpAny_mono (body w s₀ s₁ { s₁ with heap := h₁, toks := tk } mg mb fa o pm cd doc a vs ns G Y ho (fd_plain hd) hcd hmg hobj hints hlen hg rfl F X) (fun f s' hq => ?_) (fun _ _ hq => hq)
    obtain ⟨rfl, h2, h3, h4⟩ := hq
    exact ⟨.inl ⟨.bool true, .bool true, [], rfl, fun _ => rfl, .bool true, post_true l _, fun _ => ⟨List.Pairwise.nil, fun _ hm => (nomatch hm)⟩⟩, h2, h3, h4⟩

/-- the same from a codeAny of the CALL (for a layer whose function contracts speak of calls) -/
theorem attach_call {l : OpenLaw} {n : Nat} {q : Program} {loose : List Str} {XP : (Str → Option Value) → Heap → Prop} {YP : World → Heap → Prop} {d : DefRec}
    (hn : l.most = some n) (hdf : d.params.defaults = [])
    (call : ∀ (w : World) (s₀ s₁ : Shared) (mg mb : Str → Option Value) (fa : Addr) (o : Obj) (pm cd doc : Value) (a : Addr) (vs : List Value) (ns : List Int),
      Ground q loose [] XP w s₀ mg mb s₁.heap → YP w s₁.heap →
      s₁.heap.get? fa = some o → o.data = .func (docDef d.name d.params d.body d.scope pm cd doc) → s₁.heap.CodeRec cd d.name → mg d.name = some (.ref fa) →
      s₁.heap.get? a = some { cls := .type "list", data := .seq vs.toArray } → IntsAre vs ns → ns.length ≤ n → s₁.gens = #[] →
      codeAny (model l.prog w) callerA (.call (.ref fa) ⟨[.ref a], []⟩) (fun r s' => r = .ok (.ret (.bool true)) ∧ OldK s₁.heap s'.heap ∧ s'.os = s₁.os ∧ AllBare s'.gens) s₁) :
    WalkO q loose XP YP l.row.toRowW d [] (fun f vs => PySem.call f vs) := by
  intro w s₀ s₁ mg mb G Y fa o pm cd doc dV kV ho hd hcd hD hmg hg args vals as hpre hlay hrd hwl hlo
  obtain rfl : dV = .none := Dflts.none hD hdf
  obtain rfl : kV = .none := Dflts.noKw hD
  obtain ⟨a, vs, ns, rfl, rfl, hobj, hints, hlen⟩ := script_of hn hpre hwl
  refine enter_call (codeAny_mono (call w s₀ s₁ mg mb fa o pm cd doc a vs ns G Y ho (fd_plain hd) hcd hmg hobj hints hlen hg) fun r s' hq => ?_)
  obtain ⟨rfl, h2, h3, h4⟩ := hq
  exact ⟨.inl ⟨.bool true, .bool true, [], rfl, fun _ => rfl, .bool true, post_true l _, fun _ => ⟨List.Pairwise.nil, fun _ hm => (nomatch hm)⟩⟩, h2, h3, h4⟩

/-- the same where the top left finished generators (o_head chose holds_openN): nothing may have changed at all and no generator may be left -/
theorem attachN {l : OpenLaw} {n : Nat} {q : Program} {loose : List Str} {XP : (Str → Option Value) → Heap → Prop} {YP : World → Heap → Prop} {d : DefRec} {x : Str}
    (hn : l.most = some n) (hdf : d.params.defaults = [])
    (hbind : ∀ pm cd doc v : Value, bindArgs (docDef d.name d.params d.body d.scope pm cd doc) ⟨[v], []⟩ = pure [(x, v)])
    (hx : d.scope.names.lookup x = some .local ∨ d.scope.names.lookup x = some .cell)
    (hk : d.scope.kind = .function) (hco : d.scope.isCoroutine = false) (hgen : d.scope.isGenerator = false)
    (body : ∀ (w : World) (s₀ s₁ s : Shared) (mg mb : Str → Option Value) (fa : Addr) (o : Obj) (pm cd doc : Value) (a : Addr) (vs : List Value) (ns : List Int),
      Ground q loose [] XP w s₀ mg mb s₁.heap → YP w s₁.heap →
      s₁.heap.get? fa = some o → o.data = .func (docDef d.name d.params d.body d.scope pm cd doc) → s₁.heap.CodeRec cd d.name → mg d.name = some (.ref fa) →
      s₁.heap.get? a = some { cls := .type "list", data := .seq vs.toArray } → IntsAre vs ns → ns.length ≤ n →
      s.gens = #[] → s.os = s₁.os →
      Fr s₁.heap s₁.heap.objs.size s.heap (bindL (envOfC d.name d.scope s₁.heap.objs.size fa cd).kindOf [(x, .ref a)] fun _ => none) →
      Cl s₁.heap.objs.size (cellsFrom (s₁.heap.objs.size + 1) d.scope.names []) s.heap (bindC (envOfC d.name d.scope s₁.heap.objs.size fa cd).kindOf [(x, .ref a)] fun _ => none) →
      wpAny (model l.prog w) (callerA.deeper (envOfC d.name d.scope s₁.heap.objs.size fa cd)) (execs d.body (envOfC d.name d.scope s₁.heap.objs.size fa cd))
        (fun f s' => f = .ret (.bool true) ∧ (∀ b o, s₁.heap.get? b = some o → s'.heap.get? b = some o) ∧ s'.os = s₁.os ∧ s'.gens = #[]) (fun _ _ => False) s) :
    WalkN q loose XP YP l.row.toRowW d [] (fun f vs => PySem.call f vs) := by
  intro w s₀ s₁ mg mb G Y fa o pm cd doc dV kV ho hd hcd hD hmg hg args vals as hpre hlay hrd hwl hlo
  obtain rfl : dV = .none := Dflts.none hD hdf
  obtain rfl : kV = .none := Dflts.noKw hD
  obtain ⟨a, vs, ns, rfl, rfl, hobj, hints, hlen⟩ := script_of hn hpre hwl
  refine enter_callW ?_
  refine call_cells_ret (o := o) (by rw [depth_caller]; decide) ho (fd_plain hd) G.T.nolimit hcd (hbind pm cd doc (.ref a)) (fun y hy => ?_) (fun h₁ tk F X => ?_) hco hgen hk
  · obtain rfl : y = (x, Value.ref a) := List.mem_singleton.mp hy
    rcases hx with e | e
    · exact .inl e
    · exact .inr ⟨e, cellsFrom_some _ _ _ (.inl e)⟩
  · refine wpAny_mono (body w s₀ s₁ { s₁ with heap := h₁, toks := tk } mg mb fa o pm cd doc a vs ns G Y ho (fd_plain hd) hcd hmg hobj hints hlen hg rfl F X) (fun f s' hq => ?_) (fun _ _ hq => hq)
    obtain ⟨rfl, h2, h3, h4⟩ := hq
    exact ⟨.inl ⟨.bool true, .bool true, [], rfl, fun _ => rfl, .bool true, post_true l _, fun _ => ⟨List.Pairwise.nil, fun _ hm => (nomatch hm)⟩⟩, h2, h3, h4⟩

/-! ### rules over ANY heap (no ledger) from facts about the written part K: the library's own take a ledger (News) for what they write -/
section
variable {prog : Program} {w : World} {A : Around} {E : Value → Shared → Prop} {s : Shared} {K : Frag}

/-- a def of the module, or a method (qual 'C.m'), entered: the frame is the next address; cells behind it -/
theorem call_fn {R : Result → Shared → Prop} {name qual : Str} {params : Arguments} {body : List Stmt} {scope : Scope} {dV kV doc pm cdv ct oc : Value} {an od : Option Addr} {osl : Array (Option Value)} {f : Addr} {args : Args} {binds : List (Str × Value)}
    (X : K.In s.heap) (hlim : s.heap.NoLimit) (ho : K.lookup f = some ⟨oc, od, .func (fnOf name qual params body scope dV kV doc pm an cdv ct), osl⟩) (hcd : codeIn K cdv qual = true) (hroom : A.depth < recursionLimit)
    (hbind : BindsTo s (fnOf name qual params body scope dV kV doc pm an cdv ct) args binds)
    (hkind : (binds.all fun y => scope.names.lookup y.1 == some .local || scope.names.lookup y.1 == some .cell) = true)
    (h : ∀ s₁, InCallC s s.heap.objs.size (bindL (envOfC qual scope s.heap.objs.size f cdv).kindOf binds fun _ => none) (cellsFrom (s.heap.objs.size + 1) scope.names [])
        (bindC (envOfC qual scope s.heap.objs.size f cdv).kindOf binds fun _ => none) s₁ →
      wpAny (model prog w) (A.deeper (envOfC qual scope s.heap.objs.size f cdv)) (execs body (envOfC qual scope s.heap.objs.size f cdv))
        (fun fl s' => R (.ok (.ret (match fl with | .ret v => v | _ => .none))) s')
        (fun e s' => wpAny (model prog w) (A.deeper (envOfC qual scope s.heap.objs.size f cdv)) (leaving (envOfC qual scope s.heap.objs.size f cdv) e) (fun _ s'' => R (.error e) s'') (fun e' s'' => R (.error e') s'') s') s₁)
    (hco : scope.isCoroutine = false) (hgen : scope.isGenerator = false) (hk : scope.kind = .function) : codeAny (model prog w) A (.call (.ref f) args) R s := by
  refine codeAny_call_function hroom (X _ _ ho) rfl hco hgen rfl (codeRec_of X hcd) (hbind _ _ _ _ ?_)
  refine wpAny_newFunctionEnv_cells hk (kindsX hkind _) fun env he s₁ x => ?_
  subst he
  exact ⟨hlim.keeps x.toInCall.keep, codeAny_func (h s₁ x)⟩

/-- C(..): dict at size, instance at size + 1, then __init__ -/
theorem make_obj {R : Result → Shared → Prop} {C fI : Addr} {rest : List Value} {kw : List (Str × Value)}
    (X : K.In s.heap) (hm : makesIn K C = true) (hi : findIn K (.ref C) "__init__" = some (some (.ref fI))) (hf : isFn K (.ref fI) = true)
    (h : codeAny (model prog w) (A.under (.builtin "type.__call__" ⟨.ref C :: rest, kw⟩)) (.call (.ref fI) ⟨.ref (s.heap.objs.size + 1) :: rest, kw⟩) (InitBack (s.heap.objs.size + 1) R)
      { s with heap := (s.heap.push emptyDict).push (instObj C s.heap.objs.size) }) : codeAny (model prog w) A (.call (.ref C) ⟨rest, kw⟩) R s := by
  obtain ⟨hh, g, d, t, os⟩ := s
  exact make_core (makes_of X hm) (looks_findIn X hi) (fun self => bind_fn X self (beq_iff_eq.mp hf)) (.inl rfl) h

/-- x.name where the instance's dict holds the name and the class does not -/
theorem get_field {x C : Addr} {ox : Obj} {es : List DictEntry} {n : Nat} {name : Str} {expr : Bool} {v : Value} {Q : Value → Shared → Prop}
    (X : K.In s.heap) (I : PySem.W.InstAt s.heap x ox C (some (dictOf es n))) (hg : plainGet K C name = true) (hh : hasDictIn K C = true) (ha : findIn K (.ref C) name = some none)
    (hl : getL name es = some (some v)) (hv : handedIn v = true) (h : Q v { s with toks := s.toks + 1 }) : wpAny (model prog w) A (getAttr (.ref x) name expr) Q E s :=
  get_value X I (plainGet_of hg).1 (findObj_own hh ha rfl hl) hv h

/-- x.m(..): the method found in the class -/
theorem get_method {x C f : Addr} {ox : Obj} {es : List DictEntry} {n : Nat} {name : Str} {pl : Sem Bool} {Q : Value × List Value → Shared → Prop}
    (X : K.In s.heap) (I : PySem.W.InstAt s.heap x ox C (some (dictOf es n))) (hg : plainGet K C name = true) (hf : findIn K (.ref C) name = some (some (.ref f))) (ht : isFn K (.ref f) = true)
    (hl : getL name es = some none) (h : Q (.ref f, [.ref x]) s) : wpAny (model prog w) A (getMethod (.ref x) name pl) Q E s :=
  method_fn X I (plainGet_of hg).1 (plainGet_of hg).2 hf (beq_iff_eq.mp ht) (by show (lookIn name (dictOf es n)).map _ = _; rw [lookIn_dict, hl]; rfl) h

/-! the whole heap as the ledger: makes every rule that writes through a ledger a rule over any heap -/
def noObjs (h : Heap) : Heap := { h with objs := #[] }
theorem noObjs_get (h : Heap) (b : Addr) : (noObjs h).get? b = none := by
  cases e : (noObjs h).get? b with
  | none => rfl
  | some o => exact absurd (Heap.lt_size e) (Nat.not_lt_zero _)
def ledger (h : Heap) (L d : Addr) : List (Addr × Obj) := (List.range h.objs.size).filterMap fun a => if a = L ∨ a = d then none else (h.get? a).map fun o => (a, o)
theorem mem_ledger {h : Heap} {L d a : Addr} {o : Obj} : (a, o) ∈ ledger h L d ↔ a ≠ L ∧ a ≠ d ∧ h.get? a = some o := by
  unfold ledger
  rw [List.mem_filterMap]
  constructor
  · rintro ⟨b, _, e⟩
    split at e
    · cases e
    · rename_i hb
      obtain ⟨o', ho, e'⟩ := Option.map_eq_some_iff.mp e
      cases e'
      exact ⟨fun q => hb (.inl q), fun q => hb (.inr q), ho⟩
  · rintro ⟨n1, n2, ho⟩
    refine ⟨a, List.mem_range.mpr (Heap.lt_size ho), ?_⟩
    rw [if_neg (show ¬ (a = L ∨ a = d) from fun q => q.elim n1 n2), ho] <;> rfl
theorem news_ledger {h : Heap} {L d : Addr} {od : Obj} (hne : d ≠ L) (ho : h.get? d = some od) : News (noObjs h) L h ([] ++ (d, od) :: ledger h L d) := by
  rintro ⟨a, o⟩ hp
  rcases List.mem_cons.mp hp with e | hp
  · cases e
    exact ⟨ho, hne, noObjs_get _ _⟩
  · obtain ⟨n1, n2, e⟩ := mem_ledger.mp hp
    exact ⟨e, n1, noObjs_get _ _⟩
theorem fr_all {h : Heap} {L : Addr} {m : Str → Option Value} (n : h.Ns L m) : Fr (noObjs h) L h m :=
  ⟨n, fun b o e => (by rw [noObjs_get] at e; cases e), Nat.zero_le _⟩
/-- Upd of the head entry (for append_K, setItem_K ..) -/
theorem upd_ledger {h : Heap} {L d : Addr} {o o' : Obj} : Upd d o o' ((d, o) :: ledger h L d) ((d, o') :: ledger h L d) :=
  .head fun ⟨_, _⟩ hp => (mem_ledger.mp hp).2.1

/-- x.name = v over any heap: L is any namespace of the heap (the frame's, say): its map stays, its object is not told; all else but the dict stays -/
theorem set_field {x C dx L : Addr} {ox : Obj} {m : Str → Option Value} {es es' : List DictEntry} {n n' : Nat} {name : Str} {v : Value} {Q : Unit → Shared → Prop}
    (X : K.In s.heap) (I : PySem.W.InstAt s.heap x ox C (some (dictOf es n))) (hd : ox.dict = some dx) (hL : s.heap.Ns L m) (hne : dx ≠ L)
    (hs : findIn K (.ref C) "__setattr__" = some (some (.builtin "object.__setattr__"))) (hp : plainOver K C = true) (ht : takerIn K C name = some none) (hh : hasDictIn K C = true) (hl : (getL name es).isSome = true)
    (e : (putL name (PyData.keyHash w.params name) (.str name (s.toks + 1)) v es, putN name es n) = (es', n')) (hz : es'.length ≤ 1000)
    (h : ∀ h' : Heap, h'.Ns L m → h'.get? dx = some (dictOf es' n') → (∀ b o, b ≠ dx → b ≠ L → s.heap.get? b = some o → h'.get? b = some o) → Q () { s with heap := h', toks := s.toks + 2 }) :
    wpAny (model prog w) A (setAttr (.ref x) name v) Q E s := by
  obtain ⟨e1, e2⟩ := Prod.mk.inj e
  have hdx : s.heap.get? dx = some (dictOf es n) := by
    have := I.dict
    rw [hd] at this
    exact this
  refine set_plain X I hs (osa_dict (s := { s with toks := s.toks + 1 }) (h₀ := noObjs s.heap) (L := L) (m := m) (od := dictOf es n) (od' := dictOf es' n') (es := es') (n := n') (pre := []) (post := ledger s.heap L dx)
    (fr_all hL) (news_ledger hne hdx) X I hd hp ht hh hl (fun _ q => nomatch q) (fun ⟨_, _⟩ q => (mem_ledger.mp q).2.1) (by rw [putName_dict, e1, e2]) rfl hz fun h' F' N' => ?_)
  exact h h' F'.ns (N'.get (List.Mem.head _)) fun b o n1 n2 ho => N'.get (List.Mem.tail _ (mem_ledger.mpr ⟨n2, n1, ho⟩))
end
end Att

namespace L2
open PySem PySem.Spec PyProof.Rows

theorem vals_ints : ∀ {vs : List Value} {ns : List Int}, IntsAre vs ns → Vals (ns.map V.int) vs
  | _, _, .nil => .nil
  | _, _, .cons n t h => .cons ⟨t, rfl⟩ (vals_ints h)

/-- nothing is tracked but the script, known to the object (or it is an object of the module) -/
def Only (H : Hp) : Prop := ∀ b, H b = none ∨ ∃ o xs, H b = some (.frz o (.lst xs))

/-- THE HEAD: the law's promise, at the heap behind the top. F, the promise of the law's def, may use that base is part of the heap (so K.In base, base.Ns mainGlobals mg stand in Mod) -/
theorem law_call {P : Program} {w : World} {K : PySem.W.Frag} {mg mb : Str → Option Value} {CX : CXT} {k : Nat} {fa a : Addr} {fd : FuncData} {x : Str} {sp : Sp} {s₁ : Shared} {vs : List Value} {ns : List Int}
    (KX : K.In s₁.heap) (hns : s₁.heap.Ns mainGlobals mg) (hb : s₁.heap.Ns builtinsNs mb) (hbb : ∀ x : Str, x ≠ "__name__" → mb x = bootBuiltins x) (hlim : s₁.heap.NoLimit) (hg : s₁.gens = #[])
    (ha : s₁.heap.get? a = some { cls := .type "list", data := .seq vs.toArray }) (hi : IntsAre vs ns) (hl : ns.length ≤ sizeLine) (hr : Room k callerA)
    (F : ∀ base : Heap, K.In base → base.Ns mainGlobals mg → FnOk P w K mg base CX k fa fd [x] sp) (hbind : ∀ (s : Shared) (u : Value), BindsTo s fd ⟨[u], []⟩ [(x, u)])
    (hsp : ∀ H : Hp, Only H → SqL K H a (ns.map V.int) → sp [.ref a] H (fun v _ => v = .bl true) fun _ _ _ => False)
    (hCX : ∀ H e s', CX [] H s₁ (fun _ _ _ => False) e s' → False) :
    codeAny (model P w) callerA (.call (.ref fa) ⟨[.ref a], []⟩) (fun r s' => r = .ok (.ret (.bool true)) ∧ OldK s₁.heap s'.heap ∧ s'.os = s₁.os ∧ AllBare s'.gens) s₁ := by
  have rv := vals_ints hi
  have lenV := hi.length
  -- from an abstract heap in which nothing but the script may be tracked
  have core : ∀ H : Hp, Only H → SqL K H a (ns.map V.int) → HOk P w H s₁.heap → (∀ b, H b ≠ none → b = a) → (H a ≠ none → K.lookup a = none) →
      codeAny (model P w) callerA (.call (.ref fa) ⟨[.ref a], []⟩) (fun r s' => r = .ok (.ret (.bool true)) ∧ OldK s₁.heap s'.heap ∧ s'.os = s₁.os ∧ AllBare s'.gens) s₁ := by
    intro H hO hS hok hA hK
    have base_of : ∀ {b : Addr} {o : Obj}, s₁.heap.get? b = some o → H b = none → (hidT s₁.heap H).get? b = some o := fun e n => hidT_get e n
    have noA : ∀ {b : Addr} {o : Obj} {es : Array DictEntry} {ep : Nat}, s₁.heap.get? b = some o → o.data = .dict es ep → H b = none := fun {b o es ep} e d => by
      cases q : H b with
      | none => rfl
      | some u =>
        have e' : b = a := hA b (by rw [q]; simp)
        subst e'
        rw [ha] at e; cases e
        have d' : Data.seq vs.toArray _ = Data.dict es ep := d
        cases d'
    have nsK : ∀ {b : Addr} {m : Str → Option Value}, s₁.heap.Ns b m → (hidT s₁.heap H).Ns b m := fun {b m} ⟨o, es, ep, e, d, r⟩ => ⟨o, es, ep, base_of e (noA e d), d, r⟩
    have hKb : K.In (hidT s₁.heap H) := fun b o e => base_of (KX b o e) (by
      cases q : H b with
      | none => rfl
      | some u =>
        have e' : b = a := hA b (by rw [q]; simp)
        subst e'
        rw [hK (by rw [q]; simp)] at e; cases e)
    have hM : Mod K mg (hidT s₁.heap H) := ⟨hKb, nsK hns, ⟨mb, nsK hb, hbb⟩, let ⟨mc, h1, h2⟩ := hlim; ⟨mc, nsK h1, h2⟩⟩
    have e0 : Env0 P w K mg (hidT s₁.heap H) callerA [] s₁ H := ⟨rfl, hM, fun b o e => of_hidT e, Nat.le_of_eq (hidT_size _ _), trivial, fun b hb => absurd (show b ∈ ([] : List Addr) from hb) (by simp), hok, .of_eq hg⟩
    refine codeAny_mono ((F _ hKb (nsK hns)).run callerA [] s₁ H ⟨[.ref a], []⟩ [.ref a] [.ref a] _ _ hr e0 (hbind s₁ (.ref a)) (.cons rfl .nil) (hsp H hO hS)) fun r s' h => ?_
    cases r with
    | error e => exact (hCX H e s' h).elim
    | ok fl =>
      cases fl with
      | next => exact False.elim h
      | brk => exact False.elim h
      | cont => exact False.elim h
      | ret u =>
        obtain ⟨v, H', os, bare, un, hok', r', q⟩ := h
        have q' : v = .bl true := q
        subst q'
        obtain rfl : u = Value.bool true := r'
        refine ⟨rfl, OldK.of_keep fun b o e => ?_, os, bare⟩
        cases q : H b with
        | none => exact un.keep b o e q (by intro z; exact absurd (show b ∈ ([] : List Addr) from z) (by simp)) (by simp)
        | some u =>
          rcases hO b with z | ⟨ob, xs, z⟩
          · rw [q] at z; cases z
          · have z2 := un.frzs b ob _ z
            obtain ⟨e1, _⟩ := hok b _ z
            obtain ⟨e2, _⟩ := hok' b _ z2
            rw [e] at e1; cases e1
            exact e2
  cases hk : K.lookup a with
  | some o =>
    -- the script is one of the module's own objects
    have e := KX a o hk
    rw [ha] at e
    cases e
    refine core (fun _ => none) (fun _ => .inl rfl) (.inr ⟨_, vs.toArray, _, hk, rfl, rfl, rfl, by rw [List.size_toArray, lenV]; exact hl, by simpa using rv⟩) (fun b u z => by have z' : (none : Option HO) = some u := z; cases z') (fun b z => absurd rfl z) fun z => absurd rfl z
  | none =>
    refine core (fun b => if b = a then some (.frz { cls := .type "list", data := .seq vs.toArray } (.lst (ns.map V.int))) else none) (fun b => ?_) (.inl (.inr ⟨{ cls := .type "list", data := .seq vs.toArray }, if_pos rfl⟩)) (fun b u z => ?_) (fun b z => ?_) fun _ => hk
    · by_cases hb : b = a
      · exact .inr ⟨_, _, if_pos hb⟩
      · exact .inl (if_neg hb)
    · by_cases hb : b = a
      · have z' := (if_pos hb).symm.trans z
        cases z'
        subst hb
        exact ⟨ha, by rw [List.length_map]; exact hl, vs, _, rv, ha⟩
      · have z' := (if_neg hb).symm.trans z
        cases z'
    · by_cases hb : b = a
      · exact hb
      · exact absurd (if_neg hb) z
end L2

namespace L2
open PySem PySem.Spec PyProof.Rows

abbrev KOf {K : PySem.W.Frag} {h : Heap} (_ : K.In h) : PySem.W.Frag := K

/-- the goal that k_head leaves (case hc), from the law's promise. F gives the function object fd (K's own) once, then the promise over every base -/
theorem walk_of {l : PySem.W.OpenLaw} {n k : Nat} {q : Program} {loose : List Str} {XP : (Str → Option Value) → Heap → Prop} {YP : World → Heap → Prop} {d : DefRec} {K : Params → PySem.W.Frag} {CX : World → CXT} {sp : World → Sp} {x : Str}
    (hn : l.most = some n) (hn2 : n ≤ sizeLine) (hdf : d.params.defaults = []) (hr : Room k callerA)
    (hY : ∀ (w : World) (h : Heap), YP w h → (K w.params).In h)
    (F : ∀ (w : World) (mg : Str → Option Value) (fa : Addr) (h : Heap), (K w.params).In h → h.Ns mainGlobals mg → mg d.name = some (.ref fa) →
      ∃ fd : FuncData, (∀ (s : Shared) (u : Value), BindsTo s fd ⟨[u], []⟩ [(x, u)]) ∧
        ∀ base : Heap, (K w.params).In base → base.Ns mainGlobals mg → FnOk l.prog w (K w.params) mg base (CX w) k fa fd [x] (sp w))
    (hsp : ∀ (w : World) (H : Hp) (a : Addr) (ns : List Int), ns.length ≤ n → Only H → SqL (K w.params) H a (ns.map V.int) → sp w [.ref a] H (fun v _ => v = .bl true) fun _ _ _ => False)
    (hCX : ∀ (w : World) (H : Hp) (s : Shared) (e : Value) (s' : Shared), CX w [] H s (fun _ _ _ => False) e s' → False) :
    PySem.W.WalkO q loose XP YP l.row.toRowW d [] (fun f vs => PySem.call f vs) := by
  refine Att.attach_call hn hdf fun w s₀ s₁ mg mb fa o pm cd doc a vs ns G Y ho hd hcd hmg hobj hints hlen hg => ?_
  have KX := hY w _ Y
  obtain ⟨fd, hb, hF⟩ := F w mg fa _ KX G.T.g hmg
  exact law_call KX G.T.g G.T.b G.T.builtins G.T.nolimit hg hobj hints (Nat.le_trans hlen hn2) hr hF hb (fun H hO hS => hsp w H a ns hlen hO hS) fun H e s' => hCX w H s₁ e s'
/-- the same where the promise hangs on the written part alone: (sp := My.sp_law), no hole under a binder -/
theorem walk_ofK {l : PySem.W.OpenLaw} {n k : Nat} {q : Program} {loose : List Str} {XP : (Str → Option Value) → Heap → Prop} {YP : World → Heap → Prop} {d : DefRec} {K : Params → PySem.W.Frag} {CX : CXT} {sp : PySem.W.Frag → Sp} {x : Str}
    (hn : l.most = some n) (hn2 : n ≤ sizeLine) (hdf : d.params.defaults = []) (hr : Room k callerA)
    (hY : ∀ (w : World) (h : Heap), YP w h → (K w.params).In h)
    (F : ∀ (w : World) (mg : Str → Option Value) (fa : Addr) (h : Heap), (K w.params).In h → h.Ns mainGlobals mg → mg d.name = some (.ref fa) →
      ∃ fd : FuncData, (∀ (s : Shared) (u : Value), BindsTo s fd ⟨[u], []⟩ [(x, u)]) ∧
        ∀ base : Heap, (K w.params).In base → base.Ns mainGlobals mg → FnOk l.prog w (K w.params) mg base CX k fa fd [x] (sp (K w.params)))
    (hsp : ∀ (K : PySem.W.Frag) (H : Hp) (a : Addr) (ns : List Int), ns.length ≤ n → Only H → SqL K H a (ns.map V.int) → sp K [.ref a] H (fun v _ => v = .bl true) fun _ _ _ => False)
    (hCX : ∀ (H : Hp) (s : Shared) (e : Value) (s' : Shared), CX [] H s (fun _ _ _ => False) e s' → False) :
    PySem.W.WalkO q loose XP YP l.row.toRowW d [] (fun f vs => PySem.call f vs) :=
  walk_of (K := K) (CX := fun _ => CX) (sp := fun w => sp (K w.params)) hn hn2 hdf hr hY F (fun w H a ns h1 h2 h3 => hsp (K w.params) H a ns h1 h2 h3) fun _ H s e s' => hCX H s e s'
end L2

/- THE LAST THEOREM (shape; LID, My.* are yours):
   My.Adr: a structure of the addresses that your layer names (classes, functions); My.Txt K t: a structure (Prop) of the equations over K;
   My.txt_mk : {K} {implicit addresses ..} (e1 : nsIn K mainGlobals "law" = some (some (.ref f))) (e2 : K.lookup f = some ⟨oc, od, .func (fnOf "law" "law" params body scope dV kV doc pm an cdv ct), sl⟩) (e3 : codeIn K cdv "law" = true) .. : ∃ t, My.Txt K t

set_option maxRecDepth 100000 in
set_option maxHeartbeats 0 in
theorem PySem.Challenge.cw_LID_holds : PySem.Challenge.rw_LID.Holds := by
  w_on; o_law; k_head; (case hw => w_witness2)
  k_fill
  refine L2.walk_of (l := PySem.Challenge.rw_LID) (n := 63) (k := 40) (x := "script") (CX := fun w => ..) (sp := fun _ => My.sp_law) rfl (by decide) rfl ⟨rfl, by decide, by decide⟩ (fun w h Y => PySem.W.kIn_of Y) ?F ?S ?C
  case F =>
    intro w mg fa h KX G hmg
    have T : ∃ t, My.Txt (L2.KOf KX) t := by
      dsimp only [L2.KOf]                          -- K must stand as «<heap const> w.params» for k_is
      refine' My.txt_mk ?e1 ?e2 ?e3 ..
      (case e1 => PySem.W.k_is)                    -- in the order: a name -> its address -> its object -> its parts
      (case e2 => PySem.W.k_is)
      ..
    obtain ⟨t, T⟩ := T
    have e0 := hmg.symm.trans (PySem.W.mg_of KX G T.law)
    cases e0                                       -- fa is the law's own address
    exact ⟨_, fun s u => .of_eq rfl, fun base kb nb => My.law_fn T kb nb⟩     -- if «.of_eq rfl» comes too early: refine' ⟨_, ?b, fun base kb nb => My.law_fn T kb nb⟩; exact fun s u => .of_eq rfl
  case S => exact fun w H a ns hl hO hS => ..
  case C => exact ..
(the tactic k_is has no namespace: write k_is) -/

/-! SHORT WORDS over the layer: a def of the text, its body, what a loop and a test want. -/
namespace L2
open PySem PySem.Spec PyProof.Rows

/-! ### the text by places -/
/-- the j-th statement of a class's body -/
def inClass (s : Stmt) (j : Nat) : Stmt := match s with
  | .ClassDef _ _ _ body _ _ _ _ _ _ _ => body.getD j (.Pass ⟨0, 0, 0, 0⟩)
  | _ => .Pass ⟨0, 0, 0, 0⟩
def defArgs (s : Stmt) : Arguments := match s with
  | .FunctionDef _ a _ _ _ _ _ _ _ _ => a
  | _ => { posonlyargs := [], args := [], vararg := none, kwonlyargs := [], kw_defaults := [], kwarg := none, defaults := [] }
def defBody (s : Stmt) : List Stmt := match s with
  | .FunctionDef _ _ b _ _ _ _ _ _ _ => b
  | _ => []
def defScope (s : Stmt) : Scope := match s with
  | .FunctionDef _ _ _ _ _ _ sc _ _ _ => sc
  | _ => { kind := .function, names := [], isGenerator := false, isCoroutine := false }

/-! ### no exception leaves a def -/
abbrev CX0 : CXT := fun _ _ _ _ _ _ => False
abbrev E0 : XK := fun _ _ _ => False
theorem pass0 {X : Cx} : Passes CX0 X E0 := fun _ _ _ _ _ _ _ h => h.elim

/-! ### a def (or method) of the text as it stands behind the top -/
structure Fun (K : PySem.W.Frag) (x qual : Str) (st : Stmt) (f : Addr) (fd : FuncData) : Prop where
  ex : ∃ (oc : Value) (od : Option Addr) (kV doc pm : Value) (an : Option Addr) (cdv ct : Value) (osl : Array (Option Value)),
    fd = PySem.W.fnOf x qual (defArgs st) (defBody st) (defScope st) .none kV doc pm an cdv ct ∧ K.lookup f = some ⟨oc, od, .func fd, osl⟩ ∧ PySem.W.codeIn K cdv qual = true
  kp : PySem.W.keepIn K (.ref f) = true
section
variable {P : Program} {w : World} {K : PySem.W.Frag} {mg : Str → Option Value} {base : Heap}
/-- THE RULE for a def: its body as a term of rules, and the reading of that term -/
theorem Fun.ok {x qual : Str} {st : Stmt} {f : Addr} {fd : FuncData} {N ps : List Str} {k : Nat} {sp : Sp} (F : Fun K x qual st f fd) (S : FnScope N ps (defScope st)) (len : ∀ vs H Q E, sp vs H Q E → vs.length = ps.length)
    (hbody : ∀ (cdv : Value) (A : Around) (outer : List Env) (s : Shared) (H : Hp) (vs : List V) (Q : VK) (E : XK), Room k (A.deeper (envOfC qual (defScope st) s.heap.objs.size f cdv)) → sp vs H Q E →
      ∃ t, PSs (cxOf CX0 P w K mg base N qual (defScope st) f cdv A outer s H E).nox (defBody st) t ∧ t { nx := fun _ H' => Q .non H', rt := Q } (start N vs) H) : FnOk P w K mg base CX0 (k + 1) f fd ps sp := by
  obtain ⟨oc, od, kV, doc, pm, an, cdv, ct, osl, rfl, lk, hcd⟩ := F.ex
  refine fn_of lk hcd S len fun A outer s H vs Q E hr hsp => ?_
  obtain ⟨t, h, q⟩ := hbody cdv A outer s H vs Q E hr hsp
  exact ⟨t, h.nox, q⟩
/-- how its arguments bind (no defaults): h is «fun _ _ _ _ _ _ us hl => match us, hl with | [_, _], _ => rfl», one _ a parameter -/
theorem Fun.binds {x qual : Str} {st : Stmt} {f : Addr} {fd : FuncData} {ps : List Str} (F : Fun K x qual st f fd)
    (h : ∀ (kV doc pm : Value) (an : Option Addr) (cdv ct : Value) (us : List Value), us.length = ps.length → bindArgs (PySem.W.fnOf x qual (defArgs st) (defBody st) (defScope st) .none kV doc pm an cdv ct) ⟨us, []⟩ = pure (ps.zip us)) : Binds K fd ps [] := by
  obtain ⟨oc, od, kV, doc, pm, an, cdv, ct, osl, rfl, lk, hcd⟩ := F.ex
  exact .all (h kV doc pm an cdv ct)
theorem fun_mk {x qual : Str} {st : Stmt} {f : Addr} {oc : Value} {od an : Option Addr} {osl : Array (Option Value)} {kV doc pm cdv ct : Value} (l : K.lookup f = some ⟨oc, od, .func (PySem.W.fnOf x qual (defArgs st) (defBody st) (defScope st) .none kV doc pm an cdv ct), osl⟩)
    (c : PySem.W.codeIn K cdv qual = true) (k : PySem.W.keepIn K (.ref f) = true) : Fun K x qual st f (PySem.W.fnOf x qual (defArgs st) (defBody st) (defScope st) .none kV doc pm an cdv ct) := ⟨⟨oc, od, kV, doc, pm, an, cdv, ct, osl, rfl, l, c⟩, k⟩
end
theorem hu_of {A : Around} {k : Nat} (hr : Room k A) : A.units + 1 < cLine := Nat.lt_of_le_of_lt (Nat.add_le_add_left (by decide : 1 ≤ 64) _) hr.units
theorem small1000 {n : Nat} (h : n ≤ 1000) : n < sizeLine := Nat.lt_of_le_of_lt h (by decide)

/-! ### expressions in short: the name that stands in the i-th slot -/
section
variable {X : Cx}
theorem pv (i : Nat) {x : Str} {pos : Pos} (hN : X.N[i]? = some x := by rfl) (hv : Vis X.env.scope x := by first | exact Or.inl rfl | exact Or.inr (Or.inl rfl) | exact Or.inr (Or.inr rfl)) (hd : (x == ("__debug__" : Str)) = false := by decide)
    (hcd : (x == ("__classdict__" : Str)) = false := by decide) : PE X (.Name x pos) (tVar i) := pe_var hN hv hd hcd
end

/-! ### tests -/
theorem iteF {A B : Prop} (h : B) : if false = true then A else B := by
  rw [if_neg Bool.false_ne_true]
  exact h
theorem iteT {A B : Prop} (h : A) : if true = true then A else B := by
  rw [if_pos rfl]
  exact h
theorem ite2 {c A B : Prop} [Decidable c] (h1 : c → A) (h2 : ¬ c → B) : if c then A else B := by
  by_cases h : c
  · rw [if_pos h]
    exact h1 h
  · rw [if_neg h]
    exact h2 h
theorem iteNS {c A B : Prop} [Decidable c] (hc : c) (h : B) : if (!decide c) = true then A else B := by
  rw [decide_eq_true hc]
  exact iteF h

/-! ### heaps -/
/-- all that was tracked is as it was -/
def Same (H H' : Hp) : Prop := ∀ b o, H b = some o → H' b = some o
theorem Same.refl (H : Hp) : Same H H := fun _ _ h => h
theorem Same.trans {H H1 H2 : Hp} (a : Same H H1) (b : Same H1 H2) : Same H H2 := fun c o h => b c o (a c o h)
theorem Same.free {H H' : Hp} (e : Same H H') {l : Addr} (h : H' l = Option.none) : H l = Option.none := by
  cases q : H l with
  | none => rfl
  | some o =>
    rw [e l o q] at h
    cases h
theorem Same.seq {K : PySem.W.Frag} {H H' : Hp} {a : Addr} {xs : List V} (e : Same H H') (h : SqL K H a xs) : SqL K H' a xs := by
  rcases h with (h | ⟨o, h⟩) | h
  · exact .inl (.inl (e _ _ h))
  · exact .inl (.inr ⟨o, e _ _ h⟩)
  · exact .inr h

end L2

namespace PySem
/-- the closure of a comprehension: the cells of its free names -/
def closeL (env : Env) : List (Str × NameKind) → List (Str × Addr) → List (Str × Addr)
  | [], cs => cs
  | (n, k) :: r, cs => if (k == .free) = true then closeL env r ((n, (env.cells.lookup n).getD 0) :: cs) else closeL env r cs
theorem closureFor_eq {scope : Scope} {env : Env} (h : ∀ x ∈ scope.names, x.2 = .free → ∃ c, env.cells.lookup x.1 = some c) : closureFor scope env = pure (closeL env scope.names []) := by
  simp only [closureFor]
  suffices H : ∀ (l : List (Str × NameKind)) (cs : List (Str × Addr)), (∀ x ∈ l, x.2 = .free → ∃ c, env.cells.lookup x.1 = some c) →
      (forIn l cs (fun (x : Str × NameKind) (r : List (Str × Addr)) => if (x.snd == NameKind.free) = true then do let a ← cellOf env x.fst; pure (ForInStep.yield ((x.fst, a) :: r)) else pure (ForInStep.yield r)) : Sem (List (Str × Addr))) = pure (closeL env l cs) by
    rw [H scope.names [] h]; rfl
  intro l
  induction l with
  | nil => intro cs _; rfl
  | cons x l ih =>
    intro cs hx
    obtain ⟨n, k⟩ := x
    have ih' := fun cs => ih cs fun y hy => hx y (List.mem_cons_of_mem _ hy)
    rw [List.forIn_cons]
    by_cases hk : k = .free
    · subst hk
      obtain ⟨c, hc⟩ := hx (n, .free) List.mem_cons_self rfl
      have hcell : cellOf env n = pure c := by unfold cellOf; rw [hc]
      dsimp only
      rw [if_pos (show (NameKind.free == NameKind.free) = true from rfl), hcell]
      have e : closeL env ((n, NameKind.free) :: l) cs = closeL env l ((n, c) :: cs) := by
        show (if (NameKind.free == NameKind.free) = true then _ else _) = _
        rw [if_pos (show (NameKind.free == NameKind.free) = true from rfl)]; show closeL env l ((n, (List.lookup n env.cells).getD 0) :: cs) = _; rw [show List.lookup n env.cells = some c from hc]; rfl
      rw [e, ← ih' ((n, c) :: cs)]
      rfl
    · have hb : (k == NameKind.free) = false := by simpa using hk
      have e : closeL env ((n, k) :: l) cs = closeL env l cs := by
        show (if (k == NameKind.free) = true then _ else _) = _
        rw [hb]; rfl
      rw [e, ← ih' cs]
      dsimp only
      rw [hb, if_neg Bool.false_ne_true]
      rfl
theorem closeL_lookup {env : Env} {x : Str} : ∀ (l : List (Str × NameKind)) (cs : List (Str × Addr)), (∀ y ∈ l, y.2 = .free → ∃ c, env.cells.lookup y.1 = some c) → (∀ y c, cs.lookup y = some c → env.cells.lookup y = some c) →
    ∀ c, (closeL env l cs).lookup x = some c → env.cells.lookup x = some c
  | [], cs, _, hc, c, h => hc x c h
  | (n, k) :: r, cs, hx, hc, c, h => by
    have hr := fun y hy => hx y (List.mem_cons_of_mem _ hy)
    unfold closeL at h
    split at h
    · rename_i hk
      have hk' : k = .free := by simpa using hk
      obtain ⟨d, hd⟩ := hx (n, k) List.mem_cons_self hk'
      refine closeL_lookup r _ hr (fun y c' h' => ?_) c h
      rw [List.lookup_cons] at h'
      cases e : y == n with
      | true =>
        rw [e] at h'
        have e' : y = n := by simpa using e
        subst e'
        have hd' : env.cells.lookup y = some d := hd
        rw [hd'] at h' ⊢
        exact h'
      | false => rw [e] at h'; exact hc y c' h'
    · exact closeL_lookup r cs hr hc c h
theorem closeL_keep {env : Env} {x : Str} : ∀ (l : List (Str × NameKind)) (cs : List (Str × Addr)) (c : Addr), cs.lookup x = some c → ∃ c', (closeL env l cs).lookup x = some c'
  | [], cs, c, h => ⟨c, h⟩
  | (n, k) :: r, cs, c, h => by
    unfold closeL
    split
    · cases e : x == n with
      | true => exact closeL_keep r _ _ (by rw [List.lookup_cons, e])
      | false => exact closeL_keep r _ c (by rw [List.lookup_cons, e]; exact h)
    · exact closeL_keep r cs c h
theorem closeL_has {env : Env} {x : Str} : ∀ (l : List (Str × NameKind)) (cs : List (Str × Addr)), (x, NameKind.free) ∈ l → ∃ c, (closeL env l cs).lookup x = some c
  | [], cs, h => by cases h
  | (n, k) :: r, cs, h => by
    unfold closeL
    rcases List.mem_cons.mp h with e | e
    · cases e
      rw [if_pos (show (NameKind.free == NameKind.free) = true from rfl)]
      exact closeL_keep r _ ((env.cells.lookup x).getD 0) (by rw [List.lookup_cons]; simp)
    · split
      · exact closeL_has r _ e
      · exact closeL_has r _ e
end PySem
namespace PySem
theorem relabel_lookup {env : Env} {x : Str} : ∀ (names : List (Str × NameKind)),
    (names.map fun (n, k) => if (k == NameKind.free && env.scope.kind == .function && env.kindOf n == some .cell) then (n, NameKind.cell) else (n, k)).lookup x =
      (names.lookup x).map fun k => if (k == NameKind.free && env.scope.kind == .function && env.kindOf x == some .cell) = true then NameKind.cell else k
  | [] => rfl
  | (n, k) :: r => by
    have ih := relabel_lookup (env := env) (x := x) r
    show List.lookup x ((if (k == NameKind.free && env.scope.kind == .function && env.kindOf n == some .cell) = true then (n, NameKind.cell) else (n, k)) :: _) = _
    cases hx : x == n with
    | true =>
      have e : x = n := by simpa using hx
      subst e
      by_cases hc : (k == NameKind.free && env.scope.kind == .function && env.kindOf x == some .cell) = true
      · rw [if_pos hc]; simp only [List.lookup_cons, hx, Option.map_some, if_pos hc]
      · rw [if_neg hc]; simp only [List.lookup_cons, hx, Option.map_some, if_neg hc]
    | false =>
      by_cases hc : (k == NameKind.free && env.scope.kind == .function && env.kindOf n == some .cell) = true
      · rw [if_pos hc]; simp only [List.lookup_cons, hx]; exact ih
      · rw [if_neg hc]; simp only [List.lookup_cons, hx]; exact ih
theorem codeAny_compLoop_go {prog : Program} {w : World} {A : Around} {R : Result → Shared → Prop} {s : Shared} {elt target iter : Expr} {ifs : List Expr} {scope : Scope} {pos : Pos} {it acc : Value} {env : Env} (I : Nat → Shared → Prop)
    (turn : ∀ n s, I n s → wpAny (model prog w) A (pyNext it) (fun r s₁ => match r with
      | none => R (.ok .next) s₁
      | some v => wpAny (model prog w) A (letOwnedTupleGo target it v) (fun _ s₁ => wpAny (model prog w) A (assign target env v) (fun _ s₂ =>
          wpAny (model prog w) A (forIn ifs true fun c r => if r = true then do let ok ← isTrue c env (eval c env); pure (ForInStep.yield ok) else pure (ForInStep.yield r)) (fun ok s₃ =>
            if ok = true then wpAny (model prog w) A (eval elt env) (fun x s₄ =>
              wpAny (model prog w) A (call (.builtin "list.append") [acc, x]) (fun _ s₅ => ∃ m, m < n ∧ I m s₅) (fun _ _ => False) s₄) (fun _ _ => False) s₃
            else ∃ m, m < n ∧ I m s₃) (fun _ _ => False) s₂) (fun _ _ => False) s₁) (fun _ _ => False) s₁) (fun _ _ => False) s)
    (n : Nat) (h : I n s) :
    codeAny (model prog w) A (.compLoop (.ListComp elt [⟨target, iter, ifs, 0⟩] scope pos) 0 it acc env) R s := by
  have up : ∀ {α : Type} {t : Sem α} {Q : α → Shared → Prop} {E : Value → Shared → Prop} {s : Shared}, wpAny (model prog w) A t Q (fun _ _ => False) s → wpAny (model prog w) A t Q E s := fun h => wpAny_mono h (fun _ _ q => q) fun _ _ f => f.elim
  refine codeAny_loop rfl I (fun n s hI => ?_) n h
  show wpAny _ A ((compTurn (.ListComp elt [⟨target, iter, ifs, 0⟩] scope pos) 0 it acc env).onRaise (fun x => do noteFrame x env; theTreesLotGoes x)) _ _ s
  refine wpAny_noted ?_
  rw [compTurn_list]
  refine wpAny_bind (wpAny_standAt (wpAny_bind (wpAny_mono (turn n s hI) (fun r s₁ h₁ => ?_) fun _ _ f => f.elim)))
  cases r with
  | none => exact wpAny_pure h₁
  | some v =>
    refine wpAny_bind (wpAny_mono h₁ (fun _ s₁ h₁ => ?_) fun _ _ f => f.elim)
    refine wpAny_bind (wpAny_mono h₁ (fun _ s₂ h₂ => wpAny_bind (wpAny_mono h₂ (fun ok s₃ h₃ => ?_) fun _ _ f => f.elim)) fun _ _ f => f.elim)
    cases ok with
    | false => exact wpAny_pure ⟨rfl, h₃⟩
    | true =>
      exact wpAny_bind (wpAny_bind (wpAny_mono h₃ (fun x s₄ h₄ => wpAny_bind (wpAny_mono h₄ (fun _ s₅ h₅ => wpAny_pure (wpAny_pure ⟨rfl, h₅⟩)) fun _ _ f => f.elim)) fun _ _ f => f.elim))
end PySem
namespace L2
open PySem PySem.Spec PyProof.Rows

/-! ### list comprehensions -/
/-- the slots of a comprehension's names: the outer slot that each stands for (none: its own) -/
def capSt (cap : List (Option Nat)) (σ : St) : St := cap.map fun o => o.bind fun j => (σ[j]?).join
/-- what was set stays -/
def keepsSt : St → St → Prop
  | [], [] => True
  | none :: a, _ :: b => keepsSt a b
  | some x :: a, y :: b => y = some x ∧ keepsSt a b
  | _, _ => False
theorem keepsSt_ok : ∀ {a b : St}, keepsSt a b → a.length = b.length ∧ ∀ (i : Nat) v, a[i]? = some (some v) → b[i]? = some (some v)
  | [], [], _ => ⟨rfl, fun i v h => by simp at h⟩
  | none :: a, y :: b, h => by
    have ih := keepsSt_ok (a := a) (b := b) h
    refine ⟨by simp [ih.1], fun i v e => ?_⟩
    cases i with
    | zero => simp at e
    | succ i => simpa using ih.2 i v (by simpa using e)
  | some x :: a, y :: b, h => by
    obtain ⟨e0, h⟩ := (show y = some x ∧ keepsSt a b from h)
    have ih := keepsSt_ok (a := a) (b := b) h
    refine ⟨by simp [ih.1], fun i v e => ?_⟩
    cases i with
    | zero => rw [e0]; simpa using e
    | succ i => simpa using ih.2 i v (by simpa using e)
  | [], _ :: _, h => False.elim h
  | none :: _, [], h => False.elim h
  | some _ :: _, [], h => False.elim h
theorem keepsSt_refl : ∀ a : St, keepsSt a a
  | [] => True.intro
  | none :: a => keepsSt_refl a
  | some _ :: a => ⟨rfl, keepsSt_refl a⟩
/-- the block's names N' (scope sc) over the outer names N (scope so) -/
def capB (N : List Str) (so sc : Scope) (N' : List Str) (cap : List (Option Nat)) : Bool :=
  decide (sc.kind = .function) && decide N'.Nodup && decide (cap.length = N'.length) && (sc.names.all fun y => decide (y.2 ≠ .cell)) &&
  (sc.names.all fun y => decide (y.2 = .local → sc.names.lookup y.1 = some .local)) &&
  (sc.names.all fun y => decide (y.2 = .free → so.names.lookup y.1 = some .cell ∨ so.names.lookup y.1 = some .free)) &&
  ((N'.zip cap).all fun y => match y.2 with | none => true | some j => decide (N[j]? = some y.1) && decide (sc.names.lookup y.1 = some .free))
structure CapOk (N : List Str) (so sc : Scope) (N' : List Str) (cap : List (Option Nat)) : Prop where
  kind : sc.kind = .function
  nd : N'.Nodup
  len : cap.length = N'.length
  nocell : ∀ y ∈ sc.names, y.2 ≠ .cell
  nms : ∀ y ∈ sc.names, y.2 = .local → sc.names.lookup y.1 = some .local
  fre : ∀ y ∈ sc.names, y.2 = .free → so.names.lookup y.1 = some .cell ∨ so.names.lookup y.1 = some .free
  cap : ∀ (i : Nat) x j, N'[i]? = some x → cap[i]? = some (some j) → N[j]? = some x ∧ sc.names.lookup x = some .free
theorem capB_ok {N : List Str} {so sc : Scope} {N' : List Str} {cap : List (Option Nat)} (h : capB N so sc N' cap = true) : CapOk N so sc N' cap := by
  unfold capB at h
  simp only [Bool.and_eq_true, decide_eq_true_eq, List.all_eq_true] at h
  obtain ⟨⟨⟨⟨⟨⟨h1, h2⟩, h3⟩, h4⟩, h5⟩, h6⟩, h7⟩ := h
  refine ⟨h1, h2, h3, h4, h5, h6, fun i x j e1 e2 => ?_⟩
  have e3 : (N'.zip cap)[i]? = some (x, some j) := by rw [List.getElem?_zip_eq_some]; exact ⟨e1, e2⟩
  have q := h7 (x, some j) (List.mem_of_getElem? e3)
  simpa using q

/-- the context of a comprehension's block -/
def cxC (X : Cx) (N' : List Str) (sc : Scope) (C : Addr) (s : Shared) (H : Hp) (fp : List Addr) : Cx :=
  { X with N := N', s₀ := s, H₀ := H, env := compEnvC sc (closeL X.env sc.names []) C X.env, outer := X.stack, stack := X.stack, ex := fp, fn := fun _ => false, pn := [], xe := fun _ _ => False }

/-- the tests of a comprehension -/
def PIfs (X : Cx) (ifs : List Expr) (t : TT) : Prop :=
  ∀ (pins : List (Addr × Obj)) (s : Shared) (σ : St) (H : Hp) (Q : Bool → Hp → Prop), Inv X pins σ H s → t σ H Q →
    wpAny (model X.prog X.w) X.A (forIn ifs true fun c r => if r = true then do let ok ← isTrue c X.env (eval c X.env); pure (ForInStep.yield ok) else pure (ForInStep.yield r)) (TP X pins σ Q) X.xe s
def tTT : TT := fun _ H Q => Q true H
theorem pifs_nil {X : Cx} : PIfs X [] tTT := fun _ _ _ H _ I h => wpAny_tests_nil ⟨H, I, h⟩
theorem pifs_one {X : Cx} {c : Expr} {t : TT} (h : PT X c t) : PIfs X [c] t := fun pins s σ H Q I q => wpAny_tests_one (h pins s σ H Q I q)

/-- the turns of a comprehension that walks J into the list at D -/
def LcB (J : It) (cap : List (Option Nat)) (g : TG) (tt : TT) (te : TE) (σ : St) (Q : VK) (D : Addr) (H1 : Hp) : Prop :=
  ∃ W : Nat → Nat → List V → Hp → Prop, (∃ m, W 0 m [] (upd H1 D (.lst []))) ∧ ∀ i m ys H2, W i m ys H2 →
    (J.stop i H2 ∧ Q (.ref D) H2) ∨
    (J.go i H2 ∧ ∃ N : List V → Hp → Prop, (∀ ys' H', N ys' H' → ∃ m', m' < m ∧ W (i + 1) m' ys' H') ∧ ∀ x H', J.yld i H2 x H' →
      g x (capSt cap σ) H' fun σ2 H3 => keepsSt (capSt cap σ) σ2 ∧ tt σ2 H3 fun b H4 => if b = true then te σ2 H4 fun y H5 => ∃ zs, H5 D = some (.lst zs) ∧ zs.length < sizeLine ∧ N (zs ++ [y]) (upd H5 D (.lst (zs ++ [y]))) else N ys H4)
def tLC (wi : TI) (cap : List (Option Nat)) (g : TG) (tt : TT) (te : TE) : TE := fun σ H Q => wi σ H fun J H1 => ∀ D, H1 D = none → LcB J cap g tt te σ Q D H1

/-- the block's frame is nobody's -/
structure CFree (X : Cx) (pins : List (Addr × Obj)) (H : Hp) (C : Addr) : Prop where
  free : H C = none
  loc : C ≠ X.env.locals
  old : X.s₀.heap.objs.size ≤ C
  cell : ∀ x c, X.env.cells.lookup x = some c → c ≠ C
  pin : ∀ p ∈ X.pn ++ pins, p.1 ≠ C

section
variable {X : Cx} {pins : List (Addr × Obj)} {σ : St} {H : Hp} {s : Shared} {N' : List Str} {sc : Scope} {cap : List (Option Nat)} {C : Addr} {fp : List Addr}
theorem lc_free (I : Inv X pins σ H s) (ck : CapOk X.N X.env.scope sc N' cap) : ∀ x ∈ sc.names, x.2 = .free → ∃ c, X.env.cells.lookup x.1 = some c := fun x hx hf =>
  I.ok.has x.1 (ck.fre x hx hf)
theorem lc_look {x : Str} (I : Inv X pins σ H s) (ck : CapOk X.N X.env.scope sc N' cap) {c : Addr} (h : (closeL X.env sc.names []).lookup x = some c) : X.env.cells.lookup x = some c :=
  closeL_lookup sc.names [] (lc_free I ck) (fun y c h => by simp at h) c h
theorem lc_kind (env : Env) (x : Str) : (compEnvC sc (closeL X.env sc.names []) C env).kindOf x = (sc.names.lookup x).map fun k => if (k == NameKind.free && env.scope.kind == .function && env.kindOf x == some .cell) = true then NameKind.cell else k :=
  relabel_lookup sc.names
theorem lookup_mem_snd {l : List (Str × NameKind)} {x : Str} {k : NameKind} (h : l.lookup x = some k) : (x, k) ∈ l := PySem.mem_of_lookup h
theorem lc_ok (I : Inv X pins σ H s) (ck : CapOk X.N X.env.scope sc N' cap) (hf : ∀ b ∈ fp, FpOk X pins H b) (hlt : ∀ b ∈ fp, b < s.heap.objs.size) (hC : C = s.heap.objs.size) : (cxC X N' sc C s H fp).Ok := by
  have cl : ∀ {x : Str} {c : Addr}, (closeL X.env sc.names []).lookup x = some c → X.env.cells.lookup x = some c := fun h => lc_look I ck h
  have cne : ∀ {x : Str} {c : Addr}, X.env.cells.lookup x = some c → c < s.heap.objs.size := fun e => by
    obtain ⟨v, q⟩ := I.cell _ _ e
    exact q.lt
  refine ⟨I.ok.mod, ck.kind, I.ok.glob, I.ok.blt, by rw [hC]; exact Nat.le_refl _, fun x y c h1 h2 => I.ok.inj x y c (cl h1) (cl h2), fun x hx => ?_, fun x c h _ => (by cases h), I.ok.hd, I.ok.frames, .inl rfl, fun b hb => ⟨?_, fun x c h => ?_⟩, I.bs, Nat.le_trans I.ok.bsz I.sz, fun b o e hb => ?_, fun b hb hz => ?_, I.stack, I.stkFree⟩
  · have hx' : (sc.names.lookup x).map (fun k => if (k == NameKind.free && X.env.scope.kind == .function && X.env.kindOf x == some .cell) = true then NameKind.cell else k) = some .cell ∨
        (sc.names.lookup x).map (fun k => if (k == NameKind.free && X.env.scope.kind == .function && X.env.kindOf x == some .cell) = true then NameKind.cell else k) = some .free := by
      rw [← lc_kind (X := X) (C := C) X.env x]
      exact hx
    cases e : sc.names.lookup x with
    | none => rw [e] at hx'; rcases hx' with z | z <;> cases z
    | some k =>
      have hm := lookup_mem_snd e
      have hk : k = .free := by
        rw [e] at hx'
        by_cases hk : k = .free
        · exact hk
        · have hb : (k == NameKind.free) = false := by simpa using hk
          simp only [Option.map_some, hb, Bool.false_and, Bool.false_eq_true, if_false, Option.some.injEq] at hx'
          rcases hx' with z | z
          · exact absurd z (ck.nocell _ hm)
          · exact absurd z hk
      subst hk
      exact closeL_has sc.names [] hm
  · show b ≠ C
    rw [hC]
    exact Nat.ne_of_lt (hlt b hb)
  · exact (hf b hb).2.2.2.2.1 x c (cl h)
  · obtain ⟨_, _, _, z, _⟩ := hf b hb
    rcases z with z | z
    · exact I.ok.noex b o e z
    · exact absurd (Nat.lt_of_lt_of_le (Heap.lt_size e) (Nat.le_trans I.ok.bsz z)) (Nat.lt_irrefl _)
  · rcases List.mem_cons.mp (I.stkSub b hz) with z | z
    · exact (hf b hb).2.1 z
    · exact (hf b hb).2.2.1 z
theorem lc_inv {h₁ : Heap} {m : Str → Option Value} {t' : Nat} (I : Inv X pins σ H s) (ck : CapOk X.N X.env.scope sc N' cap) (hf : ∀ b ∈ fp, FpOk X pins H b) (hlt : ∀ b ∈ fp, b < s.heap.objs.size) (hC : C = s.heap.objs.size)
    (hn : h₁.Ns C m) (hk : ∀ b o, s.heap.get? b = some o → h₁.get? b = some o) : Inv (cxC X N' sc C s H fp) [] (capSt cap σ) H { s with heap := h₁, toks := t' } := by
  refine ⟨lc_ok I ck hf hlt hC, rfl, I.bare, Un.kept hk, ⟨m, hn, fun i x v e1 e2 e3 => ?_⟩, fun x c h => ?_, ?_, fun x c h => I.freeC x c (lc_look I ck h), fun p hp => absurd (show p ∈ ([] : List (Addr × Obj)) from hp) (by simp), I.hok.kept hk, ?_⟩
  · have e1' : N'[i]? = some x := e1
    unfold capSt at e2
    rw [List.getElem?_map] at e2
    cases ec : cap[i]? with
    | none => rw [ec] at e2; cases e2
    | some o =>
      rw [ec] at e2
      cases o with
      | none => simp at e2
      | some j =>
        have e2' : (σ[j]?).join = some v := by simpa using e2
        have e2'' : σ[j]? = some (some v) := by
          cases q : σ[j]? with
          | none => rw [q] at e2'; cases e2'
          | some w => rw [q] at e2'; rw [show w = some v from e2']
        obtain ⟨a1, a2⟩ := ck.cap i x j e1' ec
        have hfr := ck.fre (x, .free) (lookup_mem_snd a2) rfl
        obtain ⟨m0, _, hl⟩ := I.loc
        obtain ⟨u, ru, lk⟩ := hl j x v a1 e2'' (.inr hfr)
        refine ⟨u, ru, .inr ⟨?_, ?_⟩⟩
        · show (compEnvC sc (closeL X.env sc.names []) C X.env).kindOf x = some .cell ∨ (compEnvC sc (closeL X.env sc.names []) C X.env).kindOf x = some .free
          rw [lc_kind, a2]
          simp only [Option.map_some, beq_self_eq_true, Bool.true_and]
          by_cases hc : (X.env.scope.kind == ScopeKind.function && X.env.kindOf x == some NameKind.cell) = true
          · rw [if_pos hc]; exact .inl rfl
          · rw [if_neg hc]; exact .inr rfl
        · obtain ⟨c', hc'⟩ := closeL_has (env := X.env) sc.names [] (lookup_mem_snd a2)
          have hX := lc_look I ck hc'
          rcases lk with ⟨k, _⟩ | ⟨_, c, ec', z⟩
          · have k' : X.env.scope.names.lookup x = some .local := k
            have hfr' : X.env.scope.names.lookup x = some .cell ∨ X.env.scope.names.lookup x = some .free := hfr
            rw [k'] at hfr'
            rcases hfr' with q | q <;> cases q
          · rw [hX] at ec'
            cases ec'
            obtain ⟨oc, ho, hd⟩ := z
            exact ⟨c', hc', oc, hk _ _ ho, hd⟩
  · obtain ⟨v, oc, ho, hd⟩ := I.cell x c (lc_look I ck h)
    exact ⟨v, oc, hk _ _ ho, hd⟩
  · show H C = none
    rw [hC]
    exact I.hok.fresh (Nat.le_refl _)
  · show (capSt cap σ).length = N'.length
    unfold capSt
    rw [List.length_map]
    exact ck.len
/-- behind the block: the outer state again -/
theorem lc_back {s' : Shared} {σ' : St} {H' : Hp} {pins' : List (Addr × Obj)} (I : Inv X pins σ H s) (hf : ∀ b ∈ fp, FpOk X pins H b) (J : Inv (cxC X N' sc C s H fp) pins' σ' H' s') : Inv X pins σ H' s' :=
  I.call' (ch := fp) J.os J.base J.hok J.bare fun b hb => ⟨(hf b hb).2.2.2.1, (hf b hb).2.1, (hf b hb).2.2.2.2.1, (hf b hb).2.2.2.2.2⟩
theorem lc_cfree {s' : Shared} {σ' : St} {H' : Hp} {pins' : List (Addr × Obj)} (I : Inv X pins σ H s) (hC : C = s.heap.objs.size) (J : Inv (cxC X N' sc C s H fp) pins' σ' H' s') : CFree X pins H' C := by
  refine ⟨J.free, by rw [hC]; exact Nat.ne_of_gt I.lt, by rw [hC]; exact I.sz, fun x c e z => ?_, fun p hp z => ?_⟩
  · obtain ⟨v, q⟩ := I.cell x c e
    exact absurd q.lt (by rw [z, hC]; exact Nat.lt_irrefl _)
  · exact absurd (Heap.lt_size (I.pin p hp).1) (by rw [z, hC]; exact Nat.lt_irrefl _)
theorem CFree.after {h' : Heap} {t' : Nat} (F : CFree X pins H C) (I : Inv X pins σ H s) (k : ∀ b o, b ≠ C → s.heap.get? b = some o → h'.get? b = some o) : Inv X pins σ H { s with heap := h', toks := t' } :=
  I.turned k F.free F.loc (.inr F.old) F.cell F.pin
end

section
variable {X : Cx} {elt tg iter : Expr} {ifs : List Expr} {sc : Scope} {pos : Pos} {wi : TI} {g : TG} {tt : TT} {te : TE} {N' : List Str} {cap : List (Option Nat)}
theorem lc_core (hc : X.calm = true) (ck : CapOk X.N X.env.scope sc N' cap) (hi : PI X tg iter wi)
    (hg : ∀ C s H fp, PG (cxC X N' sc C s H fp) tg g) (ht : ∀ C s H fp, PIfs (cxC X N' sc C s H fp) ifs tt) (he : ∀ C s H fp, PE (cxC X N' sc C s H fp) elt te)
    (hs : ∀ x, foldedSetIterable iter X.env x = pure x) {use : Option (Value → Sem Unit)} {Fin : Value → Shared → Prop} {pos' : Pos}
    {pins : List (Addr × Obj)} {s : Shared} {σ : St} {H : Hp} {Q : VK} (I : Inv X pins σ H s) (h : tLC wi cap g tt te σ H Q)
    (fin : ∀ D s' C m H', Inv X pins σ H' s' → Q (.ref D) H' → s'.heap.Ns C m → CFree X pins H' C → compPost (model X.prog X.w) X.A X.xe use Fin (.ref D) C (.ok .next) s') :
    wpAny (model X.prog X.w) X.A (comprehension (.ListComp elt [⟨tg, iter, ifs, 0⟩] sc pos) sc X.env pos' (newList []) false (eval iter X.env) use) Fin X.xe s := by
  refine wpAny_comprehension_free (use := use) rfl hs (closureFor_eq (lc_free I ck)) ck.kind ck.nms ?_
  refine thn (hi pins s σ H _ I h) fun v s1 h1 => thn h1 fun itv s2 h2 => ?_
  obtain ⟨it, fp, tn, J, H2, e, I2, T, st2, f2, h2⟩ := h2
  subst e
  have hD : H2 s2.heap.objs.size = none := I2.hok.fresh (Nat.le_refl _)
  obtain ⟨W, ⟨m0, w0⟩, turn⟩ := h2 s2.heap.objs.size hD
  refine wpAny_newObj_type ?_
  have I3 : Inv X pins σ (upd H2 s2.heap.objs.size (.lst [])) { s2 with heap := s2.heap.push { cls := .type "list", data := .seq ([] : List Value).toArray } } := I2.lnew (its := []) (ys := []) (t' := s2.toks) .nil (Nat.zero_le _)
  generalize hs3 : ({ s2 with heap := s2.heap.push { cls := .type "list", data := .seq ([] : List Value).toArray } } : Shared) = s3 at I3
  generalize hH3 : upd H2 s2.heap.objs.size (.lst []) = H3 at I3 w0
  have hlt2 : ∀ b ∈ fp, b < s2.heap.objs.size := fun b hb => by
    obtain ⟨o, e, _⟩ := T.obj _ _ st2 b hb
    exact Heap.lt_size e
  have sz3 : s3.heap.objs.size = s2.heap.objs.size + 1 := by rw [← hs3]; exact Heap.size_push _ _
  have hlt3 : ∀ b ∈ fp, b < s3.heap.objs.size := fun b hb => by rw [sz3]; exact Nat.lt_succ_of_lt (hlt2 b hb)
  have f3 : ∀ b ∈ fp, FpOk X pins H3 b := fun b hb => by
    refine ⟨?_, (f2 b hb).2⟩
    rw [← hH3, upd_ne (Nat.ne_of_lt (hlt2 b hb))]
    exact (f2 b hb).1
  have st3 : tn 0 s3.heap := T.keep _ _ _ st2 fun b _ o e => by rw [← hs3]; exact Heap.get?_push_of_some _ e
  refine wpAny_newFunctionEnv ck.nocell (by intro y hy; simp at hy) (fun h₁ hns₁ hsb₁ => ?_) ck.kind
  have hk : ∀ b o, s3.heap.get? b = some o → h₁.get? b = some o := fun b o e => hsb₁.extBut b o (Nat.ne_of_lt (Heap.lt_size e)) (Heap.get?_push_of_some _ e)
  have I4 := lc_inv (C := s3.heap.objs.size) (t' := s3.toks + ([] : List (Str × Value)).length) I3 ck f3 hlt3 rfl hns₁ hk
  generalize hs4 : ({ s3 with heap := h₁, toks := s3.toks + ([] : List (Str × Value)).length } : Shared) = s4 at I4 ⊢
  have st4 : tn 0 s4.heap := T.keep _ _ _ st3 fun b _ o e => by rw [← hs4]; exact hk b o e
  have stat : ∀ {H' : Hp} {pins' : List (Addr × Obj)}, (∀ p ∈ pins', p.1 ∉ fp) → (∀ b ∈ fp, H' b = none) → ∀ b ∈ fp, FpOk (cxC X N' sc s3.heap.objs.size s3 H3 fp) pins' H' b := fun {H' pins'} hp hn b hb =>
    ⟨hn b hb, Nat.ne_of_lt (hlt3 b hb), fun z => by
      rcases List.mem_cons.mp (I3.stkSub b z) with z | z
      · exact (f3 b hb).2.1 z
      · exact (f3 b hb).2.2.1 z, .inl hb, fun x c e => (f3 b hb).2.2.2.2.1 x c (lc_look I3 ck e), fun p hp' z => hp p hp' (by rw [z]; exact hb)⟩
  have loop : codeAny (model X.prog X.w) X.A (.compLoop (.ListComp elt [⟨tg, iter, ifs, 0⟩] sc pos) 0 (.ref it) (.ref s2.heap.objs.size) (compEnvC sc (closeL X.env sc.names []) s3.heap.objs.size X.env))
      (compPost (model X.prog X.w) X.A X.xe use Fin (.ref s2.heap.objs.size) s3.heap.objs.size) s4 := by
    refine codeAny_compLoop_go (fun n s' => ∃ i ys σ' H', Inv (cxC X N' sc s3.heap.objs.size s3 H3 fp) [] σ' H' s' ∧ keepsSt (capSt cap σ) σ' ∧ tn i s'.heap ∧ (∀ b ∈ fp, H' b = none) ∧ W i n ys H') ?_ m0
      ⟨0, [], capSt cap σ, H3, I4, keepsSt_refl _, st4, fun b hb => (f3 b hb).1, w0⟩
    rintro n s5 ⟨i, ys, σ5, H5, I5, k5, st5, fr5, w5⟩
    have kk := keepsSt_ok k5
    have I5 := I5.weak (σ' := capSt cap σ) kk.1 kk.2
    rcases turn i n ys H5 w5 with ⟨stop, q⟩ | ⟨go, N, hN, step⟩
    · refine thn (T.done (cxC X N' sc s3.heap.objs.size s3 H3 fp) rfl rfl rfl hc i [] s5 _ H5 _ I5 (stat (fun p hp => by cases hp) fr5) st5 stop) fun r s6 ⟨hr, I6⟩ => ?_
      subst hr
      obtain ⟨m6, n6, _⟩ := I6.loc
      exact fin _ s6 _ m6 H5 (lc_back I3 f3 I6) q n6 (lc_cfree I3 rfl I6)
    · refine thn (T.item (cxC X N' sc s3.heap.objs.size s3 H3 fp) rfl rfl rfl hc i [] s5 _ H5 _ I5 (stat (fun p hp => by cases hp) fr5) st5 go) fun r s6 ⟨u, hr, h6⟩ => ?_
      subst hr
      refine thn h6 fun _ s7 ⟨x, H7, I7, r7, y7, st7, fr7⟩ => ?_
      have I7' := I7.pinned (stat (fun p hp => by cases hp) fr7) (T.obj _ _ st7)
      have again : ∀ {σ9 : St} {H9 : Hp} {s9 : Shared} {ys' : List V}, Inv (cxC X N' sc s3.heap.objs.size s3 H3 fp) ([] ++ pinsAt fp s7.heap) σ9 H9 s9 → keepsSt (capSt cap σ) σ9 → N ys' H9 →
          ∃ m, m < n ∧ ∃ i ys σ' H', Inv (cxC X N' sc s3.heap.objs.size s3 H3 fp) [] σ' H' s9 ∧ keepsSt (capSt cap σ) σ' ∧ tn i s9.heap ∧ (∀ b ∈ fp, H' b = none) ∧ W i m ys H' := fun {σ9 H9 s9 ys'} I9 k9 n9 => by
        obtain ⟨m', hm, w9⟩ := hN ys' H9 n9
        refine ⟨m', hm, i + 1, ys', σ9, H9, I9.unpinned, k9, T.keep _ _ _ st7 fun b hb o e => (I9.pin (b, o) (List.mem_append_right _ (List.mem_append_right _ (mem_pinsAt hb e)))).1, fun b hb => ?_, w9⟩
        obtain ⟨o, e, d⟩ := T.obj _ _ st7 b hb
        exact (I9.pin (b, o) (List.mem_append_right _ (List.mem_append_right _ (mem_pinsAt hb e)))).2.1
      refine thn (hg _ _ _ _ _ s7 _ H7 x u _ I7' r7 (step x H7 y7)) fun _ s8 ⟨σ8, H8, I8, k8, q8⟩ => ?_
      refine thn (ht _ _ _ _ _ s8 σ8 H8 _ I8 q8) fun b s9 ⟨H9, I9, q9⟩ => ?_
      cases b with
      | false =>
        rw [if_neg Bool.false_ne_true] at q9 ⊢
        exact again I9 k8 q9
      | true =>
        rw [if_pos rfl] at q9 ⊢
        refine thn (he _ _ _ _ _ s9 σ8 H9 _ I9 q9) fun y s10 ⟨vy, H10, I10, r10, zs, hacc, hsz, q10⟩ => ?_
        refine thn (mt_append _ s10 σ8 H10 (.ref s2.heap.objs.size) [vy] (.ref s2.heap.objs.size) [y] (fun _ H' => N (zs ++ [vy]) H') I10 rfl (.cons r10 .nil) ⟨_, zs, vy, rfl, rfl, hacc, hsz, q10⟩) fun _ s11 ⟨_, H11, I11, _, q11⟩ => ?_
        exact again I11 k8 q11
  exact codeAny_compStart_list loop (T.self _ 0 _ _ _ st4 loop)

/-- a list comprehension with one clause -/
theorem pe_lc {N₀ : List Str} {so : Scope} (hc : X.calm = true) (hNN : X.N = N₀) (hso : X.env.scope = so) (ck : capB N₀ so sc N' cap = true) (hi : PI X tg iter wi)
    (hg : ∀ C s H fp, PG (cxC X N' sc C s H fp) tg g) (ht : ∀ C s H fp, PIfs (cxC X N' sc C s H fp) ifs tt) (he : ∀ C s H fp, PE (cxC X N' sc C s H fp) elt te)
    (hs : ∀ x, foldedSetIterable iter X.env x = pure x := by intro _; rfl) : PE X (.ListComp elt [⟨tg, iter, ifs, 0⟩] sc pos) (tLC wi cap g tt te) := by
  intro pins s σ H Q I h
  rw [eval_ListComp]
  subst hNN hso
  refine lc_core hc (capB_ok ck) hi hg ht he hs (use := none) I h fun D s' C m H' I' q hn F => ?_
  exact ⟨m, hn, fun h' hs' => ⟨.ref D, H', F.after (t' := s'.toks) I' (fun b o hb e => hs'.extBut b o hb e), rfl, q⟩⟩
/-- name = [..], both on one row, the name a local one: it is stored ahead of the block's end -/
theorem ps_setLC {N₀ : List Str} {so : Scope} {i : Nat} {x : Str} {pos' spos : Pos} (hN : X.N.Nodup) (hx : X.N[i]? = some x) (hl : X.env.scope.names.lookup x = some .local) (hc : X.calm = true) (hNN : X.N = N₀) (hso : X.env.scope = so) (ck : capB N₀ so sc N' cap = true) (hi : PI X tg iter wi)
    (hg : ∀ C s H fp, PG (cxC X N' sc C s H fp) tg g) (ht : ∀ C s H fp, PIfs (cxC X N' sc C s H fp) ifs tt) (he : ∀ C s H fp, PE (cxC X N' sc C s H fp) elt te)
    (hsw : swapsWith (.ListComp elt [⟨tg, iter, ifs, 0⟩] sc pos) (some (.Name x pos')) spos.line X.env = pure true := by rfl)
    (hs : ∀ x, foldedSetIterable iter X.env x = pure x := by intro _; rfl) : PS X (.Assign [.Name x pos'] (.ListComp elt [⟨tg, iter, ifs, 0⟩] sc pos) spos) (tAsg (tLC wi cap g tt te) (gName i)) := by
  subst hNN hso
  intro pins s σ H D I h
  rw [exec_Assign_Name_used _ _ _ _ hsw]
  refine wpAny_bind (wpAny_standAt (wpAny_bind ?_))
  show wpAny _ X.A (do let _ ← comprehension (.ListComp elt [⟨tg, iter, ifs, 0⟩] sc pos) sc X.env _ (newList []) false (eval iter X.env) (some (assign (.Name x pos') X.env))) _ _ s
  refine wpAny_bind (wpAny_mono (lc_core hc (capB_ok ck) hi hg ht he hs (use := some (assign (.Name x pos') X.env)) (Fin := fun _ s' => SP X pins D .next s') I h fun d s' C m H' I' q hn F => ?_) (fun _ s' hq => wpAny_pure (wpAny_pure hq)) fun _ _ e => e)
  show wpAny _ _ (assign (.Name x pos') X.env (.ref d)) _ _ s'
  refine wpAny_assign_Name (store_ok2 I' hN hx (.inl hl) (v := .ref d) rfl (fun s'' I'' hd => ?_) (.inr hl))
  obtain ⟨a, hsb, ha⟩ := hd
  have hCa : C ≠ a := by
    rcases ha with z | z
    · rw [z]; exact F.loc
    · exact Ne.symm (F.cell _ _ z)
  exact ⟨m, hn.sameBut hsb hCa, fun h' hs' => ⟨_, H', F.after (t' := s''.toks) I'' (fun b o hb e => hs'.extBut b o hb e), q⟩⟩
end
end L2
namespace L2
open PySem PySem.Spec PyProof.Rows
/-! ### cuts: what holds between two parts, said once -/
section
variable {X : Cx} {st : Stmt} {rest : List Stmt} {t u : TS} {e : Expr} {te : TE} {tt : TT}
def tCut (t u : TS) : TS := fun D σ H => ∃ M : St → Hp → Prop, t { D with nx := M } σ H ∧ ∀ σ' H', M σ' H' → u D σ' H'
theorem pss_cut (h1 : PS X st t) (h2 : PSs X rest u) : PSs X (st :: rest) (tCut t u) := by
  intro pins s σ H D I h
  obtain ⟨M, h, hM⟩ := h
  refine wpAny_execs_cons (thn (h1 pins s σ H { D with nx := M } I h) fun f s1 q => ?_)
  cases f with
  | next =>
    obtain ⟨σ', H', I', q⟩ := q
    exact h2 pins s1 σ' H' D I' (hM _ _ q)
  | ret v => exact q
  | brk => exact q
  | cont => exact q
def tCutE (te : TE) : TE := fun σ H Q => ∃ M : VK, te σ H M ∧ ∀ v H', M v H' → Q v H'
theorem pe_cut (h : PE X e te) : PE X e (tCutE te) := by
  intro pins s σ H Q I q
  obtain ⟨M, q, hM⟩ := q
  exact thn (h pins s σ H M I q) fun v s1 ⟨x, H1, I1, r1, q1⟩ => ⟨x, H1, I1, r1, hM _ _ q1⟩
def tCutT (tt : TT) : TT := fun σ H Q => ∃ M : Bool → Hp → Prop, tt σ H M ∧ ∀ v H', M v H' → Q v H'
theorem pt_cut (h : PT X e tt) : PT X e (tCutT tt) := by
  intro pins s σ H Q I q
  obtain ⟨M, q, hM⟩ := q
  exact thn (h pins s σ H M I q) fun v s1 ⟨H1, I1, q1⟩ => ⟨H1, I1, hM _ _ q1⟩
end
end L2
namespace L2
open PySem PySem.Spec PyProof.Rows

/-! ### data: what a value is worth through the heap -/
mutual
def DV (H : Hp) : PyData → V → Prop
  | .none, x => x = .non
  | .bool b, x => x = .bl b
  | .int i, x => x = .int i
  | .str s, x => x = .str s
  | .list ds, x => ∃ a vs, x = .ref a ∧ H a = some (.lst vs) ∧ DVs H ds vs
  | .tuple ds, x => ∃ a vs, x = .ref a ∧ H a = some (.tup vs) ∧ DVs H ds vs
  | .dict _, _ => False
def DVs (H : Hp) : List PyData → List V → Prop
  | [], vs => vs = []
  | d :: ds, vs => ∃ v r, vs = v :: r ∧ DV H d v ∧ DVs H ds r
end
mutual
theorem DV.reads {P : Program} {w : World} {H : Hp} {h : Heap} (ok : HOk P w H h) : ∀ {d : PyData} {x : V} {u : Value}, DV H d x → RelV x u → ∃ as, Reads h u d as
  | .none, x, u, q, r => by
    unfold DV at q; subst q
    cases (show u = Value.none from r); exact ⟨_, .none⟩
  | .bool b, x, u, q, r => by
    unfold DV at q; subst q
    cases (show u = Value.bool b from r); exact ⟨_, .bool b⟩
  | .int i, x, u, q, r => by
    unfold DV at q; subst q
    obtain ⟨t, e⟩ := (show ∃ t, u = Value.int i t from r); subst e; exact ⟨_, .int i t⟩
  | .str s, x, u, q, r => by
    unfold DV at q; subst q
    obtain ⟨t, e⟩ := (show ∃ t, u = Value.str s t from r); subst e; exact ⟨_, .str s t⟩
  | .list ds, x, u, q, r => by
    unfold DV at q
    obtain ⟨a, vs, e, ha, q⟩ := q
    subst e
    cases (show u = Value.ref a from r)
    obtain ⟨_, its, n, rv, e⟩ := ok a _ ha
    obtain ⟨as, rd⟩ := DVs.reads ok q rv
    exact ⟨_, .list e rfl rfl (by simpa using rd)⟩
  | .tuple ds, x, u, q, r => by
    unfold DV at q
    obtain ⟨a, vs, e, ha, q⟩ := q
    subst e
    cases (show u = Value.ref a from r)
    obtain ⟨_, its, rv, o, e, c, n, d⟩ := ok a _ ha
    obtain ⟨as, rd⟩ := DVs.reads ok q rv
    exact ⟨_, .tuple e c d (by simpa using rd)⟩
  | .dict _, x, u, q, r => by unfold DV at q; exact q.elim
theorem DVs.reads {P : Program} {w : World} {H : Hp} {h : Heap} (ok : HOk P w H h) : ∀ {ds : List PyData} {vs : List V} {us : List Value}, DVs H ds vs → Vals vs us → ∃ as, ReadsAll h us ds as
  | [], vs, us, q, r => by
    unfold DVs at q; subst q
    cases r
    exact ⟨_, .nil⟩
  | d :: ds, vs, us, q, r => by
    unfold DVs at q
    obtain ⟨v, rr, e, q1, q2⟩ := q
    subst e
    cases r with
    | cons r1 r2 =>
      obtain ⟨as, h1⟩ := DV.reads ok q1 r1
      obtain ⟨bs, h2⟩ := DVs.reads ok q2 r2
      exact ⟨_, .cons h1 h2⟩
end
/-- a value of flat kind -/
def rEqD : R2 := fun x y H Q => ∃ d e, DV H d x ∧ DV H e y ∧ SeqAt.shaped d = true ∧ SeqAt.shaped e = true ∧ Q (.bl (PyData.eqv d e)) H
def rNeD : R2 := fun x y H Q => ∃ d e, DV H d x ∧ DV H e y ∧ SeqAt.shaped d = true ∧ SeqAt.shaped e = true ∧ Q (.bl (!PyData.eqv d e)) H
section
variable {X : Cx}
theorem op_eqD (hu : X.A.units + 66 < cLine) : OpR X (compareOp .Eq) rEqD := by
  intro pins s σ H x y v u Q I rx ry h
  obtain ⟨d, e, h1, h2, h3, h4, q⟩ := h
  obtain ⟨as, r1⟩ := h1.reads I.hok rx
  obtain ⟨bs, r2⟩ := h2.reads I.hok ry
  exact eq_dataH r1 r2 h3 h4 (by omega) ⟨.bl _, H, I, rfl, q⟩
theorem op_neD (hu : X.A.units + 66 < cLine) : OpR X (compareOp .NotEq) rNeD := by
  intro pins s σ H x y v u Q I rx ry h
  obtain ⟨d, e, h1, h2, h3, h4, q⟩ := h
  obtain ⟨as, r1⟩ := h1.reads I.hok rx
  obtain ⟨bs, r2⟩ := h2.reads I.hok ry
  exact ne_dataH r1 r2 h3 h4 (by omega) ⟨.bl _, H, I, rfl, q⟩
/-- x in a list or a tuple of data -/
def rInD (neg : Bool) : R2 := fun x y H Q => ∃ d p ds vs, DV H d x ∧ y = .ref p ∧ (H p = some (.lst vs) ∨ H p = some (.tup vs)) ∧ DVs H ds vs ∧ SeqAt.shaped d = true ∧ SeqAt.shaped (.list ds) = true ∧
  Q (.bl (if neg then !(ds.any fun y => PyData.eqv y d) else ds.any fun y => PyData.eqv y d)) H
theorem op_inD (hu : X.A.units + 66 < cLine) : OpR X (compareOp .In) (rInD false) := by
  intro pins s σ H x y v u Q I rx ry h
  obtain ⟨d, p, ds, vs, h1, e, h2, h3, h4, h5, q⟩ := h
  subst e
  obtain ⟨as, r1⟩ := h1.reads I.hok rx
  have hb : PyData.canLayAll0 ds = true := by have := SeqAt.canLay_of_shaped h5; simpa [PyData.canLay0] using this
  have hd := SeqAt.canLay_of_shaped h4
  have hdep := SeqAt.depth_of_shaped h4
  have hm : X.A.units + 1 + min (PyData.depthAll ds) d.depth < cLine := by have := Nat.min_le_right (PyData.depthAll ds) d.depth; omega
  rcases h2 with h2 | h2
  · obtain ⟨bs, r2⟩ := (show DV H (.list ds) (.ref p) by unfold DV; exact ⟨p, vs, rfl, h2, h3⟩).reads I.hok ry
    exact SeqAt.in_list_reads r2 r1 hb hd hm ⟨.bl _, H, I, rfl, q⟩
  · obtain ⟨bs, r2⟩ := (show DV H (.tuple ds) (.ref p) by unfold DV; exact ⟨p, vs, rfl, h2, h3⟩).reads I.hok ry
    exact SeqAt.in_tuple_reads r2 r1 hb hd hm ⟨.bl _, H, I, rfl, q⟩
theorem op_notInD (hu : X.A.units + 66 < cLine) : OpR X (compareOp .NotIn) (rInD true) := by
  intro pins s σ H x y v u Q I rx ry h
  obtain ⟨d, p, ds, vs, h1, e, h2, h3, h4, h5, q⟩ := h
  subst e
  obtain ⟨as, r1⟩ := h1.reads I.hok rx
  have hb : PyData.canLayAll0 ds = true := by have := SeqAt.canLay_of_shaped h5; simpa [PyData.canLay0] using this
  have hd := SeqAt.canLay_of_shaped h4
  have hdep := SeqAt.depth_of_shaped h4
  have hm : X.A.units + 1 + min (PyData.depthAll ds) d.depth < cLine := by have := Nat.min_le_right (PyData.depthAll ds) d.depth; omega
  rcases h2 with h2 | h2
  · obtain ⟨bs, r2⟩ := (show DV H (.list ds) (.ref p) by unfold DV; exact ⟨p, vs, rfl, h2, h3⟩).reads I.hok ry
    exact SeqAt.notIn_list_reads r2 r1 hb hd hm ⟨.bl _, H, I, rfl, q⟩
  · obtain ⟨bs, r2⟩ := (show DV H (.tuple ds) (.ref p) by unfold DV; exact ⟨p, vs, rfl, h2, h3⟩).reads I.hok ry
    exact SeqAt.notIn_tuple_reads r2 r1 hb hd hm ⟨.bl _, H, I, rfl, q⟩
/-- // by a positive number below 2^64 -/
def CDivL (_ j : Int) : Prop := 0 < j ∧ j < 2 ^ 64
theorem op_fdivL : OpR X (binaryOp .FloorDiv) (rI CDivL fun i j => .int (i / j)) := opI fun i j _ _ _ _ _ hc q => by
  have h1 : (0 : Int) < j := hc.1
  have h2 : j < 2 ^ 64 := hc.2
  refine floordiv_int (by omega) ?_ (.inl (PyProof.noPylong_of_log2 ?_))
  · rw [Int.fdiv_eq_ediv_of_nonneg i (by omega)]; exact q
  · have h3 : j.natAbs < 2 ^ 64 := by omega
    have h4 : j.natAbs.log2 < 64 := (Nat.log2_lt (by omega)).mpr h3
    omega
/-- isinstance(x, T), T a built-in type -/
def rIsT (K : PySem.W.Frag) : List V → Hp → VK → Prop := fun xs H Q => ∃ x T t b, xs = [x, .ty T] ∧ TyOf K H x t ∧ PySem.W.kitOne K t (.type T) = some b ∧ Q (.bl b) H
theorem call_isT : CallR X (.builtin "isinstance") (rIsT X.K) := by
  intro pins s σ H xs us Q I r h
  obtain ⟨x, T, t, b, rfl, ty, e, q⟩ := h
  obtain ⟨u, w', rfl, r1, r2⟩ := vals2 r
  cases (show w' = Value.type T from r2)
  exact isinst_ok I r1 ty e fun tk => ⟨.bl b, H, I.tok tk, rfl, q⟩
/-- min of a list of ints -/
def rMinL (K : PySem.W.Frag) : List V → Hp → VK → Prop := fun xs H Q => ∃ (p : Addr) (ns : List Int), xs = [.ref p] ∧ SqL K H p (ns.map V.int) ∧ 0 < ns.length ∧ ∀ M, M ∈ ns → (∀ a, a ∈ ns → M ≤ a) → Q (.int M) H
theorem call_minL (hc : X.calm = true) : CallR X (.builtin "min") (rMinL X.K) := by
  intro pins s σ H xs us Q I r h
  obtain ⟨p, ns, rfl, hq, hne, q⟩ := h
  obtain ⟨u, rfl, r1⟩ := vals1 r
  cases r1
  obtain ⟨its, rv, pl, _⟩ := I.list hq
  have hi := intsAre_of rv
  obtain ⟨xs, e⟩ := hi.allInts.items
  have hns : ns = xs.toList.map (·.1) := by
    rw [← hi.numsOf, ← nums_intItems, ← e]
  have hsz : 0 < xs.size := by
    have h3 := hne; rw [hns, List.length_map, Array.length_toList] at h3; exact h3
  have hl := pl.isList
  rw [e] at hl
  refine min_intList (I.ok.hd hc) hl hsz fun v h' tk hv hk => ?_
  obtain ⟨t, rfl⟩ := intItems_at hv
  obtain ⟨h1, h2⟩ := argBest_lt (numAt xs) (xs.size - 1)
  refine ⟨.int _, H, I.kept hk, ⟨t, rfl⟩, q _ ?_ fun a ha => ?_⟩
  · rw [hns, numAt_eq]; exact getD_mem (by rw [List.length_map, Array.length_toList]; omega)
  · rw [hns] at ha
    obtain ⟨j, hj, rfl⟩ := mem_getD ha
    rw [List.length_map, Array.length_toList] at hj
    rw [← numAt_eq]; exact h2 j (by omega)
end
end L2

namespace L3
open PySem PySem.Spec PyProof.Rows L2
/-! ## L3: the layer L2 with tuples as trees. Lists, dicts and instances stand in a heap G; what is written in G alone is spoken of -/
inductive Z where
  | non | bl (b : Bool) | int (i : Int) | str (x : Str) | ref (a : Addr) | ty (n : String) | scr (a : Addr) (ns : List Int)
  | tup (ws : List Z)
mutual
def eqZ : Z → Z → Bool
  | .non, .non => true
  | .bl a, .bl b => a == b
  | .int a, .int b => decide (a = b)
  | .str a, .str b => decide (a = b)
  | .ref a, .ref b => decide (a = b)
  | .ty a, .ty b => decide (a = b)
  | .scr a ns, .scr b ms => decide (a = b) && decide (ns = ms)
  | .tup a, .tup b => eqZs a b
  | _, _ => false
def eqZs : List Z → List Z → Bool
  | [], [] => true
  | a :: as, b :: bs => eqZ a b && eqZs as bs
  | _, _ => false
end
mutual
theorem eqZ_iff : ∀ x y : Z, eqZ x y = true ↔ x = y
  | .tup a, y => by
    cases y with
    | tup b => simp only [eqZ, Z.tup.injEq]; exact eqZs_iff a b
    | _ => simp [eqZ]
  | .non, y => by cases y <;> simp [eqZ]
  | .bl _, y => by cases y <;> simp [eqZ]
  | .int _, y => by cases y <;> simp [eqZ]
  | .str _, y => by cases y <;> simp [eqZ]
  | .ref _, y => by cases y <;> simp [eqZ]
  | .ty _, y => by cases y <;> simp [eqZ]
  | .scr _ _, y => by cases y <;> simp [eqZ]
theorem eqZs_iff : ∀ x y : List Z, eqZs x y = true ↔ x = y
  | [], y => by cases y <;> simp [eqZs]
  | a :: as, y => by
    cases y with
    | nil => simp [eqZs]
    | cons b bs => simp only [eqZs, Bool.and_eq_true, List.cons.injEq, eqZ_iff a b, eqZs_iff as bs]
end
instance : DecidableEq Z := fun x y => decidable_of_iff _ (eqZ_iff x y)

/-! ### what stands for what -/
section
variable {K : PySem.W.Frag} {H H' H1 H2 : Hp} {a p : Addr} {xs : List V}
/-- a list that nobody writes: the script -/
def Fz (K : PySem.W.Frag) (H : Hp) (a : Addr) (xs : List V) : Prop :=
  (∃ o, H a = some (.frz o (.lst xs))) ∨ ∃ (o : Obj) (its : Array Value) (n : Nat), K.lookup a = some o ∧ o.cls = .type "list" ∧ o.dict = none ∧ o.data = .seq its n ∧ its.size ≤ sizeLine ∧ Vals xs its.toList
theorem Fz.sq (h : Fz K H a xs) : SqL K H a xs := by
  rcases h with ⟨o, h⟩ | h
  · exact .inl (.inr ⟨o, h⟩)
  · exact .inr h
theorem Fz.of (hO : Only H) (h : SqL K H a xs) : Fz K H a xs := by
  rcases h with (h | h) | h
  · rcases hO a with z | ⟨o, ys, z⟩
    · rw [h] at z; cases z
    · rw [h] at z; cases z
  · exact .inl h
  · exact .inr h
/-- tuples stay, the script stays -/
structure TK (K : PySem.W.Frag) (H H' : Hp) : Prop where
  tup : ∀ a xs, H a = some (.tup xs) → H' a = some (.tup xs)
  frz : ∀ a xs, Fz K H a xs → Fz K H' a xs
theorem TK.refl (K : PySem.W.Frag) (H : Hp) : TK K H H := ⟨fun _ _ h => h, fun _ _ h => h⟩
theorem TK.trans (a : TK K H H1) (b : TK K H1 H2) : TK K H H2 := ⟨fun c xs h => b.tup c xs (a.tup c xs h), fun c xs h => b.frz c xs (a.frz c xs h)⟩
theorem TK.upd {o : HO} (h : ∀ xs, H p ≠ some (.tup xs)) (h2 : ∀ o u, H p ≠ some (.frz o u)) : TK K H (L2.upd H p o) := by
  refine ⟨fun c xs e => ?_, fun c xs e => ?_⟩
  · rw [upd_ne (by rintro rfl; exact h _ e)]; exact e
  · rcases e with ⟨o', e⟩ | e
    · exact .inl ⟨o', by rw [upd_ne (by rintro rfl; exact h2 _ _ e)]; exact e⟩
    · exact .inr e
theorem TK.new {o : HO} (h : H p = none) : TK K H (L2.upd H p o) := .upd (fun xs e => by rw [h] at e; cases e) (fun o u e => by rw [h] at e; cases e)
theorem TK.lst {o : HO} (h : H p = some (.lst xs)) : TK K H (L2.upd H p o) := .upd (fun xs e => by rw [h] at e; cases e) (fun o u e => by rw [h] at e; cases e)
theorem TK.dK {o : HO} {kvs : List (Key × V)} (h : H p = some (.dK kvs)) : TK K H (L2.upd H p o) := .upd (fun xs e => by rw [h] at e; cases e) (fun o u e => by rw [h] at e; cases e)
theorem TK.ins {o : HO} {C dx : Addr} {fs : List (Str × V)} (h : H p = some (.ins C dx fs)) : TK K H (L2.upd H p o) := .upd (fun xs e => by rw [h] at e; cases e) (fun o u e => by rw [h] at e; cases e)
end

mutual
def Rep (K : PySem.W.Frag) (H : Hp) : Z → V → Prop
  | .non, v => v = .non
  | .bl b, v => v = .bl b
  | .int i, v => v = .int i
  | .str x, v => v = .str x
  | .ref a, v => v = .ref a
  | .ty n, v => v = .ty n
  | .scr a ns, v => v = .ref a ∧ Fz K H a (ns.map V.int)
  | .tup ws, v => ∃ a vs, v = .ref a ∧ H a = some (.tup vs) ∧ Reps K H ws vs
def Reps (K : PySem.W.Frag) (H : Hp) : List Z → List V → Prop
  | [], vs => vs = []
  | w :: ws, vs => ∃ v r, vs = v :: r ∧ Rep K H w v ∧ Reps K H ws r
end
section
variable {K : PySem.W.Frag} {H H' : Hp}
theorem rep_non {v : V} : Rep K H .non v = (v = .non) := by unfold Rep; rfl
theorem rep_bl {b : Bool} {v : V} : Rep K H (.bl b) v = (v = .bl b) := by unfold Rep; rfl
theorem rep_int {i : Int} {v : V} : Rep K H (.int i) v = (v = .int i) := by unfold Rep; rfl
theorem rep_str {x : Str} {v : V} : Rep K H (.str x) v = (v = .str x) := by unfold Rep; rfl
theorem rep_ref {a : Addr} {v : V} : Rep K H (.ref a) v = (v = .ref a) := by unfold Rep; rfl
theorem rep_ty {n : String} {v : V} : Rep K H (.ty n) v = (v = .ty n) := by unfold Rep; rfl
theorem rep_scr {a : Addr} {ns : List Int} {v : V} : Rep K H (.scr a ns) v = (v = .ref a ∧ Fz K H a (ns.map V.int)) := by unfold Rep; rfl
theorem rep_tup {ws : List Z} {v : V} : Rep K H (.tup ws) v = (∃ a vs, v = .ref a ∧ H a = some (.tup vs) ∧ Reps K H ws vs) := by conv => lhs; unfold Rep
theorem reps_nil {vs : List V} : Reps K H [] vs = (vs = []) := by unfold Reps; rfl
theorem reps_cons {w : Z} {ws : List Z} {vs : List V} : Reps K H (w :: ws) vs = (∃ v r, vs = v :: r ∧ Rep K H w v ∧ Reps K H ws r) := by conv => lhs; unfold Reps
mutual
theorem Rep.mono (t : TK K H H') : ∀ (w : Z) (v : V), Rep K H w v → Rep K H' w v
  | .tup ws, v, h => by
    rw [rep_tup] at h ⊢
    obtain ⟨a, vs, e, h, r⟩ := h
    exact ⟨a, vs, e, t.tup _ _ h, Reps.mono t ws vs r⟩
  | .scr a ns, v, h => by
    rw [rep_scr] at h ⊢
    exact ⟨h.1, t.frz _ _ h.2⟩
  | .non, v, h => by rw [rep_non] at h ⊢; exact h
  | .bl _, v, h => by rw [rep_bl] at h ⊢; exact h
  | .int _, v, h => by rw [rep_int] at h ⊢; exact h
  | .str _, v, h => by rw [rep_str] at h ⊢; exact h
  | .ref _, v, h => by rw [rep_ref] at h ⊢; exact h
  | .ty _, v, h => by rw [rep_ty] at h ⊢; exact h
theorem Reps.mono (t : TK K H H') : ∀ (ws : List Z) (vs : List V), Reps K H ws vs → Reps K H' ws vs
  | [], vs, h => by rw [reps_nil] at h ⊢; exact h
  | w :: ws, vs, h => by
    rw [reps_cons] at h ⊢
    obtain ⟨v, r, e, h1, h2⟩ := h
    exact ⟨v, r, e, Rep.mono t w v h1, Reps.mono t ws r h2⟩
end
theorem Reps.cons {w : Z} {v : V} {ws : List Z} {vs : List V} (a : Rep K H w v) (b : Reps K H ws vs) : Reps K H (w :: ws) (v :: vs) := by rw [reps_cons]; exact ⟨v, vs, rfl, a, b⟩
theorem Reps.nil : Reps K H [] [] := by rw [reps_nil]
theorem Reps.length : ∀ {ws : List Z} {vs : List V}, Reps K H ws vs → ws.length = vs.length
  | [], vs, h => by rw [reps_nil] at h; rw [h]; rfl
  | w :: ws, vs, h => by
    rw [reps_cons] at h
    obtain ⟨v, r, e, _, h2⟩ := h
    rw [e, List.length_cons, List.length_cons, Reps.length h2]
theorem Reps.get : ∀ {ws : List Z} {vs : List V} {i : Nat} {w : Z}, Reps K H ws vs → ws[i]? = some w → ∃ v, vs[i]? = some v ∧ Rep K H w v
  | [], _, _, _, _, e => by simp at e
  | w :: ws, vs, i, x, h, e => by
    rw [reps_cons] at h
    obtain ⟨v, r, rfl, h1, h2⟩ := h
    cases i with
    | zero => simp at e; subst e; exact ⟨v, rfl, h1⟩
    | succ i => simpa using Reps.get (i := i) h2 (by simpa using e)
theorem Reps.tog {ws : List Z} {vs : List V} {i : Nat} {v : V} (h : Reps K H ws vs) (e : vs[i]? = some v) : ∃ w, ws[i]? = some w ∧ Rep K H w v := by
  have hl := h.length
  have hi : i < ws.length := by
    have := (List.getElem?_eq_some_iff.mp e).1
    omega
  obtain ⟨v', e', r⟩ := h.get (List.getElem?_eq_getElem hi)
  rw [e] at e'
  cases e'
  exact ⟨_, List.getElem?_eq_getElem hi, r⟩
theorem Reps.append : ∀ {ws ws' : List Z} {vs vs' : List V}, Reps K H ws vs → Reps K H ws' vs' → Reps K H (ws ++ ws') (vs ++ vs')
  | [], _, vs, _, h, h' => by rw [reps_nil] at h; subst h; exact h'
  | w :: ws, _, vs, _, h, h' => by
    rw [reps_cons] at h
    obtain ⟨v, r, rfl, h1, h2⟩ := h
    exact .cons h1 (Reps.append h2 h')
theorem Reps.drop : ∀ {ws : List Z} {vs : List V} (n : Nat), Reps K H ws vs → Reps K H (ws.drop n) (vs.drop n)
  | [], vs, n, h => by rw [reps_nil] at h; subst h; simpa using Reps.nil
  | w :: ws, vs, 0, h => h
  | w :: ws, vs, n + 1, h => by
    rw [reps_cons] at h
    obtain ⟨v, r, rfl, h1, h2⟩ := h
    exact Reps.drop n h2
theorem Reps.take : ∀ {ws : List Z} {vs : List V} (n : Nat), Reps K H ws vs → Reps K H (ws.take n) (vs.take n)
  | [], vs, n, h => by rw [reps_nil] at h; subst h; simpa using Reps.nil
  | w :: ws, vs, 0, h => by simpa using Reps.nil
  | w :: ws, vs, n + 1, h => by
    rw [reps_cons] at h
    obtain ⟨v, r, rfl, h1, h2⟩ := h
    exact .cons h1 (Reps.take n h2)
theorem Reps.set {w : Z} {v : V} (r : Rep K H w v) : ∀ {ws : List Z} {vs : List V} (i : Nat), Reps K H ws vs → Reps K H (ws.set i w) (vs.set i v)
  | [], vs, i, h => by rw [reps_nil] at h; subst h; simpa using Reps.nil
  | x :: ws, vs, i, h => by
    rw [reps_cons] at h
    obtain ⟨y, s, rfl, h1, h2⟩ := h
    cases i with
    | zero => exact .cons r h2
    | succ i => exact .cons h1 (Reps.set r i h2)
theorem Reps.reverse : ∀ {ws : List Z} {vs : List V}, Reps K H ws vs → Reps K H ws.reverse vs.reverse
  | [], vs, h => by rw [reps_nil] at h; subst h; exact Reps.nil
  | x :: ws, vs, h => by
    rw [reps_cons] at h
    obtain ⟨y, s, rfl, h1, h2⟩ := h
    rw [List.reverse_cons, List.reverse_cons]
    exact (Reps.reverse h2).append (.cons h1 .nil)
theorem reps_ints : ∀ {ns : List Int} {vs : List V}, Reps K H (ns.map Z.int) vs → vs = ns.map V.int
  | [], vs, h => by rw [List.map_nil, reps_nil] at h; subst h; rfl
  | n :: ns, vs, h => by
    rw [List.map_cons, reps_cons] at h
    obtain ⟨v, r, rfl, h1, h2⟩ := h
    rw [rep_int] at h1
    rw [h1, reps_ints h2]; rfl
theorem ints_reps : ∀ (ns : List Int), Reps K H (ns.map Z.int) (ns.map V.int)
  | [] => Reps.nil
  | n :: ns => .cons (by rw [rep_int]) (ints_reps ns)
theorem Reps.one {w : Z} {vs : List V} (h : Reps K H [w] vs) : ∃ v, vs = [v] ∧ Rep K H w v := by
  rw [reps_cons] at h
  obtain ⟨v, r, rfl, h1, h2⟩ := h
  rw [reps_nil] at h2
  exact ⟨v, by rw [h2], h1⟩
theorem Reps.two {w w' : Z} {vs : List V} (h : Reps K H [w, w'] vs) : ∃ v v', vs = [v, v'] ∧ Rep K H w v ∧ Rep K H w' v' := by
  rw [reps_cons] at h
  obtain ⟨v, r, rfl, h1, h2⟩ := h
  obtain ⟨v', rfl, h3⟩ := h2.one
  exact ⟨v, v', rfl, h1, h3⟩
end

/-! ### the heap that is spoken of -/
inductive O where
  | lst (ws : List Z)
  | dK (kvs : List (Key × Z))
  | ins (C dx : Addr) (fs : List (Str × Z))
abbrev Hq := Addr → Option O
def put (G : Hq) (a : Addr) (o : O) : Hq := fun b => if b = a then some o else G b
theorem put_same {G : Hq} {a : Addr} {o : O} : put G a o a = some o := by unfold put; rw [if_pos rfl]
theorem put_ne {G : Hq} {a b : Addr} {o : O} (h : b ≠ a) : put G a o b = G b := by unfold put; rw [if_neg h]
theorem put_put {G : Hq} {a : Addr} {o u : O} : put (put G a o) a u = put G a u := by
  funext b; unfold put; split <;> rfl
theorem gne_none {G : Hq} {a b : Addr} {o : O} (h : G a = some o) (h' : G b = none) : a ≠ b := by
  intro e; subst e; rw [h] at h'; cases h'
theorem put_old {G : Hq} {a b : Addr} {o u : O} (h : G b = some u) (n : G a = none) : put G a o b = some u := by rw [put_ne (gne_none h n)]; exact h
def ROb (K : PySem.W.Frag) (H : Hp) (a : Addr) : O → Prop
  | .lst ws => ∃ vs, H a = some (.lst vs) ∧ Reps K H ws vs
  | .dK kvs => ∃ us, H a = some (.dK us) ∧ us.map (·.1) = kvs.map (·.1) ∧ Reps K H (kvs.map (·.2)) (us.map (·.2))
  | .ins C dx fs => ∃ gs, H a = some (.ins C dx gs) ∧ gs.map (·.1) = fs.map (·.1) ∧ Reps K H (fs.map (·.2)) (gs.map (·.2))
def RH (K : PySem.W.Frag) (G : Hq) (H : Hp) : Prop := ∀ a o, G a = some o → ROb K H a o
section
variable {K : PySem.W.Frag} {H H' : Hp} {G : Hq} {a p : Addr} {o : O} {u : HO}
theorem ROb.some (h : ROb K H a o) : ∃ u, H a = some u := by
  cases o with
  | lst ws => obtain ⟨vs, e, _⟩ := h; exact ⟨_, e⟩
  | dK kvs => obtain ⟨vs, e, _⟩ := h; exact ⟨_, e⟩
  | ins C dx fs => obtain ⟨vs, e, _⟩ := h; exact ⟨_, e⟩
theorem ROb.stay (t : TK K H H') (e : H' a = H a) (h : ROb K H a o) : ROb K H' a o := by
  cases o with
  | lst ws => obtain ⟨vs, q, r⟩ := h; exact ⟨vs, e.trans q, r.mono t⟩
  | dK kvs => obtain ⟨vs, q, n, r⟩ := h; exact ⟨vs, e.trans q, n, r.mono t⟩
  | ins C dx fs => obtain ⟨vs, q, n, r⟩ := h; exact ⟨vs, e.trans q, n, r.mono t⟩
theorem RH.out (h : RH K G H) (e : H a = none) : G a = none := by
  cases q : G a with
  | none => rfl
  | some o => obtain ⟨u, z⟩ := (h a o q).some; rw [e] at z; cases z
/-- a new thing that is not spoken of -/
theorem RH.hid (h : RH K G H) (e : H p = none) : RH K G (upd H p u) := fun b o q =>
  (h b o q).stay (.new e) (upd_ne (by rintro rfl; obtain ⟨u, z⟩ := (h _ o q).some; rw [e] at z; cases z))
theorem RH.set (h : RH K G H) (t : TK K H (upd H p u)) (n : ROb K (upd H p u) p o) : RH K (put G p o) (upd H p u) := fun b o' q => by
  by_cases hb : b = p
  · subst hb; rw [put_same] at q; cases q; exact n
  · rw [put_ne hb] at q
    exact (h b o' q).stay t (upd_ne hb)
end

/-! ### states, readings -/
abbrev S3 := List (Option Z)
abbrev K3 := Z → Hq → Prop
abbrev C3 := S3 → Hq → Prop
abbrev E3 := S3 → Hq → K3 → Prop
abbrev T3 := S3 → Hq → (Bool → Hq → Prop) → Prop
abbrev A3 := S3 → Hq → (List Z → Hq → Prop) → Prop
/-- a statement's reading: next, return, break, continue -/
abbrev X3 := C3 → K3 → C3 → C3 → S3 → Hq → Prop
def ROp (K : PySem.W.Frag) (H : Hp) (ow : Option Z) (ov : Option V) : Prop := ∀ w, ow = some w → ∃ v, ov = some v ∧ Rep K H w v
def RSt (K : PySem.W.Frag) (H : Hp) : S3 → L2.St → Prop := Paired (ROp K H)
section
variable {K : PySem.W.Frag} {H H' : Hp}
theorem RSt.mono (t : TK K H H') : ∀ {σ : S3} {τ : L2.St}, RSt K H σ τ → RSt K H' σ τ
  | _, _, .nil => .nil
  | _, _, .cons r s => .cons (fun w e => let ⟨v, q, h⟩ := r w e; ⟨v, q, h.mono t⟩) (RSt.mono t s)
theorem RSt.get : ∀ {σ : S3} {τ : L2.St} {i : Nat} {w : Z}, RSt K H σ τ → σ[i]? = some (some w) → ∃ v, τ[i]? = some (some v) ∧ Rep K H w v
  | _, _, _, _, .nil, e => by simp at e
  | _, _, 0, w, .cons r _, e => by
    obtain ⟨v, q, h⟩ := r w (by simpa using e)
    exact ⟨v, by rw [q]; rfl, h⟩
  | _, _, i + 1, w, .cons _ s, e => by
    obtain ⟨v, q, h⟩ := RSt.get (i := i) s (by simpa using e)
    exact ⟨v, by simpa using q, h⟩
theorem RSt.set {w : Z} {v : V} (r : Rep K H w v) : ∀ {σ : S3} {τ : L2.St} (i : Nat), RSt K H σ τ → RSt K H (σ.set i (some w)) (τ.set i (some v))
  | _, _, _, .nil => .nil
  | _, _, 0, .cons _ s => .cons (fun _ e => by cases e; exact ⟨v, rfl, r⟩) s
  | _, _, i + 1, .cons q s => .cons q (RSt.set r i s)
theorem RSt.length {σ : S3} {τ : L2.St} (h : RSt K H σ τ) : σ.length = τ.length := Paired.length h
theorem RSt.nones : ∀ n : Nat, RSt K H (List.replicate n none) (List.replicate n none)
  | 0 => .nil
  | n + 1 => .cons (fun _ e => nomatch e) (RSt.nones n)
theorem RSt.app : ∀ {σ σ' : S3} {τ τ' : L2.St}, RSt K H σ τ → RSt K H σ' τ' → RSt K H (σ ++ σ') (τ ++ τ')
  | _, _, _, _, .nil, h => h
  | _, _, _, _, .cons r s, h => .cons r (RSt.app s h)
theorem RSt.ofVals : ∀ {ws : List Z} {vs : List V}, Reps K H ws vs → RSt K H (ws.map some) (vs.map some)
  | [], vs, h => by rw [reps_nil] at h; subst h; exact .nil
  | w :: ws, vs, h => by
    rw [reps_cons] at h
    obtain ⟨v, r, rfl, h1, h2⟩ := h
    exact .cons (fun _ e => by cases e; exact ⟨v, rfl, h1⟩) (RSt.ofVals h2)
end
def start3 (N : List Str) (ws : List Z) : S3 := ws.map some ++ List.replicate (N.length - ws.length) none
theorem RSt.start {K : PySem.W.Frag} {H : Hp} {N : List Str} {ws : List Z} {vs : List V} (h : Reps K H ws vs) : RSt K H (start3 N ws) (L2.start N vs) := by
  unfold start3 L2.start
  rw [h.length]
  exact (RSt.ofVals h).app (RSt.nones _)

/-! ### from what is wanted there to what is wanted here -/
def UpV (K : PySem.W.Frag) (H : Hp) (R : K3) (Q : VK) : Prop := ∀ w G v H', R w G → Rep K H' w v → RH K G H' → TK K H H' → Q v H'
def UpB (K : PySem.W.Frag) (H : Hp) (R : Bool → Hq → Prop) (Q : Bool → Hp → Prop) : Prop := ∀ b G H', R b G → RH K G H' → TK K H H' → Q b H'
def UpA (K : PySem.W.Frag) (H : Hp) (R : List Z → Hq → Prop) (Q : List V → Hp → Prop) : Prop := ∀ ws G vs H', R ws G → Reps K H' ws vs → RH K G H' → TK K H H' → Q vs H'
def UpS (K : PySem.W.Frag) (H : Hp) (R : C3) (Q : L2.St → Hp → Prop) : Prop := ∀ σ G τ H', R σ G → RSt K H' σ τ → RH K G H' → TK K H H' → Q τ H'
section
variable {K : PySem.W.Frag} {H H' : Hp}
theorem UpV.mono {R : K3} {Q : VK} (h : UpV K H R Q) (t : TK K H H') : UpV K H' R Q := fun w G v H2 q r g t2 => h w G v H2 q r g (t.trans t2)
theorem UpB.mono {R : Bool → Hq → Prop} {Q : Bool → Hp → Prop} (h : UpB K H R Q) (t : TK K H H') : UpB K H' R Q := fun w G H2 q g t2 => h w G H2 q g (t.trans t2)
theorem UpA.mono {R : List Z → Hq → Prop} {Q : List V → Hp → Prop} (h : UpA K H R Q) (t : TK K H H') : UpA K H' R Q := fun w G v H2 q r g t2 => h w G v H2 q r g (t.trans t2)
theorem UpS.mono {R : C3} {Q : L2.St → Hp → Prop} (h : UpS K H R Q) (t : TK K H H') : UpS K H' R Q := fun w G v H2 q r g t2 => h w G v H2 q r g (t.trans t2)
end
def low (K : PySem.W.Frag) (t : E3) : TE := fun τ H Q => ∃ σ G R, RSt K H σ τ ∧ RH K G H ∧ t σ G R ∧ UpV K H R Q
def lowT (K : PySem.W.Frag) (t : T3) : TT := fun τ H Q => ∃ σ G R, RSt K H σ τ ∧ RH K G H ∧ t σ G R ∧ UpB K H R Q
def lowA (K : PySem.W.Frag) (t : A3) : TA := fun τ H Q => ∃ σ G R, RSt K H σ τ ∧ RH K G H ∧ t σ G R ∧ UpA K H R Q
def lowS (K : PySem.W.Frag) (t : X3) : TS := fun D τ H => ∃ σ G nx rt bk ct, RSt K H σ τ ∧ RH K G H ∧ t nx rt bk ct σ G ∧ UpS K H nx D.nx ∧ UpV K H rt D.rt ∧ UpS K H bk D.bk ∧ UpS K H ct D.ct
structure QE (X : Cx) (e : Expr) (t : E3) : Prop where
  p : PE X e (low X.K t)
structure QT (X : Cx) (e : Expr) (t : T3) : Prop where
  p : PT X e (lowT X.K t)
structure QW (X : Cx) (e : Expr) (t : T3) : Prop where
  p : PW X e (lowT X.K t)
structure QA (X : Cx) (es : List Expr) (t : A3) : Prop where
  p : PA X es (lowA X.K t)
structure QS (X : Cx) (st : Stmt) (t : X3) : Prop where
  p : PS X st (lowS X.K t)
structure QSs (X : Cx) (st : List Stmt) (t : X3) : Prop where
  p : PSs X st (lowS X.K t)
theorem QW.qt {X : Cx} {e : Expr} {t : T3} (h : QW X e t) : QT X e t := ⟨PW.pt h.p⟩
section
variable {X : Cx} {e : Expr} {es : List Expr} {st : Stmt} {sts : List Stmt}
theorem peImp {t t' : TE} (h : PE X e t') (i : ∀ σ H Q, t σ H Q → t' σ H Q) : PE X e t := fun pins s σ H Q I q => h pins s σ H Q I (i σ H Q q)
theorem ptImp {t t' : TT} (h : PT X e t') (i : ∀ σ H Q, t σ H Q → t' σ H Q) : PT X e t := fun pins s σ H Q I q => h pins s σ H Q I (i σ H Q q)
theorem pwImp {t t' : TT} (h : PW X e t') (i : ∀ σ H Q, t σ H Q → t' σ H Q) : PW X e t := fun w pins s σ H Q I q => h w pins s σ H Q I (i σ H Q q)
theorem paImp {t t' : TA} (h : PA X es t') (i : ∀ σ H Q, t σ H Q → t' σ H Q) : PA X es t := fun pos pins s σ H Q I q => h pos pins s σ H Q I (i σ H Q q)
theorem psImp {t t' : TS} (h : PS X st t') (i : ∀ D σ H, t D σ H → t' D σ H) : PS X st t := fun pins s σ H D I q => h pins s σ H D I (i D σ H q)
theorem pssImp {t t' : TS} (h : PSs X sts t') (i : ∀ D σ H, t D σ H → t' D σ H) : PSs X sts t := fun pins s σ H D I q => h pins s σ H D I (i D σ H q)
end
end L3
namespace L3
open PySem PySem.Spec PyProof.Rows L2
/-! ## rules -/
abbrev R3 := Z → Z → Hq → K3 → Prop
def low2 (K : PySem.W.Frag) (r : R3) : R2 := fun x y H Q => ∃ a b G R, Rep K H a x ∧ Rep K H b y ∧ RH K G H ∧ r a b G R ∧ UpV K H R Q
def low1 (K : PySem.W.Frag) (r : Z → Hq → K3 → Prop) : V → Hp → VK → Prop := fun x H Q => ∃ a G R, Rep K H a x ∧ RH K G H ∧ r a G R ∧ UpV K H R Q
def lowC (K : PySem.W.Frag) (r : List Z → Hq → K3 → Prop) : List V → Hp → VK → Prop := fun xs H Q => ∃ ws G R, Reps K H ws xs ∧ RH K G H ∧ r ws G R ∧ UpV K H R Q
def lowM (K : PySem.W.Frag) (r : Z → List Z → Hq → K3 → Prop) : V → List V → Hp → VK → Prop := fun x xs H Q => ∃ w ws G R, Rep K H w x ∧ Reps K H ws xs ∧ RH K G H ∧ r w ws G R ∧ UpV K H R Q
def OpQ (X : Cx) (f : Value → Value → Sem Value) (r : R3) : Prop := OpR X f (low2 X.K r)
def UnQ (X : Cx) (f : Value → Sem Value) (r : Z → Hq → K3 → Prop) : Prop := UnR X f (low1 X.K r)
def CallQ (X : Cx) (f : Value) (r : List Z → Hq → K3 → Prop) : Prop := CallR X f (lowC X.K r)
def IxQ (X : Cx) (r : R3) : Prop := IxR X (low2 X.K r)
def MtQ (X : Cx) (id : String) (r : Z → List Z → Hq → K3 → Prop) : Prop := MtR X id (lowM X.K r)
theorem opImp {X : Cx} {f : Value → Value → Sem Value} {r r' : R2} (h : OpR X f r') (i : ∀ x y H Q, r x y H Q → r' x y H Q) : OpR X f r := fun pins s σ H x y v u Q I rx ry q => h pins s σ H x y v u Q I rx ry (i x y H Q q)
theorem unImp {X : Cx} {f : Value → Sem Value} {r r' : V → Hp → VK → Prop} (h : UnR X f r') (i : ∀ x H Q, r x H Q → r' x H Q) : UnR X f r := fun pins s σ H x v Q I rx q => h pins s σ H x v Q I rx (i x H Q q)
theorem callImp {X : Cx} {f : Value} {r r' : List V → Hp → VK → Prop} (h : CallR X f r') (i : ∀ xs H Q, r xs H Q → r' xs H Q) : CallR X f r := fun pins s σ H xs us Q I rx q => h pins s σ H xs us Q I rx (i xs H Q q)
theorem ixImp {X : Cx} {r r' : R2} (h : IxR X r') (i : ∀ x y H Q, r x y H Q → r' x y H Q) : IxR X r := fun a b pins s σ H x y v u Q I rx ry q => h a b pins s σ H x y v u Q I rx ry (i x y H Q q)
theorem mtImp {X : Cx} {id : String} {r r' : V → List V → Hp → VK → Prop} (h : MtR X id r') (i : ∀ x xs H Q, r x xs H Q → r' x xs H Q) : MtR X id r := fun pins s σ H x xs v us Q I rx rs q => h pins s σ H x xs v us Q I rx rs (i x xs H Q q)

/-! ### names, constants -/
def uVar (i : Nat) : E3 := fun σ G R => ∃ w, σ[i]? = some (some w) ∧ R w G
def uC (w : Z) : E3 := fun _ G R => R w G
section
variable {X : Cx} {e a b c : Expr} {pos : Pos} {ta tb tc : E3}
theorem q_var {i : Nat} (h : PE X e (tVar i)) : QE X e (uVar i) := ⟨peImp h fun τ H Q ⟨σ, G, R, hs, hg, ⟨w, e, q⟩, up⟩ => by
  obtain ⟨v, e', r⟩ := hs.get e
  exact ⟨v, e', up w G v H q r hg (.refl _ _)⟩⟩
theorem q_con {v : V} {w : Z} (h : PE X e (tC v)) (hr : ∀ H, Rep X.K H w v) : QE X e (uC w) := ⟨peImp h fun τ H Q ⟨σ, G, R, hs, hg, q, up⟩ => up w G v H q (hr H) hg (.refl _ _)⟩
theorem q_int {i j pos} : QE X (.Constant (.int i) j pos) (uC (.int i)) := q_con pe_int fun _ => by rw [rep_int]
theorem q_bl {b j pos} : QE X (.Constant (.bool b) j pos) (uC (.bl b)) := q_con pe_bl fun _ => by rw [rep_bl]
theorem q_non {j pos} : QE X (.Constant .none j pos) (uC .non) := q_con pe_non fun _ => by rw [rep_non]
theorem q_str {x j pos} : QE X (.Constant (.str x) j pos) (uC (.str x)) := q_con pe_str fun _ => by rw [rep_str]
theorem q_gint {i : Int} (h : PE X e (tC (.int i))) : QE X e (uC (.int i)) := q_con h fun _ => by rw [rep_int]
theorem q_ty {n : String} (h : PE X e (tC (.ty n))) : QE X e (uC (.ty n)) := q_con h fun _ => by rw [rep_ty]
/-! ### operators -/
def uOp (r : R3) (ta tb : E3) : E3 := fun σ G R => ta σ G fun x G1 => tb σ G1 fun y G2 => r x y G2 R
def uUn (r : Z → Hq → K3 → Prop) (ta : E3) : E3 := fun σ G R => ta σ G fun x G1 => r x G1 R
theorem low_op {K : PySem.W.Frag} {r : R3} {τ : L2.St} {H : Hp} {Q : VK} (h : low K (uOp r ta tb) τ H Q) : tOp (low2 K r) (low K ta) (low K tb) τ H Q := by
  obtain ⟨σ, G, R, hs, hg, h, up⟩ := h
  refine ⟨σ, G, _, hs, hg, h, fun w G1 v H1 h1 rv hg1 t1 => ?_⟩
  refine ⟨σ, G1, _, hs.mono t1, hg1, h1, fun w' G2 v' H2 h2 rv' hg2 t2 => ?_⟩
  exact ⟨w, w', G2, R, rv.mono t2, rv', hg2, h2, up.mono (t1.trans t2)⟩
theorem low_un {K : PySem.W.Frag} {r : Z → Hq → K3 → Prop} {τ : L2.St} {H : Hp} {Q : VK} (h : low K (uUn r ta) τ H Q) : tUn (low1 K r) (low K ta) τ H Q := by
  obtain ⟨σ, G, R, hs, hg, h, up⟩ := h
  exact ⟨σ, G, _, hs, hg, h, fun w G1 v H1 h1 rv hg1 t1 => ⟨w, G1, R, rv, hg1, h1, up.mono t1⟩⟩
theorem q_op {op : Operator} {r : R3} (ho : OpQ X (binaryOp op) r) (ha : QE X a ta) (hb : QE X b tb) : QE X (.BinOp a op b pos) (uOp r ta tb) := ⟨peImp (pe_op ho ha.p hb.p) fun _ _ _ => low_op⟩
theorem q_un {op : UnaryOp} {r : Z → Hq → K3 → Prop} (ho : UnQ X (unaryOp op) r) (ha : QE X a ta) : QE X (.UnaryOp op a pos) (uUn r ta) := ⟨peImp (pe_un ho ha.p) fun _ _ _ => low_un⟩
theorem q_cmp {op : CmpOp} {r : R3} (ho : OpQ X (compareOp op) r) (ha : QE X a ta) (hb : QE X b tb) (hm : behindInMarks op b = false) : QE X (.Compare a [op] [b] pos) (uOp r ta tb) := ⟨peImp (pe_cmpR ho ha.p hb.p hm) fun _ _ _ => low_op⟩
/-- a bool as a test -/
def uTest (t : E3) : T3 := fun σ G R => t σ G fun x G1 => ∃ k, x = .bl k ∧ R k G1
theorem low_test {K : PySem.W.Frag} {τ : L2.St} {H : Hp} {Q : Bool → Hp → Prop} (h : lowT K (uTest ta) τ H Q) : low K ta τ H fun x H' => ∃ k, x = .bl k ∧ Q k H' := by
  obtain ⟨σ, G, R, hs, hg, h, up⟩ := h
  refine ⟨σ, G, _, hs, hg, h, fun w G1 v H1 ⟨k, e, h1⟩ rv hg1 t1 => ?_⟩
  subst e
  rw [rep_bl] at rv
  exact ⟨k, rv, up _ _ _ h1 hg1 t1⟩
theorem q_cmpT {op : CmpOp} {r : R3} (ho : OpQ X (compareOp op) r) (ha : QE X a ta) (hb : QE X b tb) (hm : behindInMarks op b = false) : QT X (.Compare a [op] [b] pos) (uTest (uOp r ta tb)) := ⟨ptImp (pt_cmpR ho ha.p hb.p hm) fun _ _ _ h => low_op (low_test h)⟩
def uChain (r r' : R3) (ta tb tc : E3) : E3 := fun σ G R => ta σ G fun x G1 => tb σ G1 fun y G2 => r x y G2 fun z G3 => ∃ k, z = .bl k ∧ (if k = true then tc σ G3 fun w G4 => r' y w G4 R else R (.bl false) G3)
theorem low_chain {K : PySem.W.Frag} {r r' : R3} {τ : L2.St} {H : Hp} {Q : VK} (h : low K (uChain r r' ta tb tc) τ H Q) : tChain (low2 K r) (low2 K r') (low K ta) (low K tb) (low K tc) τ H Q := by
  obtain ⟨σ, G, R, hs, hg, h, up⟩ := h
  refine ⟨σ, G, _, hs, hg, h, fun w G1 v H1 h1 rv hg1 t1 => ?_⟩
  refine ⟨σ, G1, _, hs.mono t1, hg1, h1, fun w' G2 v' H2 h2 rv' hg2 t2 => ?_⟩
  refine ⟨w, w', G2, _, rv.mono t2, rv', hg2, h2, fun z G3 vz H3 ⟨k, ek, h3⟩ rz hg3 t3 => ?_⟩
  subst ek
  rw [rep_bl] at rz
  refine ⟨k, rz, ?_⟩
  cases k with
  | false => exact up _ _ _ _ (by simpa using h3) (by rw [rep_bl]) hg3 ((t1.trans t2).trans t3)
  | true =>
    rw [if_pos rfl] at h3 ⊢
    refine ⟨σ, G3, _, hs.mono ((t1.trans t2).trans t3), hg3, h3, fun w4 G4 v4 H4 h4 r4 hg4 t4 => ?_⟩
    exact ⟨w', w4, G4, R, rv'.mono (t3.trans t4), r4, hg4, h4, up.mono (((t1.trans t2).trans t3).trans t4)⟩
theorem q_chain {op op' : CmpOp} {r r' : R3} (ho : OpQ X (compareOp op) r) (ho' : OpQ X (compareOp op') r') (ha : QE X a ta) (hb : QE X b tb) (hc : QE X c tc)
    (hm : lastMarks [op, op'] [b, c] = false := by with_unfolding_all rfl) : QE X (.Compare a [op, op'] [b, c] pos) (uChain r r' ta tb tc) := ⟨peImp (pe_chain ho ho' ha.p hb.p hc.p hm) fun _ _ _ => low_chain⟩
theorem q_chainT {op op' : CmpOp} {r r' : R3} (ho : OpQ X (compareOp op) r) (ho' : OpQ X (compareOp op') r') (ha : QE X a ta) (hb : QE X b tb) (hc : QE X c tc)
    (hm : lastMarks [op, op'] [b, c] = false := by with_unfolding_all rfl) : QT X (.Compare a [op, op'] [b, c] pos) (uTest (uChain r r' ta tb tc)) := ⟨ptImp (pt_chain ho ho' ha.p hb.p hc.p hm) fun _ _ _ h => low_chain (low_test h)⟩
/-! ### and, or, not; conditional expressions -/
def uAnd (t u : T3) : T3 := fun σ G R => t σ G fun c G1 => if c = true then u σ G1 R else R false G1
def uOr (t u : T3) : T3 := fun σ G R => t σ G fun c G1 => if c = true then R true G1 else u σ G1 R
def uNot (t : T3) : T3 := fun σ G R => t σ G fun c G1 => R (!c) G1
variable {t u : T3} {rest : List Expr}
theorem q_and1 (ha : QT X a t) : QW X (.BoolOp .And [a] pos) t := ⟨pw_and1 ha.p⟩
theorem q_or1 (ha : QT X a t) : QW X (.BoolOp .Or [a] pos) t := ⟨pw_or1 ha.p⟩
theorem q_and (ha : QT X a t) (hb : QW X (.BoolOp .And (b :: rest) pos) u) : QW X (.BoolOp .And (a :: b :: rest) pos) (uAnd t u) := ⟨pwImp (pw_and ha.p hb.p) fun τ H Q ⟨σ, G, R, hs, hg, h, up⟩ => by
  refine ⟨σ, G, _, hs, hg, h, fun k G1 H1 h1 hg1 t1 => ?_⟩
  cases k with
  | false => exact up _ _ _ (by simpa using h1) hg1 t1
  | true => rw [if_pos rfl] at h1 ⊢; exact ⟨σ, G1, R, hs.mono t1, hg1, h1, up.mono t1⟩⟩
theorem q_or (ha : QT X a t) (hb : QW X (.BoolOp .Or (b :: rest) pos) u) : QW X (.BoolOp .Or (a :: b :: rest) pos) (uOr t u) := ⟨pwImp (pw_or ha.p hb.p) fun τ H Q ⟨σ, G, R, hs, hg, h, up⟩ => by
  refine ⟨σ, G, _, hs, hg, h, fun k G1 H1 h1 hg1 t1 => ?_⟩
  cases k with
  | true => exact up _ _ _ (by simpa using h1) hg1 t1
  | false => rw [if_neg (by decide)] at h1 ⊢; exact ⟨σ, G1, R, hs.mono t1, hg1, h1, up.mono t1⟩⟩
theorem q_notT (ha : QT X a t) : QT X (.UnaryOp .Not a pos) (uNot t) := ⟨ptImp (pt_not ha.p) fun τ H Q ⟨σ, G, R, hs, hg, h, up⟩ =>
  ⟨σ, G, _, hs, hg, h, fun k G1 H1 h1 hg1 t1 => up _ _ _ h1 hg1 t1⟩⟩
def uAndV (ta tb : E3) : E3 := fun σ G R => ta σ G fun x G1 => ∃ c, x = .bl c ∧ if c = true then tb σ G1 R else R (.bl false) G1
def uOrV (ta tb : E3) : E3 := fun σ G R => ta σ G fun x G1 => ∃ c, x = .bl c ∧ if c = true then R (.bl true) G1 else tb σ G1 R
def uNotV (ta : E3) : E3 := fun σ G R => ta σ G fun x G1 => ∃ c, x = .bl c ∧ R (.bl (!c)) G1
theorem q_one {op} (h : QE X a ta) : QE X (.BoolOp op [a] pos) ta := ⟨pe_one h.p⟩
theorem q_andV (ha : QE X a ta) (hb : QE X (.BoolOp .And (b :: rest) pos) tb) : QE X (.BoolOp .And (a :: b :: rest) pos) (uAndV ta tb) := ⟨peImp (pe_and ha.p hb.p) fun τ H Q ⟨σ, G, R, hs, hg, h, up⟩ => by
  refine ⟨σ, G, _, hs, hg, h, fun x G1 v H1 ⟨k, ek, h1⟩ rv hg1 t1 => ?_⟩
  subst ek
  rw [rep_bl] at rv
  refine ⟨k, rv, ?_⟩
  cases k with
  | false => exact up _ _ _ _ (by simpa using h1) (by rw [rep_bl]) hg1 t1
  | true => rw [if_pos rfl] at h1 ⊢; exact ⟨σ, G1, R, hs.mono t1, hg1, h1, up.mono t1⟩⟩
theorem q_orV (ha : QE X a ta) (hb : QE X (.BoolOp .Or (b :: rest) pos) tb) : QE X (.BoolOp .Or (a :: b :: rest) pos) (uOrV ta tb) := ⟨peImp (pe_or ha.p hb.p) fun τ H Q ⟨σ, G, R, hs, hg, h, up⟩ => by
  refine ⟨σ, G, _, hs, hg, h, fun x G1 v H1 ⟨k, ek, h1⟩ rv hg1 t1 => ?_⟩
  subst ek
  rw [rep_bl] at rv
  refine ⟨k, rv, ?_⟩
  cases k with
  | true => exact up _ _ _ _ (by simpa using h1) (by rw [rep_bl]) hg1 t1
  | false => rw [if_neg (by decide)] at h1 ⊢; exact ⟨σ, G1, R, hs.mono t1, hg1, h1, up.mono t1⟩⟩
theorem q_not (ha : QE X a ta) : QE X (.UnaryOp .Not a pos) (uNotV ta) := ⟨peImp (pe_not ha.p) fun τ H Q ⟨σ, G, R, hs, hg, h, up⟩ => by
  refine ⟨σ, G, _, hs, hg, h, fun x G1 v H1 ⟨k, ek, h1⟩ rv hg1 t1 => ?_⟩
  subst ek
  rw [rep_bl] at rv
  exact ⟨k, rv, up _ _ _ _ h1 (by rw [rep_bl]) hg1 t1⟩⟩
def uIf (t : T3) (ta tb : E3) : E3 := fun σ G R => t σ G fun c G1 => if c = true then ta σ G1 R else tb σ G1 R
theorem q_if (hc : QT X c t) (ha : QE X a ta) (hb : QE X b tb) : QE X (.IfExp c a b pos) (uIf t ta tb) := ⟨peImp (pe_ifExp hc.p ha.p hb.p) fun τ H Q ⟨σ, G, R, hs, hg, h, up⟩ => by
  refine ⟨σ, G, _, hs, hg, h, fun k G1 H1 h1 hg1 t1 => ?_⟩
  cases k with
  | true => rw [if_pos rfl] at h1 ⊢; exact ⟨σ, G1, R, hs.mono t1, hg1, h1, up.mono t1⟩
  | false => rw [if_neg (by decide)] at h1 ⊢; exact ⟨σ, G1, R, hs.mono t1, hg1, h1, up.mono t1⟩⟩
/-- a value's truth -/
def tru : Z → Hq → (Bool → Hq → Prop) → Prop
  | .non, G, R => R false G
  | .bl b, G, R => R b G
  | .int i, G, R => R (i != 0) G
  | .str y, G, R => y.length ≤ sizeLine ∧ R ((y.length : Int) != 0) G
  | .tup ws, G, R => R (!ws.isEmpty) G
  | .scr _ ns, G, R => R (!ns.isEmpty) G
  | .ref p, G, R => (∃ ws, G p = some (.lst ws) ∧ R (!ws.isEmpty) G) ∨ ∃ kvs, G p = some (.dK kvs) ∧ R (!kvs.isEmpty) G
  | .ty _, _, _ => False
def uTru (ta : E3) : T3 := fun σ G R => ta σ G fun x G1 => tru x G1 R
theorem isEmpty_len {α β : Type} {a : List α} {b : List β} (h : a.length = b.length) : a.isEmpty = b.isEmpty := by
  cases a <;> cases b <;> simp_all
theorem tru_low {K : PySem.W.Frag} {w : Z} {v : V} {G : Hq} {H : Hp} {R : Bool → Hq → Prop} {Q : Bool → Hp → Prop} (h : tru w G R) (r : Rep K H w v) (hg : RH K G H) (up : UpB K H R Q) : ∃ k, TruV K v H k ∧ Q k H := by
  cases w with
  | non => rw [rep_non] at r; subst r; exact ⟨_, rfl, up _ _ _ h hg (.refl _ _)⟩
  | bl b => rw [rep_bl] at r; subst r; exact ⟨_, rfl, up _ _ _ h hg (.refl _ _)⟩
  | int i => rw [rep_int] at r; subst r; exact ⟨_, rfl, up _ _ _ h hg (.refl _ _)⟩
  | str y => rw [rep_str] at r; subst r; exact ⟨_, ⟨h.1, rfl⟩, up _ _ _ h.2 hg (.refl _ _)⟩
  | ty n => exact False.elim h
  | scr a ns => rw [rep_scr] at r; obtain ⟨rfl, f⟩ := r; exact ⟨!ns.isEmpty, .inl ⟨_, f.sq, by rw [isEmpty_len (List.length_map ..).symm]⟩, up _ _ _ h hg (.refl _ _)⟩
  | tup ws =>
    rw [rep_tup] at r
    obtain ⟨a, vs, rfl, e, rs⟩ := r
    exact ⟨!ws.isEmpty, .inr (.inl ⟨vs, SqT.of e, by rw [isEmpty_len rs.length]⟩), up _ _ _ h hg (.refl _ _)⟩
  | ref p =>
    rw [rep_ref] at r
    subst r
    rcases h with ⟨ws, e, h⟩ | ⟨kvs, e, h⟩
    · obtain ⟨vs, e', rs⟩ := hg p _ e
      exact ⟨_, .inl ⟨vs, SqL.of e', by rw [← isEmpty_len rs.length]⟩, up _ _ _ h hg (.refl _ _)⟩
    · obtain ⟨us, e', hn, rs⟩ := hg p _ e
      exact ⟨_, .inr (.inr ⟨us, e', by rw [isEmpty_len (show kvs.length = us.length by rw [← List.length_map (f := (·.2)) (as := kvs), rs.length, List.length_map])]⟩), up _ _ _ h hg (.refl _ _)⟩
theorem q_tru (ha : QE X a ta) (he : ∀ whole, isTrue a X.env whole = (do let v ← whole; standAt a.pos; holding [v] (truthy v))) : QT X a (uTru ta) := ⟨ptImp (pt_truth ha.p he) fun τ H Q ⟨σ, G, R, hs, hg, h, up⟩ =>
  ⟨σ, G, _, hs, hg, h, fun w G1 v H1 h1 rv hg1 t1 => tru_low h1 rv hg1 (up.mono t1)⟩⟩
theorem q_val (ha : QE X a ta) (he : ∀ whole, isTrue a X.env whole = (do let v ← whole; standAt a.pos; holding [v] (truthy v)) := by intro _; rfl) : QT X a (uTest ta) := ⟨ptImp (pt_val ha.p he) fun _ _ _ h => low_test h⟩
end
/-! no star -/
section
variable {env : Env} {es : List Expr} {pos : Pos}
theorem se_Constant {c k p} : starEach (.Constant c k p :: es) env = (false, eval (.Constant c k p) env) :: starEach es env := rfl
theorem se_Name {x p} : starEach (.Name x p :: es) env = (false, eval (.Name x p) env) :: starEach es env := rfl
theorem se_BinOp {a o b p} : starEach (.BinOp a o b p :: es) env = (false, eval (.BinOp a o b p) env) :: starEach es env := rfl
theorem se_UnaryOp {o a p} : starEach (.UnaryOp o a p :: es) env = (false, eval (.UnaryOp o a p) env) :: starEach es env := rfl
theorem se_BoolOp {o a p} : starEach (.BoolOp o a p :: es) env = (false, eval (.BoolOp o a p) env) :: starEach es env := rfl
theorem se_Compare {a o b p} : starEach (.Compare a o b p :: es) env = (false, eval (.Compare a o b p) env) :: starEach es env := rfl
theorem se_IfExp {a o b p} : starEach (.IfExp a o b p :: es) env = (false, eval (.IfExp a o b p) env) :: starEach es env := rfl
theorem se_List {a p} : starEach (.List a p :: es) env = (false, eval (.List a p) env) :: starEach es env := rfl
theorem se_Tuple {a k p} : starEach (.Tuple a k p :: es) env = (false, eval (.Tuple a k p) env) :: starEach es env := rfl
theorem se_Dict {a b p} : starEach (.Dict a b p :: es) env = (false, eval (.Dict a b p) env) :: starEach es env := rfl
theorem se_Subscript {a b p} : starEach (.Subscript a b p :: es) env = (false, eval (.Subscript a b p) env) :: starEach es env := rfl
theorem se_Attribute {a b p} : starEach (.Attribute a b p :: es) env = (false, eval (.Attribute a b p) env) :: starEach es env := rfl
theorem se_Call {a b c p} : starEach (.Call a b c p :: es) env = (false, eval (.Call a b c p) env) :: starEach es env := rfl
theorem se_ListComp {a b c p} : starEach (.ListComp a b c p :: es) env = (false, eval (.ListComp a b c p) env) :: starEach es env := rfl
theorem hp_nil : (backTo pos (starEach [] env)).any (·.1) = false := rfl
theorem hp_cons {e : Expr} (h : starEach (e :: es) env = (false, eval e env) :: starEach es env) (r : (backTo pos (starEach es env)).any (·.1) = false) : (backTo pos (starEach (e :: es) env)).any (·.1) = false := by
  rw [h]
  show (false || (backTo pos (starEach es env)).any (·.1)) = false
  rw [r]; rfl
end
/-! ### items, displays, calls -/
section
variable {X : Cx} {e a b : Expr} {es : List Expr} {pos p2 : Pos} {te ta tb : E3} {t : A3}
theorem q_ix {r : R3} (hr : IxQ X r) (ha : QE X a ta) (hb : QE X b tb) (hs : PlainIx b) : QE X (.Subscript a b pos) (uOp r ta tb) := ⟨peImp (pe_ix hr ha.p hb.p hs) fun _ _ _ => low_op⟩
abbrev O3 := S3 → Hq → (Option Int → Hq → Prop) → Prop
def uNoPart : O3 := fun _ G R => R none G
def uPart (t : E3) : O3 := fun σ G R => t σ G fun x G1 => ∃ i, x = .int i ∧ R (some i) G1
def lowO (K : PySem.W.Frag) (t : O3) : TO := fun τ H Q => ∃ σ G R, RSt K H σ τ ∧ RH K G H ∧ t σ G R ∧ ∀ o G' H', R o G' → RH K G' H' → TK K H H' → Q o H'
def QO (X : Cx) (e : Option Expr) (t : O3) : Prop := PO X e (lowO X.K t)
theorem q_nopart : QO X none uNoPart := fun pins s τ H Q I ⟨σ, G, R, hs, hg, h, up⟩ => po_none pins s τ H Q I (up _ _ _ h hg (.refl _ _))
theorem q_part (h : QE X e te) : QO X (some e) (uPart te) := fun pins s τ H Q I ⟨σ, G, R, hs, hg, q, up⟩ => po_some h.p pins s τ H Q I ⟨σ, G, _, hs, hg, q, fun w G1 v H1 ⟨i, ei, h1⟩ rv hg1 t1 => by
  subst ei
  rw [rep_int] at rv
  exact ⟨i, rv, up _ _ _ h1 hg1 t1⟩⟩
abbrev L3r := Z → Option Int → Option Int → Hq → K3 → Prop
def lowL (K : PySem.W.Frag) (r : L3r) : V → Option Int → Option Int → Hp → VK → Prop := fun x lo hi H Q => ∃ w G R, Rep K H w x ∧ RH K G H ∧ r w lo hi G R ∧ UpV K H R Q
def SlQ (X : Cx) (r : L3r) : Prop := SlR X (lowL X.K r)
theorem slImp {r r' : V → Option Int → Option Int → Hp → VK → Prop} (h : SlR X r') (i : ∀ x lo hi H Q, r x lo hi H Q → r' x lo hi H Q) : SlR X r := fun pins s σ H x v vl vu lo hi sl Q I rx hs pl pu q => h pins s σ H x v vl vu lo hi sl Q I rx hs pl pu (i _ _ _ _ _ q)
def uSl (r : L3r) (te : E3) (tl th : O3) : E3 := fun σ G R => te σ G fun x G1 => tl σ G1 fun l G2 => th σ G2 fun u G3 => r x l u G3 R
theorem q_slice {r : L3r} {lo hi : Option Expr} {tl th : O3} (hr : SlQ X r) (he : QE X e te) (hl : QO X lo tl) (hu : QO X hi th) : QE X (.Subscript e (.Slice lo hi none p2) pos) (uSl r te tl th) := ⟨peImp (pe_slice hr he.p hl hu) fun τ H Q ⟨σ, G, R, hs, hg, h, up⟩ =>
  ⟨σ, G, _, hs, hg, h, fun w G1 v H1 h1 rv hg1 t1 => ⟨σ, G1, _, hs.mono t1, hg1, h1, fun l G2 H2 h2 hg2 t2 => ⟨σ, G2, _, hs.mono (t1.trans t2), hg2, h2, fun u G3 H3 h3 hg3 t3 =>
    ⟨w, G3, R, rv.mono (t2.trans t3), hg3, h3, up.mono ((t1.trans t2).trans t3)⟩⟩⟩⟩⟩
def uNil : A3 := fun _ G R => R [] G
def uCons (ta : E3) (tr : A3) : A3 := fun σ G R => ta σ G fun x G1 => tr σ G1 fun xs G2 => R (x :: xs) G2
theorem q_nil : QA X [] uNil := ⟨paImp pa_nil fun τ H Q ⟨σ, G, R, hs, hg, h, up⟩ => up _ _ _ _ h .nil hg (.refl _ _)⟩
theorem q_cons (ha : QE X e te) (hr : QA X es t) (hs : starEach (e :: es) X.env = (false, eval e X.env) :: starEach es X.env := by rfl) : QA X (e :: es) (uCons te t) := ⟨paImp (pa_cons ha.p hr.p hs) fun τ H Q ⟨σ, G, R, hs, hg, h, up⟩ =>
  ⟨σ, G, _, hs, hg, h, fun w G1 v H1 h1 rv hg1 t1 => ⟨σ, G1, _, hs.mono t1, hg1, h1, fun ws G2 vs H2 h2 rs hg2 t2 => up _ _ _ _ h2 (.cons (rv.mono t2) rs) hg2 (t1.trans t2)⟩⟩⟩
def uTup (t : A3) : E3 := fun σ G R => t σ G fun xs G1 => xs.length ≤ sizeLine ∧ R (.tup xs) G1
def uLst (t : A3) : E3 := fun σ G R => t σ G fun xs G1 => xs.length ≤ sizeLine ∧ ∀ p, G1 p = none → R (.ref p) (put G1 p (.lst xs))
theorem q_tup {x1} (h : QA X es t) : QE X (.Tuple es x1 pos) (uTup t) := ⟨peImp (pe_tup h.p) fun τ H Q ⟨σ, G, R, hs, hg, h, up⟩ =>
  ⟨σ, G, _, hs, hg, h, fun ws G1 vs H1 ⟨hz, h1⟩ rv hg1 t1 => ⟨by rw [← rv.length]; exact hz, fun p hp => up _ _ _ _ h1 (by rw [rep_tup]; exact ⟨p, vs, rfl, upd_same, rv.mono (.new hp)⟩) (hg1.hid hp) (t1.trans (.new hp))⟩⟩⟩
theorem rob_lst {K : PySem.W.Frag} {H : Hp} {p : Addr} {ws : List Z} {vs : List V} (r : Reps K H ws vs) (t : TK K H (upd H p (.lst vs))) : ROb K (upd H p (.lst vs)) p (.lst ws) := ⟨vs, upd_same, r.mono t⟩
theorem q_lst (h : QA X es t) : QE X (.List es pos) (uLst t) := ⟨peImp (pe_lst h.p) fun τ H Q ⟨σ, G, R, hs, hg, h, up⟩ =>
  ⟨σ, G, _, hs, hg, h, fun ws G1 vs H1 ⟨hz, h1⟩ rv hg1 t1 => ⟨by rw [← rv.length]; exact hz, fun p hp => up _ _ _ _ (h1 p (hg1.out hp)) (by rw [rep_ref]) (hg1.set (.new hp) (rob_lst rv (.new hp))) (t1.trans (.new hp))⟩⟩⟩
def uCB (r : List Z → Hq → K3 → Prop) (t : A3) : E3 := fun σ G R => t σ G fun ws G1 => r ws G1 R
theorem low_cb {K : PySem.W.Frag} {r : List Z → Hq → K3 → Prop} {τ : L2.St} {H : Hp} {Q : VK} (h : low K (uCB r t) τ H Q) : tCB (lowC K r) (lowA K t) τ H Q := by
  obtain ⟨σ, G, R, hs, hg, h, up⟩ := h
  exact ⟨σ, G, _, hs, hg, h, fun ws G1 vs H1 h1 rs hg1 t1 => ⟨ws, G1, R, rs, hg1, h1, up.mono t1⟩⟩
variable {x : Str} {p : Pos} {id T : String} {r : List Z → Hq → K3 → Prop}
theorem q_callB (hc : CallQ X (.builtin id) r) (hg : Gl X x) (hm : X.mg x = none) (hv : bootBuiltins x = some (.builtin id)) (ha : QA X (e :: es) t) (hn : x ≠ "__name__" := by decide) (hdb : (x == ("__debug__" : Str)) = false := by decide)
    (he : starEach (e :: es) X.env = (false, eval e X.env) :: starEach es X.env := by rfl) (hpl : (backTo pos (starEach es X.env)).any (·.1) = false := by rfl) : QE X (.Call (.Name x p) (e :: es) [] pos) (uCB r t) := ⟨peImp (pe_callB hc hg hm hv ha.p hn hdb he hpl) fun _ _ _ => low_cb⟩
theorem q_callTy (hc : CallQ X (.type T) r) (hg : Gl X x) (hm : X.mg x = none) (hv : bootBuiltins x = some (.type T)) (ha : QA X (e :: es) t) (hn : x ≠ "__name__" := by decide) (hdb : (x == ("__debug__" : Str)) = false := by decide)
    (he : starEach (e :: es) X.env = (false, eval e X.env) :: starEach es X.env := by rfl) (hpl : (backTo pos (starEach es X.env)).any (·.1) = false := by rfl) : QE X (.Call (.Name x p) (e :: es) [] pos) (uCB r t) := ⟨peImp (pe_callTy hc hg hm hv ha.p hn hdb he hpl) fun _ _ _ => low_cb⟩
/-! methods of built-in types -/
def tyZ (T : String) (x : Z) (G : Hq) : Prop := match x with
  | .str _ => T = "str"
  | .int _ => T = "int"
  | .ref p => (T = "list" ∧ ∃ ws, G p = some (.lst ws)) ∨ (T = "dict" ∧ ∃ kvs, G p = some (.dK kvs))
  | .scr _ _ => T = "list"
  | _ => False
theorem tyZ_low {K : PySem.W.Frag} {G : Hq} {H : Hp} {w : Z} {v : V} (h : tyZ T w G) (r : Rep K H w v) (hg : RH K G H) : tyV K T v H := by
  cases w with
  | str y => rw [rep_str] at r; subst r; exact h
  | int y => rw [rep_int] at r; subst r; exact h
  | ref q =>
    rw [rep_ref] at r
    subst r
    rcases h with ⟨e, ws, g⟩ | ⟨e, kvs, g⟩
    · obtain ⟨vs, e', _⟩ := hg q _ g; exact .inl ⟨e, vs, SqL.of e'⟩
    · obtain ⟨vs, e', _⟩ := hg q _ g; exact .inr (.inr (.inl ⟨e, .inl ⟨vs, e'⟩⟩))
  | scr q ns => rw [rep_scr] at r; obtain ⟨rfl, f⟩ := r; exact .inl ⟨h, _, f.sq⟩
  | _ => exact False.elim h
def uBM0 (T : String) (r : Z → List Z → Hq → K3 → Prop) (to : E3) : E3 := fun σ G R => to σ G fun x G1 => tyZ T x G1 ∧ r x [] G1 R
def uBM (T : String) (r : Z → List Z → Hq → K3 → Prop) (to : E3) (t : A3) : E3 := fun σ G R => to σ G fun x G1 => tyZ T x G1 ∧ t σ G1 fun xs G2 => r x xs G2 R
variable {o : Expr} {to : E3} {name : Str} {apos cpos : Pos} {rm : Z → List Z → Hq → K3 → Prop}
theorem q_bm0 (pa : PlainAttrs T) (slot : Slot T name id) (hty : typeOf (.builtin id) = pure (.type "method_descriptor")) (hm : MtQ X id rm) (ho : QE X o to)
    (hbase : attributeBase o name X.env (eval o X.env) = eval o X.env := by rfl) (hline : (apos.endLine == cpos.line) = true := by rfl) : QE X (.Call (.Attribute o name apos) [] [] cpos) (uBM0 T rm to) := ⟨peImp (pe_bm0 pa slot hty hm ho.p hbase hline) fun τ H Q ⟨σ, G, R, hs, hg, h, up⟩ => ⟨σ, G, _, hs, hg, h, fun w G1 v H1 ⟨ty, h1⟩ rv hg1 t1 => ⟨tyZ_low ty rv hg1, w, [], G1, R, rv, .nil, hg1, h1, up.mono t1⟩⟩⟩
theorem q_bm (pa : PlainAttrs T) (slot : Slot T name id) (hty : typeOf (.builtin id) = pure (.type "method_descriptor")) (hm : MtQ X id rm) (ho : QE X o to) (ha : QA X (e :: es) t)
    (hbase : attributeBase o name X.env (eval o X.env) = eval o X.env := by rfl)
    (hfew : ((backTo cpos (starEach (e :: es) X.env)).all (fun x => !x.1) && (backToKw cpos (keywordEach [] X.env)).all (fun x => x.1.isSome)
      && decide ((e :: es).length + ([] : List Keyword).length + (if ([] : List Keyword).isEmpty then 0 else 1) < 30)) = true := by rfl)
    (hline : (apos.endLine == cpos.line) = true := by rfl) (hs : starEach (e :: es) X.env = (false, eval e X.env) :: starEach es X.env := by rfl) (hplain : (backTo cpos (starEach es X.env)).any (·.1) = false := by rfl) :
    QE X (.Call (.Attribute o name apos) (e :: es) [] cpos) (uBM T rm to t) := ⟨peImp (pe_bm pa slot hty hm ho.p ha.p hbase hfew hline hs hplain) fun τ H Q ⟨σ, G, R, hs, hg, h, up⟩ =>
    ⟨σ, G, _, hs, hg, h, fun w G1 v H1 ⟨ty, h1⟩ rv hg1 t1 => ⟨tyZ_low ty rv hg1, σ, G1, _, hs.mono t1, hg1, h1, fun ws G2 vs H2 h2 rs hg2 t2 => ⟨w, ws, G2, R, rv.mono t2, rs, hg2, h2, up.mono (t1.trans t2)⟩⟩⟩⟩
/-! defs -/
abbrev P3 := List Z → Hq → K3 → Prop
def lowP (K : PySem.W.Frag) (sp : P3) : Sp := fun vs H Q _ => lowC K sp vs H Q
def uCall (sp : P3) (t : A3) : E3 := fun σ G R => t σ G fun ws G1 => sp ws G1 R
variable {k : Nat} {f : Addr} {fd : FuncData} {ps : List Str} {sp : P3}
theorem q_call (F : FnOk X.prog X.w X.K X.mg X.base CX0 k f fd ps (lowP X.K sp)) (hr : Room k X.A) (hg : Gl X x) (hm : X.mg x = some (.ref f)) (hk : PySem.W.keepIn X.K (.ref f) = true) (hb : Binds X.K fd ps []) (ha : QA X (e :: es) t)
    (hdb : (x == ("__debug__" : Str)) = false := by decide) (he : starEach (e :: es) X.env = (false, eval e X.env) :: starEach es X.env := by rfl) (hpl : (backTo pos (starEach es X.env)).any (·.1) = false := by rfl) :
    QE X (.Call (.Name x p) (e :: es) [] pos) (uCall sp t) := ⟨peImp (pe_call F hr hg hm hk hb .nil pass0 ha.p hdb he hpl) fun τ H Q ⟨σ, G, R, hs, hg, h, up⟩ => ⟨σ, G, _, hs, hg, h, fun ws G1 vs H1 h1 rs hg1 t1 => ⟨ws, G1, R, by rw [List.append_nil]; exact rs, hg1, h1, up.mono t1⟩⟩⟩
theorem q_call0 (F : FnOk X.prog X.w X.K X.mg X.base CX0 k f fd ps (lowP X.K sp)) (hr : Room k X.A) (hg : Gl X x) (hm : X.mg x = some (.ref f)) (hk : PySem.W.keepIn X.K (.ref f) = true) (hb : Binds X.K fd ps [])
    (hdb : (x == ("__debug__" : Str)) = false := by decide) : QE X (.Call (.Name x p) [] [] pos) (uCall sp uNil) := ⟨peImp (pe_call0 F hr hg hm hk hb .nil pass0 hdb) fun τ H Q ⟨σ, G, R, hs, hg, h, up⟩ => ⟨[], G, R, .nil, hg, h, up⟩⟩
end
end L3
namespace L3
open PySem PySem.Spec PyProof.Rows L2
/-! ## statements -/
section
variable {X : Cx} {e c tg : Expr} {st : Stmt} {rest sa sb : List Stmt} {pos : Pos} {te : E3} {t u : X3} {tc : T3}
def uNext : X3 := fun nx _ _ _ σ G => nx σ G
def uSeq (t u : X3) : X3 := fun nx rt bk ct σ G => t (u nx rt bk ct) rt bk ct σ G
theorem z_nil : QSs X [] uNext := ⟨pssImp pss_nil fun D τ H ⟨σ, G, nx, rt, bk, ct, hs, hg, h, u1, u2, u3, u4⟩ => u1 _ _ _ _ h hs hg (.refl _ _)⟩
theorem z_cons (h1 : QS X st t) (h2 : QSs X rest u) : QSs X (st :: rest) (uSeq t u) := ⟨pssImp (pss_cons h1.p h2.p) fun D τ H ⟨σ, G, nx, rt, bk, ct, hs, hg, h, u1, u2, u3, u4⟩ =>
  ⟨σ, G, _, rt, bk, ct, hs, hg, h, fun σ' G' τ' H' h' hs' hg' t' => ⟨σ', G', nx, rt, bk, ct, hs', hg', h', u1.mono t', u2.mono t', u3.mono t', u4.mono t'⟩, u2, u3, u4⟩⟩
theorem z_one (h1 : QS X st t) : QSs X [st] t := ⟨pss_one h1.p⟩
/-- what holds between two parts, said once -/
def uCut (t u : X3) : X3 := fun nx rt bk ct σ G => ∃ M : C3, t M rt bk ct σ G ∧ ∀ σ' G', M σ' G' → u nx rt bk ct σ' G'
theorem z_cut (h1 : QS X st t) (h2 : QSs X rest u) : QSs X (st :: rest) (uCut t u) := ⟨pssImp (pss_cons h1.p h2.p) fun D τ H ⟨σ, G, nx, rt, bk, ct, hs, hg, ⟨M, h, hM⟩, u1, u2, u3, u4⟩ =>
  ⟨σ, G, M, rt, bk, ct, hs, hg, h, fun σ' G' τ' H' h' hs' hg' t' => ⟨σ', G', nx, rt, bk, ct, hs', hg', hM _ _ h', u1.mono t', u2.mono t', u3.mono t', u4.mono t'⟩, u2, u3, u4⟩⟩
def uBreak : X3 := fun _ _ bk _ σ G => bk σ G
def uCont : X3 := fun _ _ _ ct σ G => ct σ G
theorem z_pass : QS X (.Pass pos) uNext := ⟨psImp ps_pass fun D τ H ⟨σ, G, nx, rt, bk, ct, hs, hg, h, u1, u2, u3, u4⟩ => u1 _ _ _ _ h hs hg (.refl _ _)⟩
theorem z_break : QS X (.Break pos) uBreak := ⟨psImp ps_break fun D τ H ⟨σ, G, nx, rt, bk, ct, hs, hg, h, u1, u2, u3, u4⟩ => u3 _ _ _ _ h hs hg (.refl _ _)⟩
theorem z_cont : QS X (.Continue pos) uCont := ⟨psImp ps_continue fun D τ H ⟨σ, G, nx, rt, bk, ct, hs, hg, h, u1, u2, u3, u4⟩ => u4 _ _ _ _ h hs hg (.refl _ _)⟩
def uNever : X3 := fun _ _ _ _ _ _ => False
theorem z_never : QS X st uNever := ⟨fun _ _ _ _ _ _ ⟨_, _, _, _, _, _, _, _, h, _⟩ => h.elim⟩
theorem zs_never : QSs X rest uNever := ⟨fun _ _ _ _ _ _ ⟨_, _, _, _, _, _, _, _, h, _⟩ => h.elim⟩
def uDrop (te : E3) : X3 := fun nx _ _ _ σ G => te σ G fun _ G1 => nx σ G1
theorem z_expr (he : QE X e te) (hs : swapsWith e none pos.line X.env = pure false := by rfl) : QS X (.Expr e pos) (uDrop te) := ⟨psImp (ps_expr he.p hs) fun D τ H ⟨σ, G, nx, rt, bk, ct, hs, hg, h, u1, u2, u3, u4⟩ =>
  ⟨σ, G, _, hs, hg, h, fun w G1 v H1 h1 rv hg1 t1 => u1 _ _ _ _ h1 (hs.mono t1) hg1 t1⟩⟩
def uRet (te : E3) : X3 := fun _ rt _ _ σ G => te σ G rt
theorem z_ret (he : QE X e te) : QS X (.Return (some e) pos) (uRet te) := ⟨psImp (ps_ret he.p) fun D τ H ⟨σ, G, nx, rt, bk, ct, hs, hg, h, u1, u2, u3, u4⟩ => ⟨σ, G, _, hs, hg, h, u2⟩⟩
def uRetN : X3 := fun _ rt _ _ _ G => rt .non G
theorem z_retN : QS X (.Return none pos) uRetN := ⟨psImp ps_retN fun D τ H ⟨σ, G, nx, rt, bk, ct, hs, hg, h, u1, u2, u3, u4⟩ => u2 _ _ _ _ h (by rw [rep_non]) hg (.refl _ _)⟩
def uIfS (c : T3) (t u : X3) : X3 := fun nx rt bk ct σ G => c σ G fun b G1 => if b = true then t nx rt bk ct σ G1 else u nx rt bk ct σ G1
theorem z_if (hc : QT X c tc) (ha : QSs X sa t) (hb : QSs X sb u) : QS X (.If c sa sb pos) (uIfS tc t u) := ⟨psImp (ps_if hc.p ha.p hb.p) fun D τ H ⟨σ, G, nx, rt, bk, ct, hs, hg, h, u1, u2, u3, u4⟩ => by
  refine ⟨σ, G, _, hs, hg, h, fun b G1 H1 h1 hg1 t1 => ?_⟩
  cases b with
  | true => rw [if_pos rfl] at h1 ⊢; exact ⟨σ, G1, nx, rt, bk, ct, hs.mono t1, hg1, h1, u1.mono t1, u2.mono t1, u3.mono t1, u4.mono t1⟩
  | false => rw [if_neg (by decide)] at h1 ⊢; exact ⟨σ, G1, nx, rt, bk, ct, hs.mono t1, hg1, h1, u1.mono t1, u2.mono t1, u3.mono t1, u4.mono t1⟩⟩
def uWhile (c : T3) (tb : X3) : X3 := fun nx rt _ _ σ G => ∃ I : Nat → S3 → Hq → Prop, (∃ m, I m σ G) ∧ ∀ m σ G, I m σ G →
  c σ G fun b G1 => if b = true then tb (fun σ' G' => ∃ m', m' < m ∧ I m' σ' G') rt nx (fun σ' G' => ∃ m', m' < m ∧ I m' σ' G') σ G1 else nx σ G1
theorem z_while (hp : PassesOwn (model X.prog X.w) X.A X.env X.xe) (hc : QT X c tc) (hb : QSs X sb t) : QS X (.While c sb [] pos) (uWhile tc t) := ⟨psImp (ps_while hp hc.p hb.p) fun D τ H ⟨σ, G, nx, rt, bk, ct, hs, hg, ⟨I, ⟨m0, i0⟩, step⟩, u1, u2, u3, u4⟩ => by
  refine ⟨fun m τ' H' => ∃ σ' G', RSt X.K H' σ' τ' ∧ RH X.K G' H' ∧ TK X.K H H' ∧ I m σ' G', ⟨m0, σ, G, hs, hg, .refl _ _, i0⟩, ?_⟩
  rintro m τ' H1 ⟨σ1, G1, hs1, hg1, t1, i1⟩
  refine ⟨σ1, G1, _, hs1, hg1, step m σ1 G1 i1, fun b G2 H2 h2 hg2 t2 => ?_⟩
  cases b with
  | false => rw [if_neg (by decide)] at h2 ⊢; exact u1 _ _ _ _ h2 (hs1.mono t2) hg2 (t1.trans t2)
  | true =>
    rw [if_pos rfl] at h2 ⊢
    refine ⟨_, fun σ' H' h => h, σ1, G2, _, rt, nx, _, hs1.mono t2, hg2, h2, ?_, u2.mono (t1.trans t2), u1.mono (t1.trans t2), ?_⟩
    · rintro σ3 G3 τ3 H3 ⟨m', hm, i3⟩ hs3 hg3 t3
      exact ⟨m', hm, σ3, G3, hs3, hg3, (t1.trans t2).trans t3, i3⟩
    · rintro σ3 G3 τ3 H3 ⟨m', hm, i3⟩ hs3 hg3 t3
      exact ⟨m', hm, σ3, G3, hs3, hg3, (t1.trans t2).trans t3, i3⟩⟩
/-! ### targets: a name, or names in a tuple -/
inductive Pt where
  | nm (i : Nat)
  | tp (is : List Nat)
def gsOf : List Nat → TGs
  | [] => gNil
  | i :: is => gCons (gName i) (gsOf is)
def gP (K : PySem.W.Frag) : Pt → TG
  | .nm i => gName i
  | .tp is => gTup K is.length (gsOf is)
def sets : List Nat → List Z → S3 → S3
  | i :: is, w :: ws, σ => sets is ws (σ.set i (some w))
  | _, _, σ => σ
def bindZ : Pt → Z → S3 → Option S3
  | .nm i, w, σ => some (σ.set i (some w))
  | .tp is, .tup ws, σ => if ws.length = is.length then some (sets is ws σ) else none
  | _, _, _ => none
def Pt.slots : Pt → List Nat
  | .nm i => [i]
  | .tp is => is
def setsV : List Nat → List V → L2.St → L2.St
  | i :: is, w :: ws, σ => setsV is ws (σ.set i (some w))
  | _, _, σ => σ
theorem gsOf_ok {H : Hp} {Q : L2.St → Hp → Prop} : ∀ {is : List Nat} {vs : List V} {τ : L2.St}, vs.length = is.length → Q (setsV is vs τ) H → gsOf is vs τ H Q
  | [], [], _, _, q => ⟨rfl, q⟩
  | i :: is, v :: vs, τ, h, q => ⟨v, vs, rfl, gsOf_ok (is := is) (vs := vs) (by simpa using h) q⟩
  | [], _ :: _, _, h, _ => by simp at h
  | _ :: _, [], _, h, _ => by simp at h
theorem setsV_rep {K : PySem.W.Frag} {H : Hp} : ∀ {is : List Nat} {ws : List Z} {vs : List V} {σ : S3} {τ : L2.St}, Reps K H ws vs → RSt K H σ τ → RSt K H (sets is ws σ) (setsV is vs τ)
  | [], ws, vs, σ, τ, _, h => by unfold sets setsV; exact h
  | i :: is, [], vs, σ, τ, r, h => by rw [reps_nil] at r; subst r; exact h
  | i :: is, w :: ws, vs, σ, τ, r, h => by
    rw [reps_cons] at r
    obtain ⟨v, vs', rfl, r1, r2⟩ := r
    exact setsV_rep (is := is) r2 (h.set r1 i)
theorem setsV_keep : ∀ {is : List Nat} {vs : List V} {τ : L2.St} {j : Nat}, j ∉ is → (setsV is vs τ)[j]? = τ[j]?
  | [], _, _, _, _ => by unfold setsV; rfl
  | i :: is, [], _, _, _ => by unfold setsV; rfl
  | i :: is, v :: vs, τ, j, h => by
    have h1 : j ≠ i := fun z => h (by rw [z]; exact List.mem_cons_self ..)
    have h2 : j ∉ is := fun z => h (List.mem_cons_of_mem _ z)
    show (setsV is vs (τ.set i (some v)))[j]? = τ[j]?
    rw [setsV_keep h2, List.getElem?_set_ne (Ne.symm h1)]
theorem setsV_length : ∀ {is : List Nat} {vs : List V} {τ : L2.St}, (setsV is vs τ).length = τ.length
  | [], _, _ => by unfold setsV; rfl
  | i :: is, [], _ => by unfold setsV; rfl
  | i :: is, v :: vs, τ => by
    show (setsV is vs (τ.set i (some v))).length = τ.length
    rw [setsV_length, List.length_set]
theorem gP_ok {K : PySem.W.Frag} {H : Hp} {pt : Pt} {w : Z} {v : V} {σ σ' : S3} {τ : L2.St} {Q : L2.St → Hp → Prop} (r : Rep K H w v) (hs : RSt K H σ τ) (hb : bindZ pt w σ = some σ')
    (q : ∀ τ', RSt K H σ' τ' → τ'.length = τ.length → (∀ j, j ∉ pt.slots → τ'[j]? = τ[j]?) → Q τ' H) : gP K pt v τ H Q := by
  cases pt with
  | nm i =>
    cases hb
    exact q _ (hs.set r i) (by rw [List.length_set]) fun j hj => by rw [List.getElem?_set_ne]; intro z; exact hj (by rw [z]; exact List.mem_cons_self ..)
  | tp is =>
    cases w with
    | tup ws =>
      rw [rep_tup] at r
      obtain ⟨a, vs, rfl, e, rs⟩ := r
      have hb' : (if ws.length = is.length then some (sets is ws σ) else none) = some σ' := hb
      by_cases hl : ws.length = is.length
      · rw [if_pos hl] at hb'
        cases hb'
        exact ⟨a, vs, rfl, SqT.of e, by rw [← rs.length]; exact hl, gsOf_ok (by rw [← rs.length]; exact hl) (q _ (setsV_rep rs hs) setsV_length fun j hj => setsV_keep hj)⟩
      · rw [if_neg hl] at hb'
        cases hb'
    | _ => cases hb
def QP (X : Cx) (tg : Expr) (pt : Pt) : Prop := PG X tg (gP X.K pt)
def uAsg (te : E3) (pt : Pt) : X3 := fun nx _ _ _ σ G => te σ G fun x G1 => ∃ σ', bindZ pt x σ = some σ' ∧ nx σ' G1
theorem low_asg {D : Ends} {pt : Pt} {K : PySem.W.Frag} {τ : L2.St} {H : Hp} (h : lowS K (uAsg te pt) D τ H) : tAsg (low K te) (gP K pt) D τ H := by
  obtain ⟨σ, G, nx, rt, bk, ct, hs, hg, h, u1, u2, u3, u4⟩ := h
  exact ⟨σ, G, _, hs, hg, h, fun w G1 v H1 ⟨σ', hb, h1⟩ rv hg1 t1 => gP_ok rv (hs.mono t1) hb fun τ' hs' _ _ => u1 _ _ _ _ h1 hs' hg1 t1⟩
theorem z_asg {pt : Pt} (h : PS X st (tAsg (low X.K te) (gP X.K pt))) : QS X st (uAsg te pt) := ⟨psImp h fun _ _ _ => low_asg⟩
theorem z_set {i : Nat} {x : Str} {pos' : Pos} (hN : X.N.Nodup) (hi : X.N[i]? = some x) (hx : Loc X.env.scope x) (he : QE X e te) (hs : swapsWith e (some (.Name x pos')) pos.line X.env = pure false := by rfl) (hf : X.fn x = true ∨ X.env.scope.names.lookup x = some .local := by first | exact .inl rfl | exact .inr rfl | assumption) :
    QS X (.Assign [.Name x pos'] e pos) (uAsg te (.nm i)) := ⟨psImp (ps_set hN hi hx he.p hs hf) fun _ _ _ => low_asg (pt := .nm i)⟩
theorem z_asgP {pt : Pt} (he : QE X e te) (hg : QP X tg pt) (hs : swapsWithSole [tg] e pos.line X.env = pure false := by rfl) (hw : swappedStores [tg] e X.env = pure none := by rfl)
    (h1 : (assignEach [tg] X.env).map (·.2) = [assign tg X.env] := by rfl) : QS X (.Assign [tg] e pos) (uAsg te pt) := ⟨psImp (ps_asg he.p hg hs hw h1) fun _ _ _ => low_asg⟩
/-! o[i] = e -/
abbrev Z3 := Z → Z → Z → Hq → (Hq → Prop) → Prop
def lowZ (K : PySem.W.Frag) (r : Z3) : TSet := fun o i v H Q => ∃ a b w G R, Rep K H a o ∧ Rep K H b i ∧ Rep K H w v ∧ RH K G H ∧ r a b w G R ∧ ∀ G' H', R G' → RH K G' H' → TK K H H' → Q H'
def SetQ (X : Cx) (r : Z3) : Prop := PSet X (lowZ X.K r)
theorem setImp {r r' : TSet} (h : PSet X r') (i : ∀ o j v H Q, r o j v H Q → r' o j v H Q) : PSet X r := fun pins s σ H o j v ov iv u Q I ro ri rv q => h pins s σ H o j v ov iv u Q I ro ri rv (i _ _ _ _ _ q)
def uPut (te to ti : E3) (r : Z3) : X3 := fun nx _ _ _ σ G => te σ G fun w G1 => to σ G1 fun o G2 => ti σ G2 fun i G3 => r o i w G3 fun G4 => nx σ G4
theorem z_put {to ti : E3} {r : Z3} (h : PS X st (tAsg (low X.K te) (gSub (low X.K to) (low X.K ti) (lowZ X.K r)))) : QS X st (uPut te to ti r) := ⟨psImp h fun D τ H ⟨σ, G, nx, rt, bk, ct, hs, hg, h, u1, u2, u3, u4⟩ =>
  ⟨σ, G, _, hs, hg, h, fun w G1 v H1 h1 rv hg1 t1 => ⟨σ, G1, _, hs.mono t1, hg1, h1, fun w2 G2 v2 H2 h2 rv2 hg2 t2 => ⟨σ, G2, _, hs.mono (t1.trans t2), hg2, h2, fun w3 G3 v3 H3 h3 rv3 hg3 t3 =>
    ⟨w2, w3, w, G3, _, rv2.mono t3, rv3, rv.mono (t2.trans t3), hg3, h3, fun G4 H4 h4 hg4 t4 => u1 _ _ _ _ h4 (hs.mono (((t1.trans t2).trans t3).trans t4)) hg4 (((t1.trans t2).trans t3).trans t4)⟩⟩⟩⟩⟩
theorem z_putA {o i : Expr} {to ti : E3} {r : Z3} {p' : Pos} (he : QE X e te) (ho : QE X o to) (hi : QE X i ti) (hr : SetQ X r) (hs : swapsWithSole [.Subscript o i p'] e pos.line X.env = pure false := by rfl) (hw : swappedStores [.Subscript o i p'] e X.env = pure none := by rfl)
    (h1 : (assignEach [.Subscript o i p'] X.env).map (·.2) = [assign (.Subscript o i p') X.env] := by rfl) (ha : ∀ v, assign (.Subscript o i p') X.env v = (do
      let ov ← holding [v] (eval o X.env)
      let iv ← holding [v, ov] (eval i X.env)
      standAt p'
      holding [v, ov, iv] (setItem ov iv v)
      release [v, ov, iv] []) := by intro _; rfl) : QS X (.Assign [.Subscript o i p'] e pos) (uPut te to ti r) := z_put (ps_asg he.p (pg_sub ho.p hi.p hr ha) hs hw h1)
/-! name op= e -/
def uAug (i : Nat) (te : E3) (r : R3) : X3 := fun nx _ _ _ σ G => ∃ x, σ[i]? = some (some x) ∧ te σ G fun y G1 => r x y G1 fun z G2 => nx (σ.set i (some z)) G2
theorem z_aug {i : Nat} {r : R3} (h : PS X st (tAug i (low X.K te) (low2 X.K r))) : QS X st (uAug i te r) := ⟨psImp h fun D τ H ⟨σ, G, nx, rt, bk, ct, hs, hg, ⟨x, ex, h⟩, u1, u2, u3, u4⟩ => by
  obtain ⟨v, ev, rv⟩ := hs.get ex
  exact ⟨v, ev, σ, G, _, hs, hg, h, fun w G1 v1 H1 h1 rv1 hg1 t1 => ⟨x, w, G1, _, rv.mono t1, rv1, hg1, h1, fun w2 G2 v2 H2 h2 rv2 hg2 t2 => u1 _ _ _ _ h2 ((hs.mono (t1.trans t2)).set rv2 i) hg2 (t1.trans t2)⟩⟩⟩
theorem z_augA {i : Nat} {x : Str} {op : Operator} {r : R3} {pos' : Pos} (hN : X.N.Nodup) (hi : X.N[i]? = some x) (hx : Loc X.env.scope x) (he : QE X e te) (ho : OpQ X (inplaceOp op) r) (hf : X.fn x = true ∨ X.env.scope.names.lookup x = some .local := by first | exact .inl rfl | exact .inr rfl | assumption) :
    QS X (.AugAssign (.Name x pos') op e pos) (uAug i te r) := z_aug (ps_aug hN hi hx he.p ho hf)
end
/-! ### loops -/
/-- what is walked: the items, and what must stay true of the heap while they are walked -/
abbrev I3 := S3 → Hq → (List Z → (Hq → Prop) → Hq → Prop) → Prop
def LowIt (K : PySem.W.Frag) (ws : List Z) (ok : Hq → Prop) (J : It) (H0 : Hp) : Prop := ∀ i G H, RH K G H → TK K H0 H → ok G → i ≤ ws.length →
  (i = ws.length → J.stop i H) ∧ ∀ w, ws[i]? = some w → J.go i H ∧ ∀ x H', J.yld i H x H' → Rep K H' w x ∧ RH K G H' ∧ TK K H H' ∧ ∀ D, H D = none → H' D = none
def lowI (K : PySem.W.Frag) (wi : I3) : TI := fun τ H R2 => ∃ σ G R, RSt K H σ τ ∧ RH K G H ∧ wi σ G R ∧ ∀ ws ok G' J H', R ws ok G' → LowIt K ws ok J H' → RH K G' H' → TK K H H' → R2 J H'
def QI (X : Cx) (tg iter : Expr) (wi : I3) : Prop := PI X tg iter (lowI X.K wi)
theorem piImp {X : Cx} {tg iter : Expr} {wi wi' : TI} (h : PI X tg iter wi') (i : ∀ σ H R, wi σ H R → wi' σ H R) : PI X tg iter wi := fun pins s σ H R I q => h pins s σ H R I (i σ H R q)
/-- the turns of a loop -/
def FORB (ws : List Z) (ok : Hq → Prop) (pt : Pt) (tb : X3) (nx : C3) (rt : K3) (σ : S3) (G1 : Hq) : Prop := ∃ I : Nat → S3 → Hq → Prop, I 0 σ G1 ∧ (∀ i σ G, i ≤ ws.length → I i σ G → ok G) ∧
  (∀ i x σ G, ws[i]? = some x → I i σ G → ∃ σ', bindZ pt x σ = some σ' ∧ tb (I (i + 1)) rt nx (I (i + 1)) σ' G) ∧ ∀ σ G, I ws.length σ G → nx σ G
def uFor (wi : I3) (pt : Pt) (tb : X3) : X3 := fun nx rt _ _ σ G => wi σ G fun ws ok G1 => FORB ws ok pt tb nx rt σ G1
theorem for_by {ws : List Z} {ok : Hq → Prop} {pt : Pt} {tb : X3} {nx : C3} {rt : K3} {σ : S3} {G : Hq} (I : Nat → S3 → Hq → Prop) (h0 : I 0 σ G) (hok : ∀ i σ G, i ≤ ws.length → I i σ G → ok G)
    (step : ∀ i x σ G, ws[i]? = some x → I i σ G → ∃ σ', bindZ pt x σ = some σ' ∧ tb (I (i + 1)) rt nx (I (i + 1)) σ' G) (fin : ∀ σ G, I ws.length σ G → nx σ G) : FORB ws ok pt tb nx rt σ G := ⟨I, h0, hok, step, fin⟩
theorem z_for {X : Cx} {tg iter : Expr} {sb : List Stmt} {t : X3} {wi : I3} {pt : Pt} {pos : Pos} (hp : PassesOwn (model X.prog X.w) X.A X.env X.xe) (hc : X.calm = true) (hi : QI X tg iter wi) (hg : QP X tg pt) (hb : QSs X sb t)
    (hs : ∀ x, foldedSetIterable iter X.env x = pure x := by intro _; rfl) : QS X (.For tg iter sb [] pos) (uFor wi pt t) := ⟨psImp (ps_for hp hc hi hg hb.p hs) fun D τ H ⟨σ, G, nx, rt, bk, ct, hs, hg, h, u1, u2, u3, u4⟩ => by
  refine ⟨σ, G, _, hs, hg, h, ?_⟩
  rintro ws ok G1 J H1 ⟨I, i0, hok, step, fin⟩ hJ hg1 t1
  refine ⟨fun i m τ' H' => m = ws.length - i ∧ i ≤ ws.length ∧ ∃ σ' G', RSt X.K H' σ' τ' ∧ RH X.K G' H' ∧ TK X.K H1 H' ∧ I i σ' G', ⟨ws.length, by simp, Nat.zero_le _, σ, G1, hs.mono t1, hg1, .refl _ _, i0⟩, ?_⟩
  rintro i m τ2 H2 ⟨rfl, hle, σ2, G2, hs2, hg2, t2, i2⟩
  have hJ2 := hJ i G2 H2 hg2 t2 (hok i σ2 G2 hle i2) hle
  by_cases hlt : i < ws.length
  · obtain ⟨go, yl⟩ := hJ2.2 _ (List.getElem?_eq_getElem hlt)
    refine .inr ⟨go, fun τ' H' => i + 1 ≤ ws.length ∧ ∃ σ' G', RSt X.K H' σ' τ' ∧ RH X.K G' H' ∧ TK X.K H1 H' ∧ I (i + 1) σ' G', fun σ' H' q => ⟨ws.length - (i + 1), by omega, rfl, q.1, q.2⟩, fun x H3 y3 => ?_⟩
    obtain ⟨rx, hg3, t3, _⟩ := yl x H3 y3
    obtain ⟨σ', hb', h3⟩ := step i _ σ2 G2 (List.getElem?_eq_getElem hlt) i2
    refine gP_ok rx (hs2.mono t3) hb' fun τ' hs' _ _ => ⟨σ', G2, _, rt, nx, _, hs', hg3, h3, ?_, u2.mono ((t1.trans t2).trans t3), u1.mono ((t1.trans t2).trans t3), ?_⟩
    · exact fun σ4 G4 τ4 H4 h4 hs4 hg4 t4 => ⟨hlt, σ4, G4, hs4, hg4, (t2.trans t3).trans t4, h4⟩
    · exact fun σ4 G4 τ4 H4 h4 hs4 hg4 t4 => ⟨hlt, σ4, G4, hs4, hg4, (t2.trans t3).trans t4, h4⟩
  · have e : i = ws.length := by omega
    subst e
    exact .inl ⟨hJ2.1 rfl, u1 _ _ _ _ (fin σ2 G2 i2) hs2 hg2 (t1.trans t2)⟩⟩
/-! what may be walked -/
section
variable {X : Cx} {tg l : Expr} {tl : E3}
def wkL (x : Z) (G : Hq) (R : List Z → (Hq → Prop) → Hq → Prop) : Prop := match x with
  | .ref a => ∃ ws, G a = some (.lst ws) ∧ R ws (fun G => G a = some (.lst ws)) G
  | .scr _ ns => R (ns.map Z.int) (fun _ => True) G
  | _ => False
def iL (tl : E3) : I3 := fun σ G R => tl σ G fun x G1 => wkL x G1 R
theorem lowIt_list {K : PySem.W.Frag} {a : Addr} {ws : List Z} {H : Hp} : LowIt K ws (fun G => G a = some (.lst ws)) (Itl K a) H := fun i G H hg t ok hi => by
  obtain ⟨vs, e, rs⟩ := hg a _ ok
  refine ⟨fun h => ⟨vs, SqL.of e, by rw [← rs.length, h]; exact Nat.le_refl _⟩, fun w hw => ?_⟩
  obtain ⟨v, ev, rv⟩ := rs.get hw
  refine ⟨⟨vs, v, SqL.of e, ev⟩, ?_⟩
  rintro x H' ⟨rfl, y⟩
  have := y vs (SqL.of e)
  rw [ev] at this
  cases this
  exact ⟨rv, hg, .refl _ _, fun _ h => h⟩
theorem lowIt_scr {K : PySem.W.Frag} {a : Addr} {ns : List Int} {H0 : Hp} (f : Fz K H0 a (ns.map V.int)) : LowIt K (ns.map Z.int) (fun _ => True) (Itl K a) H0 := fun i G H hg t ok hi => by
  have fs := (t.frz _ _ f).sq
  have rs : Reps K H (ns.map Z.int) (ns.map V.int) := ints_reps ns
  refine ⟨fun h => ⟨_, fs, by rw [← rs.length, h]; exact Nat.le_refl _⟩, fun w hw => ?_⟩
  obtain ⟨v, ev, rv⟩ := rs.get hw
  refine ⟨⟨_, v, fs, ev⟩, ?_⟩
  rintro x H' ⟨rfl, y⟩
  have := y _ fs
  rw [ev] at this
  cases this
  exact ⟨rv, hg, .refl _ _, fun _ h => h⟩
theorem it_list (hl : QE X l tl) : QI X tg l (iL tl) := piImp (pi_list hl.p) fun τ H R2 ⟨σ, G, R, hs, hg, h, up⟩ => by
  refine ⟨σ, G, _, hs, hg, h, fun w G1 v H1 h1 rv hg1 t1 => ?_⟩
  cases w with
  | ref a =>
    rw [rep_ref] at rv
    obtain ⟨ws, e, h1⟩ := h1
    obtain ⟨vs, e', _⟩ := hg1 a _ e
    exact ⟨a, rv, ⟨vs, SqL.of e'⟩, up _ _ _ _ _ h1 lowIt_list hg1 t1⟩
  | scr a ns =>
    rw [rep_scr] at rv
    exact ⟨a, rv.1, ⟨_, rv.2.sq⟩, up _ _ _ _ _ h1 (lowIt_scr rv.2) hg1 t1⟩
  | _ => exact False.elim h1
def wkT (x : Z) (G : Hq) (R : List Z → (Hq → Prop) → Hq → Prop) : Prop := match x with
  | .tup ws => R ws (fun _ => True) G
  | _ => False
def iT (tl : E3) : I3 := fun σ G R => tl σ G fun x G1 => wkT x G1 R
theorem lowIt_tup {K : PySem.W.Frag} {a : Addr} {ws : List Z} {vs : List V} {H0 : Hp} (e : H0 a = some (.tup vs)) (rs : Reps K H0 ws vs) : LowIt K ws (fun _ => True) (Itt K a) H0 := fun i G H hg t ok hi => by
  have e := t.tup _ _ e
  have rs := rs.mono t
  refine ⟨fun h => ⟨vs, SqT.of e, by rw [← rs.length, h]; exact Nat.le_refl _⟩, fun w hw => ?_⟩
  obtain ⟨v, ev, rv⟩ := rs.get hw
  refine ⟨⟨vs, v, SqT.of e, ev⟩, ?_⟩
  rintro x H' ⟨rfl, y⟩
  have := y vs (SqT.of e)
  rw [ev] at this
  cases this
  exact ⟨rv, hg, .refl _ _, fun _ h => h⟩
theorem it_tup (hl : QE X l tl) : QI X tg l (iT tl) := piImp (pi_tup hl.p) fun τ H R2 ⟨σ, G, R, hs, hg, h, up⟩ => by
  refine ⟨σ, G, _, hs, hg, h, fun w G1 v H1 h1 rv hg1 t1 => ?_⟩
  cases w with
  | tup ws =>
    rw [rep_tup] at rv
    obtain ⟨a, vs, rfl, e, rs⟩ := rv
    exact ⟨a, rfl, ⟨vs, SqT.of e⟩, up _ _ _ _ _ h1 (lowIt_tup e rs) hg1 t1⟩
  | _ => exact False.elim h1
/-- lo, lo + 1, .. -/
def rng (lo : Int) : Nat → List Z
  | 0 => []
  | n + 1 => .int lo :: rng (lo + 1) n
theorem rng_length : ∀ (lo : Int) (n : Nat), (rng lo n).length = n
  | _, 0 => rfl
  | lo, n + 1 => by rw [rng, List.length_cons, rng_length]
theorem rng_get : ∀ {lo : Int} {n i : Nat} {w : Z}, (rng lo n)[i]? = some w → i < n ∧ w = .int (lo + i)
  | _, 0, _, _, h => by simp [rng] at h
  | lo, n + 1, 0, w, h => by simp [rng] at h; exact ⟨by omega, by rw [← h]; simp⟩
  | lo, n + 1, i + 1, w, h => by
    have := rng_get (lo := lo + 1) (n := n) (i := i) (w := w) (by simpa [rng] using h)
    refine ⟨by omega, ?_⟩
    rw [this.2]
    congr 1
    omega
theorem lowIt_rng {K : PySem.W.Frag} {lo : Int} {n : Nat} {H0 : Hp} : LowIt K (rng lo n) (fun _ => True) (Itr lo n) H0 := fun i G H hg t ok hi => by
  rw [rng_length]
  refine ⟨fun h => by rw [h]; exact Nat.le_refl _, fun w hw => ?_⟩
  obtain ⟨h1, h2⟩ := rng_get hw
  refine ⟨h1, ?_⟩
  rintro x H' ⟨rfl, rfl⟩
  exact ⟨by rw [h2, rep_int], hg, .refl _ _, fun _ h => h⟩
variable {t : A3}
def iR1 (t : A3) : I3 := fun σ G R => t σ G fun ws G1 => ∃ j : Int, ws = [.int j] ∧ -(2 ^ 62) ≤ j ∧ j < 2 ^ 62 ∧ R (rng 0 j.toNat) (fun _ => True) G1
def iR2 (t : A3) : I3 := fun σ G R => t σ G fun ws G1 => ∃ i j : Int, ws = [.int i, .int j] ∧ (-(2 ^ 62) ≤ i ∧ i < 2 ^ 62 ∧ -(2 ^ 62) ≤ j ∧ j < 2 ^ 62) ∧ R (rng i (j - i).toNat) (fun _ => True) G1
theorem it_range1 {wi : Expr} (h : PI X tg wi (iRng1 (lowA X.K t))) : QI X tg wi (iR1 t) := piImp h fun τ H R2 ⟨σ, G, R, hs, hg, h, up⟩ => by
  refine ⟨σ, G, _, hs, hg, h, fun ws G1 vs H1 ⟨j, e, a, b, h1⟩ rv hg1 t1 => ?_⟩
  subst e
  obtain ⟨v, rfl, r⟩ := rv.one
  rw [rep_int] at r
  subst r
  exact ⟨j, rfl, a, b, up _ _ _ _ _ h1 lowIt_rng hg1 t1⟩
theorem it_range2 {wi : Expr} (h : PI X tg wi (iRng2 (lowA X.K t))) : QI X tg wi (iR2 t) := piImp h fun τ H R2 ⟨σ, G, R, hs, hg, h, up⟩ => by
  refine ⟨σ, G, _, hs, hg, h, fun ws G1 vs H1 ⟨i, j, e, a, h1⟩ rv hg1 t1 => ?_⟩
  subst e
  obtain ⟨v, v', rfl, r, r'⟩ := rv.two
  rw [rep_int] at r r'
  subst r r'
  exact ⟨i, j, rfl, a, up _ _ _ _ _ h1 lowIt_rng hg1 t1⟩
end
section
variable {X : Cx} {tg a b : Expr} {p pos : Pos} {t : A3}
theorem it_rangeA1 (hg : Gl X "range") (hm : X.mg "range" = none) (ha : QA X [a] t) (hs : starEach [a] X.env = [(false, eval a X.env)] := by rfl) : QI X tg (.Call (.Name "range" p) [a] [] pos) (iR1 t) := it_range1 (pi_range1 hg hm ha.p hs)
theorem it_rangeA2 (hg : Gl X "range") (hm : X.mg "range" = none) (ha : QA X [a, b] t) (hs : starEach [a, b] X.env = [(false, eval a X.env), (false, eval b X.env)] := by rfl) (hs2 : starEach [b] X.env = [(false, eval b X.env)] := by rfl) : QI X tg (.Call (.Name "range" p) [a, b] [] pos) (iR2 t) := it_range2 (pi_range2 hg hm ha.p hs hs2)
end
/-! ### list comprehensions -/
def cap3 (cap : List (Option Nat)) (σ : S3) : S3 := cap.map fun o => o.bind fun j => (σ[j]?).join
theorem cap_rep {K : PySem.W.Frag} {H : Hp} {σ : S3} {τ : L2.St} (h : RSt K H σ τ) : ∀ cap : List (Option Nat), RSt K H (cap3 cap σ) (capSt cap τ)
  | [] => .nil
  | none :: cap => .cons (fun _ e => nomatch e) (cap_rep h cap)
  | some j :: cap => .cons (fun w e => by
      have e' : (σ[j]?).join = some w := e
      have e2 : σ[j]? = some (some w) := by
        cases q : σ[j]? with
        | none => rw [q] at e'; cases e'
        | some o => rw [q] at e'; cases o with
          | none => cases e'
          | some z => cases e'; rfl
      obtain ⟨v, ev, r⟩ := h.get e2
      exact ⟨v, by show (τ[j]?).join = some v; rw [ev]; rfl, r⟩) (cap_rep h cap)
theorem keepsSt_of : ∀ {a b : L2.St}, b.length = a.length → (∀ (i : Nat) v, a[i]? = some (some v) → b[i]? = some (some v)) → keepsSt a b
  | [], [], _, _ => True.intro
  | none :: a, _ :: b, h, k => keepsSt_of (a := a) (b := b) (by simpa using h) fun i v e => by simpa using k (i + 1) v (by simpa using e)
  | some x :: a, y :: b, h, k => ⟨by simpa using k 0 x rfl, keepsSt_of (a := a) (b := b) (by simpa using h) fun i v e => by simpa using k (i + 1) v (by simpa using e)⟩
  | [], _ :: _, h, _ => by simp at h
  | _ :: _, [], h, _ => by simp at h
/-- the turns of a comprehension into the list at D -/
def LCB (ws : List Z) (ok : Hq → Prop) (cap : List (Option Nat)) (pt : Pt) (tt : T3) (te : E3) (σ : S3) (R : K3) (D : Addr) (G1 : Hq) : Prop := ∃ I : Nat → List Z → Hq → Prop, I 0 [] (put G1 D (.lst [])) ∧ (∀ i ys G, i ≤ ws.length → I i ys G → ok G) ∧
  (∀ i x ys G, ws[i]? = some x → I i ys G → ∃ σ', bindZ pt x (cap3 cap σ) = some σ' ∧ tt σ' G fun b G4 => if b = true then te σ' G4 fun y G5 => G5 D = some (.lst ys) ∧ ys.length < sizeLine ∧ I (i + 1) (ys ++ [y]) (put G5 D (.lst (ys ++ [y]))) else I (i + 1) ys G4) ∧
  ∀ ys G, I ws.length ys G → R (.ref D) G
def uLC (wi : I3) (cap : List (Option Nat)) (pt : Pt) (tt : T3) (te : E3) : E3 := fun σ G R => wi σ G fun ws ok G1 => ∀ D, G1 D = none → LCB ws ok cap pt tt te σ R D G1
theorem lc_by {ws : List Z} {ok : Hq → Prop} {cap : List (Option Nat)} {pt : Pt} {tt : T3} {te : E3} {σ : S3} {R : K3} {D : Addr} {G1 : Hq} (I : Nat → List Z → Hq → Prop) (h0 : I 0 [] (put G1 D (.lst []))) (hok : ∀ i ys G, i ≤ ws.length → I i ys G → ok G)
    (step : ∀ i x ys G, ws[i]? = some x → I i ys G → ∃ σ', bindZ pt x (cap3 cap σ) = some σ' ∧ tt σ' G fun b G4 => if b = true then te σ' G4 fun y G5 => G5 D = some (.lst ys) ∧ ys.length < sizeLine ∧ I (i + 1) (ys ++ [y]) (put G5 D (.lst (ys ++ [y]))) else I (i + 1) ys G4)
    (fin : ∀ ys G, I ws.length ys G → R (.ref D) G) : LCB ws ok cap pt tt te σ R D G1 := ⟨I, h0, hok, step, fin⟩
theorem take_succ_fm {α β : Type} {f : α → Option β} {ws : List α} {i : Nat} {x : α} (h : ws[i]? = some x) : (ws.take (i + 1)).filterMap f = (ws.take i).filterMap f ++ (f x).toList := by
  rw [List.take_add_one, List.filterMap_append, h]
  cases e : f x <;> simp [e]
/-- where no turn changes the heap -/
theorem lc_pure {ws : List Z} {ok : Hq → Prop} {cap : List (Option Nat)} {pt : Pt} {tt : T3} {te : E3} {σ : S3} {R : K3} {D : Addr} {G1 : Hq} (f : Z → Option Z) (hok : ∀ ys, ok (put G1 D (.lst ys))) (hz : ws.length ≤ 1000)
    (turn : ∀ x, x ∈ ws → ∀ (ys : List Z) (K1 : K3) (K2 : Hq → Prop), (∀ y, f x = some y → K1 y (put G1 D (.lst ys))) → (f x = none → K2 (put G1 D (.lst ys))) → ∃ σ', bindZ pt x (cap3 cap σ) = some σ' ∧ tt σ' (put G1 D (.lst ys)) fun b G4 => if b = true then te σ' G4 K1 else K2 G4)
    (fin : R (.ref D) (put G1 D (.lst (ws.filterMap f)))) : LCB ws ok cap pt tt te σ R D G1 := by
  refine ⟨fun i ys G => ys = (ws.take i).filterMap f ∧ G = put G1 D (.lst ys), ⟨by simp, rfl⟩, ?_, ?_, ?_⟩
  · rintro i ys G _ ⟨_, rfl⟩; exact hok ys
  · rintro i x ys G hx ⟨e, rfl⟩
    refine turn x (List.mem_of_getElem? hx) ys _ _ (fun y hy => ⟨put_same, ?_, ?_, ?_⟩) fun hn => ⟨?_, rfl⟩
    · rw [e]
      exact Nat.lt_of_le_of_lt (Nat.le_trans (List.length_filterMap_le _ _) (by rw [List.length_take]; omega)) (small1000 (Nat.le_refl 1000))
    · rw [take_succ_fm hx, hy, e]; rfl
    · rw [put_put]
    · rw [take_succ_fm hx, hn, e]; simp
  · rintro ys G ⟨e, rfl⟩
    rw [List.take_length] at e
    rw [e]; exact fin
def QIfs (X : Cx) (ifs : List Expr) (t : T3) : Prop := PIfs X ifs (lowT X.K t)
def uTT : T3 := fun _ G R => R true G
theorem ifs_nil {X : Cx} : QIfs X [] uTT := fun pins s τ H Q I ⟨σ, G, R, hs, hg, h, up⟩ => pifs_nil pins s τ H Q I (up _ _ _ h hg (.refl _ _))
theorem ifs_one {X : Cx} {c : Expr} {t : T3} (h : QT X c t) : QIfs X [c] t := pifs_one h.p
theorem slot_ok {cap : List (Option Nat)} {pt : Pt} (hc : (pt.slots.all fun j => decide (cap[j]? = some none)) = true) {τ : L2.St} {i : Nat} {v : V} (h : (capSt cap τ)[i]? = some (some v)) : i ∉ pt.slots := fun hm => by
  have q := of_decide_eq_true ((List.all_eq_true.mp hc) i hm)
  unfold capSt at h
  rw [List.getElem?_map, q] at h
  cases h
theorem low_lc {K : PySem.W.Frag} {wi : I3} {cap : List (Option Nat)} {pt : Pt} {tt : T3} {te : E3} (hc : (pt.slots.all fun j => decide (cap[j]? = some none)) = true) {τ : L2.St} {H : Hp} {Q : VK} (h : low K (uLC wi cap pt tt te) τ H Q) :
    tLC (lowI K wi) cap (gP K pt) (lowT K tt) (low K te) τ H Q := by
  obtain ⟨σ, G, R, hs, hg, h, up⟩ := h
  refine ⟨σ, G, _, hs, hg, h, fun ws ok G1 J H1 h1 hJ hg1 t1 D hD => ?_⟩
  obtain ⟨I, i0, hok, step, fin⟩ := h1 D (hg1.out hD)
  refine ⟨fun i m _ H' => m = ws.length - i ∧ i ≤ ws.length ∧ ∃ ys G', RH K G' H' ∧ TK K H1 H' ∧ I i ys G', ⟨ws.length, by simp, Nat.zero_le _, [], _, hg1.set (o := .lst []) (.new hD) ⟨[], upd_same, .nil⟩, .new hD, i0⟩, ?_⟩
  rintro i m vs H2 ⟨rfl, hle, ys, G2, hg2, t2, i2⟩
  have hJ2 := hJ i G2 H2 hg2 t2 (hok i ys G2 hle i2) hle
  by_cases hlt : i < ws.length
  · obtain ⟨go, yl⟩ := hJ2.2 _ (List.getElem?_eq_getElem hlt)
    refine .inr ⟨go, fun _ H' => i + 1 ≤ ws.length ∧ ∃ ys G', RH K G' H' ∧ TK K H1 H' ∧ I (i + 1) ys G', fun vs' H' q => ⟨ws.length - (i + 1), by omega, rfl, q.1, q.2⟩, fun x H3 y3 => ?_⟩
    obtain ⟨rx, hg3, t3, _⟩ := yl x H3 y3
    obtain ⟨σ', hb', h3⟩ := step i _ ys G2 (List.getElem?_eq_getElem hlt) i2
    refine gP_ok rx (cap_rep (hs.mono ((t1.trans t2).trans t3)) cap) hb' fun τ' hs' hl' hk' => ⟨keepsSt_of hl' fun j v ej => by rw [hk' j (slot_ok hc ej)]; exact ej, ?_⟩
    refine ⟨σ', G2, _, hs', hg3, h3, fun b G4 H4 h4 hg4 t4 => ?_⟩
    cases b with
    | false =>
      rw [if_neg (by decide)] at h4 ⊢
      exact ⟨hlt, ys, G4, hg4, (t2.trans t3).trans t4, h4⟩
    | true =>
      rw [if_pos rfl] at h4 ⊢
      refine ⟨σ', G4, _, hs'.mono t4, hg4, h4, fun y G5 v5 H5 ⟨hD5, hsz, h5⟩ r5 hg5 t5 => ?_⟩
      obtain ⟨vs5, e5, rs5⟩ := hg5 D _ hD5
      refine ⟨vs5, e5, by rw [← rs5.length]; exact hsz, hlt, _, _, hg5.set (.lst e5) (rob_lst (rs5.append (.cons r5 .nil)) (.lst e5)), ?_, h5⟩
      exact (((t2.trans t3).trans t4).trans t5).trans (.lst e5)
  · have e : i = ws.length := by omega
    subst e
    exact .inl ⟨hJ2.1 rfl, up _ _ _ _ (fin ys G2 i2) (by rw [rep_ref]) hg2 (t1.trans t2)⟩
section
variable {X : Cx} {N' : List Str} {sc : Scope} {cap : List (Option Nat)} {tg iter elt : Expr} {ifs : List Expr} {wi : I3} {pt : Pt} {tt : T3} {te : E3} {pos : Pos}
theorem q_lc {N₀ : List Str} {so : Scope} (hc : X.calm = true) (hNN : X.N = N₀) (hso : X.env.scope = so) (ck : capB N₀ so sc N' cap = true) (hp : (pt.slots.all fun j => decide (cap[j]? = some none)) = true) (hi : QI X tg iter wi)
    (hg : ∀ C s H fp, QP (cxC X N' sc C s H fp) tg pt) (ht : ∀ C s H fp, QIfs (cxC X N' sc C s H fp) ifs tt) (he : ∀ C s H fp, QE (cxC X N' sc C s H fp) elt te)
    (hs : ∀ x, foldedSetIterable iter X.env x = pure x := by intro _; rfl) : QE X (.ListComp elt [⟨tg, iter, ifs, 0⟩] sc pos) (uLC wi cap pt tt te) := ⟨peImp (pe_lc (g := gP X.K pt) (tt := lowT X.K tt) (te := low X.K te) hc hNN hso ck hi hg ht (fun C s H fp => (he C s H fp).p) hs) fun _ _ _ => low_lc hp⟩
theorem z_setLC {N₀ : List Str} {so : Scope} {i : Nat} {x : Str} {pos' spos : Pos} (hN : X.N.Nodup) (hx : X.N[i]? = some x) (hl : X.env.scope.names.lookup x = some .local) (hc : X.calm = true) (hNN : X.N = N₀) (hso : X.env.scope = so) (ck : capB N₀ so sc N' cap = true)
    (hp : (pt.slots.all fun j => decide (cap[j]? = some none)) = true) (hi : QI X tg iter wi)
    (hg : ∀ C s H fp, QP (cxC X N' sc C s H fp) tg pt) (ht : ∀ C s H fp, QIfs (cxC X N' sc C s H fp) ifs tt) (he : ∀ C s H fp, QE (cxC X N' sc C s H fp) elt te)
    (hsw : swapsWith (.ListComp elt [⟨tg, iter, ifs, 0⟩] sc pos) (some (.Name x pos')) spos.line X.env = pure true := by rfl)
    (hs : ∀ x, foldedSetIterable iter X.env x = pure x := by intro _; rfl) : QS X (.Assign [.Name x pos'] (.ListComp elt [⟨tg, iter, ifs, 0⟩] sc pos) spos) (uAsg (uLC wi cap pt tt te) (.nm i)) := ⟨psImp (ps_setLC (g := gP X.K pt) (tt := lowT X.K tt) (te := low X.K te) hN hx hl hc hNN hso ck hi hg ht (fun C s H fp => (he C s H fp).p) hsw hs) fun D τ H h => low_lc hp (low_asg (pt := .nm i) h)⟩
end
/-! ### a def by its body -/
section
variable {P : Program} {w : World} {K : PySem.W.Frag} {mg : Str → Option Value} {base : Heap}
theorem fn3 {x qual : Str} {st : Stmt} {f : Addr} {fd : FuncData} {N ps : List Str} {k : Nat} {sp : P3} (F : Fun K x qual st f fd) (S : FnScope N ps (defScope st)) (len : ∀ ws G R, sp ws G R → ws.length = ps.length)
    (hbody : ∀ (cdv : Value) (A : Around) (outer : List Env) (s : Shared) (H : Hp) (E : XK) (ws : List Z) (G : Hq) (R : K3), Room k (A.deeper (envOfC qual (defScope st) s.heap.objs.size f cdv)) → sp ws G R →
      ∃ t, QSs (cxOf CX0 P w K mg base N qual (defScope st) f cdv A outer s H E).nox (defBody st) t ∧ t (fun _ G' => R .non G') R (fun _ _ => False) (fun _ _ => False) (start3 N ws) G) : FnOk P w K mg base CX0 (k + 1) f fd ps (lowP K sp) := by
  refine F.ok S (fun vs H Q E ⟨ws, G, R, rs, hg, h, up⟩ => by rw [← rs.length]; exact len _ _ _ h) ?_
  rintro cdv A outer s H vs Q E hr ⟨ws, G, R, rs, hg, h, up⟩
  obtain ⟨t, ht, hq⟩ := hbody cdv A outer s H E ws G R hr h
  exact ⟨_, ht.p, start3 N ws, G, _, R, _, _, .start rs, hg, hq, fun σ' G' τ' H' h' hs' hg' t' => up _ _ _ _ h' (by rw [rep_non]) hg' t', up, fun _ _ _ _ h _ _ _ => h.elim, fun _ _ _ _ h _ _ _ => h.elim⟩
end
end L3
namespace L3
open PySem PySem.Spec PyProof.Rows L2
/-! ## operators on values -/
section
variable {X : Cx}
def zAdd : R3 := fun x y G R => match x, y with
  | .int i, .int j => R (.int (i + j)) G
  | .str a, .str b => a.length + b.length ≤ sizeLine ∧ R (.str (a ++ b)) G
  | .tup xs, .tup ys => xs ≠ [] ∧ xs.length + ys.length ≤ sizeLine ∧ R (.tup (xs ++ ys)) G
  | .ref p, .ref q => ∃ xs ys, G p = some (.lst xs) ∧ G q = some (.lst ys) ∧ xs.length + ys.length ≤ sizeLine ∧ ∀ t, G t = none → R (.ref t) (put G t (.lst (xs ++ ys)))
  | _, _ => False
theorem o_add : OpQ X (binaryOp .Add) zAdd := opImp (op_add.or (op_add_str.or (op_catT.or op_cat))) fun x y H Q ⟨a, b, G, R, ra, rb, hg, h, up⟩ => by
  cases a with
  | int i =>
    cases b with
    | int j => rw [rep_int] at ra rb; exact .inl ⟨_, _, ra, rb, up _ _ _ _ h (by rw [rep_int]) hg (.refl _ _)⟩
    | _ => exact False.elim h
  | str i =>
    cases b with
    | str j => rw [rep_str] at ra rb; exact .inr (.inl ⟨_, _, ra, rb, h.1, up _ _ _ _ h.2 (by rw [rep_str]) hg (.refl _ _)⟩)
    | _ => exact False.elim h
  | tup us =>
    cases b with
    | tup ws =>
      rw [rep_tup] at ra rb
      obtain ⟨p, xs, rfl, e1, r1⟩ := ra
      obtain ⟨q, ys, rfl, e2, r2⟩ := rb
      obtain ⟨h0, hz, h⟩ := h
      refine .inr (.inr (.inl ⟨p, q, xs, ys, rfl, rfl, SqT.of e1, SqT.of e2, fun z => ?_, by rw [← r1.length, ← r2.length]; exact hz, fun z => ?_, fun z t ht => ?_⟩))
      · subst z
        exact h0 (List.length_eq_zero_iff.mp r1.length)
      · subst z
        have e : ws = [] := List.length_eq_zero_iff.mp r2.length
        subst e
        rw [List.append_nil] at h
        exact up _ _ _ _ h (by rw [rep_tup]; exact ⟨p, xs, rfl, e1, r1⟩) hg (.refl _ _)
      · exact up _ _ _ _ h (by rw [rep_tup]; exact ⟨t, xs ++ ys, rfl, upd_same, Reps.mono (.new ht) _ _ (r1.append r2)⟩) (hg.hid ht) (.new ht)
    | _ => exact False.elim h
  | ref p =>
    cases b with
    | ref q =>
      rw [rep_ref] at ra rb
      subst ra rb
      obtain ⟨xs, ys, e1, e2, hz, h⟩ := h
      obtain ⟨vs, e1', r1⟩ := hg _ _ e1
      obtain ⟨us, e2', r2⟩ := hg _ _ e2
      exact .inr (.inr (.inr ⟨_, _, vs, us, rfl, rfl, e1', e2', by rw [← r1.length, ← r2.length]; exact hz, fun t ht => up _ _ _ _ (h t (hg.out ht)) (by rw [rep_ref]) (hg.set (.new ht) (rob_lst (r1.append r2) (.new ht))) (.new ht)⟩))
    | _ => exact False.elim h
  | _ => exact False.elim h
/-- ints in, under C, a value out -/
def zI (C : Int → Int → Prop) (g : Int → Int → Z) : R3 := fun x y G R => match x, y with
  | .int i, .int j => C i j ∧ R (g i j) G
  | _, _ => False
def zI0 (g : Int → Int → Z) : R3 := fun x y G R => match x, y with
  | .int i, .int j => R (g i j) G
  | _, _ => False
theorem oI {f : Value → Value → Sem Value} {C : Int → Int → Prop} {g : Int → Int → Int} (h : OpR X f (rI C fun i j => .int (g i j))) : OpQ X f (zI C fun i j => .int (g i j)) := opImp h fun x y H Q ⟨a, b, G, R, ra, rb, hg, h, up⟩ => by
  cases a <;> cases b <;> first
    | exact False.elim h
    | (rw [rep_int] at ra rb; exact ⟨_, _, ra, rb, h.1, up _ _ _ _ h.2 (by rw [rep_int]) hg (.refl _ _)⟩)
theorem oI0 {f : Value → Value → Sem Value} {g : Int → Int → Int} (h : OpR X f (rI0 fun i j => .int (g i j))) : OpQ X f (zI0 fun i j => .int (g i j)) := opImp h fun x y H Q ⟨a, b, G, R, ra, rb, hg, h, up⟩ => by
  cases a <;> cases b <;> first
    | exact False.elim h
    | (rw [rep_int] at ra rb; exact ⟨_, _, ra, rb, up _ _ _ _ h (by rw [rep_int]) hg (.refl _ _)⟩)
theorem o_sub : OpQ X (binaryOp .Sub) (zI0 fun i j => .int (i - j)) := oI0 op_sub
theorem o_mul : OpQ X (binaryOp .Mult) (zI CMul fun i j => .int (i * j)) := oI op_mul
theorem o_fdiv : OpQ X (binaryOp .FloorDiv) (zI CDivL fun i j => .int (i / j)) := oI op_fdivL
theorem o_mod : OpQ X (binaryOp .Mod) (zI (fun _ j => 0 < j) fun i j => .int (i % j)) := oI op_mod
theorem o_pow : OpQ X (binaryOp .Pow) (zI CPow fun i j => .int (i ^ j.toNat)) := oI op_pow
theorem o_iadd : OpQ X (inplaceOp .Add) (zI0 fun i j => .int (i + j)) := oI0 iop_add
theorem o_isub : OpQ X (inplaceOp .Sub) (zI0 fun i j => .int (i - j)) := oI0 iop_sub
def zNeg : Z → Hq → K3 → Prop := fun x G R => match x with
  | .int i => R (.int (-i)) G
  | _ => False
theorem o_neg : UnQ X (unaryOp .USub) zNeg := unImp un_neg fun x H Q ⟨a, G, R, ra, hg, h, up⟩ => by
  cases a <;> first
    | exact False.elim h
    | (rw [rep_int] at ra; exact ⟨_, ra, up _ _ _ _ h (by rw [rep_int]) hg (.refl _ _)⟩)
/-! comparisons of order: ints, texts -/
theorem op_le_str : OpR X (compareOp .LtE) (fun x y H Q => ∃ i j, x = .str i ∧ y = .str j ∧ Q (.bl (!decide (j.cps.toList < i.cps.toList))) H) := by
  intro pins s σ H x y v u Q I rx ry h
  obtain ⟨i, j, rfl, rfl, q⟩ := h
  obtain ⟨t, rfl⟩ := rx
  obtain ⟨t', rfl⟩ := ry
  exact PySem.P.le_str (fin_bl I q rfl)
theorem op_gt_str : OpR X (compareOp .Gt) (fun x y H Q => ∃ i j, x = .str i ∧ y = .str j ∧ Q (.bl (decide (j.cps.toList < i.cps.toList))) H) := by
  intro pins s σ H x y v u Q I rx ry h
  obtain ⟨i, j, rfl, rfl, q⟩ := h
  obtain ⟨t, rfl⟩ := rx
  obtain ⟨t', rfl⟩ := ry
  exact PySem.P.gt_str (fin_bl I q rfl)
theorem op_ge_str : OpR X (compareOp .GtE) (fun x y H Q => ∃ i j, x = .str i ∧ y = .str j ∧ Q (.bl (!decide (i.cps.toList < j.cps.toList))) H) := by
  intro pins s σ H x y v u Q I rx ry h
  obtain ⟨i, j, rfl, rfl, q⟩ := h
  obtain ⟨t, rfl⟩ := rx
  obtain ⟨t', rfl⟩ := ry
  exact PySem.P.ge_str (fin_bl I q rfl)
def zC (f : Int → Int → Bool) (g : Str → Str → Bool) : R3 := fun x y G R => match x, y with
  | .int i, .int j => R (.bl (f i j)) G
  | .str i, .str j => R (.bl (g i j)) G
  | _, _ => False
theorem oC {op : CmpOp} {f : Int → Int → Bool} {g : Str → Str → Bool} (h : OpR X (compareOp op) (rI0 fun i j => .bl (f i j))) (h' : OpR X (compareOp op) (fun x y H Q => ∃ i j, x = .str i ∧ y = .str j ∧ Q (.bl (g i j)) H)) :
    OpQ X (compareOp op) (zC f g) := opImp (h.or h') fun x y H Q ⟨a, b, G, R, ra, rb, hg, h, up⟩ => by
  cases a <;> cases b <;> first
    | exact False.elim h
    | (rw [rep_int] at ra rb; exact .inl ⟨_, _, ra, rb, up _ _ _ _ h (by rw [rep_bl]) hg (.refl _ _)⟩)
    | (rw [rep_str] at ra rb; exact .inr ⟨_, _, ra, rb, up _ _ _ _ h (by rw [rep_bl]) hg (.refl _ _)⟩)
abbrev ltS (x y : Str) : Bool := decide (x.cps.toList < y.cps.toList)
theorem o_lt : OpQ X (compareOp .Lt) (zC (fun i j => decide (i < j)) fun x y => ltS x y) := oC op_lt op_lt_str
theorem o_le : OpQ X (compareOp .LtE) (zC (fun i j => decide (i ≤ j)) fun x y => !ltS y x) := oC op_le op_le_str
theorem o_gt : OpQ X (compareOp .Gt) (zC (fun i j => decide (j < i)) fun x y => ltS y x) := oC op_gt op_gt_str
theorem o_ge : OpQ X (compareOp .GtE) (zC (fun i j => decide (j ≤ i)) fun x y => !ltS x y) := oC op_ge op_ge_str
/-! is None -/
def zIs (neg : Bool) : R3 := fun x y G R => match y with
  | .non => R (.bl (if neg then !decide (x = .non) else decide (x = .non))) G
  | .bl b => match x with
    | .bl a => neg = false ∧ R (.bl (a == b)) G
    | _ => False
  | _ => False
theorem rep_is_non {K : PySem.W.Frag} {H : Hp} {w : Z} {v : V} (r : Rep K H w v) : decide (v = .non) = decide (w = .non) := by
  cases w with
  | non => rw [rep_non] at r; subst r; rfl
  | bl _ => rw [rep_bl] at r; subst r; simp
  | int _ => rw [rep_int] at r; subst r; simp
  | str _ => rw [rep_str] at r; subst r; simp
  | ref _ => rw [rep_ref] at r; subst r; simp
  | ty _ => rw [rep_ty] at r; subst r; simp
  | scr _ _ => rw [rep_scr] at r; obtain ⟨rfl, _⟩ := r; simp
  | tup _ => rw [rep_tup] at r; obtain ⟨_, _, rfl, _⟩ := r; simp
end
/-! ### == of data -/
mutual
def dZ : Z → PyData
  | .bl b => .bool b
  | .int i => .int i
  | .str x => .str x
  | .tup ws => .tuple (dZs ws)
  | _ => .none
def dZs : List Z → List PyData
  | [] => []
  | w :: ws => dZ w :: dZs ws
end
/-- ints, texts, None and tuples of these, n deep -/
def flat : Nat → Z → Bool
  | _, .non => true
  | _, .int _ => true
  | _, .str x => PyData.strOk x
  | n + 1, .tup ws => ws.all (flat n)
  | _, _ => false
theorem dZ_lay : ∀ (n : Nat) (d : Z), flat n d = true → (dZ d).canLay0 = true ∧ (dZ d).depth ≤ n := by
  have all : ∀ (n : Nat), (∀ d, flat n d = true → (dZ d).canLay0 = true ∧ (dZ d).depth ≤ n) → ∀ ds : List Z, (∀ d ∈ ds, flat n d = true) → PyData.canLayAll0 (dZs ds) = true ∧ PyData.depthAll (dZs ds) ≤ n := by
    intro n ih ds
    induction ds with
    | nil => intro _; simp [dZs, PyData.canLayAll0, PyData.depthAll]
    | cons d ds hi =>
      intro h
      have h1 := ih d (h d (.head _))
      have h2 := hi fun e he => h e (.tail _ he)
      simp only [dZs, PyData.canLayAll0, PyData.depthAll, h1.1, h2.1, Bool.and_self, true_and]
      have a1 := h1.2
      have a2 := h2.2
      omega
  intro n
  induction n with
  | zero =>
    intro d h
    cases d <;> simp_all [flat, dZ, PyData.canLay0, PyData.depth]
  | succ n ih =>
    intro d h
    cases d with
    | non => simp [dZ, PyData.canLay0, PyData.depth]
    | int i => simp [dZ, PyData.canLay0, PyData.depth]
    | str x => simp [flat] at h; simp [dZ, PyData.canLay0, PyData.depth, h]
    | tup ds =>
      have q := all n ih ds (by simpa [flat] using h)
      have q2 := q.2
      simp only [dZ, PyData.canLay0, PyData.depth, q.1, true_and]
      omega
    | _ => simp [flat] at h
theorem dZs_lay (n : Nat) (ds : List Z) (h : ds.all (flat n) = true) : PyData.canLayAll0 (dZs ds) = true ∧ PyData.depthAll (dZs ds) ≤ n := by
  have q := dZ_lay (n + 1) (.tup ds) (by simpa [flat] using h)
  simp only [dZ, PyData.canLay0, PyData.depth] at q
  exact ⟨q.1, by omega⟩
theorem dZ_eqv : ∀ (n : Nat) (d e : Z) (k : Nat), flat n d = true → flat k e = true → (PyData.eqv (dZ d) (dZ e) = true ↔ d = e) := by
  have all : ∀ (n : Nat), (∀ d e k, flat n d = true → flat k e = true → (PyData.eqv (dZ d) (dZ e) = true ↔ d = e)) → ∀ (k : Nat) (ds es : List Z), (∀ d ∈ ds, flat n d = true) → (∀ d ∈ es, flat k d = true) →
      (PyData.eqvAll (dZs ds) (dZs es) = true ↔ ds = es) := by
    intro n ih k ds
    induction ds with
    | nil => intro es _ _; cases es <;> simp [dZs, PyData.eqvAll]
    | cons d ds hi =>
      intro es h1 h2
      cases es with
      | nil => simp [dZs, PyData.eqvAll]
      | cons e es =>
        have q1 := ih d e k (h1 d (.head _)) (h2 e (.head _))
        have q2 := hi es (fun x hx => h1 x (.tail _ hx)) fun x hx => h2 x (.tail _ hx)
        simp only [dZs, PyData.eqvAll, Bool.and_eq_true, q1, q2, List.cons.injEq]
  intro n
  induction n with
  | zero =>
    intro d e k h1 h2
    cases d <;> cases e <;> simp_all [flat, dZ, PyData.eqv]
  | succ n ih =>
    intro d e k h1 h2
    cases d with
    | tup ds =>
      cases e with
      | tup es =>
        cases k with
        | zero => simp [flat] at h2
        | succ k =>
          simp only [dZ, PyData.eqv, Z.tup.injEq]
          exact all n ih k ds es (by simpa [flat] using h1) (by simpa [flat] using h2)
      | _ => simp_all [flat, dZ, PyData.eqv]
    | _ => cases e <;> simp_all [flat, dZ, PyData.eqv]
theorem dZs_eqv (n k : Nat) (ds es : List Z) (h : ds.all (flat n) = true) (h' : es.all (flat k) = true) : PyData.eqvAll (dZs ds) (dZs es) = true ↔ ds = es := by
  have q := dZ_eqv (n + 1) (.tup ds) (.tup es) (k + 1) (by simpa [flat] using h) (by simpa [flat] using h')
  simpa only [dZ, PyData.eqv, Z.tup.injEq] using q
section
variable {K : PySem.W.Frag} {H : Hp}
theorem dv_of : ∀ (n : Nat) (w : Z) (v : V), flat n w = true → Rep K H w v → DV H (dZ w) v := by
  have all : ∀ (n : Nat), (∀ w v, flat n w = true → Rep K H w v → DV H (dZ w) v) → ∀ (ws : List Z) (vs : List V), (∀ d ∈ ws, flat n d = true) → Reps K H ws vs → DVs H (dZs ws) vs := by
    intro n ih ws
    induction ws with
    | nil => intro vs _ r; rw [reps_nil] at r; simp only [dZs]; unfold DVs; exact r
    | cons w ws hi =>
      intro vs h r
      rw [reps_cons] at r
      obtain ⟨v, r', e, r1, r2⟩ := r
      simp only [dZs]
      unfold DVs
      exact ⟨v, r', e, ih w v (h w (.head _)) r1, hi r' (fun d hd => h d (.tail _ hd)) r2⟩
  intro n
  induction n with
  | zero =>
    intro w v h r
    cases w with
    | non => rw [rep_non] at r; simp only [dZ]; unfold DV; exact r
    | int i => rw [rep_int] at r; simp only [dZ]; unfold DV; exact r
    | str x => rw [rep_str] at r; simp only [dZ]; unfold DV; exact r
    | _ => simp [flat] at h
  | succ n ih =>
    intro w v h r
    cases w with
    | non => rw [rep_non] at r; simp only [dZ]; unfold DV; exact r
    | int i => rw [rep_int] at r; simp only [dZ]; unfold DV; exact r
    | str x => rw [rep_str] at r; simp only [dZ]; unfold DV; exact r
    | tup ws =>
      rw [rep_tup] at r
      obtain ⟨a, vs, e, ea, rs⟩ := r
      simp only [dZ]
      unfold DV
      exact ⟨a, vs, e, ea, all n ih ws vs (by simpa [flat] using h) rs⟩
    | _ => simp [flat] at h
theorem dvs_of (n : Nat) : ∀ (ws : List Z) (vs : List V), ws.all (flat n) = true → Reps K H ws vs → DVs H (dZs ws) vs
  | [], vs, _, r => by rw [reps_nil] at r; simp only [dZs]; unfold DVs; exact r
  | w :: ws, vs, h, r => by
    rw [reps_cons] at r
    obtain ⟨v, r', e, r1, r2⟩ := r
    rw [List.all_cons, Bool.and_eq_true] at h
    simp only [dZs]
    unfold DVs
    exact ⟨v, r', e, dv_of n w v h.1 r1, dvs_of n ws r' h.2 r2⟩
end
theorem shaped_flat {n : Nat} {w : Z} (h : flat n w = true) (hn : n ≤ 64) : SeqAt.shaped (dZ w) = true := by
  have q := dZ_lay n w h
  unfold SeqAt.shaped
  rw [q.1, Bool.true_and]
  exact decide_eq_true (by omega)
theorem shaped_list {n : Nat} {ws : List Z} (h : ws.all (flat n) = true) (hn : n ≤ 63) : SeqAt.shaped (.list (dZs ws)) = true := by
  have q := dZs_lay n ws h
  unfold SeqAt.shaped
  simp only [PyData.canLay0, PyData.depth, q.1, Bool.true_and]
  exact decide_eq_true (by omega)
theorem beq_dec {a : Bool} {p : Prop} [Decidable p] (h : a = true ↔ p) : a = decide p := by
  cases a with
  | true => exact (decide_eq_true (h.mp rfl)).symm
  | false => exact (decide_eq_false fun q => by cases h.mpr q).symm
theorem decide_congr {p q : Prop} [Decidable p] [Decidable q] (h : p = q) : decide p = decide q := by
  by_cases k : q
  · rw [decide_eq_true k, decide_eq_true (h ▸ k)]
  · rw [decide_eq_false k, decide_eq_false (h ▸ k)]
/-- == : two bools, ints, texts; two lists of flat things; flat things -/
def zEq (f : Bool → Bool) : R3 := fun x y G R => match x, y with
  | .bl a, .bl b => R (.bl (f (a == b))) G
  | .int a, .int b => R (.bl (f (decide (a = b)))) G
  | .str a, .str b => R (.bl (f (decide (a = b)))) G
  | .ref p, .ref q => ∃ xs ys, G p = some (.lst xs) ∧ G q = some (.lst ys) ∧ xs.all (flat 8) = true ∧ ys.all (flat 8) = true ∧ R (.bl (f (decide (xs = ys)))) G
  | x, y => flat 8 x = true ∧ flat 8 y = true ∧ R (.bl (f (decide (x = y)))) G
section
variable {X : Cx}
theorem low_eq {f : Bool → Bool} {K : PySem.W.Frag} {x y : V} {H : Hp} {Q : VK} (h : low2 K (zEq f) x y H Q) :
    (scal x y = true ∧ Q (.bl (f (decide (x = y)))) H) ∨ ∃ d e, DV H d x ∧ DV H e y ∧ SeqAt.shaped d = true ∧ SeqAt.shaped e = true ∧ Q (.bl (f (PyData.eqv d e))) H := by
  obtain ⟨a, b, G, R, ra, rb, hg, h, up⟩ := h
  have flt : flat 8 a = true ∧ flat 8 b = true ∧ R (.bl (f (decide (a = b)))) G → ∃ d e, DV H d x ∧ DV H e y ∧ SeqAt.shaped d = true ∧ SeqAt.shaped e = true ∧ Q (.bl (f (PyData.eqv d e))) H := fun ⟨h1, h2, h3⟩ => by
    refine ⟨dZ a, dZ b, dv_of 8 _ _ h1 ra, dv_of 8 _ _ h2 rb, shaped_flat h1 (by decide), shaped_flat h2 (by decide), ?_⟩
    rw [beq_dec (dZ_eqv 8 a b 8 h1 h2)]
    exact up _ _ _ _ h3 (by rw [rep_bl]) hg (.refl _ _)
  cases a <;> cases b <;> first
    | exact .inr (flt h)
    | (rw [rep_bl] at ra rb; subst ra rb; exact .inl ⟨rfl, by rw [dec_bl]; exact up _ _ _ _ h (by rw [rep_bl]) hg (.refl _ _)⟩)
    | (rw [rep_int] at ra rb; subst ra rb; exact .inl ⟨rfl, by rw [decide_congr (V.int.injEq _ _)]; exact up _ _ _ _ h (by rw [rep_bl]) hg (.refl _ _)⟩)
    | (rw [rep_str] at ra rb; subst ra rb; exact .inl ⟨rfl, by rw [decide_congr (V.str.injEq _ _)]; exact up _ _ _ _ h (by rw [rep_bl]) hg (.refl _ _)⟩)
    | (rw [rep_ref] at ra rb
       subst ra rb
       obtain ⟨xs, ys, e1, e2, f1, f2, h⟩ := h
       obtain ⟨vs, e1', r1⟩ := hg _ _ e1
       obtain ⟨us, e2', r2⟩ := hg _ _ e2
       refine .inr ⟨.list (dZs xs), .list (dZs ys), ?_, ?_, shaped_list f1 (by decide), shaped_list f2 (by decide), ?_⟩
       · unfold DV; exact ⟨_, vs, rfl, e1', dvs_of 8 _ _ f1 r1⟩
       · unfold DV; exact ⟨_, us, rfl, e2', dvs_of 8 _ _ f2 r2⟩
       · simp only [PyData.eqv]
         rw [beq_dec (dZs_eqv 8 8 xs ys f1 f2)]
         exact up _ _ _ _ h (by rw [rep_bl]) hg (.refl _ _))
theorem o_eq (hu : X.A.units + 66 < cLine) : OpQ X (compareOp .Eq) (zEq id) := opImp (op_eq.or (op_eqD hu)) fun x y H Q h => low_eq h
theorem o_ne (hu : X.A.units + 66 < cLine) : OpQ X (compareOp .NotEq) (zEq not) := opImp (op_ne.or (op_neD hu)) fun x y H Q h => low_eq h
/-! ### in -/
def zIn (f : Bool → Bool) : R3 := fun x y G R => match x, y with
  | .str a, .str b => R (.bl (f (!(Builtin.Str.occurrences b a 0 b.length 1).isEmpty))) G
  | x, .ref q => ∃ ws, G q = some (.lst ws) ∧ flat 8 x = true ∧ ws.all (flat 8) = true ∧ R (.bl (f (decide (x ∈ ws)))) G
  | x, .tup ws => flat 8 x = true ∧ ws.all (flat 8) = true ∧ R (.bl (f (decide (x ∈ ws)))) G
  | _, _ => False
theorem any_dZs (x : Z) (hx : flat 8 x = true) : ∀ ws : List Z, ws.all (flat 8) = true → ((dZs ws).any fun y => PyData.eqv y (dZ x)) = decide (x ∈ ws)
  | [], _ => by simp [dZs]
  | w :: ws, h => by
    rw [List.all_cons, Bool.and_eq_true] at h
    simp only [dZs, List.any_cons]
    rw [any_dZs x hx ws h.2, beq_dec (dZ_eqv 8 w x 8 h.1 hx)]
    by_cases e : w = x
    · subst e; simp
    · have : ¬ x = w := fun z => e z.symm
      simp [e, this]
theorem low_in {f : Bool → Bool} {neg : Bool} (hf : ∀ b, f b = if neg = true then !b else b) {K : PySem.W.Frag} {x y : V} {H : Hp} {Q : VK} (h : low2 K (zIn f) x y H Q) :
    (∃ i j, x = .str i ∧ y = .str j ∧ Q (.bl (f (!(Builtin.Str.occurrences j i 0 j.length 1).isEmpty))) H) ∨ rInD neg x y H Q := by
  obtain ⟨a, b, G, R, ra, rb, hg, h, up⟩ := h
  have go : ∀ (p : Addr) (ws : List Z) (vs : List V), y = .ref p → (H p = some (.lst vs) ∨ H p = some (.tup vs)) → Reps K H ws vs → flat 8 a = true → ws.all (flat 8) = true → R (.bl (f (decide (a ∈ ws)))) G → rInD neg x y H Q := fun p ws vs e hp rs f1 f2 h => by
    refine ⟨dZ a, p, dZs ws, vs, dv_of 8 _ _ f1 ra, e, hp, dvs_of 8 _ _ f2 rs, shaped_flat f1 (by decide), shaped_list f2 (by decide), ?_⟩
    rw [any_dZs a f1 ws f2, ← hf]
    exact up _ _ _ _ h (by rw [rep_bl]) hg (.refl _ _)
  cases b with
  | str j =>
    cases a with
    | str i => rw [rep_str] at ra rb; exact .inl ⟨_, _, ra, rb, up _ _ _ _ h (by rw [rep_bl]) hg (.refl _ _)⟩
    | _ => exact False.elim h
  | ref q =>
    rw [rep_ref] at rb
    have h' : ∃ ws, G q = some (.lst ws) ∧ flat 8 a = true ∧ ws.all (flat 8) = true ∧ R (.bl (f (decide (a ∈ ws)))) G := by cases a <;> exact h
    obtain ⟨ws, e, f1, f2, h'⟩ := h'
    obtain ⟨vs, e', rs⟩ := hg q _ e
    exact .inr (go q ws vs rb (.inl e') rs f1 f2 h')
  | tup ws =>
    rw [rep_tup] at rb
    obtain ⟨q, vs, e, eq, rs⟩ := rb
    have h' : flat 8 a = true ∧ ws.all (flat 8) = true ∧ R (.bl (f (decide (a ∈ ws)))) G := by cases a <;> exact h
    obtain ⟨f1, f2, h'⟩ := h'
    exact .inr (go q ws vs e (.inr eq) rs f1 f2 h')
  | _ => cases a <;> exact False.elim h
theorem o_in (hu : X.A.units + 66 < cLine) : OpQ X (compareOp .In) (zIn id) := opImp (op_in_str.or (op_inD hu)) fun x y H Q h => low_in (neg := false) (fun b => by simp) h
theorem o_notin (hu : X.A.units + 66 < cLine) : OpQ X (compareOp .NotIn) (zIn not) := opImp (op_notin_str.or (op_notInD hu)) fun x y H Q h => low_in (neg := true) (fun b => by simp) h
end
end L3
namespace L2
open PySem PySem.Spec PyProof.Rows
/-! ### a text that is walked -/
def Its (x : Str) : It := ⟨fun i _ => i < x.cps.size, fun i H v H' => H' = H ∧ ∃ c, x.cps[i]? = some c ∧ v = .str ⟨#[c]⟩, fun i _ => i = x.cps.size⟩
theorem turn_str {P : Program} {w : World} {K : PySem.W.Frag} {tg : Expr} {it : Addr} {ty : String} {x : Str} {t : Tok}
    (hty : ["enumerate", "zip", "dict_itemiterator", "dict_reverseitemiterator", "odict_iterator", "itertools.zip_longest", "itertools.pairwise"].contains ty = false)
    (W : ∀ A' : Around, A'.handled = none → Walks P w A' it [it] [it] x.cps.size (SignAt x) (fun i h => h.IsStrIter it ty x t i))
    (hself : ∀ (A : Around) (i : Nat) (s : Shared) (Q : Value → Shared → Prop) (E : Value → Shared → Prop), s.heap.IsStrIter it ty x t i → Q (.ref it) s → wpAny (model P w) A (pyIter (.ref it)) Q E s) :
    Turn P w K tg (Its x) [it] it (fun i h => h.IsStrIter it ty x t i) where
  mem := by simp
  obj := fun i h st b hb => by
    have e : b = it := by simpa using hb
    subst e
    obtain ⟨o, e, c, d⟩ := st
    exact ⟨o, e, fun v z => by rw [d] at z; cases z⟩
  keep := fun i h h' st k => let ⟨o, e, r⟩ := st; ⟨o, k it (by simp) o e, r⟩
  item := by
    intro X hP hw hK hc i pins s σ H E I hf st hg
    subst hP hw hK
    obtain ⟨f0, f1, f2, f3, f4, f5⟩ := hf it (by simp)
    refine (W X.A (I.ok.hd hc)).item i s _ _ hg st fun v h' tk ⟨c, u, hx, e⟩ st' k => ?_
    subst e
    have I1 : Inv X pins σ H { s with heap := h', toks := tk } := I.turned (t' := tk) (fun b o hb e => k b o (by simpa using hb) e) f0 f1 f3 f4 f5
    obtain ⟨o, e, cl, d⟩ := id st'
    exact ⟨_, rfl, go_of (s := { s with heap := h', toks := tk }) e cl d hty ⟨.str ⟨#[c]⟩, H, I1, ⟨_, rfl⟩, ⟨rfl, c, hx, rfl⟩, st', fun b hb => (hf b hb).1⟩⟩
  done := by
    intro X hP hw hK hc i pins s σ H E I hf st hg
    subst hP hw hK
    obtain ⟨f0, f1, f2, f3, f4, f5⟩ := hf it (by simp)
    have hg' : i = x.cps.size := hg
    subst hg'
    exact (W X.A (I.ok.hd hc)).done s _ _ st fun h' tk k => ⟨rfl, I.turned (t' := tk) (fun b o hb e => k b o (by simpa using hb) e) f0 f1 f3 f4 f5⟩
  self := hself
def iStr (tl : TE) : TI := fun σ H R => tl σ H fun v H1 => ∃ x, v = .str x ∧ R (Its x) H1
theorem pi_str {X : Cx} {tg l : Expr} {tl : TE} (hl : PE X l tl) : PI X tg l (iStr tl) := by
  intro pins s σ H R I h
  refine thn (hl pins s σ H _ I h) fun v s1 ⟨x, H1, I1, r1, q1⟩ => ?_
  obtain ⟨y, e, q⟩ := q1
  subst e
  obtain ⟨t, rfl⟩ := r1
  have fp : ∀ (o : Obj), ∀ b ∈ [s1.heap.objs.size], FpOk X pins H1 b := fun o b hb => by
    have e : b = s1.heap.objs.size := by simpa using hb
    subst e
    exact I1.fpOk (Nat.le_refl _) (I1.hok.fresh (Nat.le_refl _))
  cases ha : y.cps.all (· < 128)
  · refine wpAny_pyIter_wide ha ?_
    exact ⟨s1.heap.objs.size, [s1.heap.objs.size], _, _, H1, rfl, I1.kept (t' := s1.toks) (fun b o e => Heap.get?_push_of_some _ e), turn_str (by decide) (fun A' hA => Walks.strWide hA _ y t) (fun _ _ _ _ _ st h => wpAny_pyIter_striter_wide st h),
      ⟨_, Heap.get?_push_size _ rfl, rfl, rfl⟩, fp default, q⟩
  · refine wpAny_pyIter_ascii ha ?_
    exact ⟨s1.heap.objs.size, [s1.heap.objs.size], _, _, H1, rfl, I1.kept (t' := s1.toks) (fun b o e => Heap.get?_push_of_some _ e), turn_str (by decide) (fun A' hA => Walks.strAscii hA _ y t) (fun _ _ _ _ _ st h => wpAny_pyIter_striter_ascii st h),
      ⟨_, Heap.get?_push_size _ rfl, rfl, rfl⟩, fp default, q⟩
theorem Vals.tog : ∀ {xs : List V} {us : List Value} {i : Nat} {u : Value}, Vals xs us → us[i]? = some u → ∃ x, xs[i]? = some x ∧ RelV x u
  | _, _, _, _, .nil, e => by simp at e
  | _, _, 0, _, .cons r _, e => by simp at e; subst e; exact ⟨_, rfl, r⟩
  | _, _, i + 1, u, .cons _ t, e => by
    obtain ⟨x, h1, h2⟩ := Vals.tog (i := i) (u := u) t (by simpa using e)
    exact ⟨x, by simpa using h1, h2⟩
theorem strsAre_of : ∀ {ys : List Str} {us : List Value}, Vals (ys.map V.str) us → StrsAre us ys
  | [], us, r => by rw [List.map_nil] at r; cases r; exact .nil
  | y :: ys, us, r => by
    rw [List.map_cons] at r
    cases r with
    | cons r1 r2 =>
      obtain ⟨t, e⟩ := r1
      subst e
      exact .cons y t (strsAre_of r2)
theorem all_range (bs : List Bool) : (List.range bs.length).all (fun i => bs.getD i false) = bs.all id := by
  rw [Bool.eq_iff_iff]
  simp only [List.all_eq_true, List.mem_range, id]
  constructor
  · intro h b hb
    obtain ⟨i, hi, e⟩ := List.getElem_of_mem hb
    have := h i hi
    rw [List.getD_eq_getElem?_getD, List.getElem?_eq_getElem hi] at this
    rw [← e]; exact this
  · intro h i hi
    rw [List.getD_eq_getElem?_getD, List.getElem?_eq_getElem hi]
    exact h _ (List.getElem_mem hi)
section
variable {X : Cx}
/-- all of a list of bools -/
theorem call_allB (hc : X.calm = true) : CallR X (.builtin "all") (fun xs H Q => ∃ (p : Addr) (bs : List Bool), xs = [.ref p] ∧ SqL X.K H p (bs.map V.bl) ∧ Q (.bl (bs.all id)) H) := by
  intro pins s σ H xs us Q I r h
  obtain ⟨p, bs, rfl, hq, q⟩ := h
  obtain ⟨u, rfl, r1⟩ := vals1 r
  cases r1
  obtain ⟨its, rv, pl, _⟩ := I.list hq
  have hp : p < s.heap.objs.size := by obtain ⟨o, _, e, _⟩ := pl; exact Heap.lt_size e
  refine call_all_walk (wpAny_pyIter_list pl.isList ?_)
  have hh : X.A.in1.handled = none := I.ok.hd hc
  have il : (s.heap.push { cls := .type "list_iterator", data := .fields #[.ref p, rawInt 0] }).IsList p its.toArray := by
    obtain ⟨o, e, c⟩ := pl.isList
    exact ⟨o, Heap.get?_push_of_some _ e, c⟩
  refine ⟨_, _, _, _, _, _, fun i => bs.getD i false, rfl, Walks.list hh s.heap.objs.size p (Nat.ne_of_lt hp) its.toArray, ⟨⟨_, Heap.get?_push_size _ rfl, rfl, rfl⟩, il⟩, ?_, ?_⟩
  · intro i v s' Q' E' hv hQ
    obtain ⟨x, hx, rx⟩ := Vals.tog rv (by simpa using hv)
    rw [List.getElem?_map] at hx
    cases hb : bs[i]? with
    | none => rw [hb] at hx; cases hx
    | some b =>
      rw [hb] at hx
      cases hx
      cases rx
      refine wpAny_truthy_bool ?_
      have : bs.getD i false = b := by rw [List.getD_eq_getElem?_getD, hb]; rfl
      dsimp only at hQ
      rw [this] at hQ
      exact hQ
  · intro h' tk k
    have e : (List.range its.toArray.size).all (fun i => bs.getD i false) = bs.all id := by
      have hl : its.toArray.size = bs.length := by rw [List.size_toArray, ← rv.length, List.length_map]
      rw [hl]
      exact all_range bs
    rw [e]
    exact ⟨.bl _, H, I.kept (t' := tk) (fun b o eb => k b o (by simpa using Nat.ne_of_lt (Heap.lt_size eb)) (Heap.get?_push_of_some _ eb)), rfl, q⟩
theorem op_isB : OpR X (compareOp .Is) (fun x y H Q => ∃ a b, x = .bl a ∧ y = .bl b ∧ Q (.bl (a == b)) H) := by
  intro pins s σ H x y v u Q I rx ry h
  obtain ⟨a, b, rfl, rfl, q⟩ := h
  cases rx
  cases ry
  exact wpAny_is_plain rfl (fin_bl I q (by cases a <;> cases b <;> rfl))
/-- sep.join(list of texts) -/
theorem mt_join : MtR X "str.join" (fun x vs H Q => ∃ (z : Str) (p : Addr) (ys : List Str), x = .str z ∧ vs = [.ref p] ∧ SqL X.K H p (ys.map V.str) ∧ (ys.map (·.length)).sum + ys.length * z.length ≤ 16777216 ∧ Q (.str (Txt.join z ys)) H) := by
  intro pins s σ H x xs v us Q I rx rs h
  obtain ⟨z, p, ys, rfl, rfl, hq, hz, q⟩ := h
  obtain ⟨t, rfl⟩ := rx
  obtain ⟨u, rfl, r1⟩ := vals1 rs
  cases r1
  obtain ⟨its, rv, pl, _⟩ := I.list hq
  exact join_list pl.isList (by simpa using strsAre_of rv) hz fun t' k => ⟨.str _, H, I.tok k, ⟨_, rfl⟩, q⟩
/-- x[lo:hi] of a text -/
def rSlS : V → Option Int → Option Int → Hp → VK → Prop := fun x lo hi H Q => ∃ z, x = .str z ∧ z.length ≤ sizeLine ∧ Q (.str (Txt.slice z lo hi)) H
theorem sl_str : SlR X rSlS := by
  intro pins s σ H x v vl vu lo hi sl Q I rx hs pl pu h
  obtain ⟨z, rfl, hz, q⟩ := h
  obtain ⟨t, rfl⟩ := rx
  obtain ⟨o, e, c, d⟩ := hs
  have fin : ∀ lo hi, Q (.str (Txt.slice z lo hi)) H → (Txt.slice z lo hi).length ≤ sizeLine ∧ ∀ t' k, EP X pins σ Q (.str (Txt.slice z lo hi) t') { s with toks := k } := fun lo hi q =>
    ⟨Nat.le_trans (Txt.slice_le z _ _) hz, fun t' k => ⟨.str _, H, I.tok k, ⟨_, rfl⟩, q⟩⟩
  cases pl with
  | none =>
    cases pu with
    | none => exact ⟨"str", _, F.slot_str_getitem.lookup, typeIs_str _ _ _, wpAny_getItem_str_slice (l := none) (u := none) (st := none) ⟨o, e, c, d⟩ rfl (post_val_or_str (fin _ _ q))⟩
    | int j u => exact ⟨"str", _, F.slot_str_getitem.lookup, typeIs_str _ _ _, wpAny_getItem_str_slice (l := none) (u := some (j, u)) (st := none) ⟨o, e, c, d⟩ rfl (post_val_or_str (fin _ _ q))⟩
  | int i v =>
    cases pu with
    | none => exact ⟨"str", _, F.slot_str_getitem.lookup, typeIs_str _ _ _, wpAny_getItem_str_slice (l := some (i, v)) (u := none) (st := none) ⟨o, e, c, d⟩ rfl (post_val_or_str (fin _ _ q))⟩
    | int j u => exact ⟨"str", _, F.slot_str_getitem.lookup, typeIs_str _ _ _, wpAny_getItem_str_slice (l := some (i, v)) (u := some (j, u)) (st := none) ⟨o, e, c, d⟩ rfl (post_val_or_str (fin _ _ q))⟩
end
theorem Inv.big {X : Cx} {pins : List (Addr × Obj)} {σ : St} {H : Hp} {s : Shared} (I : Inv X pins σ H s) : sysModules < s.heap.objs.size := by
  have h : mainGlobals < s.heap.objs.size := (I.mod.glob.keeps I.bk).lt
  exact Nat.lt_trans (by decide) h
theorem dk_empty {P : Program} {w : World} {H : Hp} (h : Heap) (hb : sysModules < h.objs.size) : ObjOk P w H (h.push { cls := .type "dict", data := .dict #[] }) h.objs.size (.dK []) :=
  ⟨Nat.zero_le _, beq_eq_false_iff_ne.mpr (Ne.symm (Nat.ne_of_lt hb)), [], .nil, Heap.DictOf.new h⟩
def tDNewK : TE := fun _ H Q => ∀ p, H p = none → Q (.ref p) (upd H p (.dK []))
theorem pe_dnewK {X : Cx} {pos : Pos} : PE X (.Dict [] [] pos) tDNewK := fun pins s σ H Q I h =>
  wpAny_Dict_empty ⟨.ref s.heap.objs.size, _, I.laid (a := s.heap.objs.size) (o := .dK []) (t' := s.toks) (fun _ _ q => Heap.get?_push_of_some _ q) (Nat.le_refl _) (dk_empty s.heap I.big), rfl, h _ (I.hok.fresh (Nat.le_refl _))⟩
end L2
namespace L3
open PySem PySem.Spec PyProof.Rows L2
section
variable {X : Cx}
/-! ### is -/
theorem o_is : OpQ X (compareOp .Is) (zIs false) := opImp (op_isN.or op_isB) fun x y H Q ⟨a, b, G, R, ra, rb, hg, h, up⟩ => by
  cases b with
  | non => rw [rep_non] at rb; exact .inl ⟨rb, by rw [rep_is_non ra]; exact up _ _ _ _ h (by rw [rep_bl]; rfl) hg (.refl _ _)⟩
  | bl b =>
    cases a with
    | bl a => rw [rep_bl] at ra rb; exact .inr ⟨_, _, ra, rb, up _ _ _ _ h.2 (by rw [rep_bl]) hg (.refl _ _)⟩
    | _ => exact False.elim h
  | _ => exact False.elim h
theorem o_isnot : OpQ X (compareOp .IsNot) (zIs true) := opImp op_notN fun x y H Q ⟨a, b, G, R, ra, rb, hg, h, up⟩ => by
  cases b with
  | non => rw [rep_non] at rb; exact ⟨rb, by rw [rep_is_non ra]; exact up _ _ _ _ h (by rw [rep_bl]; rfl) hg (.refl _ _)⟩
  | bl b =>
    cases a with
    | bl a => exact nomatch h.1
    | _ => exact False.elim h
  | _ => exact False.elim h
/-! ### items -/
def zIx : R3 := fun x y G R => match x, y with
  | .ref p, .int i => ∃ ws w, G p = some (.lst ws) ∧ atI ws i = some w ∧ R w G
  | .scr _ ns, .int i => ∃ n, atI ns i = some n ∧ R (.int n) G
  | .tup ws, .int i => ∃ w, atI ws i = some w ∧ R w G
  | .str z, .int i => ∃ c, z.length ≤ sizeLine ∧ atI z.cps.toList i = some c ∧ R (.str ⟨#[c]⟩) G
  | _, _ => False
theorem atI_rep {K : PySem.W.Frag} {H : Hp} {ws : List Z} {vs : List V} {i : Int} {w : Z} (r : Reps K H ws vs) (h : atI ws i = some w) : ∃ v, atI vs i = some v ∧ Rep K H w v := by
  unfold atI at h ⊢
  rw [← r.length]
  cases e : ixN ws.length i with
  | none => rw [e] at h; cases h
  | some j =>
    rw [e] at h
    exact r.get h
theorem atI_map {α β : Type} {f : α → β} {xs : List α} {i : Int} {x : α} (h : atI xs i = some x) : atI (xs.map f) i = some (f x) := by
  unfold atI at h ⊢
  rw [List.length_map]
  cases e : ixN xs.length i with
  | none => rw [e] at h; cases h
  | some j =>
    rw [e] at h
    have h' : xs[j]? = some x := h
    show (xs.map f)[j]? = some (f x)
    rw [List.getElem?_map, h']; rfl
theorem x_ix : IxQ X zIx := ixImp ix_seq fun x y H Q ⟨a, b, G, R, ra, rb, hg, h, up⟩ => by
  cases a <;> cases b <;> first
    | exact False.elim h
    | (rw [rep_ref] at ra
       rw [rep_int] at rb
       obtain ⟨ws, w, e, hw, h⟩ := h
       obtain ⟨vs, e', rs⟩ := hg _ _ e
       obtain ⟨v, hv, rv⟩ := atI_rep rs hw
       exact .inl ⟨_, _, _, v, ra, rb, SqL.of e', hv, up _ _ _ _ h rv hg (.refl _ _)⟩)
    | (rw [rep_scr] at ra
       rw [rep_int] at rb
       obtain ⟨n, hn, h⟩ := h
       exact .inl ⟨_, _, _, _, ra.1, rb, ra.2.sq, atI_map hn, up _ _ _ _ h (by rw [rep_int]) hg (.refl _ _)⟩)
    | (rw [rep_tup] at ra
       rw [rep_int] at rb
       obtain ⟨p, vs, e, e', rs⟩ := ra
       obtain ⟨w, hw, h⟩ := h
       obtain ⟨v, hv, rv⟩ := atI_rep rs hw
       exact .inr (.inl ⟨p, vs, _, v, e, rb, SqT.of e', hv, up _ _ _ _ h rv hg (.refl _ _)⟩))
    | (rw [rep_str] at ra
       rw [rep_int] at rb
       obtain ⟨c, hz, hc, h⟩ := h
       exact .inr (.inr ⟨_, _, c, ra, rb, hz, hc, up _ _ _ _ h (by rw [rep_str]) hg (.refl _ _)⟩))
/-! ### slices -/
def cutZ {α : Type} (xs : List α) (lo hi : Option Int) : List α := (xs.drop (HT.sIx xs.length 0 lo)).take (HT.sIx xs.length xs.length hi - HT.sIx xs.length 0 lo)
theorem cutV_eq (xs : List V) (lo hi : Option Int) : cutV xs lo hi = cutZ xs lo hi := rfl
theorem cutZ_length {α : Type} (xs : List α) (lo hi : Option Int) : (cutZ xs lo hi).length ≤ xs.length := by
  unfold cutZ
  rw [List.length_take, List.length_drop]
  omega
theorem Reps.cut {K : PySem.W.Frag} {H : Hp} {ws : List Z} {vs : List V} (r : Reps K H ws vs) (lo hi : Option Int) : Reps K H (cutZ ws lo hi) (cutV vs lo hi) := by
  unfold cutZ cutV
  rw [← r.length]
  exact (r.drop _).take _
theorem cutZ_map {α β : Type} (f : α → β) (xs : List α) (lo hi : Option Int) : cutZ (xs.map f) lo hi = (cutZ xs lo hi).map f := by
  unfold cutZ
  rw [List.length_map, List.map_take, List.map_drop]
def zSl : L3r := fun x lo hi G R => match x with
  | .ref p => ∃ ws, G p = some (.lst ws) ∧ ∀ t, G t = none → R (.ref t) (put G t (.lst (cutZ ws lo hi)))
  | .scr _ ns => ∀ t, G t = none → R (.ref t) (put G t (.lst ((cutZ ns lo hi).map Z.int)))
  | .tup ws => ¬ (HT.sIx ws.length 0 lo = 0 ∧ HT.sIx ws.length ws.length hi = ws.length) ∧ R (.tup (cutZ ws lo hi)) G
  | .str z => z.length ≤ sizeLine ∧ R (.str (Txt.slice z lo hi)) G
  | _ => False
theorem x_sl : SlQ X zSl := slImp (sl_list.or (sl_tup.or sl_str)) fun x lo hi H Q ⟨a, G, R, ra, hg, h, up⟩ => by
  cases a with
  | ref p =>
    rw [rep_ref] at ra
    obtain ⟨ws, e, h⟩ := h
    obtain ⟨vs, e', rs⟩ := hg _ _ e
    exact .inl ⟨p, vs, ra, SqL.of e', fun t ht => up _ _ _ _ (h t (hg.out ht)) (by rw [rep_ref]) (hg.set (.new ht) (rob_lst (rs.cut lo hi) (.new ht))) (.new ht)⟩
  | scr p ns =>
    rw [rep_scr] at ra
    refine .inl ⟨p, _, ra.1, ra.2.sq, fun t ht => ?_⟩
    rw [cutV_eq, cutZ_map]
    exact up _ _ _ _ (h t (hg.out ht)) (by rw [rep_ref]) (hg.set (.new ht) (rob_lst (ints_reps _) (.new ht))) (.new ht)
  | tup ws =>
    rw [rep_tup] at ra
    obtain ⟨p, vs, e, e', rs⟩ := ra
    exact .inr (.inl ⟨p, vs, e, SqT.of e', by rw [← rs.length]; exact h.1, fun t ht => up _ _ _ _ h.2 (by rw [rep_tup]; exact ⟨t, _, rfl, upd_same, (rs.cut lo hi).mono (.new ht)⟩) (hg.hid ht) (.new ht)⟩)
  | str z =>
    rw [rep_str] at ra
    exact .inr (.inr ⟨z, ra, h.1, up _ _ _ _ h.2 (by rw [rep_str]) hg (.refl _ _)⟩)
  | _ => exact False.elim h
/-! ### o[i] = e of a list -/
def zSet : Z3 := fun o i v G R => match o, i with
  | .ref p, .int k => ∃ ws j, G p = some (.lst ws) ∧ ixN ws.length k = some j ∧ R (put G p (.lst (ws.set j v)))
  | _, _ => False
theorem x_set : SetQ X zSet := setImp set_list fun o i v H Q ⟨a, b, w, G, R, ra, rb, rw', hg, h, up⟩ => by
  cases a <;> cases b <;> first
    | exact False.elim h
    | (rw [rep_ref] at ra
       rw [rep_int] at rb
       obtain ⟨ws, j, e, hj, h⟩ := h
       obtain ⟨vs, e', rs⟩ := hg _ _ e
       exact ⟨_, vs, _, j, ra, rb, e', by rw [← rs.length]; exact hj, up _ _ h (hg.set (.lst e') (rob_lst (rs.set rw' j) (.lst e'))) (.lst e')⟩)
/-! ### built-in functions -/
def zLen : List Z → Hq → K3 → Prop := fun xs G R => match xs with
  | [.str z] => z.length ≤ sizeLine ∧ R (.int z.length) G
  | [.ref p] => ∃ ws, G p = some (.lst ws) ∧ R (.int ws.length) G
  | [.tup ws] => R (.int ws.length) G
  | [.scr _ ns] => R (.int ns.length) G
  | _ => False
theorem one_of {ws : List Z} {P : Z → Prop} (h : match ws with | [w] => P w | _ => False) : ∃ w, ws = [w] ∧ P w := by
  match ws, h with
  | [w], h => exact ⟨w, rfl, h⟩
theorem b_len : CallQ X (.builtin "len") zLen := callImp call_len fun xs H Q ⟨ws, G, R, rs, hg, h, up⟩ => by
  match ws, h with
  | [.str z], h =>
    obtain ⟨v, rfl, r⟩ := rs.one
    rw [rep_str] at r
    exact ⟨v, z.length, rfl, by rw [r]; exact ⟨h.1, rfl⟩, up _ _ _ _ h.2 (by rw [rep_int]) hg (.refl _ _)⟩
  | [.ref p], h =>
    obtain ⟨v, rfl, r⟩ := rs.one
    rw [rep_ref] at r
    obtain ⟨ys, e, h⟩ := h
    obtain ⟨vs, e', rs'⟩ := hg _ _ e
    exact ⟨v, ys.length, rfl, by rw [r]; exact .inl ⟨vs, SqL.of e', rs'.length⟩, up _ _ _ _ h (by rw [rep_int]) hg (.refl _ _)⟩
  | [.tup ys], h =>
    obtain ⟨v, rfl, r⟩ := rs.one
    rw [rep_tup] at r
    obtain ⟨p, vs, e, e', rs'⟩ := r
    exact ⟨v, ys.length, rfl, by rw [e]; exact .inr ⟨vs, SqT.of e', rs'.length⟩, up _ _ _ _ h (by rw [rep_int]) hg (.refl _ _)⟩
  | [.scr p ns], h =>
    obtain ⟨v, rfl, r⟩ := rs.one
    rw [rep_scr] at r
    exact ⟨v, ns.length, rfl, by rw [r.1]; exact .inl ⟨_, r.2.sq, (List.length_map ..).symm⟩, up _ _ _ _ h (by rw [rep_int]) hg (.refl _ _)⟩
def zMM (f : Int → Int → Int) : List Z → Hq → K3 → Prop := fun xs G R => match xs with
  | [.int i, .int j] => R (.int (f i j)) G
  | _ => False
theorem bMM {id : String} {f : Int → Int → Int} (hf : CallR X (.builtin id) (fun xs H Q => ∃ i j, xs = [.int i, .int j] ∧ Q (.int (f i j)) H)) : CallQ X (.builtin id) (zMM f) := callImp hf fun xs H Q ⟨ws, G, R, rs, hg, h, up⟩ => by
  match ws, h with
  | [.int i, .int j], h =>
    obtain ⟨v, v', rfl, r, r'⟩ := rs.two
    rw [rep_int] at r r'
    exact ⟨i, j, by rw [r, r'], up _ _ _ _ h (by rw [rep_int]) hg (.refl _ _)⟩
theorem b_max (hc : X.calm = true) : CallQ X (.builtin "max") (zMM fun i j => if j > i then j else i) := bMM (call_max2 hc)
theorem b_min (hc : X.calm = true) : CallQ X (.builtin "min") (zMM fun i j => if j < i then j else i) := bMM (call_min2 hc)
def zAll : List Z → Hq → K3 → Prop := fun xs G R => match xs with
  | [.ref p] => ∃ bs : List Bool, G p = some (.lst (bs.map Z.bl)) ∧ R (.bl (bs.all id)) G
  | _ => False
theorem reps_bls {K : PySem.W.Frag} {H : Hp} : ∀ {bs : List Bool} {vs : List V}, Reps K H (bs.map Z.bl) vs → vs = bs.map V.bl
  | [], vs, h => by rw [List.map_nil, reps_nil] at h; subst h; rfl
  | n :: ns, vs, h => by
    rw [List.map_cons, reps_cons] at h
    obtain ⟨v, r, rfl, h1, h2⟩ := h
    rw [rep_bl] at h1
    rw [h1, reps_bls h2]; rfl
theorem reps_strs {K : PySem.W.Frag} {H : Hp} : ∀ {bs : List Str} {vs : List V}, Reps K H (bs.map Z.str) vs → vs = bs.map V.str
  | [], vs, h => by rw [List.map_nil, reps_nil] at h; subst h; rfl
  | n :: ns, vs, h => by
    rw [List.map_cons, reps_cons] at h
    obtain ⟨v, r, rfl, h1, h2⟩ := h
    rw [rep_str] at h1
    rw [h1, reps_strs h2]; rfl
theorem b_all (hc : X.calm = true) : CallQ X (.builtin "all") zAll := callImp (call_allB hc) fun xs H Q ⟨ws, G, R, rs, hg, h, up⟩ => by
  match ws, h with
  | [.ref p], h =>
    obtain ⟨v, rfl, r⟩ := rs.one
    rw [rep_ref] at r
    obtain ⟨bs, e, h⟩ := h
    obtain ⟨vs, e', rs'⟩ := hg _ _ e
    have := reps_bls rs'
    subst this
    exact ⟨p, bs, by rw [r], SqL.of e', up _ _ _ _ h (by rw [rep_bl]) hg (.refl _ _)⟩
/-- list(x) -/
def zList : List Z → Hq → K3 → Prop := fun xs G R => match xs with
  | [.ref p] => ∃ ws, G p = some (.lst ws) ∧ ∀ t, G t = none → R (.ref t) (put G t (.lst ws))
  | [.tup ws] => ∀ t, G t = none → R (.ref t) (put G t (.lst ws))
  | [.scr _ ns] => ∀ t, G t = none → R (.ref t) (put G t (.lst (ns.map Z.int)))
  | _ => False
theorem b_list : CallQ X (.type "list") zList := callImp call_list_of fun xs H Q ⟨ws, G, R, rs, hg, h, up⟩ => by
  match ws, h with
  | [.ref p], h =>
    obtain ⟨v, rfl, r⟩ := rs.one
    rw [rep_ref] at r
    obtain ⟨ys, e, h⟩ := h
    obtain ⟨vs, e', rs'⟩ := hg _ _ e
    exact ⟨p, vs, by rw [r], .inl (SqL.of e'), fun t ht => up _ _ _ _ (h t (hg.out ht)) (by rw [rep_ref]) (hg.set (.new ht) (rob_lst rs' (.new ht))) (.new ht)⟩
  | [.tup ys], h =>
    obtain ⟨v, rfl, r⟩ := rs.one
    rw [rep_tup] at r
    obtain ⟨p, vs, e, e', rs'⟩ := r
    exact ⟨p, vs, by rw [e], .inr (SqT.of e'), fun t ht => up _ _ _ _ (h t (hg.out ht)) (by rw [rep_ref]) (hg.set (.new ht) (rob_lst rs' (.new ht))) (.new ht)⟩
  | [.scr p ns], h =>
    obtain ⟨v, rfl, r⟩ := rs.one
    rw [rep_scr] at r
    exact ⟨p, _, by rw [r.1], .inl r.2.sq, fun t ht => up _ _ _ _ (h t (hg.out ht)) (by rw [rep_ref]) (hg.set (.new ht) (rob_lst (ints_reps _) (.new ht))) (.new ht)⟩
/-! ### isinstance with a built-in type -/
def kit0 (n T : String) : Option Bool := if (Value.type n == Value.type T) = true then some true else if PySem.W.kitMeta T = true then (PySem.fastBuiltinMro n).map (·.contains (.type T)) else none
theorem kit_of {K : PySem.W.Frag} {n T : String} : PySem.W.kitOne K (.type n) (.type T) = kit0 n T := rfl
/-- the name of a value's type -/
def tyN (G : Hq) : Z → Option String
  | .non => some "NoneType"
  | .bl _ => some "bool"
  | .int _ => some "int"
  | .str _ => some "str"
  | .tup _ => some "tuple"
  | .ref p => match G p with
    | some (.lst _) => some "list"
    | some (.dK _) => some "dict"
    | _ => none
  | _ => none
def zIsT : List Z → Hq → K3 → Prop := fun xs G R => match xs with
  | [x, .ty T] => ∃ n b, tyN G x = some n ∧ kit0 n T = some b ∧ R (.bl b) G
  | _ => False
theorem tyOf_low {K : PySem.W.Frag} {G : Hq} {H : Hp} {x : Z} {v : V} {n : String} (h : tyN G x = some n) (r : Rep K H x v) (hg : RH K G H) : TyOf K H v (.type n) := by
  cases x with
  | non => rw [rep_non] at r; subst r; cases h; exact .non
  | bl _ => rw [rep_bl] at r; subst r; cases h; exact .bl _
  | int _ => rw [rep_int] at r; subst r; cases h; exact .int _
  | str _ => rw [rep_str] at r; subst r; cases h; exact .str _
  | tup ws => rw [rep_tup] at r; obtain ⟨a, vs, rfl, e, _⟩ := r; cases h; exact .tup e
  | ref p =>
    rw [rep_ref] at r
    subst r
    cases e : G p with
    | none => simp [tyN, e] at h
    | some o =>
      cases o with
      | lst ws => simp [tyN, e] at h; subst h; obtain ⟨vs, e', _⟩ := hg _ _ e; exact .lst e'
      | dK kvs => simp [tyN, e] at h; subst h; obtain ⟨vs, e', _⟩ := hg _ _ e; exact .dK e'
      | ins C dx fs => simp [tyN, e] at h
  | ty _ => cases h
  | scr _ _ => cases h
theorem b_isT : CallQ X (.builtin "isinstance") zIsT := callImp call_isT fun xs H Q ⟨ws, G, R, rs, hg, h, up⟩ => by
  match ws, h with
  | [x, .ty T], h =>
    obtain ⟨v, v', rfl, r, r'⟩ := rs.two
    rw [rep_ty] at r'
    obtain ⟨n, b, e, k, h⟩ := h
    exact ⟨v, T, .type n, b, by rw [r'], tyOf_low e r hg, by rw [kit_of]; exact k, up _ _ _ _ h (by rw [rep_bl]) hg (.refl _ _)⟩
/-! ### methods -/
def zAppend : Z → List Z → Hq → K3 → Prop := fun x xs G R => match x, xs with
  | .ref p, [y] => ∃ ws, G p = some (.lst ws) ∧ ws.length < sizeLine ∧ R .non (put G p (.lst (ws ++ [y])))
  | _, _ => False
theorem m_append : MtQ X "list.append" zAppend := mtImp mt_append fun x xs H Q ⟨w, ws, G, R, rw', rs, hg, h, up⟩ => by
  match w, ws, h with
  | .ref p, [y], h =>
    rw [rep_ref] at rw'
    obtain ⟨v, rfl, r⟩ := rs.one
    obtain ⟨ys, e, hz, h⟩ := h
    obtain ⟨vs, e', rs'⟩ := hg _ _ e
    exact ⟨p, vs, v, rw', rfl, e', by rw [← rs'.length]; exact hz, up _ _ _ _ h (by rw [rep_non]) (hg.set (.lst e') (rob_lst (rs'.append (.cons r .nil)) (.lst e'))) (.lst e')⟩
def zExtend : Z → List Z → Hq → K3 → Prop := fun x xs G R => match x, xs with
  | .ref p, [.ref q] => ∃ ws ys, G p = some (.lst ws) ∧ G q = some (.lst ys) ∧ ws.length + ys.length ≤ sizeLine ∧ R .non (put G p (.lst (ws ++ ys)))
  | _, _ => False
theorem m_extend : MtQ X "list.extend" zExtend := mtImp mt_extend fun x xs H Q ⟨w, ws, G, R, rw', rs, hg, h, up⟩ => by
  match w, ws, h with
  | .ref p, [.ref q], h =>
    rw [rep_ref] at rw'
    obtain ⟨v, rfl, r⟩ := rs.one
    rw [rep_ref] at r
    obtain ⟨ys, zs, e, e2, hz, h⟩ := h
    obtain ⟨vs, e', rs'⟩ := hg _ _ e
    obtain ⟨us, e2', rs2⟩ := hg _ _ e2
    exact ⟨p, q, vs, us, rw', by rw [r], e', e2', by rw [← rs'.length, ← rs2.length]; exact hz, up _ _ _ _ h (by rw [rep_non]) (hg.set (.lst e') (rob_lst (rs'.append rs2) (.lst e'))) (.lst e')⟩
def zClear : Z → List Z → Hq → K3 → Prop := fun x xs G R => match x, xs with
  | .ref p, [] => ∃ ws, G p = some (.lst ws) ∧ R .non (put G p (.lst []))
  | _, _ => False
theorem m_clear : MtQ X "list.clear" zClear := mtImp mt_clear fun x xs H Q ⟨w, ws, G, R, rw', rs, hg, h, up⟩ => by
  match w, ws, h with
  | .ref p, [], h =>
    rw [rep_ref] at rw'
    rw [reps_nil] at rs
    obtain ⟨ys, e, h⟩ := h
    obtain ⟨vs, e', rs'⟩ := hg _ _ e
    exact ⟨p, vs, rw', rs, e', up _ _ _ _ h (by rw [rep_non]) (hg.set (.lst e') (rob_lst .nil (.lst e'))) (.lst e')⟩
def zJoin : Z → List Z → Hq → K3 → Prop := fun x xs G R => match x, xs with
  | .str z, [.ref p] => ∃ ys : List Str, G p = some (.lst (ys.map Z.str)) ∧ (ys.map (·.length)).sum + ys.length * z.length ≤ 16777216 ∧ R (.str (Txt.join z ys)) G
  | _, _ => False
theorem m_join : MtQ X "str.join" zJoin := mtImp mt_join fun x xs H Q ⟨w, ws, G, R, rw', rs, hg, h, up⟩ => by
  match w, ws, h with
  | .str z, [.ref p], h =>
    rw [rep_str] at rw'
    obtain ⟨v, rfl, r⟩ := rs.one
    rw [rep_ref] at r
    obtain ⟨ys, e, hz, h⟩ := h
    obtain ⟨vs, e', rs'⟩ := hg _ _ e
    have := reps_strs rs'
    subst this
    exact ⟨z, p, ys, rw', by rw [r], SqL.of e', hz, up _ _ _ _ h (by rw [rep_str]) hg (.refl _ _)⟩
/-! ### {} -/
def uDNew : E3 := fun _ G R => ∀ p, G p = none → R (.ref p) (put G p (.dK []))
theorem q_dnew {pos : Pos} : QE X (.Dict [] [] pos) uDNew := ⟨peImp pe_dnewK fun τ H Q ⟨σ, G, R, hs, hg, h, up⟩ p hp => up _ _ _ _ (h p (hg.out hp)) (by rw [rep_ref]) (hg.set (o := .dK []) (.new hp) ⟨[], upd_same, rfl, .nil⟩) (.new hp)⟩
/-! ### a text that is walked -/
def signs (x : Str) : List Z := x.cps.toList.map fun c => .str ⟨#[c]⟩
def wkS (x : Z) (G : Hq) (R : List Z → (Hq → Prop) → Hq → Prop) : Prop := match x with
  | .str z => R (signs z) (fun _ => True) G
  | _ => False
def iS (tl : E3) : I3 := fun σ G R => tl σ G fun x G1 => wkS x G1 R
theorem lowIt_str {K : PySem.W.Frag} {x : Str} {H0 : Hp} : LowIt K (signs x) (fun _ => True) (Its x) H0 := fun i G H hg t ok hi => by
  have hl : (signs x).length = x.cps.size := by unfold signs; rw [List.length_map, Array.length_toList]
  refine ⟨fun h => by rw [h, hl]; rfl, fun w hw => ?_⟩
  unfold signs at hw
  rw [List.getElem?_map] at hw
  cases hc : x.cps.toList[i]? with
  | none => rw [hc] at hw; cases hw
  | some c =>
    rw [hc] at hw
    cases hw
    have hc' : x.cps[i]? = some c := by simpa using hc
    refine ⟨(Array.getElem?_eq_some_iff.mp hc').1, ?_⟩
    rintro v H' ⟨rfl, c2, h2, rfl⟩
    rw [hc'] at h2
    cases h2
    exact ⟨by rw [rep_str], hg, .refl _ _, fun _ h => h⟩
theorem it_str {tg l : Expr} {tl : E3} (hl : QE X l tl) : QI X tg l (iS tl) := piImp (pi_str hl.p) fun τ H R2 ⟨σ, G, R, hs, hg, h, up⟩ => by
  refine ⟨σ, G, _, hs, hg, h, fun w G1 v H1 h1 rv hg1 t1 => ?_⟩
  cases w with
  | str x =>
    rw [rep_str] at rv
    exact ⟨x, rv, up _ _ _ _ _ h1 lowIt_str hg1 t1⟩
  | _ => exact False.elim h1
end
end L3
namespace L3
open PySem PySem.Spec PyProof.Rows L2
/-! ## readings, step by step -/
section
variable {σ : S3} {G : Hq} {R : K3} {Rb : Bool → Hq → Prop} {Ra : List Z → Hq → Prop} {nx bk ct : C3} {rt : K3} {t u : X3} {te ta tb tc to ti : E3} {c d : T3} {al : A3} {r r' : R3} {w x y : Z} {i : Nat}
theorem i_var (e : σ[i]? = some (some w)) (h : R w G) : uVar i σ G R := ⟨w, e, h⟩
theorem i_c (h : R w G) : uC w σ G R := h
theorem i_op (h : ta σ G fun x G1 => tb σ G1 fun y G2 => r x y G2 R) : uOp r ta tb σ G R := h
theorem i_un {r : Z → Hq → K3 → Prop} (h : ta σ G fun x G1 => r x G1 R) : uUn r ta σ G R := h
theorem i_test (h : ta σ G fun x G1 => ∃ k, x = .bl k ∧ Rb k G1) : uTest ta σ G Rb := h
theorem i_chain (h : ta σ G fun x G1 => tb σ G1 fun y G2 => r x y G2 fun z G3 => ∃ k, z = .bl k ∧ (if k = true then tc σ G3 fun w G4 => r' y w G4 R else R (.bl false) G3)) : uChain r r' ta tb tc σ G R := h
theorem i_and (h : c σ G fun k G1 => if k = true then d σ G1 Rb else Rb false G1) : uAnd c d σ G Rb := h
theorem i_or (h : c σ G fun k G1 => if k = true then Rb true G1 else d σ G1 Rb) : uOr c d σ G Rb := h
theorem i_not (h : c σ G fun k G1 => Rb (!k) G1) : uNot c σ G Rb := h
theorem i_andV (h : ta σ G fun x G1 => ∃ c, x = .bl c ∧ if c = true then tb σ G1 R else R (.bl false) G1) : uAndV ta tb σ G R := h
theorem i_orV (h : ta σ G fun x G1 => ∃ c, x = .bl c ∧ if c = true then R (.bl true) G1 else tb σ G1 R) : uOrV ta tb σ G R := h
theorem i_notV (h : ta σ G fun x G1 => ∃ c, x = .bl c ∧ R (.bl (!c)) G1) : uNotV ta σ G R := h
theorem i_if (h : c σ G fun k G1 => if k = true then ta σ G1 R else tb σ G1 R) : uIf c ta tb σ G R := h
theorem i_tru (h : ta σ G fun x G1 => tru x G1 Rb) : uTru ta σ G Rb := h
theorem i_truL {p : Addr} {ws : List Z} (e : G p = some (.lst ws)) (h : Rb (!ws.isEmpty) G) : tru (.ref p) G Rb := .inl ⟨ws, e, h⟩
theorem i_truI {n : Int} (h : Rb (n != 0) G) : tru (.int n) G Rb := h
theorem i_truB {b : Bool} (h : Rb b G) : tru (.bl b) G Rb := h
theorem i_sl {r : L3r} {tl th : O3} (h : te σ G fun x G1 => tl σ G1 fun l G2 => th σ G2 fun u G3 => r x l u G3 R) : uSl r te tl th σ G R := h
theorem i_nopart {Ro : Option Int → Hq → Prop} (h : Ro none G) : uNoPart σ G Ro := h
theorem i_part {Ro : Option Int → Hq → Prop} (h : te σ G fun x G1 => ∃ i, x = .int i ∧ Ro (some i) G1) : uPart te σ G Ro := h
theorem i_nil (h : Ra [] G) : uNil σ G Ra := h
theorem i_cons (h : ta σ G fun x G1 => al σ G1 fun xs G2 => Ra (x :: xs) G2) : uCons ta al σ G Ra := h
theorem i_tup (h : al σ G fun xs G1 => xs.length ≤ sizeLine ∧ R (.tup xs) G1) : uTup al σ G R := h
theorem i_lst (h : al σ G fun xs G1 => xs.length ≤ sizeLine ∧ ∀ p, G1 p = none → R (.ref p) (put G1 p (.lst xs))) : uLst al σ G R := h
theorem i_cb {r : List Z → Hq → K3 → Prop} (h : al σ G fun ws G1 => r ws G1 R) : uCB r al σ G R := h
theorem i_bm0 {T : String} {r : Z → List Z → Hq → K3 → Prop} (h : to σ G fun x G1 => tyZ T x G1 ∧ r x [] G1 R) : uBM0 T r to σ G R := h
theorem i_bm {T : String} {r : Z → List Z → Hq → K3 → Prop} (h : to σ G fun x G1 => tyZ T x G1 ∧ al σ G1 fun xs G2 => r x xs G2 R) : uBM T r to al σ G R := h
theorem i_call {sp : P3} (h : al σ G fun ws G1 => sp ws G1 R) : uCall sp al σ G R := h
/-! statements -/
theorem i_next (h : nx σ G) : uNext nx rt bk ct σ G := h
theorem i_seq (h : t (u nx rt bk ct) rt bk ct σ G) : uSeq t u nx rt bk ct σ G := h
theorem i_drop (h : te σ G fun _ G1 => nx σ G1) : uDrop te nx rt bk ct σ G := h
theorem i_ret (h : te σ G rt) : uRet te nx rt bk ct σ G := h
theorem i_retN (h : rt .non G) : uRetN nx rt bk ct σ G := h
theorem i_ifS (h : c σ G fun b G1 => if b = true then t nx rt bk ct σ G1 else u nx rt bk ct σ G1) : uIfS c t u nx rt bk ct σ G := h
theorem i_asg {pt : Pt} (h : te σ G fun x G1 => ∃ σ', bindZ pt x σ = some σ' ∧ nx σ' G1) : uAsg te pt nx rt bk ct σ G := h
theorem i_put {r : Z3} (h : te σ G fun w G1 => to σ G1 fun o G2 => ti σ G2 fun i G3 => r o i w G3 fun G4 => nx σ G4) : uPut te to ti r nx rt bk ct σ G := h
theorem i_aug (e : σ[i]? = some (some x)) (h : te σ G fun y G1 => r x y G1 fun z G2 => nx (σ.set i (some z)) G2) : uAug i te r nx rt bk ct σ G := ⟨x, e, h⟩
theorem i_cut (M : C3) (h : t M rt bk ct σ G) (h' : ∀ σ' G', M σ' G' → u nx rt bk ct σ' G') : uCut t u nx rt bk ct σ G := ⟨M, h, h'⟩
theorem i_break (h : bk σ G) : uBreak nx rt bk ct σ G := h
theorem i_cont (h : ct σ G) : uCont nx rt bk ct σ G := h
/-! operators -/
theorem i_addI {a b : Int} (h : R (.int (a + b)) G) : zAdd (.int a) (.int b) G R := h
theorem i_addS {a b : Str} (z : a.length + b.length ≤ sizeLine) (h : R (.str (a ++ b)) G) : zAdd (.str a) (.str b) G R := ⟨z, h⟩
theorem i_addT {xs ys : List Z} (e : xs ≠ []) (z : xs.length + ys.length ≤ sizeLine) (h : R (.tup (xs ++ ys)) G) : zAdd (.tup xs) (.tup ys) G R := ⟨e, z, h⟩
theorem i_addL {p q : Addr} {xs ys : List Z} (e : G p = some (.lst xs)) (e' : G q = some (.lst ys)) (z : xs.length + ys.length ≤ sizeLine) (h : ∀ t, G t = none → R (.ref t) (put G t (.lst (xs ++ ys)))) : zAdd (.ref p) (.ref q) G R := ⟨xs, ys, e, e', z, h⟩
theorem i_I {C : Int → Int → Prop} {g : Int → Int → Z} {a b : Int} (k : C a b) (h : R (g a b) G) : zI C g (.int a) (.int b) G R := ⟨k, h⟩
theorem i_I0 {g : Int → Int → Z} {a b : Int} (h : R (g a b) G) : zI0 g (.int a) (.int b) G R := h
theorem i_neg {a : Int} (h : R (.int (-a)) G) : zNeg (.int a) G R := h
theorem i_CI {f : Int → Int → Bool} {g : Str → Str → Bool} {a b : Int} (h : R (.bl (f a b)) G) : zC f g (.int a) (.int b) G R := h
theorem i_CS {f : Int → Int → Bool} {g : Str → Str → Bool} {a b : Str} (h : R (.bl (g a b)) G) : zC f g (.str a) (.str b) G R := h
theorem i_isN (h : R (.bl (decide (x = .non))) G) : zIs false x .non G R := h
theorem i_isB {a b : Bool} (h : R (.bl (a == b)) G) : zIs false (.bl a) (.bl b) G R := ⟨rfl, h⟩
theorem i_notN (h : R (.bl (!decide (x = .non))) G) : zIs true x .non G R := h
theorem i_eqB {f : Bool → Bool} {a b : Bool} (h : R (.bl (f (a == b))) G) : zEq f (.bl a) (.bl b) G R := h
theorem i_eqI {f : Bool → Bool} {a b : Int} (h : R (.bl (f (decide (a = b)))) G) : zEq f (.int a) (.int b) G R := h
theorem i_eqS {f : Bool → Bool} {a b : Str} (h : R (.bl (f (decide (a = b)))) G) : zEq f (.str a) (.str b) G R := h
theorem i_eqL {f : Bool → Bool} {p q : Addr} {xs ys : List Z} (e : G p = some (.lst xs)) (e' : G q = some (.lst ys)) (f1 : xs.all (flat 8) = true) (f2 : ys.all (flat 8) = true) (h : R (.bl (f (decide (xs = ys)))) G) : zEq f (.ref p) (.ref q) G R := ⟨xs, ys, e, e', f1, f2, h⟩
theorem i_ixL {p : Addr} {ws : List Z} {k : Int} (e : G p = some (.lst ws)) (a : atI ws k = some w) (h : R w G) : zIx (.ref p) (.int k) G R := ⟨ws, w, e, a, h⟩
theorem i_ixC {p : Addr} {ns : List Int} {k n : Int} (a : atI ns k = some n) (h : R (.int n) G) : zIx (.scr p ns) (.int k) G R := ⟨n, a, h⟩
theorem i_ixT {ws : List Z} {k : Int} (a : atI ws k = some w) (h : R w G) : zIx (.tup ws) (.int k) G R := ⟨w, a, h⟩
theorem i_ixS {z : Str} {k : Int} {ch : Nat} (l : z.length ≤ sizeLine) (a : atI z.cps.toList k = some ch) (h : R (.str ⟨#[ch]⟩) G) : zIx (.str z) (.int k) G R := ⟨ch, l, a, h⟩
theorem i_slS {z : Str} {lo hi : Option Int} (l : z.length ≤ sizeLine) (h : R (.str (Txt.slice z lo hi)) G) : zSl (.str z) lo hi G R := ⟨l, h⟩
theorem i_slL {p : Addr} {ws : List Z} {lo hi : Option Int} (e : G p = some (.lst ws)) (h : ∀ t, G t = none → R (.ref t) (put G t (.lst (cutZ ws lo hi)))) : zSl (.ref p) lo hi G R := ⟨ws, e, h⟩
theorem i_slC {p : Addr} {ns : List Int} {lo hi : Option Int} (h : ∀ t, G t = none → R (.ref t) (put G t (.lst ((cutZ ns lo hi).map Z.int)))) : zSl (.scr p ns) lo hi G R := h
theorem i_slT {ws : List Z} {lo hi : Option Int} (n : ¬ (HT.sIx ws.length 0 lo = 0 ∧ HT.sIx ws.length ws.length hi = ws.length)) (h : R (.tup (cutZ ws lo hi)) G) : zSl (.tup ws) lo hi G R := ⟨n, h⟩
theorem i_set {p : Addr} {ws : List Z} {k : Int} {j : Nat} {Rg : Hq → Prop} (e : G p = some (.lst ws)) (a : ixN ws.length k = some j) (h : Rg (put G p (.lst (ws.set j w)))) : zSet (.ref p) (.int k) w G Rg := ⟨ws, j, e, a, h⟩
theorem i_dnew (h : ∀ p, G p = none → R (.ref p) (put G p (.dK []))) : uDNew σ G R := h
theorem i_lenS {z : Str} (l : z.length ≤ sizeLine) (h : R (.int z.length) G) : zLen [.str z] G R := ⟨l, h⟩
theorem i_lenL {p : Addr} {ws : List Z} (e : G p = some (.lst ws)) (h : R (.int ws.length) G) : zLen [.ref p] G R := ⟨ws, e, h⟩
theorem i_lenT {ws : List Z} (h : R (.int ws.length) G) : zLen [.tup ws] G R := h
theorem i_lenC {p : Addr} {ns : List Int} (h : R (.int ns.length) G) : zLen [.scr p ns] G R := h
theorem i_mm {f : Int → Int → Int} {a b : Int} (h : R (.int (f a b)) G) : zMM f [.int a, .int b] G R := h
theorem i_all {p : Addr} {bs : List Bool} (e : G p = some (.lst (bs.map Z.bl))) (h : R (.bl (bs.all id)) G) : zAll [.ref p] G R := ⟨bs, e, h⟩
theorem i_listL {p : Addr} {ws : List Z} (e : G p = some (.lst ws)) (h : ∀ t, G t = none → R (.ref t) (put G t (.lst ws))) : zList [.ref p] G R := ⟨ws, e, h⟩
theorem i_isT {n T : String} {b : Bool} (e : tyN G x = some n) (k : kit0 n T = some b) (h : R (.bl b) G) : zIsT [x, .ty T] G R := ⟨n, b, e, k, h⟩
theorem i_append {p : Addr} {ws : List Z} (e : G p = some (.lst ws)) (z : ws.length < sizeLine) (h : R .non (put G p (.lst (ws ++ [y])))) : zAppend (.ref p) [y] G R := ⟨ws, e, z, h⟩
theorem i_extend {p q : Addr} {ws ys : List Z} (e : G p = some (.lst ws)) (e' : G q = some (.lst ys)) (z : ws.length + ys.length ≤ sizeLine) (h : R .non (put G p (.lst (ws ++ ys)))) : zExtend (.ref p) [.ref q] G R := ⟨ws, ys, e, e', z, h⟩
theorem i_join {z : Str} {p : Addr} {ys : List Str} (e : G p = some (.lst (ys.map Z.str))) (l : (ys.map (·.length)).sum + ys.length * z.length ≤ 16777216) (h : R (.str (Txt.join z ys)) G) : zJoin (.str z) [.ref p] G R := ⟨ys, e, l, h⟩
theorem i_tyS {z : Str} {P : Prop} (h : P) : tyZ "str" (.str z) G ∧ P := ⟨rfl, h⟩
theorem i_tyL {p : Addr} {ws : List Z} {P : Prop} (e : G p = some (.lst ws)) (h : P) : tyZ "list" (.ref p) G ∧ P := ⟨.inl ⟨rfl, ws, e⟩, h⟩
theorem i_nm {j : Nat} (h : nx (σ.set j (some w)) G) : ∃ σ', bindZ (.nm j) w σ = some σ' ∧ nx σ' G := ⟨_, rfl, h⟩
theorem i_inS {f : Bool → Bool} {a b : Str} (h : R (.bl (f (!(Builtin.Str.occurrences b a 0 b.length 1).isEmpty))) G) : zIn f (.str a) (.str b) G R := h
theorem i_inL {f : Bool → Bool} {q : Addr} {ws : List Z} (e : G q = some (.lst ws)) (f1 : flat 8 x = true) (f2 : ws.all (flat 8) = true) (h : R (.bl (f (decide (x ∈ ws)))) G) : zIn f x (.ref q) G R := by cases x <;> exact ⟨ws, e, f1, f2, h⟩
/-! loops -/
theorem i_forE {wi : I3} {pt : Pt} {tb : X3} (h : wi σ G fun ws ok G1 => FORB ws ok pt tb nx rt σ G1) : uFor wi pt tb nx rt bk ct σ G := h
theorem i_lcE {wi : I3} {cap : List (Option Nat)} {pt : Pt} {tt : T3} (h : wi σ G fun ws ok G1 => ∀ D, G1 D = none → LCB ws ok cap pt tt te σ R D G1) : uLC wi cap pt tt te σ G R := h
variable {Ri : List Z → (Hq → Prop) → Hq → Prop}
theorem i_iL (h : te σ G fun x G1 => wkL x G1 Ri) : iL te σ G Ri := h
theorem i_iT (h : te σ G fun x G1 => wkT x G1 Ri) : iT te σ G Ri := h
theorem i_iS (h : te σ G fun x G1 => wkS x G1 Ri) : iS te σ G Ri := h
theorem i_iR1 (h : al σ G fun ws G1 => ∃ j : Int, ws = [.int j] ∧ -(2 ^ 62) ≤ j ∧ j < 2 ^ 62 ∧ Ri (rng 0 j.toNat) (fun _ => True) G1) : iR1 al σ G Ri := h
theorem i_iR2 (h : al σ G fun ws G1 => ∃ i j : Int, ws = [.int i, .int j] ∧ (-(2 ^ 62) ≤ i ∧ i < 2 ^ 62 ∧ -(2 ^ 62) ≤ j ∧ j < 2 ^ 62) ∧ Ri (rng i (j - i).toNat) (fun _ => True) G1) : iR2 al σ G Ri := h
theorem i_wkL {p : Addr} {ws : List Z} (e : G p = some (.lst ws)) (h : Ri ws (fun G => G p = some (.lst ws)) G) : wkL (.ref p) G Ri := ⟨ws, e, h⟩
theorem i_wkC {p : Addr} {ns : List Int} (h : Ri (ns.map Z.int) (fun _ => True) G) : wkL (.scr p ns) G Ri := h
theorem i_wkT {ws : List Z} (h : Ri ws (fun _ => True) G) : wkT (.tup ws) G Ri := h
theorem i_wkS {z : Str} (h : Ri (signs z) (fun _ => True) G) : wkS (.str z) G Ri := h
theorem i_tt (h : Rb true G) : uTT σ G Rb := h
end
/-! ifs -/
theorem ifD {p A B : Prop} [Decidable p] (h1 : p → A) (h2 : ¬ p → B) : if decide p = true then A else B := by
  by_cases c : p
  · rw [if_pos (decide_eq_true c)]; exact h1 c
  · rw [if_neg (fun z => c (of_decide_eq_true z))]; exact h2 c
theorem ifN {p A B : Prop} [Decidable p] (h1 : ¬ p → A) (h2 : p → B) : if (!decide p) = true then A else B := by
  by_cases c : p
  · rw [if_neg (by simp [c])]; exact h2 c
  · rw [if_pos (by simp [c])]; exact h1 c
theorem ifB {b : Bool} {A B : Prop} (h1 : b = true → A) (h2 : b = false → B) : if b = true then A else B := by
  cases b with
  | true => rw [if_pos rfl]; exact h1 rfl
  | false => rw [if_neg (by decide)]; exact h2 rfl
theorem ifNB {b : Bool} {A B : Prop} (h1 : b = false → A) (h2 : b = true → B) : if (!b) = true then A else B := by
  cases b with
  | false => rw [if_pos (show (!false) = true from rfl)]; exact h1 rfl
  | true => rw [if_neg (by decide)]; exact h2 rfl
theorem ifT {A B : Prop} (h : A) : if true = true then A else B := by rw [if_pos rfl]; exact h
theorem ifF {A B : Prop} (h : B) : if false = true then A else B := by rw [if_neg (by decide)]; exact h
/-! the heap, kept -/
/-- all that was spoken of is as it was -/
def Sm (G G' : Hq) : Prop := ∀ b o, G b = some o → G' b = some o
theorem Sm.refl (G : Hq) : Sm G G := fun _ _ h => h
theorem Sm.trans {G G1 G2 : Hq} (a : Sm G G1) (b : Sm G1 G2) : Sm G G2 := fun c o h => b c o (a c o h)
theorem Sm.get {G G' : Hq} {b : Addr} {o : O} (s : Sm G G') (h : G b = some o) : G' b = some o := s b o h
theorem Sm.new {G : Hq} {p : Addr} {o : O} (h : G p = none) : Sm G (put G p o) := fun _ _ e => put_old e h
theorem Sm.free {G G' : Hq} (s : Sm G G') {p : Addr} (h : G' p = none) : G p = none := by
  cases e : G p with
  | none => rfl
  | some o => rw [s p o e] at h; cases h
/-- .. but for what stands at r -/
def Kq (r : Addr) (G G' : Hq) : Prop := ∀ b o, G b = some o → b ≠ r → G' b = some o
theorem Kq.refl (r : Addr) (G : Hq) : Kq r G G := fun _ _ h _ => h
theorem Kq.trans {r : Addr} {G G1 G2 : Hq} (a : Kq r G G1) (b : Kq r G1 G2) : Kq r G G2 := fun c o h n => b c o (a c o h n) n
theorem Kq.new {r p : Addr} {G : Hq} {o : O} (h : G p = none) : Kq r G (put G p o) := fun _ _ e _ => put_old e h
theorem Kq.at {r : Addr} {G : Hq} {o : O} : Kq r G (put G r o) := fun _ _ e n => by rw [put_ne n]; exact e
theorem Sm.kq {r : Addr} {G G' : Hq} (s : Sm G G') : Kq r G G' := fun b o e _ => s b o e
/-- what is written stood not there ahead -/
theorem Sm.put {G G' : Hq} {p : Addr} {o : O} (s : Sm G G') (h : G p = none) : Sm G (put G' p o) := fun b u e => by rw [put_ne (gne_none e h)]; exact s b u e
end L3

set_option maxHeartbeats 4000000
namespace Lw
open PySem L2 L3
def top (i : Nat) : Stmt := PySem.Challenge.pw_twotimes_k01_names_moments_stretches.main.body.getD i (.Pass ⟨0, 0, 0, 0⟩)
abbrev s_p_is_name : Stmt := top 3
abbrev s_p_is_moment : Stmt := top 4
abbrev s_p_is_stretch : Stmt := top 5
abbrev s_cell_at : Stmt := top 7
abbrev s_stream : Stmt := top 8
abbrev s_take : Stmt := top 9
abbrev s_text : Stmt := top 10
abbrev s_spoilt : Stmt := top 11
abbrev s_number : Stmt := top 12
abbrev s_thing : Stmt := top 13
abbrev s_is_name : Stmt := top 14
abbrev s_moment : Stmt := top 15
abbrev s_stretch : Stmt := top 16
abbrev s_truth : Stmt := top 17
abbrev s_right : Stmt := top 18
abbrev s_law : Stmt := top 19
theorem sc_p_is_name : FnScope ["thing"] ["thing"] (defScope s_p_is_name) := ⟨rfl, rfl, rfl, by decide +kernel, rfl, by decide +kernel, by decide +kernel⟩
theorem sc_p_is_moment : FnScope ["thing"] ["thing"] (defScope s_p_is_moment) := ⟨rfl, rfl, rfl, by decide +kernel, rfl, by decide +kernel, by decide +kernel⟩
theorem sc_p_is_stretch : FnScope ["begin", "end"] ["begin", "end"] (defScope s_p_is_stretch) := ⟨rfl, rfl, rfl, by decide +kernel, rfl, by decide +kernel, by decide +kernel⟩
theorem sc_cell_at : FnScope ["script", "k"] ["script", "k"] (defScope s_cell_at) := ⟨rfl, rfl, rfl, by decide +kernel, rfl, by decide +kernel, by decide +kernel⟩
theorem sc_stream : FnScope ["cell", "way", "low"] ["cell", "way"] (defScope s_stream) := ⟨rfl, rfl, rfl, by decide +kernel, rfl, by decide +kernel, by decide +kernel⟩
theorem sc_take : FnScope ["row", "many", "found"] ["row", "many"] (defScope s_take) := ⟨rfl, rfl, rfl, by decide +kernel, rfl, by decide +kernel, by decide +kernel⟩
theorem sc_text : FnScope ["row", "size", "letters"] ["row", "size"] (defScope s_text) := ⟨rfl, rfl, rfl, by decide +kernel, rfl, by decide +kernel, by decide +kernel⟩
theorem sc_spoilt : FnScope ["row", "text", "at", "odd"] ["row"] (defScope s_spoilt) := ⟨rfl, rfl, rfl, by decide +kernel, rfl, by decide +kernel, by decide +kernel⟩
theorem sc_number : FnScope ["row", "kind"] ["row", "kind"] (defScope s_number) := ⟨rfl, rfl, rfl, by decide +kernel, rfl, by decide +kernel, by decide +kernel⟩
theorem sc_thing : FnScope ["row", "kind"] ["row"] (defScope s_thing) := ⟨rfl, rfl, rfl, by decide +kernel, rfl, by decide +kernel, by decide +kernel⟩
theorem sc_is_name : FnScope ["thing"] ["thing"] (defScope s_is_name) := ⟨rfl, rfl, rfl, by decide +kernel, rfl, by decide +kernel, by decide +kernel⟩
theorem sc_moment : FnScope ["thing"] ["thing"] (defScope s_moment) := ⟨rfl, rfl, rfl, by decide +kernel, rfl, by decide +kernel, by decide +kernel⟩
theorem sc_stretch : FnScope ["one", "other"] ["one", "other"] (defScope s_stretch) := ⟨rfl, rfl, rfl, by decide +kernel, rfl, by decide +kernel, by decide +kernel⟩
theorem sc_truth : FnScope ["found", "due"] ["found", "due"] (defScope s_truth) := ⟨rfl, rfl, rfl, by decide +kernel, rfl, by decide +kernel, by decide +kernel⟩
theorem sc_right : FnScope ["things", "one", "others", "other"] ["things", "one"] (defScope s_right) := ⟨rfl, rfl, rfl, by decide +kernel, rfl, by decide +kernel, by decide +kernel⟩
theorem sc_law : FnScope ["script", "way", "cell", "row", "things", "one"] ["script"] (defScope s_law) := ⟨rfl, rfl, rfl, by decide +kernel, rfl, by decide +kernel, by decide +kernel⟩
/-- the addresses and the data of the text's defs -/
structure Ad where
  f_p_is_name : Addr
  d_p_is_name : FuncData
  f_p_is_moment : Addr
  d_p_is_moment : FuncData
  f_p_is_stretch : Addr
  d_p_is_stretch : FuncData
  f_cell_at : Addr
  d_cell_at : FuncData
  f_stream : Addr
  d_stream : FuncData
  f_take : Addr
  d_take : FuncData
  f_text : Addr
  d_text : FuncData
  f_spoilt : Addr
  d_spoilt : FuncData
  f_number : Addr
  d_number : FuncData
  f_thing : Addr
  d_thing : FuncData
  f_is_name : Addr
  d_is_name : FuncData
  f_moment : Addr
  d_moment : FuncData
  f_stretch : Addr
  d_stretch : FuncData
  f_truth : Addr
  d_truth : FuncData
  f_right : Addr
  d_right : FuncData
  f_law : Addr
  d_law : FuncData
structure Fns (K : PySem.W.Frag) (a : Ad) : Prop where
  p_is_name : Fun K "is_name" "is_name" s_p_is_name a.f_p_is_name a.d_p_is_name
  p_is_moment : Fun K "is_moment" "is_moment" s_p_is_moment a.f_p_is_moment a.d_p_is_moment
  p_is_stretch : Fun K "is_stretch" "is_stretch" s_p_is_stretch a.f_p_is_stretch a.d_p_is_stretch
  cell_at : Fun K "_law_cell_at" "_law_cell_at" s_cell_at a.f_cell_at a.d_cell_at
  stream : Fun K "_law_stream" "_law_stream" s_stream a.f_stream a.d_stream
  take : Fun K "_law_take" "_law_take" s_take a.f_take a.d_take
  text : Fun K "_law_text" "_law_text" s_text a.f_text a.d_text
  spoilt : Fun K "_law_spoilt" "_law_spoilt" s_spoilt a.f_spoilt a.d_spoilt
  number : Fun K "_law_number" "_law_number" s_number a.f_number a.d_number
  thing : Fun K "_law_thing" "_law_thing" s_thing a.f_thing a.d_thing
  is_name : Fun K "_law_is_name" "_law_is_name" s_is_name a.f_is_name a.d_is_name
  moment : Fun K "_law_moment" "_law_moment" s_moment a.f_moment a.d_moment
  stretch : Fun K "_law_stretch" "_law_stretch" s_stretch a.f_stretch a.d_stretch
  truth : Fun K "_law_truth" "_law_truth" s_truth a.f_truth a.d_truth
  right : Fun K "_law_right" "_law_right" s_right a.f_right a.d_right
  law : Fun K "law" "law" s_law a.f_law a.d_law
theorem b_p_is_name {K : PySem.W.Frag} {a : Ad} (F : Fns K a) : Binds K a.d_p_is_name ["thing"] [] := F.p_is_name.binds (ps := ["thing"]) fun _ _ _ _ _ _ us hl => match us, hl with | [_], _ => rfl
theorem b_p_is_moment {K : PySem.W.Frag} {a : Ad} (F : Fns K a) : Binds K a.d_p_is_moment ["thing"] [] := F.p_is_moment.binds (ps := ["thing"]) fun _ _ _ _ _ _ us hl => match us, hl with | [_], _ => rfl
theorem b_p_is_stretch {K : PySem.W.Frag} {a : Ad} (F : Fns K a) : Binds K a.d_p_is_stretch ["begin", "end"] [] := F.p_is_stretch.binds (ps := ["begin", "end"]) fun _ _ _ _ _ _ us hl => match us, hl with | [_, _], _ => rfl
theorem b_cell_at {K : PySem.W.Frag} {a : Ad} (F : Fns K a) : Binds K a.d_cell_at ["script", "k"] [] := F.cell_at.binds (ps := ["script", "k"]) fun _ _ _ _ _ _ us hl => match us, hl with | [_, _], _ => rfl
theorem b_stream {K : PySem.W.Frag} {a : Ad} (F : Fns K a) : Binds K a.d_stream ["cell", "way"] [] := F.stream.binds (ps := ["cell", "way"]) fun _ _ _ _ _ _ us hl => match us, hl with | [_, _], _ => rfl
theorem b_take {K : PySem.W.Frag} {a : Ad} (F : Fns K a) : Binds K a.d_take ["row", "many"] [] := F.take.binds (ps := ["row", "many"]) fun _ _ _ _ _ _ us hl => match us, hl with | [_, _], _ => rfl
theorem b_text {K : PySem.W.Frag} {a : Ad} (F : Fns K a) : Binds K a.d_text ["row", "size"] [] := F.text.binds (ps := ["row", "size"]) fun _ _ _ _ _ _ us hl => match us, hl with | [_, _], _ => rfl
theorem b_spoilt {K : PySem.W.Frag} {a : Ad} (F : Fns K a) : Binds K a.d_spoilt ["row"] [] := F.spoilt.binds (ps := ["row"]) fun _ _ _ _ _ _ us hl => match us, hl with | [_], _ => rfl
theorem b_number {K : PySem.W.Frag} {a : Ad} (F : Fns K a) : Binds K a.d_number ["row", "kind"] [] := F.number.binds (ps := ["row", "kind"]) fun _ _ _ _ _ _ us hl => match us, hl with | [_, _], _ => rfl
theorem b_thing {K : PySem.W.Frag} {a : Ad} (F : Fns K a) : Binds K a.d_thing ["row"] [] := F.thing.binds (ps := ["row"]) fun _ _ _ _ _ _ us hl => match us, hl with | [_], _ => rfl
theorem b_is_name {K : PySem.W.Frag} {a : Ad} (F : Fns K a) : Binds K a.d_is_name ["thing"] [] := F.is_name.binds (ps := ["thing"]) fun _ _ _ _ _ _ us hl => match us, hl with | [_], _ => rfl
theorem b_moment {K : PySem.W.Frag} {a : Ad} (F : Fns K a) : Binds K a.d_moment ["thing"] [] := F.moment.binds (ps := ["thing"]) fun _ _ _ _ _ _ us hl => match us, hl with | [_], _ => rfl
theorem b_stretch {K : PySem.W.Frag} {a : Ad} (F : Fns K a) : Binds K a.d_stretch ["one", "other"] [] := F.stretch.binds (ps := ["one", "other"]) fun _ _ _ _ _ _ us hl => match us, hl with | [_, _], _ => rfl
theorem b_truth {K : PySem.W.Frag} {a : Ad} (F : Fns K a) : Binds K a.d_truth ["found", "due"] [] := F.truth.binds (ps := ["found", "due"]) fun _ _ _ _ _ _ us hl => match us, hl with | [_, _], _ => rfl
theorem b_right {K : PySem.W.Frag} {a : Ad} (F : Fns K a) : Binds K a.d_right ["things", "one"] [] := F.right.binds (ps := ["things", "one"]) fun _ _ _ _ _ _ us hl => match us, hl with | [_, _], _ => rfl
theorem b_law {K : PySem.W.Frag} {a : Ad} (F : Fns K a) : Binds K a.d_law ["script"] [] := F.law.binds (ps := ["script"]) fun _ _ _ _ _ _ us hl => match us, hl with | [_], _ => rfl
structure Txt (K : PySem.W.Frag) (mg : Str → Option Value) (a : Ad) : Prop where
  m_p_is_name : mg "is_name" = some (.ref a.f_p_is_name)
  k_p_is_name : PySem.W.keepIn K (.ref a.f_p_is_name) = true
  m_p_is_moment : mg "is_moment" = some (.ref a.f_p_is_moment)
  k_p_is_moment : PySem.W.keepIn K (.ref a.f_p_is_moment) = true
  m_p_is_stretch : mg "is_stretch" = some (.ref a.f_p_is_stretch)
  k_p_is_stretch : PySem.W.keepIn K (.ref a.f_p_is_stretch) = true
  m_cell_at : mg "_law_cell_at" = some (.ref a.f_cell_at)
  k_cell_at : PySem.W.keepIn K (.ref a.f_cell_at) = true
  m_stream : mg "_law_stream" = some (.ref a.f_stream)
  k_stream : PySem.W.keepIn K (.ref a.f_stream) = true
  m_take : mg "_law_take" = some (.ref a.f_take)
  k_take : PySem.W.keepIn K (.ref a.f_take) = true
  m_text : mg "_law_text" = some (.ref a.f_text)
  k_text : PySem.W.keepIn K (.ref a.f_text) = true
  m_spoilt : mg "_law_spoilt" = some (.ref a.f_spoilt)
  k_spoilt : PySem.W.keepIn K (.ref a.f_spoilt) = true
  m_number : mg "_law_number" = some (.ref a.f_number)
  k_number : PySem.W.keepIn K (.ref a.f_number) = true
  m_thing : mg "_law_thing" = some (.ref a.f_thing)
  k_thing : PySem.W.keepIn K (.ref a.f_thing) = true
  m_is_name : mg "_law_is_name" = some (.ref a.f_is_name)
  k_is_name : PySem.W.keepIn K (.ref a.f_is_name) = true
  m_moment : mg "_law_moment" = some (.ref a.f_moment)
  k_moment : PySem.W.keepIn K (.ref a.f_moment) = true
  m_stretch : mg "_law_stretch" = some (.ref a.f_stretch)
  k_stretch : PySem.W.keepIn K (.ref a.f_stretch) = true
  m_truth : mg "_law_truth" = some (.ref a.f_truth)
  k_truth : PySem.W.keepIn K (.ref a.f_truth) = true
  m_right : mg "_law_right" = some (.ref a.f_right)
  k_right : PySem.W.keepIn K (.ref a.f_right) = true
  m_law : mg "law" = some (.ref a.f_law)
  k_law : PySem.W.keepIn K (.ref a.f_law) = true
  b_all : mg "all" = none
  b_isinstance : mg "isinstance" = none
  b_str : mg "str" = none
  b_len : mg "len" = none
  b_bool : mg "bool" = none
  b_int : mg "int" = none
  b_range : mg "range" = none
  c_LONGEST_NAME : ∃ t, mg "LONGEST_NAME" = some (.int 8 t)
  c_LAST_MOMENT : ∃ t, mg "LAST_MOMENT" = some (.int 1000000000000 t)
/-! ### what all laws share -/
theorem pe_globI {X : Cx} {x : Str} {i : Int} {pos : Pos} (hg : Gl X x) (hm : ∃ t, X.mg x = some (.int i t)) (hd : (x == ("__debug__" : Str)) = false := by decide) : PE X (.Name x pos) (tC (.int i)) := by
  obtain ⟨t, h⟩ := hm
  exact pe_glob hg h ⟨t, rfl⟩ hd
def sp_law : P3 := fun ws G R => ∃ a ns, ws = [.scr a ns] ∧ ns.length ≤ 63 ∧ ∀ G', R (.bl true) G'
theorem law_start {K : PySem.W.Frag} {H : Hp} {E : XK} (a : Addr) (ns : List Int) (hl : ns.length ≤ 63) (f : Fz K H a (ns.map V.int)) : lowP K sp_law [.ref a] H (fun v _ => v = .bl true) E :=
  ⟨[.scr a ns], fun _ => none, fun w _ => w = .bl true, .cons (by rw [rep_scr]; exact ⟨rfl, f⟩) .nil, fun _ _ e => (nomatch e), ⟨a, ns, rfl, hl, fun _ => rfl⟩, fun w G v H' e r _ _ => by subst e; rw [rep_bl] at r; exact r⟩
theorem lenK {n : Nat} (h : Nat.ble n 1000 = true) : n ≤ sizeLine := Nat.le_of_lt (small1000 (Nat.le_of_ble_eq_true h))
theorem sm1000 {n : Nat} (h : n ≤ 1000) : n ≤ sizeLine := Nat.le_of_lt (small1000 h)
/-- a row of draws: its number and its way -/
def RowOk (x w : Int) : Prop := w = 0 ∨ (w = 1 ∧ 0 ≤ x ∧ x < 536870909)
abbrev RowO (x w : Int) : O := .lst [.int x, .int w]
def RowAt (G : Hq) (r : Addr) : Prop := ∃ x w, G r = some (RowO x w) ∧ RowOk x w
local macro_rules | `(tactic| walk_at "sd") => `(tactic| first | assumption | (exact sm1000 (by first | decide | omega | (simp; done) | (simp; omega))) | (exact small1000 (by first | decide | omega | (simp; done) | (simp; omega))) | decide | omega)
local macro_rules | `(tactic| walk_at "hp") => `(tactic| first | assumption | exact put_same | (refine put_old ?_ (by assumption); walk_at "hp") | (refine Sm.get (by assumption) ?_; walk_at "hp"))
local macro_rules | `(tactic| walk_at "go1") => `(tactic| with_reducible (first
  | refine i_seq ?_ | refine i_var (by with_unfolding_all rfl) ?_ | refine i_c ?_ | refine i_op ?_ | refine i_un ?_ | refine i_test ?_ | refine i_chain ?_ | refine i_and ?_ | refine i_or ?_ | refine i_not ?_ | refine i_andV ?_ | refine i_orV ?_ | refine i_notV ?_ | refine i_if ?_
  | refine i_tru ?_ | refine i_truI ?_ | refine i_truB ?_ | refine i_sl ?_ | refine i_nopart ?_ | refine i_part ?_ | refine i_nil ?_ | refine i_cons ?_ | refine i_tup ?_ | refine i_lst ?_ | refine i_cb ?_ | refine i_bm0 ?_ | refine i_bm ?_ | refine i_call ?_
  | refine i_next ?_ | refine i_drop ?_ | refine i_ret ?_ | refine i_retN ?_ | refine i_ifS ?_ | refine i_asg ?_ | refine i_put ?_ | refine i_aug (by with_unfolding_all rfl) ?_ | refine i_break ?_ | refine i_cont ?_ | refine i_forE ?_ | refine i_lcE ?_ | refine i_iL ?_ | refine i_iT ?_ | refine i_iS ?_ | refine i_iR1 ?_ | refine i_iR2 ?_ | refine i_wkC ?_ | refine i_wkT ?_ | refine i_wkS ?_ | refine i_tt ?_
  | refine i_addI ?_ | refine i_I0 ?_ | refine i_neg ?_ | refine i_CI ?_ | refine i_CS ?_ | refine i_isN ?_ | refine i_isB ?_ | refine i_notN ?_ | refine i_eqB ?_ | refine i_eqI ?_ | refine i_eqS ?_ | refine i_inS ?_ | refine i_dnew ?_ | refine i_nm ?_ | refine i_ixT (by with_unfolding_all rfl) ?_ | refine i_lenT ?_ | refine i_lenC ?_ | refine i_mm ?_ | refine i_tyS ?_
  | refine ifT ?_ | refine ifF ?_ | refine ⟨_, rfl, ?_⟩))
local macro_rules | `(tactic| walk_at "go") => `(tactic| repeat walk_at "go1")
/-! ### cell_at, stream, take -/
def sp_cell_at : P3 := fun ws G R => ∃ p ns k, ws = [.scr p ns, .int k] ∧ 0 ≤ k ∧ ∀ i, R (.int i) G
theorem len_cell_at {ws : List Z} {G : Hq} {R : K3} (h : sp_cell_at ws G R) : ws.length = 2 := by obtain ⟨_, _, _, rfl, _⟩ := h; rfl
theorem ok_cell_at {P : Program} {w : World} {K : PySem.W.Frag} {mg : Str → Option Value} {base : Heap} {a : Ad} (F : Fns K a) (T : Txt K mg a) : FnOk P w K mg base CX0 1 a.f_cell_at a.d_cell_at ["script", "k"] (lowP K sp_cell_at) := by
  refine fn3 F.cell_at sc_cell_at (fun ws G R h => (by exact len_cell_at h)) (fun cdv A outer s H E ws G R hr h => ?_)
  have hu : (A.deeper (PyProof.Rows.envOfC "_law_cell_at" (defScope s_cell_at) s.heap.objs.size a.f_cell_at cdv)).units + 66 < cLine := by have := hr.un; omega
  refine ⟨_, (z_cons (z_if (q_cmpT o_lt (q_var (pv 1)) (q_callB b_len rfl T.b_len PySem.boot_len (q_cons (q_var (pv 0)) q_nil se_Name) (he := se_Name) (hpl := hp_nil)) (nomark _))
    (z_one (z_ret (q_ix x_ix (q_var (pv 0)) (q_var (pv 1)) (fun _ _ => rfl))))
    z_nil)
    (z_one (z_ret q_int))), ?_⟩
  obtain ⟨p, ns, k, rfl, hk, q⟩ := h
  walk_at "go"
  refine ifD (fun c => ?_) fun _ => ?_
  · obtain ⟨j, rfl⟩ := Int.eq_ofNat_of_zero_le hk
    have hj : j < ns.length := by omega
    walk_at "go"
    exact i_ixC (atI_nat (List.getElem?_eq_getElem hj)) (q _)
  · walk_at "go"
    exact q _
def sp_stream : P3 := fun ws G R => ∃ c w, ws = [.int c, .int w] ∧ (w = 0 ∨ w = 1) ∧ ∀ r x w', G r = none → RowOk x w' → R (.ref r) (put G r (RowO x w'))
theorem len_stream {ws : List Z} {G : Hq} {R : K3} (h : sp_stream ws G R) : ws.length = 2 := by obtain ⟨_, _, rfl, _⟩ := h; rfl
theorem m9 (x : Int) : 0 ≤ x % 536870909 ∧ x % 536870909 < 536870909 := ⟨Int.emod_nonneg _ (by decide), Int.emod_lt_of_pos _ (by decide)⟩
theorem ok_stream {P : Program} {w : World} {K : PySem.W.Frag} {mg : Str → Option Value} {base : Heap} {a : Ad} (F : Fns K a) (T : Txt K mg a) : FnOk P w K mg base CX0 1 a.f_stream a.d_stream ["cell", "way"] (lowP K sp_stream) := by
  refine fn3 F.stream sc_stream (fun ws G R h => (by exact len_stream h)) (fun cdv A outer s H E ws G R hr h => ?_)
  have hu : (A.deeper (PyProof.Rows.envOfC "_law_stream" (defScope s_stream) s.heap.objs.size a.f_stream cdv)).units + 66 < cLine := by have := hr.un; omega
  refine ⟨_, (z_cons (z_if (q_cmpT (o_eq hu) (q_var (pv 1)) q_int (nomark _))
    (z_one (z_ret (q_lst (q_cons (q_var (pv 0)) (q_cons q_int q_nil se_Constant) se_Name))))
    z_nil)
    (z_cons (z_set (i := 2) sc_stream.nd rfl (Or.inl rfl) (q_op o_mod (q_var (pv 0)) q_int))
    (z_cons (z_set (i := 2) sc_stream.nd rfl (Or.inl rfl) (q_op o_mod (q_op o_add (q_op o_mul (q_op o_mod (q_op o_mul (q_var (pv 2)) (q_var (pv 2))) q_int) (q_op o_add (q_var (pv 2)) q_int)) q_int) q_int))
    (z_one (z_ret (q_lst (q_cons (q_var (pv 2)) (q_cons q_int q_nil se_Constant) se_Name))))))), ?_⟩
  obtain ⟨c, w, rfl, hw, q⟩ := h
  walk_at "go"
  refine ifD (fun z => ?_) fun z => ?_
  · walk_at "go"
    exact ⟨lenK rfl, fun r hr => q r _ _ hr (.inl rfl)⟩
  · walk_at "go"
    refine i_I (show (0 : Int) < 536870909 by decide) ?_
    walk_at "go"
    have h1 := m9 c
    refine i_I (.inl ⟨by omega, by omega⟩) ?_
    walk_at "go"
    refine i_I (show (0 : Int) < 536870909 by decide) ?_
    walk_at "go"
    have h2 := m9 (c % 536870909 * (c % 536870909))
    refine i_I (.inl ⟨by omega, by omega⟩) ?_
    walk_at "go"
    refine i_I (show (0 : Int) < 536870909 by decide) ?_
    walk_at "go"
    exact ⟨lenK rfl, fun r hr => q r _ _ hr (.inr ⟨rfl, m9 _⟩)⟩
def sp_take : P3 := fun ws G R => ∃ r n x w, ws = [.ref r, .int n] ∧ G r = some (RowO x w) ∧ RowOk x w ∧ 0 < n ∧ n < 2 ^ 64 ∧ ∀ f y w, 0 ≤ f → f < n → RowOk y w → R (.int f) (put G r (RowO y w))
theorem len_take {ws : List Z} {G : Hq} {R : K3} (h : sp_take ws G R) : ws.length = 2 := by obtain ⟨_, _, _, _, rfl, _⟩ := h; rfl
theorem ok_take {P : Program} {w : World} {K : PySem.W.Frag} {mg : Str → Option Value} {base : Heap} {a : Ad} (F : Fns K a) (T : Txt K mg a) : FnOk P w K mg base CX0 1 a.f_take a.d_take ["row", "many"] (lowP K sp_take) := by
  refine fn3 F.take sc_take (fun ws G R h => (by exact len_take h)) (fun cdv A outer s H E ws G R hr h => ?_)
  have hu : (A.deeper (PyProof.Rows.envOfC "_law_take" (defScope s_take) s.heap.objs.size a.f_take cdv)).units + 66 < cLine := by have := hr.un; omega
  refine ⟨_, (z_cons (z_if (q_cmpT (o_eq hu) (q_ix x_ix (q_var (pv 0)) q_int (fun _ _ => rfl)) q_int (nomark _))
    (z_cons (z_set (i := 2) sc_take.nd rfl (Or.inl rfl) (q_op o_mod (q_ix x_ix (q_var (pv 0)) q_int (fun _ _ => rfl)) (q_var (pv 1))))
    (z_cons (z_putA (q_op o_fdiv (q_ix x_ix (q_var (pv 0)) q_int (fun _ _ => rfl)) (q_var (pv 1))) (q_var (pv 0)) q_int x_set)
    (z_one (z_ret (q_var (pv 2))))))
    z_nil)
    (z_cons (z_putA (q_op o_mod (q_op o_mul (q_op o_add (q_ix x_ix (q_var (pv 0)) q_int (fun _ _ => rfl)) q_int) (q_op o_add (q_ix x_ix (q_var (pv 0)) q_int (fun _ _ => rfl)) q_int)) q_int) (q_var (pv 0)) q_int x_set)
    (z_one (z_ret (q_op o_mod (q_op o_add (q_op o_mul (q_ix x_ix (q_var (pv 0)) q_int (fun _ _ => rfl)) q_int) q_int) (q_var (pv 1))))))), ?_⟩
  obtain ⟨r, n, x, w, rfl, hR, hok, h0, h1, q⟩ := h
  walk_at "go"
  refine i_ixL hR rfl ?_
  walk_at "go"
  refine ifD (fun c => ?_) fun c => ?_
  · walk_at "go"
    refine i_ixL hR rfl ?_
    walk_at "go"
    refine i_I h0 ?_
    walk_at "go"
    refine i_ixL hR rfl ?_
    walk_at "go"
    refine i_I ⟨h0, h1⟩ ?_
    walk_at "go"
    refine i_set hR rfl ?_
    walk_at "go"
    exact q _ _ _ (Int.emod_nonneg _ (by omega)) (Int.emod_lt_of_pos _ h0) (.inl c)
  · rcases hok with z | ⟨hw1, hx0, hx1⟩
    · exact absurd z c
    walk_at "go"
    refine i_ixL hR rfl ?_
    walk_at "go"
    refine i_ixL hR rfl ?_
    walk_at "go"
    refine i_I (.inl ⟨by omega, by omega⟩) ?_
    walk_at "go"
    refine i_I (show (0 : Int) < 536870909 by decide) ?_
    walk_at "go"
    refine i_set hR rfl ?_
    walk_at "go"
    have h2 := m9 ((x + 7919) * (x + 104729))
    refine i_ixL put_same rfl ?_
    walk_at "go"
    refine i_I (.inl ⟨by omega, by omega⟩) ?_
    walk_at "go"
    refine i_I h0 ?_
    walk_at "go"
    exact q _ _ _ (Int.emod_nonneg _ (by omega)) (Int.emod_lt_of_pos _ h0) (.inr ⟨hw1, h2⟩)
/-- a draw -/
theorem i_take {G : Hq} {R : K3} {r : Addr} {n : Int} (hR : RowAt G r) (h0 : 0 < n) (h1 : n < 2 ^ 64) (q : ∀ f y w, 0 ≤ f → f < n → RowOk y w → R (.int f) (put G r (RowO y w))) : sp_take [.ref r, .int n] G R := by
  obtain ⟨x, w, e, k⟩ := hR
  exact ⟨r, n, x, w, rfl, e, k, h0, h1, q⟩
theorem RowAt.new {G : Hq} {r p : Addr} {o : O} (h : RowAt G r) (n : G p = none) : RowAt (put G p o) r := by
  obtain ⟨x, w, e, k⟩ := h
  exact ⟨x, w, put_old e n, k⟩
theorem RowAt.at {G : Hq} {r : Addr} {x w : Int} (k : RowOk x w) : RowAt (put G r (RowO x w)) r := ⟨x, w, put_same, k⟩
/-! ### the things -/
def okS (s : Str) : Prop := s.length ≤ 1000 ∧ PyData.strOk s = true
def Th (G : Hq) : Z → Prop
  | .non => True
  | .bl _ => True
  | .int _ => True
  | .str s => okS s
  | .tup _ => True
  | .ref p => (∃ ws, G p = some (.lst ws)) ∨ ∃ kvs, G p = some (.dK kvs)
  | _ => False
theorem Th.sm {G G' : Hq} (s : Sm G G') {x : Z} (h : Th G x) : Th G' x := by
  cases x with
  | ref p =>
    rcases h with ⟨ws, e⟩ | ⟨ws, e⟩
    · exact .inl ⟨ws, s _ _ e⟩
    · exact .inr ⟨ws, s _ _ e⟩
  | _ => exact h
/-- the kind of a thing, by the three asks -/
structure Kd (G : Hq) (x : Z) (n : String) : Prop where
  ty : tyN G x = some n
  is : n = "NoneType" ∨ n = "bool" ∨ n = "int" ∨ n = "str" ∨ n = "tuple" ∨ n = "list" ∨ n = "dict"
theorem Th.kd {G : Hq} {x : Z} (h : Th G x) : ∃ n, Kd G x n := by
  cases x with
  | non => exact ⟨_, rfl, .inl rfl⟩
  | bl _ => exact ⟨_, rfl, .inr (.inl rfl)⟩
  | int _ => exact ⟨_, rfl, .inr (.inr (.inl rfl))⟩
  | str _ => exact ⟨_, rfl, .inr (.inr (.inr (.inl rfl)))⟩
  | tup _ => exact ⟨_, rfl, .inr (.inr (.inr (.inr (.inl rfl))))⟩
  | ref p =>
    rcases h with ⟨ws, e⟩ | ⟨ws, e⟩
    · exact ⟨"list", by simp [tyN, e], .inr (.inr (.inr (.inr (.inr (.inl rfl)))))⟩
    · exact ⟨"dict", by simp [tyN, e], .inr (.inr (.inr (.inr (.inr (.inr rfl)))))⟩
  | _ => exact False.elim h
theorem kit_str {n : String} (h : n = "NoneType" ∨ n = "bool" ∨ n = "int" ∨ n = "str" ∨ n = "tuple" ∨ n = "list" ∨ n = "dict") : kit0 n "str" = some (decide (n = "str")) := by
  rcases h with rfl | rfl | rfl | rfl | rfl | rfl | rfl <;> decide +kernel
theorem kit_bool {n : String} (h : n = "NoneType" ∨ n = "bool" ∨ n = "int" ∨ n = "str" ∨ n = "tuple" ∨ n = "list" ∨ n = "dict") : kit0 n "bool" = some (decide (n = "bool")) := by
  rcases h with rfl | rfl | rfl | rfl | rfl | rfl | rfl <;> decide +kernel
theorem kit_int {n : String} (h : n = "NoneType" ∨ n = "bool" ∨ n = "int" ∨ n = "str" ∨ n = "tuple" ∨ n = "list" ∨ n = "dict") : kit0 n "int" = some (decide (n = "int") || decide (n = "bool")) := by
  rcases h with rfl | rfl | rfl | rfl | rfl | rfl | rfl <;> decide +kernel
def isS : Z → Bool
  | .str _ => true
  | _ => false
def isB : Z → Bool
  | .bl _ => true
  | _ => false
def isI : Z → Bool
  | .int _ => true
  | .bl _ => true
  | _ => false
theorem i_isS {G : Hq} {R : K3} {x : Z} (h : Th G x) (q : R (.bl (isS x)) G) : zIsT [x, .ty "str"] G R := by
  obtain ⟨n, k⟩ := h.kd
  refine ⟨n, _, k.ty, kit_str k.is, ?_⟩
  have e : decide (n = "str") = isS x := by
    have := k.ty
    cases x with
    | ref p => rcases h with ⟨ws, e⟩ | ⟨ws, e⟩ <;> (simp [tyN, e] at this; subst this; show _ = false; decide)
    | _ => first | (cases this; show _ = false; decide; done) | (cases this; show _ = true; decide; done) | exact False.elim h
  rw [e]; exact q
theorem i_isBo {G : Hq} {R : K3} {x : Z} (h : Th G x) (q : R (.bl (isB x)) G) : zIsT [x, .ty "bool"] G R := by
  obtain ⟨n, k⟩ := h.kd
  refine ⟨n, _, k.ty, kit_bool k.is, ?_⟩
  have e : decide (n = "bool") = isB x := by
    have := k.ty
    cases x with
    | ref p => rcases h with ⟨ws, e⟩ | ⟨ws, e⟩ <;> (simp [tyN, e] at this; subst this; show _ = false; decide)
    | _ => first | (cases this; show _ = false; decide; done) | (cases this; show _ = true; decide; done) | exact False.elim h
  rw [e]; exact q
theorem i_isIn {G : Hq} {R : K3} {x : Z} (h : Th G x) (q : R (.bl (isI x)) G) : zIsT [x, .ty "int"] G R := by
  obtain ⟨n, k⟩ := h.kd
  refine ⟨n, _, k.ty, kit_int k.is, ?_⟩
  have e : (decide (n = "int") || decide (n = "bool")) = isI x := by
    have := k.ty
    cases x with
    | ref p => rcases h with ⟨ws, e⟩ | ⟨ws, e⟩ <;> (simp [tyN, e] at this; subst this; show _ = false; decide)
    | _ => first | (cases this; show _ = false; decide; done) | (cases this; show _ = true; decide; done) | exact False.elim h
  rw [e]; exact q
/-! ### mirrors -/
def okC (c : Nat) : Bool := decide (97 ≤ c) && decide (c ≤ 122)
def nameB : Z → Bool
  | .str s => decide (1 ≤ s.length) && decide (s.length ≤ 8) && s.cps.toList.all okC
  | _ => false
def momB : Z → Bool
  | .int i => decide (0 ≤ i) && decide (i ≤ 1000000000000)
  | _ => false
theorem mom_int {i : Int} : momB (.int i) = (decide (0 ≤ i) && decide (i ≤ 1000000000000)) := rfl
def strB (x y : Z) : Bool := momB x && match y with
  | .non => true
  | .int j => momB (.int j) && match x with | .int i => decide (i < j) | _ => false
  | _ => false
def spB1 (f : Z → Bool) : P3 := fun ws G R => ∃ x, ws = [x] ∧ Th G x ∧ ∀ G', Sm G G' → R (.bl (f x)) G'
theorem lenB1 {f : Z → Bool} {ws : List Z} {G : Hq} {R : K3} (h : spB1 f ws G R) : ws.length = 1 := by obtain ⟨_, rfl, _⟩ := h; rfl
def spB2 (f : Z → Z → Bool) : P3 := fun ws G R => ∃ x y, ws = [x, y] ∧ Th G x ∧ Th G y ∧ ∀ G', Sm G G' → R (.bl (f x y)) G'
theorem lenB2 {f : Z → Z → Bool} {ws : List Z} {G : Hq} {R : K3} (h : spB2 f ws G R) : ws.length = 2 := by obtain ⟨_, _, rfl, _⟩ := h; rfl
abbrev sp_p_is_name : P3 := spB1 nameB
abbrev sp_is_name : P3 := spB1 nameB
abbrev sp_p_is_moment : P3 := spB1 momB
abbrev sp_moment : P3 := spB1 momB
abbrev sp_p_is_stretch : P3 := spB2 strB
abbrev sp_stretch : P3 := spB2 strB
theorem ltS_one (a b : Nat) : ltS ⟨#[a]⟩ ⟨#[b]⟩ = decide (a < b) := by
  show decide ([a] < [b]) = decide (a < b)
  by_cases h : a < b
  · rw [decide_eq_true h]; exact decide_eq_true (List.cons_lt_cons_iff.mpr (.inl h))
  · rw [decide_eq_false h]
    refine decide_eq_false fun q => ?_
    rcases List.cons_lt_cons_iff.mp q with q | q
    · exact h q
    · exact absurd q.2 (List.not_lt_nil _)
theorem strA : (Str.ofString "a") = ⟨#[97]⟩ := by decide +kernel
theorem strZ : (Str.ofString "z") = ⟨#[122]⟩ := by decide +kernel
theorem inZ (c : Nat) : decide (c ∈ (Str.ofString "zyxwvutsrqponmlkjihgfedcba").cps.toList) = okC c := by
  have e : (Str.ofString "zyxwvutsrqponmlkjihgfedcba").cps.toList = [122, 121, 120, 119, 118, 117, 116, 115, 114, 113, 112, 111, 110, 109, 108, 107, 106, 105, 104, 103, 102, 101, 100, 99, 98, 97] := by decide +kernel
  rw [e]
  unfold okC
  rw [← Bool.decide_and]
  apply decide_congr
  rw [eq_iff_iff]
  simp only [List.mem_cons, List.not_mem_nil, or_false]
  omega
theorem fm_signs (x : Str) (g : Nat → Option Z) (f : Z → Option Z) (h : ∀ c, f (.str ⟨#[c]⟩) = g c) : (signs x).filterMap f = x.cps.toList.filterMap g := by
  unfold signs
  rw [List.filterMap_map]
  congr 1
  funext c
  exact h c
theorem signs_len {x : Str} (h : x.length ≤ 1000) : (signs x).length ≤ 1000 := by unfold signs; rw [List.length_map, Array.length_toList]; exact h
theorem fm_all (l : List Nat) : (l.filterMap fun c => some (Z.bl (okC c))) = (l.map okC).map Z.bl := by
  induction l with
  | nil => rfl
  | cons c l ih => simp [List.filterMap_cons, ih]
theorem all_map (l : List Nat) : (l.map okC).all id = l.all okC := by
  induction l with
  | nil => rfl
  | cons c l ih => simp [List.all_cons, ih]
theorem name_str {s : Str} : nameB (.str s) = (decide (1 ≤ s.length) && decide (s.length ≤ 8) && s.cps.toList.all okC) := rfl
theorem ok_p_is_name {P : Program} {w : World} {K : PySem.W.Frag} {mg : Str → Option Value} {base : Heap} {a : Ad} (F : Fns K a) (T : Txt K mg a) : FnOk P w K mg base CX0 1 a.f_p_is_name a.d_p_is_name ["thing"] (lowP K sp_p_is_name) := by
  refine fn3 F.p_is_name sc_p_is_name (fun ws G R h => (by exact lenB1 h)) (fun cdv A outer s H E ws G R hr h => ?_)
  have hu : (A.deeper (PyProof.Rows.envOfC "is_name" (defScope s_p_is_name) s.heap.objs.size a.f_p_is_name cdv)).units + 66 < cLine := by have := hr.un; omega
  refine ⟨_, (z_cons (z_if (q_notT (q_val (q_callB b_isT rfl T.b_isinstance rfl (q_cons (q_var (pv 0)) (q_cons (q_ty (pe_bltn (v := .ty "str") rfl T.b_str rfl rfl)) q_nil se_Name) se_Name) (he := se_Name) (hpl := (hp_cons se_Name hp_nil)))))
    (z_one (z_ret q_bl))
    z_nil)
    (z_cons (z_if (QW.qt (q_or (q_cmpT o_lt (q_callB b_len rfl T.b_len PySem.boot_len (q_cons (q_var (pv 0)) q_nil se_Name) (he := se_Name) (hpl := hp_nil)) q_int (nomark _)) (q_or1 (q_cmpT o_gt (q_callB b_len rfl T.b_len PySem.boot_len (q_cons (q_var (pv 0)) q_nil se_Name) (he := se_Name) (hpl := hp_nil)) (q_gint (pe_globI rfl T.c_LONGEST_NAME)) (nomark _)))))
    (z_one (z_ret q_bl))
    z_nil)
    (z_one (z_ret (q_callB (b_all rfl) rfl T.b_all rfl (q_cons (q_lc (N₀ := ["thing"]) (so := defScope s_p_is_name) (N' := ["sign"]) (cap := [none]) (pt := (.nm 0)) rfl rfl rfl (by decide +kernel) rfl (it_str (q_var (pv 0))) (fun _ _ _ _ => (show QP _ _ (.nm 0) from (pg_name (i := 0) (show List.Nodup (α := Str) ["sign"] from by decide +kernel) rfl (Or.inl rfl)))) (fun _ _ _ _ => ifs_nil) (fun _ _ _ _ => (q_chain o_le o_le q_str (q_var (pv 0)) q_str))) q_nil se_ListComp) (he := se_ListComp) (hpl := hp_nil)))))), ?_⟩
  obtain ⟨x, rfl, hx, q⟩ := h
  walk_at "go"
  refine i_isS hx ?_
  walk_at "go"
  refine ifNB (fun c => ?_) fun c => ?_
  · walk_at "go"
    have e : nameB x = false := by cases x <;> first | rfl | cases c
    have := q G (Sm.refl G)
    rw [e] at this
    exact this
  · obtain ⟨s, rfl⟩ : ∃ s, x = .str s := by cases x <;> first | exact ⟨_, rfl⟩ | cases c
    have hs : okS s := hx
    walk_at "go"
    refine i_lenS (sm1000 hs.1) ?_
    walk_at "go"
    have no : nameB (.str s) = false → R (.bl false) G := fun e => by have := q G (Sm.refl G); rw [e] at this; exact this
    refine ifD (fun c1 => ?_) fun c1 => ?_
    · walk_at "go"
      exact no (by rw [name_str, decide_eq_false (show ¬ 1 ≤ s.length by omega)]; rfl)
    · walk_at "go"
      refine i_lenS (sm1000 hs.1) ?_
      walk_at "go"
      refine ifD (fun c2 => ?_) fun c2 => ?_
      · walk_at "go"
        exact no (by rw [name_str, decide_eq_false (show ¬ s.length ≤ 8 by omega), Bool.and_false]; rfl)
      · walk_at "go"
        intro D hD
        refine lc_pure (fun x => match x with | .str z => some (.bl (!ltS z (Str.ofString "a") && !ltS (Str.ofString "z") z)) | _ => none) (fun _ => True.intro) (signs_len hs.1) ?_ ?_
        · intro x hm ys K1 K2 k1 k2
          unfold signs at hm
          obtain ⟨c, _, rfl⟩ := List.mem_map.mp hm
          refine ⟨_, rfl, ?_⟩
          walk_at "go"
          refine ifB (fun z => ?_) fun z => ?_
          · walk_at "go"
            refine k1 _ ?_
            dsimp only
            rw [z]; rfl
          · refine k1 _ ?_
            dsimp only
            rw [z]; rfl
        · have e : (signs s).filterMap (fun x => match x with | .str z => some (.bl (!ltS z (Str.ofString "a") && !ltS (Str.ofString "z") z)) | _ => none) = (s.cps.toList.map okC).map Z.bl := by
            rw [fm_signs s (fun c => some (.bl (okC c))) _ fun c => ?_, fm_all]
            dsimp only
            rw [strA, strZ, ltS_one, ltS_one]
            unfold okC
            congr 2
            by_cases h1 : c < 97 <;> by_cases h2 : 122 < c <;> simp [h1, h2] <;> omega
          have e2 : nameB (.str s) = s.cps.toList.all okC := by rw [name_str, decide_eq_true (show 1 ≤ s.length by omega), decide_eq_true (show s.length ≤ 8 by omega), Bool.true_and, Bool.true_and]
          refine i_all (by rw [e]; exact put_same) ?_
          rw [all_map, ← e2]
          exact q _ (Sm.new hD)
theorem ok_p_is_moment {P : Program} {w : World} {K : PySem.W.Frag} {mg : Str → Option Value} {base : Heap} {a : Ad} (F : Fns K a) (T : Txt K mg a) : FnOk P w K mg base CX0 1 a.f_p_is_moment a.d_p_is_moment ["thing"] (lowP K sp_p_is_moment) := by
  refine fn3 F.p_is_moment sc_p_is_moment (fun ws G R h => (by exact lenB1 h)) (fun cdv A outer s H E ws G R hr h => ?_)
  have hu : (A.deeper (PyProof.Rows.envOfC "is_moment" (defScope s_p_is_moment) s.heap.objs.size a.f_p_is_moment cdv)).units + 66 < cLine := by have := hr.un; omega
  refine ⟨_, (z_cons (z_if (QW.qt (q_or (q_val (q_callB b_isT rfl T.b_isinstance rfl (q_cons (q_var (pv 0)) (q_cons (q_ty (pe_bltn (v := .ty "bool") rfl T.b_bool rfl rfl)) q_nil se_Name) se_Name) (he := se_Name) (hpl := (hp_cons se_Name hp_nil)))) (q_or1 (q_notT (q_val (q_callB b_isT rfl T.b_isinstance rfl (q_cons (q_var (pv 0)) (q_cons (q_ty (pe_bltn (v := .ty "int") rfl T.b_int rfl rfl)) q_nil se_Name) se_Name) (he := se_Name) (hpl := (hp_cons se_Name hp_nil))))))))
    (z_one (z_ret q_bl))
    z_nil)
    (z_one (z_ret (q_chain o_le o_le q_int (q_var (pv 0)) (q_gint (pe_globI rfl T.c_LAST_MOMENT)))))), ?_⟩
  obtain ⟨x, rfl, hx, q⟩ := h
  have no : momB x = false → R (.bl false) G := fun e => by have := q G (Sm.refl G); rw [e] at this; exact this
  walk_at "go"
  refine i_isBo hx ?_
  walk_at "go"
  refine ifB (fun c => ?_) fun c => ?_
  · walk_at "go"
    exact no (by cases x <;> first | rfl | cases c)
  · walk_at "go"
    refine i_isIn hx ?_
    walk_at "go"
    refine ifNB (fun c2 => ?_) fun c2 => ?_
    · walk_at "go"
      exact no (by cases x <;> first | rfl | cases c2)
    · obtain ⟨i, rfl⟩ : ∃ i, x = .int i := by cases x <;> first | exact ⟨_, rfl⟩ | (cases c; done) | (cases c2; done)
      walk_at "go"
      refine ifD (fun z => ?_) fun z => ?_
      · walk_at "go"
        have := q G (Sm.refl G)
        rw [mom_int, decide_eq_true z, Bool.true_and] at this
        exact this
      · exact no (by rw [mom_int, decide_eq_false z]; rfl)
theorem ok_p_is_stretch {P : Program} {w : World} {K : PySem.W.Frag} {mg : Str → Option Value} {base : Heap} {a : Ad} (F : Fns K a) (T : Txt K mg a) : FnOk P w K mg base CX0 2 a.f_p_is_stretch a.d_p_is_stretch ["begin", "end"] (lowP K sp_p_is_stretch) := by
  have G_p_is_moment : FnOk P w K mg base CX0 1 a.f_p_is_moment a.d_p_is_moment ["thing"] (lowP K sp_p_is_moment) := ok_p_is_moment F T
  refine fn3 F.p_is_stretch sc_p_is_stretch (fun ws G R h => (by exact lenB2 h)) (fun cdv A outer s H E ws G R hr h => ?_)
  have hu : (A.deeper (PyProof.Rows.envOfC "is_stretch" (defScope s_p_is_stretch) s.heap.objs.size a.f_p_is_stretch cdv)).units + 66 < cLine := by have := hr.un; omega
  refine ⟨_, (z_cons (z_if (q_notT (q_val (q_call G_p_is_moment (hr.mono (by decide)) rfl T.m_p_is_moment T.k_p_is_moment (b_p_is_moment F) (q_cons (q_var (pv 0)) q_nil se_Name) (he := se_Name) (hpl := hp_nil))))
    (z_one (z_ret q_bl))
    z_nil)
    (z_cons (z_if (q_cmpT o_is (q_var (pv 1)) q_non (nomark _))
    (z_one (z_ret q_bl))
    z_nil)
    (z_one (z_ret (q_andV (q_call G_p_is_moment (hr.mono (by decide)) rfl T.m_p_is_moment T.k_p_is_moment (b_p_is_moment F) (q_cons (q_var (pv 1)) q_nil se_Name) (he := se_Name) (hpl := hp_nil)) (q_one (q_cmp o_lt (q_var (pv 0)) (q_var (pv 1)) (nomark _)))))))), ?_⟩
  obtain ⟨x, y, rfl, hx, hy, q⟩ := h
  walk_at "go"
  refine ⟨x, rfl, hx, fun G1 s1 => ?_⟩
  have no : ∀ G', Sm G G' → strB x y = false → R (.bl false) G' := fun G' s e => by have := q G' s; rw [e] at this; exact this
  walk_at "go"
  refine ifNB (fun c => ?_) fun c => ?_
  · walk_at "go"
    exact no _ s1 (by unfold strB; rw [c]; rfl)
  · walk_at "go"
    refine ifD (fun z => ?_) fun z => ?_
    · walk_at "go"
      have := q _ s1
      unfold strB at this
      rw [c, z] at this
      exact this
    · walk_at "go"
      refine ⟨y, rfl, hy.sm s1, fun G2 s2 => ?_⟩
      have s12 := s1.trans s2
      walk_at "go"
      refine ifB (fun c2 => ?_) fun c2 => ?_
      · obtain ⟨i, rfl⟩ : ∃ i, x = .int i := by cases x <;> first | exact ⟨_, rfl⟩ | cases c
        obtain ⟨j, rfl⟩ : ∃ j, y = .int j := by cases y <;> first | exact ⟨_, rfl⟩ | cases c2
        walk_at "go"
        have := q _ s12
        unfold strB at this
        rw [c] at this
        dsimp only at this
        rw [c2, Bool.true_and, Bool.true_and] at this
        exact this
      · refine no _ s12 ?_
        unfold strB
        rw [c, Bool.true_and]
        cases y <;> first | rfl | exact absurd rfl z | (dsimp only; rw [c2]; rfl)
/-! ### the law's own -/
theorem dec_nil {l : List Nat} : decide ((l.filterMap fun c => if okC c = true then none else some (Z.str ⟨#[c]⟩)) = []) = l.all okC := by
  induction l with
  | nil => rfl
  | cons c l ih =>
    rw [List.all_cons, ← ih]
    cases h : okC c <;> simp [List.filterMap_cons, h]
theorem one_ok {s : Str} (h : PyData.strOk s = true) {c : Nat} (hc : c ∈ s.cps.toList) : flat 8 (.str ⟨#[c]⟩) = true := by
  have := (Array.all_eq_true_iff_forall_mem.mp h) c (by simpa using hc)
  show PyData.strOk ⟨#[c]⟩ = true
  unfold PyData.strOk
  simpa using this
theorem ok_is_name {P : Program} {w : World} {K : PySem.W.Frag} {mg : Str → Option Value} {base : Heap} {a : Ad} (F : Fns K a) (T : Txt K mg a) : FnOk P w K mg base CX0 1 a.f_is_name a.d_is_name ["thing"] (lowP K sp_is_name) := by
  refine fn3 F.is_name sc_is_name (fun ws G R h => (by exact lenB1 h)) (fun cdv A outer s H E ws G R hr h => ?_)
  have hu : (A.deeper (PyProof.Rows.envOfC "_law_is_name" (defScope s_is_name) s.heap.objs.size a.f_is_name cdv)).units + 66 < cLine := by have := hr.un; omega
  refine ⟨_, (z_cons (z_if (QW.qt (q_or (q_notT (q_val (q_callB b_isT rfl T.b_isinstance rfl (q_cons (q_var (pv 0)) (q_cons (q_ty (pe_bltn (v := .ty "str") rfl T.b_str rfl rfl)) q_nil se_Name) se_Name) (he := se_Name) (hpl := (hp_cons se_Name hp_nil))))) (q_or (q_cmpT (o_eq hu) (q_var (pv 0)) q_str (nomark _)) (q_or1 (q_cmpT o_gt (q_callB b_len rfl T.b_len PySem.boot_len (q_cons (q_var (pv 0)) q_nil se_Name) (he := se_Name) (hpl := hp_nil)) q_int (nomark _))))))
    (z_one (z_ret q_bl))
    z_nil)
    (z_one (z_ret (q_cmp (o_eq hu) (q_lc (N₀ := ["thing"]) (so := defScope s_is_name) (N' := ["sign"]) (cap := [none]) (pt := (.nm 0)) rfl rfl rfl (by decide +kernel) rfl (it_str (q_var (pv 0))) (fun _ _ _ _ => (show QP _ _ (.nm 0) from (pg_name (i := 0) (show List.Nodup (α := Str) ["sign"] from by decide +kernel) rfl (Or.inl rfl)))) (fun _ _ _ _ => (ifs_one (q_cmpT (o_notin hu) (q_var (pv 0)) q_str (by with_unfolding_all rfl)))) (fun _ _ _ _ => (q_var (pv 0)))) (q_lst q_nil) (nomark _))))), ?_⟩
  obtain ⟨x, rfl, hx, q⟩ := h
  walk_at "go"
  refine i_isS hx ?_
  walk_at "go"
  refine ifNB (fun c => ?_) fun c => ?_
  · walk_at "go"
    have e : nameB x = false := by cases x <;> first | rfl | cases c
    have := q G (Sm.refl G)
    rw [e] at this
    exact this
  · obtain ⟨s, rfl⟩ : ∃ s, x = .str s := by cases x <;> first | exact ⟨_, rfl⟩ | cases c
    have hs : okS s := hx
    have no : nameB (.str s) = false → R (.bl false) G := fun e => by have := q G (Sm.refl G); rw [e] at this; exact this
    walk_at "go"
    refine ifD (fun c1 => ?_) fun c1 => ?_
    · walk_at "go"
      refine no ?_
      rw [c1]
      decide +kernel
    · walk_at "go"
      refine i_lenS (sm1000 hs.1) ?_
      walk_at "go"
      refine ifD (fun c2 => ?_) fun c2 => ?_
      · walk_at "go"
        exact no (by rw [name_str, decide_eq_false (show ¬ s.length ≤ 8 by omega), Bool.and_false]; rfl)
      · walk_at "go"
        intro D hD
        refine lc_pure (fun x => match x with | .str z => (if (!(Builtin.Str.occurrences (Str.ofString "zyxwvutsrqponmlkjihgfedcba") z 0 (Str.ofString "zyxwvutsrqponmlkjihgfedcba").length 1).isEmpty) = true then none else some (.str z)) | _ => none) (fun _ => True.intro) (signs_len hs.1) ?_ ?_
        · intro x hm ys K1 K2 k1 k2
          unfold signs at hm
          obtain ⟨c, _, rfl⟩ := List.mem_map.mp hm
          refine ⟨_, rfl, ?_⟩
          walk_at "go"
          refine ifNB (fun z => ?_) fun z => ?_
          · walk_at "go"
            refine k1 _ ?_
            dsimp only
            rw [z]; rfl
          · refine k2 ?_
            dsimp only
            rw [z]; rfl
        · have e : (signs s).filterMap (fun x => match x with | .str z => (if (!(Builtin.Str.occurrences (Str.ofString "zyxwvutsrqponmlkjihgfedcba") z 0 (Str.ofString "zyxwvutsrqponmlkjihgfedcba").length 1).isEmpty) = true then none else some (.str z)) | _ => none) = s.cps.toList.filterMap (fun c => if okC c = true then none else some (Z.str ⟨#[c]⟩)) := by
            refine fm_signs s _ _ fun c => ?_
            dsimp only
            rw [StrLaws.found_one, inZ]
          have fl : (s.cps.toList.filterMap (fun c => if okC c = true then none else some (Z.str ⟨#[c]⟩))).all (flat 8) = true := by
            rw [List.all_eq_true]
            intro w hw
            obtain ⟨c, hc, hw⟩ := List.mem_filterMap.mp hw
            split at hw
            · cases hw
            · cases hw; exact one_ok hs.2 hc
          have hfs : decide (s.cps.toList.filterMap (fun c => if okC c = true then none else some (Z.str ⟨#[c]⟩)) = []) = s.cps.toList.all okC := dec_nil
          rw [e]
          generalize s.cps.toList.filterMap (fun c => if okC c = true then none else some (Z.str ⟨#[c]⟩)) = fs at fl hfs ⊢
          walk_at "go"
          refine ⟨lenK rfl, fun p hp => ?_⟩
          refine i_eqL (put_old put_same hp) put_same fl rfl ?_
          have h1 : 1 ≤ s.length := by
            rcases Nat.eq_zero_or_pos s.length with z | z
            · refine absurd ?_ c1
              have : s.cps = #[] := Array.eq_empty_of_size_eq_zero z
              cases s
              simp only at this
              subst this
              decide +kernel
            · exact z
          have e2 : nameB (.str s) = s.cps.toList.all okC := by rw [name_str, decide_eq_true h1, decide_eq_true (show s.length ≤ 8 by omega), Bool.true_and, Bool.true_and]
          show R (.bl (decide (fs = []))) _
          rw [hfs, ← e2]
          exact q _ ((Sm.new hD).trans (Sm.new hp))
theorem ok_moment {P : Program} {w : World} {K : PySem.W.Frag} {mg : Str → Option Value} {base : Heap} {a : Ad} (F : Fns K a) (T : Txt K mg a) : FnOk P w K mg base CX0 1 a.f_moment a.d_moment ["thing"] (lowP K sp_moment) := by
  refine fn3 F.moment sc_moment (fun ws G R h => (by exact lenB1 h)) (fun cdv A outer s H E ws G R hr h => ?_)
  have hu : (A.deeper (PyProof.Rows.envOfC "_law_moment" (defScope s_moment) s.heap.objs.size a.f_moment cdv)).units + 66 < cLine := by have := hr.un; omega
  refine ⟨_, (z_cons (z_if (QW.qt (q_or (q_val (q_callB b_isT rfl T.b_isinstance rfl (q_cons (q_var (pv 0)) (q_cons (q_ty (pe_bltn (v := .ty "bool") rfl T.b_bool rfl rfl)) q_nil se_Name) se_Name) (he := se_Name) (hpl := (hp_cons se_Name hp_nil)))) (q_or1 (q_notT (q_val (q_callB b_isT rfl T.b_isinstance rfl (q_cons (q_var (pv 0)) (q_cons (q_ty (pe_bltn (v := .ty "int") rfl T.b_int rfl rfl)) q_nil se_Name) se_Name) (he := se_Name) (hpl := (hp_cons se_Name hp_nil))))))))
    (z_one (z_ret q_bl))
    z_nil)
    (z_one (z_ret (q_andV (q_not (q_cmp o_lt (q_var (pv 0)) q_int (nomark _))) (q_one (q_not (q_cmp o_gt (q_var (pv 0)) (q_op o_pow q_int q_int) (nomark _)))))))), ?_⟩
  obtain ⟨x, rfl, hx, q⟩ := h
  have no : momB x = false → R (.bl false) G := fun e => by have := q G (Sm.refl G); rw [e] at this; exact this
  walk_at "go"
  refine i_isBo hx ?_
  walk_at "go"
  refine ifB (fun c => ?_) fun c => ?_
  · walk_at "go"
    exact no (by cases x <;> first | rfl | cases c)
  · walk_at "go"
    refine i_isIn hx ?_
    walk_at "go"
    refine ifNB (fun c2 => ?_) fun c2 => ?_
    · walk_at "go"
      exact no (by cases x <;> first | rfl | cases c2)
    · obtain ⟨i, rfl⟩ : ∃ i, x = .int i := by cases x <;> first | exact ⟨_, rfl⟩ | (cases c; done) | (cases c2; done)
      walk_at "go"
      refine ifNB (fun z => ?_) fun z => ?_
      · walk_at "go"
        refine i_I ⟨by decide, by decide, by decide⟩ ?_
        walk_at "go"
        have := q G (Sm.refl G)
        have z' : 0 ≤ i := by have := of_decide_eq_false z; omega
        rw [mom_int, decide_eq_true z', Bool.true_and] at this
        have e : (!decide ((10 : Int) ^ (12 : Int).toNat < i)) = decide (i ≤ 1000000000000) := by
          have p : (10 : Int) ^ (12 : Int).toNat = 1000000000000 := by decide
          rw [p]
          by_cases k : i ≤ 1000000000000
          · rw [decide_eq_true k, decide_eq_false (by omega)]; rfl
          · rw [decide_eq_false k, decide_eq_true (by omega)]; rfl
        rw [e]
        exact this
      · have z' : ¬ 0 ≤ i := by have := of_decide_eq_true z; omega
        exact no (by rw [mom_int, decide_eq_false z']; rfl)
theorem ok_stretch {P : Program} {w : World} {K : PySem.W.Frag} {mg : Str → Option Value} {base : Heap} {a : Ad} (F : Fns K a) (T : Txt K mg a) : FnOk P w K mg base CX0 2 a.f_stretch a.d_stretch ["one", "other"] (lowP K sp_stretch) := by
  have G_moment : FnOk P w K mg base CX0 1 a.f_moment a.d_moment ["thing"] (lowP K sp_moment) := ok_moment F T
  refine fn3 F.stretch sc_stretch (fun ws G R h => (by exact lenB2 h)) (fun cdv A outer s H E ws G R hr h => ?_)
  have hu : (A.deeper (PyProof.Rows.envOfC "_law_stretch" (defScope s_stretch) s.heap.objs.size a.f_stretch cdv)).units + 66 < cLine := by have := hr.un; omega
  refine ⟨_, (z_cons (z_if (q_notT (q_val (q_call G_moment (hr.mono (by decide)) rfl T.m_moment T.k_moment (b_moment F) (q_cons (q_var (pv 0)) q_nil se_Name) (he := se_Name) (hpl := hp_nil))))
    (z_one (z_ret q_bl))
    z_nil)
    (z_one (z_ret (q_orV (q_cmp o_is (q_var (pv 1)) q_non (nomark _)) (q_one (q_andV (q_call G_moment (hr.mono (by decide)) rfl T.m_moment T.k_moment (b_moment F) (q_cons (q_var (pv 1)) q_nil se_Name) (he := se_Name) (hpl := hp_nil)) (q_one (q_cmp o_lt (q_var (pv 0)) (q_var (pv 1)) (nomark _))))))))), ?_⟩
  obtain ⟨x, y, rfl, hx, hy, q⟩ := h
  walk_at "go"
  refine ⟨x, rfl, hx, fun G1 s1 => ?_⟩
  have no : ∀ G', Sm G G' → strB x y = false → R (.bl false) G' := fun G' s e => by have := q G' s; rw [e] at this; exact this
  walk_at "go"
  refine ifNB (fun c => ?_) fun c => ?_
  · walk_at "go"
    exact no _ s1 (by unfold strB; rw [c]; rfl)
  · walk_at "go"
    refine ifD (fun z => ?_) fun z => ?_
    · walk_at "go"
      have := q _ s1
      unfold strB at this
      rw [c, z] at this
      exact this
    · walk_at "go"
      refine ⟨y, rfl, hy.sm s1, fun G2 s2 => ?_⟩
      have s12 := s1.trans s2
      walk_at "go"
      refine ifB (fun c2 => ?_) fun c2 => ?_
      · obtain ⟨i, rfl⟩ : ∃ i, x = .int i := by cases x <;> first | exact ⟨_, rfl⟩ | cases c
        obtain ⟨j, rfl⟩ : ∃ j, y = .int j := by cases y <;> first | exact ⟨_, rfl⟩ | cases c2
        walk_at "go"
        have := q _ s12
        unfold strB at this
        rw [c] at this
        dsimp only at this
        rw [c2, Bool.true_and, Bool.true_and] at this
        exact this
      · refine no _ s12 ?_
        unfold strB
        rw [c, Bool.true_and]
        cases y <;> first | rfl | exact absurd rfl z | (dsimp only; rw [c2]; rfl)
def sp_truth : P3 := fun ws G R => ∃ a b : Bool, ws = [.bl a, .bl b] ∧ R (.bl (a == b)) G
theorem len_truth {ws : List Z} {G : Hq} {R : K3} (h : sp_truth ws G R) : ws.length = 2 := by obtain ⟨_, _, rfl, _⟩ := h; rfl
theorem ok_truth {P : Program} {w : World} {K : PySem.W.Frag} {mg : Str → Option Value} {base : Heap} {a : Ad} (F : Fns K a) (T : Txt K mg a) : FnOk P w K mg base CX0 1 a.f_truth a.d_truth ["found", "due"] (lowP K sp_truth) := by
  refine fn3 F.truth sc_truth (fun ws G R h => (by exact len_truth h)) (fun cdv A outer s H E ws G R hr h => ?_)
  have hu : (A.deeper (PyProof.Rows.envOfC "_law_truth" (defScope s_truth) s.heap.objs.size a.f_truth cdv)).units + 66 < cLine := by have := hr.un; omega
  refine ⟨_, (z_one (z_ret (q_andV (q_callB b_isT rfl T.b_isinstance rfl (q_cons (q_var (pv 0)) (q_cons (q_ty (pe_bltn (v := .ty "bool") rfl T.b_bool rfl rfl)) q_nil se_Name) se_Name) (he := se_Name) (hpl := (hp_cons se_Name hp_nil))) (q_one (q_cmp (o_eq hu) (q_var (pv 0)) (q_var (pv 1)) (nomark _)))))), ?_⟩
  obtain ⟨a, b, rfl, q⟩ := h
  walk_at "go"
  refine i_isBo (x := .bl a) True.intro ?_
  walk_at "go"
  refine ifT ?_
  walk_at "go"
  exact q
def sp_right : P3 := fun ws G R => ∃ p xs x, ws = [.ref p, x] ∧ G p = some (.lst xs) ∧ xs.length ≤ 900 ∧ (∀ y ∈ xs, Th G y) ∧ Th G x ∧ ∀ G', Sm G G' → R (.bl true) G'
theorem len_right {ws : List Z} {G : Hq} {R : K3} (h : sp_right ws G R) : ws.length = 2 := by obtain ⟨_, _, _, rfl, _⟩ := h; rfl
theorem ok_right {P : Program} {w : World} {K : PySem.W.Frag} {mg : Str → Option Value} {base : Heap} {a : Ad} (F : Fns K a) (T : Txt K mg a) : FnOk P w K mg base CX0 3 a.f_right a.d_right ["things", "one"] (lowP K sp_right) := by
  have G_moment : FnOk P w K mg base CX0 1 a.f_moment a.d_moment ["thing"] (lowP K sp_moment) := ok_moment F T
  have G_truth : FnOk P w K mg base CX0 1 a.f_truth a.d_truth ["found", "due"] (lowP K sp_truth) := ok_truth F T
  have G_p_is_name : FnOk P w K mg base CX0 1 a.f_p_is_name a.d_p_is_name ["thing"] (lowP K sp_p_is_name) := ok_p_is_name F T
  have G_is_name : FnOk P w K mg base CX0 1 a.f_is_name a.d_is_name ["thing"] (lowP K sp_is_name) := ok_is_name F T
  have G_p_is_moment : FnOk P w K mg base CX0 1 a.f_p_is_moment a.d_p_is_moment ["thing"] (lowP K sp_p_is_moment) := ok_p_is_moment F T
  have G_p_is_stretch : FnOk P w K mg base CX0 2 a.f_p_is_stretch a.d_p_is_stretch ["begin", "end"] (lowP K sp_p_is_stretch) := ok_p_is_stretch F T
  have G_stretch : FnOk P w K mg base CX0 2 a.f_stretch a.d_stretch ["one", "other"] (lowP K sp_stretch) := ok_stretch F T
  refine fn3 F.right sc_right (fun ws G R h => (by exact len_right h)) (fun cdv A outer s H E ws G R hr h => ?_)
  have hu : (A.deeper (PyProof.Rows.envOfC "_law_right" (defScope s_right) s.heap.objs.size a.f_right cdv)).units + 66 < cLine := by have := hr.un; omega
  refine ⟨_, (z_cons (z_if (QW.qt (q_or (q_notT (q_val (q_call G_truth (hr.mono (by decide)) rfl T.m_truth T.k_truth (b_truth F) (q_cons (q_call G_p_is_name (hr.mono (by decide)) rfl T.m_p_is_name T.k_p_is_name (b_p_is_name F) (q_cons (q_var (pv 1)) q_nil se_Name) (he := se_Name) (hpl := hp_nil)) (q_cons (q_call G_is_name (hr.mono (by decide)) rfl T.m_is_name T.k_is_name (b_is_name F) (q_cons (q_var (pv 1)) q_nil se_Name) (he := se_Name) (hpl := hp_nil)) q_nil se_Call) se_Call) (he := se_Call) (hpl := (hp_cons se_Call hp_nil))))) (q_or1 (q_notT (q_val (q_call G_truth (hr.mono (by decide)) rfl T.m_truth T.k_truth (b_truth F) (q_cons (q_call G_p_is_moment (hr.mono (by decide)) rfl T.m_p_is_moment T.k_p_is_moment (b_p_is_moment F) (q_cons (q_var (pv 1)) q_nil se_Name) (he := se_Name) (hpl := hp_nil)) (q_cons (q_call G_moment (hr.mono (by decide)) rfl T.m_moment T.k_moment (b_moment F) (q_cons (q_var (pv 1)) q_nil se_Name) (he := se_Name) (hpl := hp_nil)) q_nil se_Call) se_Call) (he := se_Call) (hpl := (hp_cons se_Call hp_nil))))))))
    (z_one (z_ret q_bl))
    z_nil)
    (z_cons (z_set (i := 2) sc_right.nd rfl (Or.inl rfl) (q_op o_add (q_var (pv 0)) (q_lst (q_cons q_non q_nil se_Constant))))
    (z_cut (z_if (q_val (q_call G_moment (hr.mono (by decide)) rfl T.m_moment T.k_moment (b_moment F) (q_cons (q_var (pv 1)) q_nil se_Name) (he := se_Name) (hpl := hp_nil)))
    (z_one (z_set (i := 2) sc_right.nd rfl (Or.inl rfl) (q_op o_add (q_var (pv 2)) (q_lst (q_cons (q_op o_add (q_var (pv 1)) q_int) (q_cons (q_op o_sub (q_var (pv 1)) q_int) (q_cons (q_op o_pow q_int q_int) q_nil se_BinOp) se_BinOp) se_BinOp)))))
    z_nil)
    (z_cons (z_for (pt := (.nm 3)) PassesOwn.never rfl (it_list (q_var (pv 2))) (show QP _ _ (.nm 3) from (pg_name (i := 3) sc_right.nd rfl (Or.inl rfl)))
    (z_cons (z_if (q_notT (q_val (q_call G_truth (hr.mono (by decide)) rfl T.m_truth T.k_truth (b_truth F) (q_cons (q_call G_p_is_stretch (hr.mono (by decide)) rfl T.m_p_is_stretch T.k_p_is_stretch (b_p_is_stretch F) (q_cons (q_var (pv 1)) (q_cons (q_var (pv 3)) q_nil se_Name) se_Name) (he := se_Name) (hpl := (hp_cons se_Name hp_nil))) (q_cons (q_call G_stretch (hr.mono (by decide)) rfl T.m_stretch T.k_stretch (b_stretch F) (q_cons (q_var (pv 1)) (q_cons (q_var (pv 3)) q_nil se_Name) se_Name) (he := se_Name) (hpl := (hp_cons se_Name hp_nil))) q_nil se_Call) se_Call) (he := se_Call) (hpl := (hp_cons se_Call hp_nil)))))
    (z_one (z_ret q_bl))
    z_nil)
    (z_one (z_if (q_notT (q_val (q_call G_truth (hr.mono (by decide)) rfl T.m_truth T.k_truth (b_truth F) (q_cons (q_call G_p_is_stretch (hr.mono (by decide)) rfl T.m_p_is_stretch T.k_p_is_stretch (b_p_is_stretch F) (q_cons (q_var (pv 3)) (q_cons (q_var (pv 1)) q_nil se_Name) se_Name) (he := se_Name) (hpl := (hp_cons se_Name hp_nil))) (q_cons (q_call G_stretch (hr.mono (by decide)) rfl T.m_stretch T.k_stretch (b_stretch F) (q_cons (q_var (pv 3)) (q_cons (q_var (pv 1)) q_nil se_Name) se_Name) (he := se_Name) (hpl := (hp_cons se_Name hp_nil))) q_nil se_Call) se_Call) (he := se_Call) (hpl := (hp_cons se_Call hp_nil)))))
    (z_one (z_ret q_bl))
    z_nil))))
    (z_one (z_ret q_bl)))))), ?_⟩
  obtain ⟨p, xs, x, rfl, hp, hl, hxs, hx, q⟩ := h
  walk_at "go"
  refine ⟨x, rfl, hx, fun G1 s1 => ?_⟩
  walk_at "go"
  refine ⟨x, rfl, hx.sm s1, fun G2 s2 => ?_⟩
  walk_at "go"
  refine ⟨_, _, rfl, ?_⟩
  walk_at "go"
  refine ifNB (fun c => absurd c (by simp)) fun _ => ?_
  walk_at "go"
  refine ⟨x, rfl, (hx.sm s1).sm s2, fun G3 s3 => ?_⟩
  walk_at "go"
  refine ⟨x, rfl, ((hx.sm s1).sm s2).sm s3, fun G4 s4 => ?_⟩
  walk_at "go"
  refine ⟨_, _, rfl, ?_⟩
  walk_at "go"
  refine ifNB (fun c => absurd c (by simp)) fun _ => ?_
  have S := ((s1.trans s2).trans s3).trans s4
  clear s1 s2 s3 s4
  have hp4 := S _ _ hp
  have hx4 := hx.sm S
  have hxs4 : ∀ y ∈ xs, Th G4 y := fun y hy => (hxs y hy).sm S
  walk_at "go"
  refine ⟨lenK rfl, fun l hl' => ?_⟩
  refine i_addL (put_old hp4 hl') put_same (sm1000 (by simp; omega)) fun o ho => ?_
  walk_at "go"
  have S5 : Sm G4 (put (put G4 l (.lst [.non])) o (.lst (xs ++ [.non]))) := (Sm.new hl').trans (Sm.new ho)
  have ho5 : put (put G4 l (.lst [.non])) o (.lst (xs ++ [.non])) o = some (.lst (xs ++ [.non])) := put_same
  have hz5 : ∀ y ∈ xs ++ [Z.non], Th (put (put G4 l (.lst [.non])) o (.lst (xs ++ [.non]))) y := fun y hy => by
    rcases List.mem_append.mp hy with h | h
    · exact (hxs4 y h).sm S5
    · rw [List.mem_singleton.mp h]; exact True.intro
  have hlen5 : (xs ++ [Z.non]).length ≤ 901 := by simp; omega
  generalize put (put G4 l (.lst [.non])) o (.lst (xs ++ [.non])) = G5 at S5 ho5 hz5 ⊢
  generalize xs ++ [Z.non] = zs at ho5 hz5 hlen5 ⊢
  refine i_cut (fun σ' G' => ∃ o zs, σ' = [some (.ref p), some x, some (.ref o), none] ∧ G' o = some (.lst zs) ∧ zs.length ≤ 1000 ∧ (∀ y ∈ zs, Th G' y) ∧ Sm G5 G') ?_ ?_
  · walk_at "go"
    refine ⟨x, rfl, hx4.sm S5, fun G6 s6 => ?_⟩
    walk_at "go"
    refine ifB (fun c => ?_) fun c => ?_
    · obtain ⟨i, rfl⟩ : ∃ i, x = .int i := by cases x <;> first | exact ⟨_, rfl⟩ | cases c
      walk_at "go"
      refine i_I ⟨by decide, by decide, by decide⟩ ?_
      walk_at "go"
      refine ⟨lenK rfl, fun l2 hl2 => ?_⟩
      refine i_addL (put_old (s6 _ _ ho5) hl2) put_same (sm1000 (by simp; omega)) fun o2 ho2 => ?_
      walk_at "go"
      have S7 := (s6.trans (Sm.new (o := .lst [.int (i + 1), .int (i - 1), .int (10 ^ (12 : Int).toNat)]) hl2)).trans (Sm.new (o := .lst (zs ++ [.int (i + 1), .int (i - 1), .int (10 ^ (12 : Int).toNat)])) ho2)
      refine ⟨o2, _, rfl, put_same, by simp; omega, fun y hy => ?_, S7⟩
      rcases List.mem_append.mp hy with h | h
      · exact (hz5 y h).sm S7
      · simp only [List.mem_cons, List.not_mem_nil, or_false] at h
        rcases h with rfl | rfl | rfl <;> exact True.intro
    · walk_at "go"
      exact ⟨o, zs, rfl, s6 _ _ ho5, by omega, fun y hy => (hz5 y hy).sm s6, s6⟩
  · rintro σ' G' ⟨o, zs, rfl, ho, hlz, hz, S6⟩
    have hx6 := (hx4.sm S5).sm S6
    have q6 : ∀ G'', Sm G' G'' → R (.bl true) G'' := fun G'' s => q G'' (((S.trans S5).trans S6).trans s)
    walk_at "go"
    refine i_wkL ho ?_
    refine for_by (fun _ σ G'' => ∃ v, σ = [some (.ref p), some x, some (.ref o), v] ∧ Sm G' G'') ⟨_, rfl, Sm.refl _⟩ (fun i σ G'' _ ⟨_, _, s⟩ => s _ _ ho) ?_ ?_
    · rintro i y σ G'' hy ⟨v, rfl, s⟩
      have hy' := (hz y (List.mem_of_getElem? hy)).sm s
      have hx' := hx6.sm s
      refine ⟨_, rfl, ?_⟩
      walk_at "go"
      refine ⟨x, y, rfl, hx', hy', fun G7 s7 => ?_⟩
      walk_at "go"
      refine ⟨x, y, rfl, hx'.sm s7, hy'.sm s7, fun G8 s8 => ?_⟩
      walk_at "go"
      refine ⟨_, _, rfl, ?_⟩
      walk_at "go"
      refine ifNB (fun c => absurd c (by simp)) fun _ => ?_
      have s78 := s7.trans s8
      walk_at "go"
      refine ⟨y, x, rfl, hy'.sm s78, hx'.sm s78, fun G9 s9 => ?_⟩
      walk_at "go"
      refine ⟨y, x, rfl, (hy'.sm s78).sm s9, (hx'.sm s78).sm s9, fun G10 s10 => ?_⟩
      walk_at "go"
      refine ⟨_, _, rfl, ?_⟩
      walk_at "go"
      refine ifNB (fun c => absurd c (by simp)) fun _ => ?_
      walk_at "go"
      exact ((s.trans s78).trans s9).trans s10
    · rintro σ G'' ⟨v, rfl, s⟩
      walk_at "go"
      exact q6 _ s
/-! ### draws -/
theorem strOk_app {a b : Str} (ha : PyData.strOk a = true) (hb : PyData.strOk b = true) : PyData.strOk (a ++ b) = true := by
  unfold PyData.strOk at *
  show (a.cps ++ b.cps).all _ = true
  rw [Array.all_append, ha, hb]; rfl
theorem strOk_slice {a : Str} (ha : PyData.strOk a = true) (lo hi : Option Int) : PyData.strOk (Txt.slice a lo hi) = true := by
  unfold Txt.slice
  split
  · exact ha
  · unfold PyData.strOk at *
    rw [Array.all_eq_true_iff_forall_mem] at *
    intro c hc
    obtain ⟨j, _, hj⟩ := List.mem_filterMap.mp (by simpa using hc)
    exact ha c (Array.mem_of_getElem? hj)
theorem join_empty : ∀ ys : List Str, (∀ y ∈ ys, y.length = 1 ∧ PyData.strOk y = true) → (Str.join (Str.ofString "") ys).length = ys.length ∧ PyData.strOk (Str.join (Str.ofString "") ys) = true
  | [], _ => ⟨rfl, by decide +kernel⟩
  | [y], h => by
    have := h y (by simp)
    exact ⟨this.1, this.2⟩
  | y :: z :: r, h => by
    have h1 := h y (by simp)
    have ih := join_empty (z :: r) fun w hw => h w (List.mem_cons_of_mem _ hw)
    show (y ++ Str.ofString "" ++ Str.join (Str.ofString "") (z :: r)).length = _ ∧ PyData.strOk (y ++ Str.ofString "" ++ Str.join (Str.ofString "") (z :: r)) = true
    refine ⟨?_, strOk_app (strOk_app h1.2 (by decide +kernel)) ih.2⟩
    have e : ∀ a b : Str, (a ++ b).length = a.length + b.length := fun a b => Array.size_append
    rw [e, e, ih.1, h1.1]
    simp [show (Str.ofString "").length = 0 from rfl]
    omega
theorem sum_ones : ∀ ys : List Str, (∀ y ∈ ys, y.length = 1 ∧ PyData.strOk y = true) → (ys.map (·.length)).sum = ys.length
  | [], _ => rfl
  | y :: r, h => by
    rw [List.map_cons, List.sum_cons, sum_ones r fun w hw => h w (List.mem_cons_of_mem _ hw), (h y (by simp)).1, List.length_cons]
    omega
theorem at_lt {l : List Nat} {f : Int} (h0 : 0 ≤ f) (h1 : f < l.length) (ha : ∀ c ∈ l, c < 1114112) : ∃ c, atI l f = some c ∧ PyData.strOk ⟨#[c]⟩ = true := by
  obtain ⟨j, rfl⟩ := Int.eq_ofNat_of_zero_le h0
  have hj : j < l.length := by omega
  refine ⟨l[j], atI_nat (List.getElem?_eq_getElem hj), ?_⟩
  unfold PyData.strOk
  simpa using ha _ (List.getElem_mem hj)
def sp_text : P3 := fun ws G R => ∃ r n, ws = [.ref r, .int n] ∧ RowAt G r ∧ 0 ≤ n ∧ n ≤ 100 ∧ ∀ s G', (s.length : Int) = n → PyData.strOk s = true → RowAt G' r → Kq r G G' → R (.str s) G'
theorem len_text {ws : List Z} {G : Hq} {R : K3} (h : sp_text ws G R) : ws.length = 2 := by obtain ⟨_, _, rfl, _⟩ := h; rfl
theorem RowAt.ne {G : Hq} {r D : Addr} (h : RowAt G r) (n : G D = none) : r ≠ D := by obtain ⟨_, _, e, _⟩ := h; exact gne_none e n
theorem ok_text {P : Program} {w : World} {K : PySem.W.Frag} {mg : Str → Option Value} {base : Heap} {a : Ad} (F : Fns K a) (T : Txt K mg a) : FnOk P w K mg base CX0 2 a.f_text a.d_text ["row", "size"] (lowP K sp_text) := by
  have G_take : FnOk P w K mg base CX0 1 a.f_take a.d_take ["row", "many"] (lowP K sp_take) := ok_take F T
  refine fn3 F.text sc_text (fun ws G R h => (by exact len_text h)) (fun cdv A outer s H E ws G R hr h => ?_)
  have hu : (A.deeper (PyProof.Rows.envOfC "_law_text" (defScope s_text) s.heap.objs.size a.f_text cdv)).units + 66 < cLine := by have := hr.un; omega
  refine ⟨_, (z_cons (z_set (i := 2) sc_text.nd rfl (Or.inr rfl) q_str)
    (z_one (z_ret (q_bm PySem.F.plainAttrs_str PySem.F.slot_str_join PySem.F.type_str_join m_join q_str (q_cons (q_lc (N₀ := ["row", "size", "letters"]) (so := defScope s_text) (N' := ["k", "letters", "row"]) (cap := [none, some 2, some 0]) (pt := (.nm 0)) rfl rfl rfl (by decide +kernel) rfl (it_rangeA1 rfl T.b_range (q_cons (q_var (pv 1)) q_nil se_Name)) (fun _ _ _ _ => (show QP _ _ (.nm 0) from (pg_name (i := 0) (show List.Nodup (α := Str) ["k", "letters", "row"] from by decide +kernel) rfl (Or.inl rfl)))) (fun _ _ _ _ => ifs_nil) (fun _ _ _ _ => (q_ix x_ix (q_var (pv 1)) (q_call G_take (hr.mono (by decide)) rfl T.m_take T.k_take (b_take F) (q_cons (q_var (pv 2)) (q_cons q_int q_nil se_Constant) se_Name) (he := se_Name) (hpl := (hp_cons se_Constant hp_nil))) (fun _ _ => rfl)))) q_nil se_ListComp))))), ?_⟩
  obtain ⟨r, n, rfl, hR, h0, h1, q⟩ := h
  walk_at "go"
  refine ⟨by omega, by omega, fun D hD => ?_⟩
  have hne := hR.ne hD
  refine lc_by (fun i ys G' => ∃ ts : List Str, ys = ts.map Z.str ∧ ts.length = i ∧ (∀ t ∈ ts, t.length = 1 ∧ PyData.strOk t = true) ∧ G' D = some (.lst ys) ∧ RowAt G' r ∧ Kq r G G') ?_ (fun _ _ _ _ _ => True.intro) ?_ ?_
  · exact ⟨[], rfl, rfl, fun _ h => (nomatch h), put_same, hR.new hD, Kq.new hD⟩
  · rintro i x ys G' hx ⟨ts, rfl, rfl, hts, hD', hR', hK⟩
    have hi : ts.length < n.toNat := (rng_get hx).1
    refine ⟨_, rfl, ?_⟩
    walk_at "go"
    refine i_take hR' (by decide) (by decide) fun f y w f0 f1 ok => ?_
    obtain ⟨ch, hch, hok⟩ := at_lt (l := (Str.ofString "abcdefghijklmnopqrstuvwxyz").cps.toList) f0 (by show f < 26; exact f1) (by decide +kernel)
    refine i_ixS (lenK rfl) hch ?_
    refine ⟨by rw [put_ne (Ne.symm hne)]; exact hD', by rw [List.length_map]; exact small1000 (by omega), ts ++ [⟨#[ch]⟩], by simp, by simp, fun t ht => ?_, put_same, ?_, ?_⟩
    · rcases List.mem_append.mp ht with h | h
      · exact hts t h
      · rw [List.mem_singleton.mp h]; exact ⟨rfl, hok⟩
    · exact ⟨y, w, by rw [put_ne hne]; exact put_same, ok⟩
    · intro b o e nb
      rw [put_ne (gne_none e hD), put_ne nb]
      exact hK b o e nb
  · rintro ys G' ⟨ts, rfl, hlen, hts, hD', hR', hK⟩
    rw [rng_length] at hlen
    walk_at "go"
    refine i_join hD' ?_ ?_
    · rw [sum_ones ts hts, show (Str.ofString "").length = 0 from rfl]; omega
    · have e : Txt.join (Str.ofString "") ts = Str.join (Str.ofString "") ts := StrLaws.glued_eq_join _ _
      have k := join_empty ts hts
      rw [e]
      exact q _ _ (by rw [k.1, hlen]; omega) k.2 hR' hK
def sp_spoilt : P3 := fun ws G R => ∃ r, ws = [.ref r] ∧ RowAt G r ∧ ∀ s G', okS s → RowAt G' r → Kq r G G' → R (.str s) G'
theorem len_spoilt {ws : List Z} {G : Hq} {R : K3} (h : sp_spoilt ws G R) : ws.length = 1 := by obtain ⟨_, rfl, _⟩ := h; rfl
theorem ok_spoilt {P : Program} {w : World} {K : PySem.W.Frag} {mg : Str → Option Value} {base : Heap} {a : Ad} (F : Fns K a) (T : Txt K mg a) : FnOk P w K mg base CX0 3 a.f_spoilt a.d_spoilt ["row"] (lowP K sp_spoilt) := by
  have G_text : FnOk P w K mg base CX0 2 a.f_text a.d_text ["row", "size"] (lowP K sp_text) := ok_text F T
  have G_take : FnOk P w K mg base CX0 1 a.f_take a.d_take ["row", "many"] (lowP K sp_take) := ok_take F T
  refine fn3 F.spoilt sc_spoilt (fun ws G R h => (by exact len_spoilt h)) (fun cdv A outer s H E ws G R hr h => ?_)
  have hu : (A.deeper (PyProof.Rows.envOfC "_law_spoilt" (defScope s_spoilt) s.heap.objs.size a.f_spoilt cdv)).units + 66 < cLine := by have := hr.un; omega
  refine ⟨_, (z_cons (z_set (i := 1) sc_spoilt.nd rfl (Or.inl rfl) (q_call G_text (hr.mono (by decide)) rfl T.m_text T.k_text (b_text F) (q_cons (q_var (pv 0)) (q_cons (q_op o_add q_int (q_call G_take (hr.mono (by decide)) rfl T.m_take T.k_take (b_take F) (q_cons (q_var (pv 0)) (q_cons q_int q_nil se_Constant) se_Name) (he := se_Name) (hpl := (hp_cons se_Constant hp_nil)))) q_nil se_BinOp) se_Name) (he := se_Name) (hpl := (hp_cons se_BinOp hp_nil))))
    (z_cons (z_set (i := 2) sc_spoilt.nd rfl (Or.inl rfl) (q_call G_take (hr.mono (by decide)) rfl T.m_take T.k_take (b_take F) (q_cons (q_var (pv 0)) (q_cons (q_callB b_len rfl T.b_len PySem.boot_len (q_cons (q_var (pv 1)) q_nil se_Name) (he := se_Name) (hpl := hp_nil)) q_nil se_Call) se_Name) (he := se_Name) (hpl := (hp_cons se_Call hp_nil))))
    (z_cons (z_set (i := 3) sc_spoilt.nd rfl (Or.inl rfl) (q_ix x_ix q_str (q_call G_take (hr.mono (by decide)) rfl T.m_take T.k_take (b_take F) (q_cons (q_var (pv 0)) (q_cons q_int q_nil se_Constant) se_Name) (he := se_Name) (hpl := (hp_cons se_Constant hp_nil))) (fun _ _ => rfl)))
    (z_one (z_ret (q_op o_add (q_op o_add (q_slice x_sl (q_var (pv 1)) q_nopart (q_part (q_var (pv 2)))) (q_var (pv 3))) (q_slice x_sl (q_var (pv 1)) (q_part (q_op o_add (q_var (pv 2)) (q_call G_take (hr.mono (by decide)) rfl T.m_take T.k_take (b_take F) (q_cons (q_var (pv 0)) (q_cons q_int q_nil se_Constant) se_Name) (he := se_Name) (hpl := (hp_cons se_Constant hp_nil))))) q_nopart))))))), ?_⟩
  obtain ⟨r, rfl, hR, q⟩ := h
  walk_at "go"
  refine i_take hR (by decide) (by decide) fun f y w f0 f1 ok => ?_
  walk_at "go"
  refine ⟨r, _, rfl, RowAt.at ok, by omega, by omega, fun s G1 hs1 hs2 hR1 hK1 => ?_⟩
  have hs3 : s.length ≤ 100 := by omega
  walk_at "go"
  refine i_lenS (sm1000 (by omega)) ?_
  walk_at "go"
  refine i_take hR1 (by omega) (by omega) fun f2 y2 w2 g0 g1 ok2 => ?_
  walk_at "go"
  refine i_take (RowAt.at ok2) (by decide) (by decide) fun f3 y3 w3 k0 k1 ok3 => ?_
  obtain ⟨ch, hch, hok⟩ := at_lt (l := (Str.ofString "A7 _-Z\n.{`").cps.toList) k0 (by show f3 < 10; exact k1) (by decide +kernel)
  refine i_ixS (lenK rfl) hch ?_
  walk_at "go"
  refine i_slS (sm1000 (by omega)) ?_
  walk_at "go"
  have e1 : (Txt.slice s none (some f2)).length ≤ s.length := Txt.slice_le s _ _
  refine i_addS (sm1000 (by show _ + 1 ≤ 1000; omega)) ?_
  walk_at "go"
  refine i_take (RowAt.at ok3) (by decide) (by decide) fun f4 y4 w4 l0 l1 ok4 => ?_
  walk_at "go"
  refine i_slS (sm1000 (by omega)) ?_
  have e2 : (Txt.slice s (some (f2 + f4)) none).length ≤ s.length := Txt.slice_le s _ _
  have e : ∀ a b : Str, (a ++ b).length = a.length + b.length := fun a b => Array.size_append
  refine i_addS (sm1000 (by rw [e]; show _ + 1 + _ ≤ 1000; omega)) ?_
  refine q _ _ ⟨by rw [e, e]; show _ + 1 + _ ≤ 1000; omega, strOk_app (strOk_app (strOk_slice hs2 _ _) hok) (strOk_slice hs2 _ _)⟩ (RowAt.at ok4) ?_
  exact (((Kq.at.trans hK1).trans Kq.at).trans Kq.at).trans Kq.at
theorem at2 {a b f : Int} (h0 : 0 ≤ f) (h1 : f < 2) : ∃ n, atI [Z.int a, .int b] f = some (.int n) ∧ (n = a ∨ n = b) := by
  have hj : f = 0 ∨ f = 1 := by omega
  rcases hj with rfl | rfl
  · exact ⟨a, rfl, .inl rfl⟩
  · exact ⟨b, rfl, .inr rfl⟩
theorem at3 {a b c f : Int} (h0 : 0 ≤ f) (h1 : f < 3) : ∃ n, atI [Z.int a, .int b, .int c] f = some (.int n) ∧ (n = a ∨ n = b ∨ n = c) := by
  have hj : f = 0 ∨ f = 1 ∨ f = 2 := by omega
  rcases hj with rfl | rfl | rfl
  · exact ⟨a, rfl, .inl rfl⟩
  · exact ⟨b, rfl, .inr (.inl rfl)⟩
  · exact ⟨c, rfl, .inr (.inr rfl)⟩
theorem p12 : (10 : Int) ^ (12 : Int).toNat = 1000000000000 := by decide
theorem p13 : (10 : Int) ^ (13 : Int).toNat = 10000000000000 := by decide
def sp_number : P3 := fun ws G R => ∃ r k, ws = [.ref r, .int k] ∧ RowAt G r ∧ ∀ i G', RowAt G' r → Kq r G G' → R (.int i) G'
theorem len_number {ws : List Z} {G : Hq} {R : K3} (h : sp_number ws G R) : ws.length = 2 := by obtain ⟨_, _, rfl, _⟩ := h; rfl
theorem ok_number {P : Program} {w : World} {K : PySem.W.Frag} {mg : Str → Option Value} {base : Heap} {a : Ad} (F : Fns K a) (T : Txt K mg a) : FnOk P w K mg base CX0 2 a.f_number a.d_number ["row", "kind"] (lowP K sp_number) := by
  have G_take : FnOk P w K mg base CX0 1 a.f_take a.d_take ["row", "many"] (lowP K sp_take) := ok_take F T
  refine fn3 F.number sc_number (fun ws G R h => (by exact len_number h)) (fun cdv A outer s H E ws G R hr h => ?_)
  have hu : (A.deeper (PyProof.Rows.envOfC "_law_number" (defScope s_number) s.heap.objs.size a.f_number cdv)).units + 66 < cLine := by have := hr.un; omega
  refine ⟨_, (z_cons (z_if (q_cmpT (o_eq hu) (q_var (pv 1)) q_int (nomark _))
    (z_one (z_ret (q_call G_take (hr.mono (by decide)) rfl T.m_take T.k_take (b_take F) (q_cons (q_var (pv 0)) (q_cons q_int q_nil se_Constant) se_Name) (he := se_Name) (hpl := (hp_cons se_Constant hp_nil)))))
    z_nil)
    (z_cons (z_if (q_cmpT (o_eq hu) (q_var (pv 1)) q_int (nomark _))
    (z_one (z_ret (q_op o_sub (q_op o_pow q_int q_int) (q_call G_take (hr.mono (by decide)) rfl T.m_take T.k_take (b_take F) (q_cons (q_var (pv 0)) (q_cons (q_ix x_ix (q_lst (q_cons q_int (q_cons (q_op o_add (q_op o_pow q_int q_int) q_int) q_nil se_BinOp) se_Constant)) (q_call G_take (hr.mono (by decide)) rfl T.m_take T.k_take (b_take F) (q_cons (q_var (pv 0)) (q_cons q_int q_nil se_Constant) se_Name) (he := se_Name) (hpl := (hp_cons se_Constant hp_nil))) (fun _ _ => rfl)) q_nil se_Subscript) se_Name) (he := se_Name) (hpl := (hp_cons se_Subscript hp_nil))))))
    z_nil)
    (z_cons (z_if (q_cmpT (o_eq hu) (q_var (pv 1)) q_int (nomark _))
    (z_one (z_ret (q_op o_add (q_op o_add (q_op o_pow q_int q_int) q_int) (q_call G_take (hr.mono (by decide)) rfl T.m_take T.k_take (b_take F) (q_cons (q_var (pv 0)) (q_cons (q_ix x_ix (q_lst (q_cons q_int (q_cons (q_op o_pow q_int q_int) q_nil se_BinOp) se_Constant)) (q_call G_take (hr.mono (by decide)) rfl T.m_take T.k_take (b_take F) (q_cons (q_var (pv 0)) (q_cons q_int q_nil se_Constant) se_Name) (he := se_Name) (hpl := (hp_cons se_Constant hp_nil))) (fun _ _ => rfl)) q_nil se_Subscript) se_Name) (he := se_Name) (hpl := (hp_cons se_Subscript hp_nil))))))
    z_nil)
    (z_one (z_ret (q_op o_sub (q_un o_neg q_int) (q_call G_take (hr.mono (by decide)) rfl T.m_take T.k_take (b_take F) (q_cons (q_var (pv 0)) (q_cons (q_ix x_ix (q_lst (q_cons q_int (q_cons (q_op o_pow q_int q_int) q_nil se_BinOp) se_Constant)) (q_call G_take (hr.mono (by decide)) rfl T.m_take T.k_take (b_take F) (q_cons (q_var (pv 0)) (q_cons q_int q_nil se_Constant) se_Name) (he := se_Name) (hpl := (hp_cons se_Constant hp_nil))) (fun _ _ => rfl)) q_nil se_Subscript) se_Name) (he := se_Name) (hpl := (hp_cons se_Subscript hp_nil))))))))), ?_⟩
  obtain ⟨r, k, rfl, hR, q⟩ := h
  -- one of two numbers, drawn
  have dr : ∀ (p : Addr) (a b : Int) (Q : K3), G p = none → 0 < a → a < 2 ^ 63 → 0 < b → b < 2 ^ 63 → (∀ n G', 0 < n → n < 2 ^ 63 → RowAt G' r → Kq r G G' → Q (.int n) G') →
      sp_take [.ref r, .int 2] (put G p (.lst [.int a, .int b])) fun y G2 => zIx (.ref p) y G2 Q := fun p a b Q hp a0 a1 b0 b1 h => by
    have hne := hR.ne hp
    refine i_take (hR.new hp) (by decide) (by decide) fun f y w f0 f1 ok => ?_
    obtain ⟨n, hn, hab⟩ := at2 (a := a) (b := b) f0 f1
    refine i_ixL (by rw [put_ne (Ne.symm hne)]; exact put_same) hn ?_
    exact h _ _ (by omega) (by omega) (RowAt.at ok) ((Kq.new hp).trans Kq.at)
  walk_at "go"
  refine ifD (fun c => ?_) fun c => ?_
  · walk_at "go"
    exact i_take hR (by decide) (by decide) fun f y w f0 f1 ok => q _ _ (RowAt.at ok) Kq.at
  walk_at "go"
  refine ifD (fun c => ?_) fun c => ?_
  · walk_at "go"
    refine i_I ⟨by decide, by decide, by decide⟩ ?_
    walk_at "go"
    refine i_I ⟨by decide, by decide, by decide⟩ ?_
    walk_at "go"
    refine ⟨lenK rfl, fun p hp => ?_⟩
    walk_at "go"
    refine dr p 4 (10 ^ (12 : Int).toNat + 1) _ hp (by decide) (by decide) (by decide) (by decide) fun n G' n0 n1 hR' hK => ?_
    walk_at "go"
    refine i_take hR' n0 (by omega) fun f y w f0 f1 ok => ?_
    walk_at "go"
    exact q _ _ (RowAt.at ok) (hK.trans Kq.at)
  walk_at "go"
  refine ifD (fun c => ?_) fun c => ?_
  · walk_at "go"
    refine i_I ⟨by decide, by decide, by decide⟩ ?_
    walk_at "go"
    refine i_I ⟨by decide, by decide, by decide⟩ ?_
    walk_at "go"
    refine ⟨lenK rfl, fun p hp => ?_⟩
    walk_at "go"
    refine dr p 2 (10 ^ (13 : Int).toNat) _ hp (by decide) (by decide) (by decide) (by decide) fun n G' n0 n1 hR' hK => ?_
    walk_at "go"
    refine i_take hR' n0 (by omega) fun f y w f0 f1 ok => ?_
    walk_at "go"
    exact q _ _ (RowAt.at ok) (hK.trans Kq.at)
  · walk_at "go"
    refine i_I ⟨by decide, by decide, by decide⟩ ?_
    walk_at "go"
    refine ⟨lenK rfl, fun p hp => ?_⟩
    walk_at "go"
    refine dr p 2 (10 ^ (13 : Int).toNat) _ hp (by decide) (by decide) (by decide) (by decide) fun n G' n0 n1 hR' hK => ?_
    walk_at "go"
    refine i_take hR' n0 (by omega) fun f y w f0 f1 ok => ?_
    walk_at "go"
    exact q _ _ (RowAt.at ok) (hK.trans Kq.at)
/-- a thing that is not the row -/
def Thr (r : Addr) (G : Hq) (x : Z) : Prop := Th G x ∧ ∀ p, x = .ref p → p ≠ r
theorem Thr.kq {r : Addr} {G G' : Hq} {x : Z} (h : Thr r G x) (k : Kq r G G') : Thr r G' x := by
  refine ⟨?_, h.2⟩
  obtain ⟨h1, h2⟩ := h
  cases x with
  | ref p =>
    rcases h1 with ⟨ws, e⟩ | ⟨ws, e⟩
    · exact .inl ⟨ws, k _ _ e (h2 p rfl)⟩
    · exact .inr ⟨ws, k _ _ e (h2 p rfl)⟩
  | _ => exact h1
theorem Thr.putL {r D : Addr} {G : Hq} {x : Z} {ws : List Z} (h : Thr r G x) : Thr r (put G D (.lst ws)) x := by
  refine ⟨?_, h.2⟩
  obtain ⟨h1, h2⟩ := h
  cases x with
  | ref p =>
    by_cases e : p = D
    · subst e; exact .inl ⟨ws, put_same⟩
    · rcases h1 with ⟨zs, q⟩ | ⟨zs, q⟩
      · exact .inl ⟨zs, by rw [put_ne e]; exact q⟩
      · exact .inr ⟨zs, by rw [put_ne e]; exact q⟩
  | _ => exact h1
def sp_thing : P3 := fun ws G R => ∃ r, ws = [.ref r] ∧ RowAt G r ∧ ∀ x G', Thr r G' x → RowAt G' r → Kq r G G' → R x G'
theorem len_thing {ws : List Z} {G : Hq} {R : K3} (h : sp_thing ws G R) : ws.length = 1 := by obtain ⟨_, rfl, _⟩ := h; rfl
theorem thr_str {r : Addr} {G : Hq} {s : Str} (h : okS s) : Thr r G (.str s) := ⟨h, fun _ e => nomatch e⟩
theorem thr_int {r : Addr} {G : Hq} {i : Int} : Thr r G (.int i) := ⟨True.intro, fun _ e => nomatch e⟩
abbrev L7 (a b d : Addr) : O := .lst [.ref a, .ref b, .tup [.str (Str.ofString "a")], .ref d, .str (Str.ofString "7"), .str (Str.ofString "10"), .tup [.int 1, .int 2]]
theorem pick7 {a b d l r : Addr} {f : Int} {G : Hq} {R : K3} (f0 : 0 ≤ f) (f1 : f < 7) (gl : G l = some (L7 a b d)) (ga : G a = some (.lst [])) (gb : G b = some (.lst [.str (Str.ofString "a")])) (gd : G d = some (.dK [])) (na : a ≠ r) (nb : b ≠ r) (nd : d ≠ r)
    (q : ∀ x, Thr r G x → R x G) : zIx (.ref l) (.int f) G R := by
  have ok7 : okS (Str.ofString "7") := by constructor <;> decide +kernel
  have ok10 : okS (Str.ofString "10") := by constructor <;> decide +kernel
  have hf : f = 0 ∨ f = 1 ∨ f = 2 ∨ f = 3 ∨ f = 4 ∨ f = 5 ∨ f = 6 := by omega
  rcases hf with rfl | rfl | rfl | rfl | rfl | rfl | rfl
  · exact i_ixL gl rfl (q _ ⟨.inl ⟨_, ga⟩, fun _ e => by cases e; exact na⟩)
  · exact i_ixL gl rfl (q _ ⟨.inl ⟨_, gb⟩, fun _ e => by cases e; exact nb⟩)
  · exact i_ixL gl rfl (q _ ⟨True.intro, fun _ e => nomatch e⟩)
  · exact i_ixL gl rfl (q _ ⟨.inr ⟨_, gd⟩, fun _ e => by cases e; exact nd⟩)
  · exact i_ixL gl rfl (q _ (thr_str ok7))
  · exact i_ixL gl rfl (q _ (thr_str ok10))
  · exact i_ixL gl rfl (q _ ⟨True.intro, fun _ e => nomatch e⟩)
theorem ok_thing {P : Program} {w : World} {K : PySem.W.Frag} {mg : Str → Option Value} {base : Heap} {a : Ad} (F : Fns K a) (T : Txt K mg a) : FnOk P w K mg base CX0 4 a.f_thing a.d_thing ["row"] (lowP K sp_thing) := by
  have G_take : FnOk P w K mg base CX0 1 a.f_take a.d_take ["row", "many"] (lowP K sp_take) := ok_take F T
  have G_text : FnOk P w K mg base CX0 2 a.f_text a.d_text ["row", "size"] (lowP K sp_text) := ok_text F T
  have G_spoilt : FnOk P w K mg base CX0 3 a.f_spoilt a.d_spoilt ["row"] (lowP K sp_spoilt) := ok_spoilt F T
  have G_number : FnOk P w K mg base CX0 2 a.f_number a.d_number ["row", "kind"] (lowP K sp_number) := ok_number F T
  refine fn3 F.thing sc_thing (fun ws G R h => (by exact len_thing h)) (fun cdv A outer s H E ws G R hr h => ?_)
  have hu : (A.deeper (PyProof.Rows.envOfC "_law_thing" (defScope s_thing) s.heap.objs.size a.f_thing cdv)).units + 66 < cLine := by have := hr.un; omega
  refine ⟨_, (z_cons (z_set (i := 1) sc_thing.nd rfl (Or.inl rfl) (q_call G_take (hr.mono (by decide)) rfl T.m_take T.k_take (b_take F) (q_cons (q_var (pv 0)) (q_cons q_int q_nil se_Constant) se_Name) (he := se_Name) (hpl := (hp_cons se_Constant hp_nil))))
    (z_cons (z_if (q_cmpT (o_eq hu) (q_var (pv 1)) q_int (nomark _))
    (z_one (z_ret (q_call G_text (hr.mono (by decide)) rfl T.m_text T.k_text (b_text F) (q_cons (q_var (pv 0)) (q_cons (q_op o_add q_int (q_call G_take (hr.mono (by decide)) rfl T.m_take T.k_take (b_take F) (q_cons (q_var (pv 0)) (q_cons q_int q_nil se_Constant) se_Name) (he := se_Name) (hpl := (hp_cons se_Constant hp_nil)))) q_nil se_BinOp) se_Name) (he := se_Name) (hpl := (hp_cons se_BinOp hp_nil)))))
    z_nil)
    (z_cons (z_if (q_cmpT (o_eq hu) (q_var (pv 1)) q_int (nomark _))
    (z_one (z_ret (q_call G_text (hr.mono (by decide)) rfl T.m_text T.k_text (b_text F) (q_cons (q_var (pv 0)) (q_cons (q_ix x_ix (q_lst (q_cons q_int (q_cons q_int (q_cons (q_op o_add q_int (q_call G_take (hr.mono (by decide)) rfl T.m_take T.k_take (b_take F) (q_cons (q_var (pv 0)) (q_cons q_int q_nil se_Constant) se_Name) (he := se_Name) (hpl := (hp_cons se_Constant hp_nil)))) q_nil se_BinOp) se_Constant) se_Constant)) (q_call G_take (hr.mono (by decide)) rfl T.m_take T.k_take (b_take F) (q_cons (q_var (pv 0)) (q_cons q_int q_nil se_Constant) se_Name) (he := se_Name) (hpl := (hp_cons se_Constant hp_nil))) (fun _ _ => rfl)) q_nil se_Subscript) se_Name) (he := se_Name) (hpl := (hp_cons se_Subscript hp_nil)))))
    z_nil)
    (z_cons (z_if (q_cmpT (o_eq hu) (q_var (pv 1)) q_int (nomark _))
    (z_one (z_ret (q_call G_spoilt (hr.mono (by decide)) rfl T.m_spoilt T.k_spoilt (b_spoilt F) (q_cons (q_var (pv 0)) q_nil se_Name) (he := se_Name) (hpl := hp_nil))))
    z_nil)
    (z_cons (z_if (q_cmpT o_lt (q_var (pv 1)) q_int (nomark _))
    (z_one (z_ret (q_call G_number (hr.mono (by decide)) rfl T.m_number T.k_number (b_number F) (q_cons (q_var (pv 0)) (q_cons (q_var (pv 1)) q_nil se_Name) se_Name) (he := se_Name) (hpl := (hp_cons se_Name hp_nil)))))
    z_nil)
    (z_cons (z_if (q_cmpT (o_eq hu) (q_var (pv 1)) q_int (nomark _))
    (z_one (z_ret q_non))
    z_nil)
    (z_cons (z_if (q_cmpT (o_eq hu) (q_var (pv 1)) q_int (nomark _))
    (z_one (z_ret (q_cmp (o_eq hu) (q_call G_take (hr.mono (by decide)) rfl T.m_take T.k_take (b_take F) (q_cons (q_var (pv 0)) (q_cons q_int q_nil se_Constant) se_Name) (he := se_Name) (hpl := (hp_cons se_Constant hp_nil))) q_int (nomark _))))
    z_nil)
    (z_one (z_ret (q_ix x_ix (q_lst (q_cons (q_lst q_nil) (q_cons (q_lst (q_cons q_str q_nil se_Constant)) (q_cons (q_tup (q_cons q_str q_nil se_Constant)) (q_cons q_dnew (q_cons q_str (q_cons q_str (q_cons (q_tup (q_cons q_int (q_cons q_int q_nil se_Constant) se_Constant)) q_nil se_Tuple) se_Constant) se_Constant) se_Dict) se_Tuple) se_List) se_List)) (q_call G_take (hr.mono (by decide)) rfl T.m_take T.k_take (b_take F) (q_cons (q_var (pv 0)) (q_cons q_int q_nil se_Constant) se_Name) (he := se_Name) (hpl := (hp_cons se_Constant hp_nil))) (fun _ _ => rfl))))))))))), ?_⟩
  obtain ⟨r, rfl, hR0, q0⟩ := h
  walk_at "go"
  refine i_take hR0 (by decide) (by decide) fun kd y0 w0 d0 d1 ok0 => ?_
  have hR : RowAt (put G r (RowO y0 w0)) r := RowAt.at ok0
  have q : ∀ x G', Thr r G' x → RowAt G' r → Kq r (put G r (RowO y0 w0)) G' → R x G' := fun x G' a b c => q0 x G' a b (Kq.at.trans c)
  generalize put G r (RowO y0 w0) = G at hR q ⊢
  clear hR0 q0 ok0
  walk_at "go"
  refine ifD (fun c => ?_) fun c => ?_
  · walk_at "go"
    refine i_take hR (by decide) (by decide) fun f y w f0 f1 ok => ?_
    walk_at "go"
    refine ⟨r, _, rfl, RowAt.at ok, by omega, by omega, fun s G1 hs1 hs2 hR1 hK1 => ?_⟩
    exact q _ _ (thr_str ⟨by omega, hs2⟩) hR1 (Kq.at.trans hK1)
  walk_at "go"
  refine ifD (fun c => ?_) fun c => ?_
  · walk_at "go"
    refine i_take hR (by decide) (by decide) fun f y w f0 f1 ok => ?_
    walk_at "go"
    refine ⟨lenK rfl, fun p hp => ?_⟩
    have hR1 : RowAt (put G r (RowO y w)) r := RowAt.at ok
    have hne := hR1.ne hp
    walk_at "go"
    refine i_take (hR1.new hp) (by decide) (by decide) fun f2 y2 w2 g0 g1 ok2 => ?_
    obtain ⟨n, hn, hab⟩ := at3 (a := 0) (b := 9) (c := 9 + f) g0 g1
    refine i_ixL (by rw [put_ne (Ne.symm hne)]; exact put_same) hn ?_
    refine ⟨r, n, rfl, RowAt.at ok2, by omega, by omega, fun s G1 hs1 hs2 hR1 hK1 => ?_⟩
    exact q _ _ (thr_str ⟨by omega, hs2⟩) hR1 (((Kq.at.trans (Kq.new hp)).trans Kq.at).trans hK1)
  walk_at "go"
  refine ifD (fun c => ?_) fun c => ?_
  · walk_at "go"
    exact ⟨r, rfl, hR, fun s G1 hs hR1 hK1 => q _ _ (thr_str hs) hR1 hK1⟩
  walk_at "go"
  refine ifD (fun c => ?_) fun c => ?_
  · walk_at "go"
    exact ⟨r, kd, rfl, hR, fun i G1 hR1 hK1 => q _ _ thr_int hR1 hK1⟩
  walk_at "go"
  refine ifD (fun c => ?_) fun c => ?_
  · walk_at "go"
    exact q _ _ ⟨True.intro, fun _ e => nomatch e⟩ hR (Kq.refl _ _)
  walk_at "go"
  refine ifD (fun c => ?_) fun c => ?_
  · walk_at "go"
    refine i_take hR (by decide) (by decide) fun f y w f0 f1 ok => ?_
    walk_at "go"
    exact q _ _ ⟨True.intro, fun _ e => nomatch e⟩ (RowAt.at ok) Kq.at
  · walk_at "go"
    refine ⟨lenK rfl, fun a ha => ?_⟩
    walk_at "go"
    refine ⟨lenK rfl, fun b hb => ?_⟩
    walk_at "go"
    refine ⟨lenK rfl, ?_⟩
    walk_at "go"
    intro d hd
    walk_at "go"
    refine ⟨lenK rfl, ?_⟩
    walk_at "go"
    refine ⟨lenK rfl, fun l hl => ?_⟩
    have hRa := hR.new (o := .lst []) ha
    have hRb := hRa.new (o := .lst [.str (Str.ofString "a")]) hb
    have hRd := hRb.new (o := .dK []) hd
    have hne := hRd.ne hl
    walk_at "go"
    refine i_take (hRd.new hl) (by decide) (by decide) fun f y w f0 f1 ok => ?_
    have na : a ≠ r := Ne.symm (hR.ne ha)
    have nb : b ≠ r := Ne.symm (hRa.ne hb)
    have nd : d ≠ r := Ne.symm (hRb.ne hd)
    have K := ((((Kq.new (r := r) (o := .lst []) ha).trans (Kq.new (o := .lst [.str (Str.ofString "a")]) hb)).trans (Kq.new (o := .dK []) hd)).trans (Kq.new (o := L7 a b d) hl)).trans (Kq.at (o := RowO y w))
    have ga := Kq.at (r := r) (o := RowO y w) a _ (put_old (o := L7 a b d) (put_old (o := .dK []) (put_old (o := .lst [.str (Str.ofString "a")]) (put_same (G := G) (a := a) (o := .lst [])) hb) hd) hl) na
    have gb := Kq.at (r := r) (o := RowO y w) b _ (put_old (o := L7 a b d) (put_old (o := .dK []) (put_same (o := .lst [.str (Str.ofString "a")])) hd) hl) nb
    have gd := Kq.at (r := r) (o := RowO y w) d _ (put_old (o := L7 a b d) (put_same (o := .dK [])) hl) nd
    have gl := Kq.at (r := r) (o := RowO y w) l _ (put_same (G := put (put (put G a (.lst [])) b (.lst [.str (Str.ofString "a")])) d (.dK [])) (o := L7 a b d)) (Ne.symm hne)
    have gr := RowAt.at (G := put (put (put (put G a (.lst [])) b (.lst [.str (Str.ofString "a")])) d (.dK [])) l (L7 a b d)) (r := r) ok
    clear hRa hRb hRd hne
    show zIx (.ref l) (.int f) (put (put (put (put (put G a (.lst [])) b (.lst [.str (Str.ofString "a")])) d (.dK [])) l (L7 a b d)) r (RowO y w)) R
    generalize put (put (put (put (put G a (.lst [])) b (.lst [.str (Str.ofString "a")])) d (.dK [])) l (L7 a b d)) r (RowO y w) = G9 at K ga gb gd gl gr ⊢
    exact pick7 f0 f1 gl ga gb gd na nb nd fun x hx => q x _ hx gr K
theorem len_law {ws : List Z} {G : Hq} {R : K3} (h : sp_law ws G R) : ws.length = 1 := by obtain ⟨_, _, rfl, _⟩ := h; rfl
theorem ok_law {P : Program} {w : World} {K : PySem.W.Frag} {mg : Str → Option Value} {base : Heap} {a : Ad} (F : Fns K a) (T : Txt K mg a) : FnOk P w K mg base CX0 5 a.f_law a.d_law ["script"] (lowP K sp_law) := by
  have G_cell_at : FnOk P w K mg base CX0 1 a.f_cell_at a.d_cell_at ["script", "k"] (lowP K sp_cell_at) := ok_cell_at F T
  have G_stream : FnOk P w K mg base CX0 1 a.f_stream a.d_stream ["cell", "way"] (lowP K sp_stream) := ok_stream F T
  have G_thing : FnOk P w K mg base CX0 4 a.f_thing a.d_thing ["row"] (lowP K sp_thing) := ok_thing F T
  have G_p_is_moment : FnOk P w K mg base CX0 1 a.f_p_is_moment a.d_p_is_moment ["thing"] (lowP K sp_p_is_moment) := ok_p_is_moment F T
  have G_p_is_stretch : FnOk P w K mg base CX0 2 a.f_p_is_stretch a.d_p_is_stretch ["begin", "end"] (lowP K sp_p_is_stretch) := ok_p_is_stretch F T
  have G_right : FnOk P w K mg base CX0 3 a.f_right a.d_right ["things", "one"] (lowP K sp_right) := ok_right F T
  refine fn3 F.law sc_law (fun ws G R h => (by exact len_law h)) (fun cdv A outer s H E ws G R hr h => ?_)
  have hu : (A.deeper (PyProof.Rows.envOfC "law" (defScope s_law) s.heap.objs.size a.f_law cdv)).units + 66 < cLine := by have := hr.un; omega
  refine ⟨_, (z_cons (z_set (i := 1) sc_law.nd rfl (Or.inl rfl) (q_op o_mod (q_call G_cell_at (hr.mono (by decide)) rfl T.m_cell_at T.k_cell_at (b_cell_at F) (q_cons (q_var (pv 0)) (q_cons q_int q_nil se_Constant) se_Name) (he := se_Name) (hpl := (hp_cons se_Constant hp_nil))) q_int))
    (z_cons (z_for (pt := (.nm 2)) PassesOwn.never rfl (it_list (q_op o_add (q_lst (q_cons q_int q_nil se_Constant)) (q_slice x_sl (q_var (pv 0)) q_nopart (q_part q_int)))) (show QP _ _ (.nm 2) from (pg_name (i := 2) sc_law.nd rfl (Or.inl rfl)))
    (z_cons (z_set (i := 3) sc_law.nd rfl (Or.inr rfl) (q_call G_stream (hr.mono (by decide)) rfl T.m_stream T.k_stream (b_stream F) (q_cons (q_op o_fdiv (q_var (pv 2)) q_int) (q_cons (q_var (pv 1)) q_nil se_Name) se_BinOp) (he := se_BinOp) (hpl := (hp_cons se_Name hp_nil))))
    (z_cons (z_setLC (i := 4) sc_law.nd rfl rfl (N₀ := ["script", "way", "cell", "row", "things", "one"]) (so := defScope s_law) (N' := ["k", "row"]) (cap := [none, some 3]) (pt := (.nm 0)) rfl rfl rfl (by decide +kernel) rfl (it_rangeA1 rfl T.b_range (q_cons q_int q_nil se_Constant)) (fun _ _ _ _ => (show QP _ _ (.nm 0) from (pg_name (i := 0) (show List.Nodup (α := Str) ["k", "row"] from by decide +kernel) rfl (Or.inl rfl)))) (fun _ _ _ _ => ifs_nil) (fun _ _ _ _ => (q_call G_thing (hr.mono (by decide)) rfl T.m_thing T.k_thing (b_thing F) (q_cons (q_var (pv 1)) q_nil se_Name) (he := se_Name) (hpl := hp_nil))))
    (z_one (z_for (pt := (.nm 5)) PassesOwn.never rfl (it_list (q_var (pv 4))) (show QP _ _ (.nm 5) from (pg_name (i := 5) sc_law.nd rfl (Or.inl rfl)))
    (z_one (z_if (q_notT (q_val (q_call G_right (hr.mono (by decide)) rfl T.m_right T.k_right (b_right F) (q_cons (q_var (pv 4)) (q_cons (q_var (pv 5)) q_nil se_Name) se_Name) (he := se_Name) (hpl := (hp_cons se_Name hp_nil)))))
    (z_one (z_ret q_bl))
    z_nil)))))))
    (z_one (z_ret (q_andV (q_cmp o_is (q_call G_p_is_moment (hr.mono (by decide)) rfl T.m_p_is_moment T.k_p_is_moment (b_p_is_moment F) (q_cons q_bl q_nil se_Constant) (he := se_Constant) (hpl := hp_nil)) q_bl (nomark _)) (q_andV (q_cmp o_is (q_call G_p_is_stretch (hr.mono (by decide)) rfl T.m_p_is_stretch T.k_p_is_stretch (b_p_is_stretch F) (q_cons q_int (q_cons q_bl q_nil se_Constant) se_Constant) (he := se_Constant) (hpl := (hp_cons se_Constant hp_nil))) q_bl (nomark _)) (q_one (q_cmp o_is (q_call G_p_is_stretch (hr.mono (by decide)) rfl T.m_p_is_stretch T.k_p_is_stretch (b_p_is_stretch F) (q_cons q_bl (q_cons q_int q_nil se_Constant) se_Constant) (he := se_Constant) (hpl := (hp_cons se_Constant hp_nil))) q_bl (nomark _))))))))), ?_⟩
  obtain ⟨a, ns, rfl, hl, q⟩ := h
  walk_at "go"
  refine ⟨a, ns, 0, rfl, by decide, fun c0 => ?_⟩
  walk_at "go"
  refine i_I (show (0 : Int) < 2 by decide) ?_
  have hw : c0 % 2 = 0 ∨ c0 % 2 = 1 := by omega
  generalize c0 % 2 = way at hw ⊢
  walk_at "go"
  refine ⟨lenK rfl, fun l hl0 => ?_⟩
  walk_at "go"
  refine i_slC fun t ht => ?_
  have hc : (cutZ ns none (some 63)).length ≤ 63 := Nat.le_trans (cutZ_length _ _ _) hl
  refine i_addL (put_old put_same ht) put_same (sm1000 (by simp; omega)) fun o ho => ?_
  refine i_wkL put_same ?_
  have hall : ∀ x ∈ [Z.int 0] ++ (cutZ ns none (some 63)).map Z.int, ∃ i, x = Z.int i := fun x hx => by
    rcases List.mem_append.mp hx with h | h
    · exact ⟨_, List.mem_singleton.mp h⟩
    · obtain ⟨i, _, rfl⟩ := List.mem_map.mp h; exact ⟨i, rfl⟩
  generalize [Z.int 0] ++ (cutZ ns none (some 63)).map Z.int = cs at hall ⊢
  refine for_by (fun _ σ G' => ∃ v1 v2 v3 v4, σ = [some (.scr a ns), some (.int way), v1, v2, v3, v4] ∧ G' o = some (.lst cs)) ⟨_, _, _, _, rfl, put_same⟩ (fun i σ G' _ ⟨_, _, _, _, _, h⟩ => h) ?_ ?_
  · rintro i x σ G1 hx ⟨v1, v2, v3, v4, rfl, ho1⟩
    obtain ⟨c, rfl⟩ := hall x (List.mem_of_getElem? hx)
    refine ⟨_, rfl, ?_⟩
    walk_at "go"
    refine i_I ⟨by decide, by decide⟩ ?_
    walk_at "go"
    refine ⟨_, _, rfl, hw, fun r x w hr ok => ?_⟩
    have hor : o ≠ r := gne_none ho1 hr
    have ho2 : put G1 r (RowO x w) o = some (.lst cs) := put_old ho1 hr
    have hR2 : RowAt (put G1 r (RowO x w)) r := RowAt.at ok
    generalize put G1 r (RowO x w) = G2 at ho2 hR2 ⊢
    walk_at "go"
    refine ⟨by decide, by decide, fun D hD => ?_⟩
    have hDr : D ≠ r := Ne.symm (hR2.ne hD)
    refine lc_by (fun i ys G' => (∀ y ∈ ys, Thr r G' y) ∧ ys.length = i ∧ G' D = some (.lst ys) ∧ RowAt G' r ∧ Kq r G2 G') ?_ (fun _ _ _ _ _ => True.intro) ?_ ?_
    · exact ⟨fun _ h => (nomatch h), rfl, put_same, hR2.new hD, Kq.new hD⟩
    · rintro i y ys G3 hy ⟨hys, rfl, hD3, hR3, hK3⟩
      have hi : ys.length < 3 := (rng_get hy).1
      refine ⟨_, rfl, ?_⟩
      walk_at "go"
      refine ⟨r, rfl, hR3, fun z G4 hz hR4 hK4 => ?_⟩
      refine ⟨hK4 _ _ hD3 hDr, small1000 (by omega), ?_, by simp, put_same, ?_, ?_⟩
      · intro u hu
        rcases List.mem_append.mp hu with h | h
        · exact ((hys u h).kq hK4).putL
        · rw [List.mem_singleton.mp h]; exact hz.putL
      · obtain ⟨x', w', e, k⟩ := hR4
        exact ⟨x', w', by rw [put_ne (Ne.symm hDr)]; exact e, k⟩
      · intro b u e nb
        rw [put_ne (gne_none e hD)]
        exact hK4 b u (hK3 b u e nb) nb
    · rintro ys G3 ⟨hys, hlen, hD3, hR3, hK3⟩
      have ho3 := hK3 _ _ ho2 hor
      have hl3 : ys.length ≤ 900 := by rw [hlen, rng_length]; decide
      walk_at "go"
      refine i_wkL hD3 ?_
      refine for_by (fun _ σ G' => ∃ v, σ = [some (.scr a ns), some (.int way), some (.int c), some (.ref r), some (.ref D), v] ∧ Sm G3 G') ⟨_, rfl, Sm.refl _⟩ (fun i σ G' _ ⟨_, _, s⟩ => s _ _ hD3) ?_ ?_
      · rintro i y σ G4 hy ⟨v, rfl, s⟩
        refine ⟨_, rfl, ?_⟩
        walk_at "go"
        refine ⟨D, ys, y, rfl, s _ _ hD3, hl3, fun u hu => (hys u hu).1.sm s, (hys y (List.mem_of_getElem? hy)).1.sm s, fun G5 s5 => ?_⟩
        walk_at "go"
        refine ifNB (fun c => nomatch c) fun _ => ?_
        walk_at "go"
        exact s.trans s5
      · rintro σ G4 ⟨v, rfl, s⟩
        exact ⟨_, _, _, _, rfl, s _ _ ho3⟩
  · rintro σ G1 ⟨v1, v2, v3, v4, rfl, _⟩
    walk_at "go"
    refine ⟨_, rfl, True.intro, fun G2 s2 => ?_⟩
    walk_at "go"
    refine ifB (fun _ => ?_) fun c => absurd c (by decide)
    walk_at "go"
    refine ⟨_, _, rfl, True.intro, True.intro, fun G3 s3 => ?_⟩
    walk_at "go"
    refine ifB (fun _ => ?_) fun c => absurd c (by decide)
    walk_at "go"
    refine ⟨_, _, rfl, True.intro, True.intro, fun G4 s4 => ?_⟩
    walk_at "go"
    exact q _

theorem all_mk {l : PySem.W.OpenLaw} {w : World} {K : PySem.W.Frag} {h : Heap} {mg : Str → Option Value} {fa : Addr} (X : K.In h) (G : h.Ns mainGlobals mg) (hfa : mg "law" = some (.ref fa))
    {f_p_is_name : Addr} {od_p_is_name an_p_is_name : Option Addr} {sl_p_is_name : Array (Option Value)} {oc_p_is_name kV_p_is_name dc_p_is_name pm_p_is_name cd_p_is_name ct_p_is_name : Value}
    {f_p_is_moment : Addr} {od_p_is_moment an_p_is_moment : Option Addr} {sl_p_is_moment : Array (Option Value)} {oc_p_is_moment kV_p_is_moment dc_p_is_moment pm_p_is_moment cd_p_is_moment ct_p_is_moment : Value}
    {f_p_is_stretch : Addr} {od_p_is_stretch an_p_is_stretch : Option Addr} {sl_p_is_stretch : Array (Option Value)} {oc_p_is_stretch kV_p_is_stretch dc_p_is_stretch pm_p_is_stretch cd_p_is_stretch ct_p_is_stretch : Value}
    {f_cell_at : Addr} {od_cell_at an_cell_at : Option Addr} {sl_cell_at : Array (Option Value)} {oc_cell_at kV_cell_at dc_cell_at pm_cell_at cd_cell_at ct_cell_at : Value}
    {f_stream : Addr} {od_stream an_stream : Option Addr} {sl_stream : Array (Option Value)} {oc_stream kV_stream dc_stream pm_stream cd_stream ct_stream : Value}
    {f_take : Addr} {od_take an_take : Option Addr} {sl_take : Array (Option Value)} {oc_take kV_take dc_take pm_take cd_take ct_take : Value}
    {f_text : Addr} {od_text an_text : Option Addr} {sl_text : Array (Option Value)} {oc_text kV_text dc_text pm_text cd_text ct_text : Value}
    {f_spoilt : Addr} {od_spoilt an_spoilt : Option Addr} {sl_spoilt : Array (Option Value)} {oc_spoilt kV_spoilt dc_spoilt pm_spoilt cd_spoilt ct_spoilt : Value}
    {f_number : Addr} {od_number an_number : Option Addr} {sl_number : Array (Option Value)} {oc_number kV_number dc_number pm_number cd_number ct_number : Value}
    {f_thing : Addr} {od_thing an_thing : Option Addr} {sl_thing : Array (Option Value)} {oc_thing kV_thing dc_thing pm_thing cd_thing ct_thing : Value}
    {f_is_name : Addr} {od_is_name an_is_name : Option Addr} {sl_is_name : Array (Option Value)} {oc_is_name kV_is_name dc_is_name pm_is_name cd_is_name ct_is_name : Value}
    {f_moment : Addr} {od_moment an_moment : Option Addr} {sl_moment : Array (Option Value)} {oc_moment kV_moment dc_moment pm_moment cd_moment ct_moment : Value}
    {f_stretch : Addr} {od_stretch an_stretch : Option Addr} {sl_stretch : Array (Option Value)} {oc_stretch kV_stretch dc_stretch pm_stretch cd_stretch ct_stretch : Value}
    {f_truth : Addr} {od_truth an_truth : Option Addr} {sl_truth : Array (Option Value)} {oc_truth kV_truth dc_truth pm_truth cd_truth ct_truth : Value}
    {f_right : Addr} {od_right an_right : Option Addr} {sl_right : Array (Option Value)} {oc_right kV_right dc_right pm_right cd_right ct_right : Value}
    {f_law : Addr} {od_law an_law : Option Addr} {sl_law : Array (Option Value)} {oc_law kV_law dc_law pm_law cd_law ct_law : Value}
    {t_LONGEST_NAME : Tok}
    {t_LAST_MOMENT : Tok}
    (a_p_is_name : PySem.W.nsIn K mainGlobals "is_name" = some (some (.ref f_p_is_name))) (l_p_is_name : K.lookup f_p_is_name = some ⟨oc_p_is_name, od_p_is_name, .func (PySem.W.fnOf "is_name" "is_name" (defArgs s_p_is_name) (defBody s_p_is_name) (defScope s_p_is_name) .none kV_p_is_name dc_p_is_name pm_p_is_name an_p_is_name cd_p_is_name ct_p_is_name), sl_p_is_name⟩) (c_p_is_name : PySem.W.codeIn K cd_p_is_name "is_name" = true) (k_p_is_name : PySem.W.keepIn K (.ref f_p_is_name) = true)
    (a_p_is_moment : PySem.W.nsIn K mainGlobals "is_moment" = some (some (.ref f_p_is_moment))) (l_p_is_moment : K.lookup f_p_is_moment = some ⟨oc_p_is_moment, od_p_is_moment, .func (PySem.W.fnOf "is_moment" "is_moment" (defArgs s_p_is_moment) (defBody s_p_is_moment) (defScope s_p_is_moment) .none kV_p_is_moment dc_p_is_moment pm_p_is_moment an_p_is_moment cd_p_is_moment ct_p_is_moment), sl_p_is_moment⟩) (c_p_is_moment : PySem.W.codeIn K cd_p_is_moment "is_moment" = true) (k_p_is_moment : PySem.W.keepIn K (.ref f_p_is_moment) = true)
    (a_p_is_stretch : PySem.W.nsIn K mainGlobals "is_stretch" = some (some (.ref f_p_is_stretch))) (l_p_is_stretch : K.lookup f_p_is_stretch = some ⟨oc_p_is_stretch, od_p_is_stretch, .func (PySem.W.fnOf "is_stretch" "is_stretch" (defArgs s_p_is_stretch) (defBody s_p_is_stretch) (defScope s_p_is_stretch) .none kV_p_is_stretch dc_p_is_stretch pm_p_is_stretch an_p_is_stretch cd_p_is_stretch ct_p_is_stretch), sl_p_is_stretch⟩) (c_p_is_stretch : PySem.W.codeIn K cd_p_is_stretch "is_stretch" = true) (k_p_is_stretch : PySem.W.keepIn K (.ref f_p_is_stretch) = true)
    (a_cell_at : PySem.W.nsIn K mainGlobals "_law_cell_at" = some (some (.ref f_cell_at))) (l_cell_at : K.lookup f_cell_at = some ⟨oc_cell_at, od_cell_at, .func (PySem.W.fnOf "_law_cell_at" "_law_cell_at" (defArgs s_cell_at) (defBody s_cell_at) (defScope s_cell_at) .none kV_cell_at dc_cell_at pm_cell_at an_cell_at cd_cell_at ct_cell_at), sl_cell_at⟩) (c_cell_at : PySem.W.codeIn K cd_cell_at "_law_cell_at" = true) (k_cell_at : PySem.W.keepIn K (.ref f_cell_at) = true)
    (a_stream : PySem.W.nsIn K mainGlobals "_law_stream" = some (some (.ref f_stream))) (l_stream : K.lookup f_stream = some ⟨oc_stream, od_stream, .func (PySem.W.fnOf "_law_stream" "_law_stream" (defArgs s_stream) (defBody s_stream) (defScope s_stream) .none kV_stream dc_stream pm_stream an_stream cd_stream ct_stream), sl_stream⟩) (c_stream : PySem.W.codeIn K cd_stream "_law_stream" = true) (k_stream : PySem.W.keepIn K (.ref f_stream) = true)
    (a_take : PySem.W.nsIn K mainGlobals "_law_take" = some (some (.ref f_take))) (l_take : K.lookup f_take = some ⟨oc_take, od_take, .func (PySem.W.fnOf "_law_take" "_law_take" (defArgs s_take) (defBody s_take) (defScope s_take) .none kV_take dc_take pm_take an_take cd_take ct_take), sl_take⟩) (c_take : PySem.W.codeIn K cd_take "_law_take" = true) (k_take : PySem.W.keepIn K (.ref f_take) = true)
    (a_text : PySem.W.nsIn K mainGlobals "_law_text" = some (some (.ref f_text))) (l_text : K.lookup f_text = some ⟨oc_text, od_text, .func (PySem.W.fnOf "_law_text" "_law_text" (defArgs s_text) (defBody s_text) (defScope s_text) .none kV_text dc_text pm_text an_text cd_text ct_text), sl_text⟩) (c_text : PySem.W.codeIn K cd_text "_law_text" = true) (k_text : PySem.W.keepIn K (.ref f_text) = true)
    (a_spoilt : PySem.W.nsIn K mainGlobals "_law_spoilt" = some (some (.ref f_spoilt))) (l_spoilt : K.lookup f_spoilt = some ⟨oc_spoilt, od_spoilt, .func (PySem.W.fnOf "_law_spoilt" "_law_spoilt" (defArgs s_spoilt) (defBody s_spoilt) (defScope s_spoilt) .none kV_spoilt dc_spoilt pm_spoilt an_spoilt cd_spoilt ct_spoilt), sl_spoilt⟩) (c_spoilt : PySem.W.codeIn K cd_spoilt "_law_spoilt" = true) (k_spoilt : PySem.W.keepIn K (.ref f_spoilt) = true)
    (a_number : PySem.W.nsIn K mainGlobals "_law_number" = some (some (.ref f_number))) (l_number : K.lookup f_number = some ⟨oc_number, od_number, .func (PySem.W.fnOf "_law_number" "_law_number" (defArgs s_number) (defBody s_number) (defScope s_number) .none kV_number dc_number pm_number an_number cd_number ct_number), sl_number⟩) (c_number : PySem.W.codeIn K cd_number "_law_number" = true) (k_number : PySem.W.keepIn K (.ref f_number) = true)
    (a_thing : PySem.W.nsIn K mainGlobals "_law_thing" = some (some (.ref f_thing))) (l_thing : K.lookup f_thing = some ⟨oc_thing, od_thing, .func (PySem.W.fnOf "_law_thing" "_law_thing" (defArgs s_thing) (defBody s_thing) (defScope s_thing) .none kV_thing dc_thing pm_thing an_thing cd_thing ct_thing), sl_thing⟩) (c_thing : PySem.W.codeIn K cd_thing "_law_thing" = true) (k_thing : PySem.W.keepIn K (.ref f_thing) = true)
    (a_is_name : PySem.W.nsIn K mainGlobals "_law_is_name" = some (some (.ref f_is_name))) (l_is_name : K.lookup f_is_name = some ⟨oc_is_name, od_is_name, .func (PySem.W.fnOf "_law_is_name" "_law_is_name" (defArgs s_is_name) (defBody s_is_name) (defScope s_is_name) .none kV_is_name dc_is_name pm_is_name an_is_name cd_is_name ct_is_name), sl_is_name⟩) (c_is_name : PySem.W.codeIn K cd_is_name "_law_is_name" = true) (k_is_name : PySem.W.keepIn K (.ref f_is_name) = true)
    (a_moment : PySem.W.nsIn K mainGlobals "_law_moment" = some (some (.ref f_moment))) (l_moment : K.lookup f_moment = some ⟨oc_moment, od_moment, .func (PySem.W.fnOf "_law_moment" "_law_moment" (defArgs s_moment) (defBody s_moment) (defScope s_moment) .none kV_moment dc_moment pm_moment an_moment cd_moment ct_moment), sl_moment⟩) (c_moment : PySem.W.codeIn K cd_moment "_law_moment" = true) (k_moment : PySem.W.keepIn K (.ref f_moment) = true)
    (a_stretch : PySem.W.nsIn K mainGlobals "_law_stretch" = some (some (.ref f_stretch))) (l_stretch : K.lookup f_stretch = some ⟨oc_stretch, od_stretch, .func (PySem.W.fnOf "_law_stretch" "_law_stretch" (defArgs s_stretch) (defBody s_stretch) (defScope s_stretch) .none kV_stretch dc_stretch pm_stretch an_stretch cd_stretch ct_stretch), sl_stretch⟩) (c_stretch : PySem.W.codeIn K cd_stretch "_law_stretch" = true) (k_stretch : PySem.W.keepIn K (.ref f_stretch) = true)
    (a_truth : PySem.W.nsIn K mainGlobals "_law_truth" = some (some (.ref f_truth))) (l_truth : K.lookup f_truth = some ⟨oc_truth, od_truth, .func (PySem.W.fnOf "_law_truth" "_law_truth" (defArgs s_truth) (defBody s_truth) (defScope s_truth) .none kV_truth dc_truth pm_truth an_truth cd_truth ct_truth), sl_truth⟩) (c_truth : PySem.W.codeIn K cd_truth "_law_truth" = true) (k_truth : PySem.W.keepIn K (.ref f_truth) = true)
    (a_right : PySem.W.nsIn K mainGlobals "_law_right" = some (some (.ref f_right))) (l_right : K.lookup f_right = some ⟨oc_right, od_right, .func (PySem.W.fnOf "_law_right" "_law_right" (defArgs s_right) (defBody s_right) (defScope s_right) .none kV_right dc_right pm_right an_right cd_right ct_right), sl_right⟩) (c_right : PySem.W.codeIn K cd_right "_law_right" = true) (k_right : PySem.W.keepIn K (.ref f_right) = true)
    (a_law : PySem.W.nsIn K mainGlobals "law" = some (some (.ref f_law))) (l_law : K.lookup f_law = some ⟨oc_law, od_law, .func (PySem.W.fnOf "law" "law" (defArgs s_law) (defBody s_law) (defScope s_law) .none kV_law dc_law pm_law an_law cd_law ct_law), sl_law⟩) (c_law : PySem.W.codeIn K cd_law "law" = true) (k_law : PySem.W.keepIn K (.ref f_law) = true)
    (z_all : PySem.W.nsIn K mainGlobals "all" = some none)
    (z_isinstance : PySem.W.nsIn K mainGlobals "isinstance" = some none)
    (z_str : PySem.W.nsIn K mainGlobals "str" = some none)
    (z_len : PySem.W.nsIn K mainGlobals "len" = some none)
    (z_bool : PySem.W.nsIn K mainGlobals "bool" = some none)
    (z_int : PySem.W.nsIn K mainGlobals "int" = some none)
    (z_range : PySem.W.nsIn K mainGlobals "range" = some none)
    (v_LONGEST_NAME : PySem.W.nsIn K mainGlobals "LONGEST_NAME" = some (some (.int 8 t_LONGEST_NAME)))
    (v_LAST_MOMENT : PySem.W.nsIn K mainGlobals "LAST_MOMENT" = some (some (.int 1000000000000 t_LAST_MOMENT))) :
    ∃ fd : FuncData, (∀ (s : Shared) (v : Value), BindsTo s fd ⟨[v], []⟩ [("script", v)]) ∧ ∀ base : Heap, K.In base → base.Ns mainGlobals mg → FnOk l.prog w K mg base CX0 5 fa fd ["script"] (lowP K sp_law) := by
  have e := hfa.symm.trans (PySem.W.mg_of X G a_law)
  cases e
  let a : Ad := ⟨f_p_is_name, (PySem.W.fnOf "is_name" "is_name" (defArgs s_p_is_name) (defBody s_p_is_name) (defScope s_p_is_name) .none kV_p_is_name dc_p_is_name pm_p_is_name an_p_is_name cd_p_is_name ct_p_is_name), f_p_is_moment, (PySem.W.fnOf "is_moment" "is_moment" (defArgs s_p_is_moment) (defBody s_p_is_moment) (defScope s_p_is_moment) .none kV_p_is_moment dc_p_is_moment pm_p_is_moment an_p_is_moment cd_p_is_moment ct_p_is_moment), f_p_is_stretch, (PySem.W.fnOf "is_stretch" "is_stretch" (defArgs s_p_is_stretch) (defBody s_p_is_stretch) (defScope s_p_is_stretch) .none kV_p_is_stretch dc_p_is_stretch pm_p_is_stretch an_p_is_stretch cd_p_is_stretch ct_p_is_stretch), f_cell_at, (PySem.W.fnOf "_law_cell_at" "_law_cell_at" (defArgs s_cell_at) (defBody s_cell_at) (defScope s_cell_at) .none kV_cell_at dc_cell_at pm_cell_at an_cell_at cd_cell_at ct_cell_at), f_stream, (PySem.W.fnOf "_law_stream" "_law_stream" (defArgs s_stream) (defBody s_stream) (defScope s_stream) .none kV_stream dc_stream pm_stream an_stream cd_stream ct_stream), f_take, (PySem.W.fnOf "_law_take" "_law_take" (defArgs s_take) (defBody s_take) (defScope s_take) .none kV_take dc_take pm_take an_take cd_take ct_take), f_text, (PySem.W.fnOf "_law_text" "_law_text" (defArgs s_text) (defBody s_text) (defScope s_text) .none kV_text dc_text pm_text an_text cd_text ct_text), f_spoilt, (PySem.W.fnOf "_law_spoilt" "_law_spoilt" (defArgs s_spoilt) (defBody s_spoilt) (defScope s_spoilt) .none kV_spoilt dc_spoilt pm_spoilt an_spoilt cd_spoilt ct_spoilt), f_number, (PySem.W.fnOf "_law_number" "_law_number" (defArgs s_number) (defBody s_number) (defScope s_number) .none kV_number dc_number pm_number an_number cd_number ct_number), f_thing, (PySem.W.fnOf "_law_thing" "_law_thing" (defArgs s_thing) (defBody s_thing) (defScope s_thing) .none kV_thing dc_thing pm_thing an_thing cd_thing ct_thing), f_is_name, (PySem.W.fnOf "_law_is_name" "_law_is_name" (defArgs s_is_name) (defBody s_is_name) (defScope s_is_name) .none kV_is_name dc_is_name pm_is_name an_is_name cd_is_name ct_is_name), f_moment, (PySem.W.fnOf "_law_moment" "_law_moment" (defArgs s_moment) (defBody s_moment) (defScope s_moment) .none kV_moment dc_moment pm_moment an_moment cd_moment ct_moment), f_stretch, (PySem.W.fnOf "_law_stretch" "_law_stretch" (defArgs s_stretch) (defBody s_stretch) (defScope s_stretch) .none kV_stretch dc_stretch pm_stretch an_stretch cd_stretch ct_stretch), f_truth, (PySem.W.fnOf "_law_truth" "_law_truth" (defArgs s_truth) (defBody s_truth) (defScope s_truth) .none kV_truth dc_truth pm_truth an_truth cd_truth ct_truth), f_right, (PySem.W.fnOf "_law_right" "_law_right" (defArgs s_right) (defBody s_right) (defScope s_right) .none kV_right dc_right pm_right an_right cd_right ct_right), fa, (PySem.W.fnOf "law" "law" (defArgs s_law) (defBody s_law) (defScope s_law) .none kV_law dc_law pm_law an_law cd_law ct_law)⟩
  have F : Fns K a := ⟨fun_mk (st := s_p_is_name) l_p_is_name c_p_is_name k_p_is_name, fun_mk (st := s_p_is_moment) l_p_is_moment c_p_is_moment k_p_is_moment, fun_mk (st := s_p_is_stretch) l_p_is_stretch c_p_is_stretch k_p_is_stretch, fun_mk (st := s_cell_at) l_cell_at c_cell_at k_cell_at, fun_mk (st := s_stream) l_stream c_stream k_stream, fun_mk (st := s_take) l_take c_take k_take, fun_mk (st := s_text) l_text c_text k_text, fun_mk (st := s_spoilt) l_spoilt c_spoilt k_spoilt, fun_mk (st := s_number) l_number c_number k_number, fun_mk (st := s_thing) l_thing c_thing k_thing, fun_mk (st := s_is_name) l_is_name c_is_name k_is_name, fun_mk (st := s_moment) l_moment c_moment k_moment, fun_mk (st := s_stretch) l_stretch c_stretch k_stretch, fun_mk (st := s_truth) l_truth c_truth k_truth, fun_mk (st := s_right) l_right c_right k_right, fun_mk (st := s_law) l_law c_law k_law⟩
  have T : Txt K mg a := ⟨PySem.W.mg_of X G a_p_is_name, k_p_is_name, PySem.W.mg_of X G a_p_is_moment, k_p_is_moment, PySem.W.mg_of X G a_p_is_stretch, k_p_is_stretch, PySem.W.mg_of X G a_cell_at, k_cell_at, PySem.W.mg_of X G a_stream, k_stream, PySem.W.mg_of X G a_take, k_take, PySem.W.mg_of X G a_text, k_text, PySem.W.mg_of X G a_spoilt, k_spoilt, PySem.W.mg_of X G a_number, k_number, PySem.W.mg_of X G a_thing, k_thing, PySem.W.mg_of X G a_is_name, k_is_name, PySem.W.mg_of X G a_moment, k_moment, PySem.W.mg_of X G a_stretch, k_stretch, PySem.W.mg_of X G a_truth, k_truth, PySem.W.mg_of X G a_right, k_right, PySem.W.mg_of X G a_law, k_law, PySem.W.mg_none_of X G z_all, PySem.W.mg_none_of X G z_isinstance, PySem.W.mg_none_of X G z_str, PySem.W.mg_none_of X G z_len, PySem.W.mg_none_of X G z_bool, PySem.W.mg_none_of X G z_int, PySem.W.mg_none_of X G z_range, ⟨t_LONGEST_NAME, PySem.W.mg_of X G v_LONGEST_NAME⟩, ⟨t_LAST_MOMENT, PySem.W.mg_of X G v_LAST_MOMENT⟩⟩
  exact ⟨a.d_law, fun s v => .of_eq rfl, fun base _ _ => ok_law F T⟩
theorem walk {l : PySem.W.OpenLaw} {q : Program} {loose : List Str} {XP : (Str → Option Value) → Heap → Prop} {YP : World → Heap → Prop} {d : DefRec} {K : Params → PySem.W.Frag} (hn : l.most = some 63) (hdf : d.params.defaults = [])
    (hY : ∀ (w : World) (h : Heap), YP w h → (K w.params).In h)
    (F : ∀ (w : World) (mg : Str → Option Value) (fa : Addr) (h : Heap), (K w.params).In h → h.Ns mainGlobals mg → mg d.name = some (.ref fa) →
      ∃ fd : FuncData, (∀ (s : Shared) (u : Value), BindsTo s fd ⟨[u], []⟩ [("script", u)]) ∧ ∀ base : Heap, (K w.params).In base → base.Ns mainGlobals mg → FnOk l.prog w (K w.params) mg base CX0 5 fa fd ["script"] (lowP (K w.params) sp_law)) :
    PySem.W.WalkO q loose XP YP l.row.toRowW d [] (fun f vs => PySem.call f vs) :=
  L2.walk_of (n := 63) (k := 5) (x := "script") (CX := fun _ => CX0) (sp := fun w => lowP (K w.params) sp_law) hn (by decide) hdf ⟨rfl, by decide, by decide⟩ hY F (fun _ _ a ns hl hO hS => law_start a ns hl (Fz.of hO hS)) fun _ _ _ _ _ z => z
end Lw
open PySem PySem.W PyProof.Rows
set_option maxRecDepth 100000 in
set_option maxHeartbeats 0 in
theorem PySem.Challenge.cw_twotimes_k01_names_moments_stretches_holds : PySem.Challenge.rw_twotimes_k01_names_moments_stretches.Holds := by
  w_on; o_law; k_head; (case hw => w_witness2)
  k_fill
  refine Lw.walk (l := PySem.Challenge.rw_twotimes_k01_names_moments_stretches) rfl rfl (fun w h Y => PySem.W.kIn_of Y) ?F
  case F =>
    intro w mg fa h KX G hmg
    refine' Lw.all_mk KX G hmg ?a_p_is_name ?l_p_is_name ?c_p_is_name ?k_p_is_name ?a_p_is_moment ?l_p_is_moment ?c_p_is_moment ?k_p_is_moment ?a_p_is_stretch ?l_p_is_stretch ?c_p_is_stretch ?k_p_is_stretch ?a_cell_at ?l_cell_at ?c_cell_at ?k_cell_at ?a_stream ?l_stream ?c_stream ?k_stream ?a_take ?l_take ?c_take ?k_take ?a_text ?l_text ?c_text ?k_text ?a_spoilt ?l_spoilt ?c_spoilt ?k_spoilt ?a_number ?l_number ?c_number ?k_number ?a_thing ?l_thing ?c_thing ?k_thing ?a_is_name ?l_is_name ?c_is_name ?k_is_name ?a_moment ?l_moment ?c_moment ?k_moment ?a_stretch ?l_stretch ?c_stretch ?k_stretch ?a_truth ?l_truth ?c_truth ?k_truth ?a_right ?l_right ?c_right ?k_right ?a_law ?l_law ?c_law ?k_law ?z_all ?z_isinstance ?z_str ?z_len ?z_bool ?z_int ?z_range ?v_LONGEST_NAME ?v_LAST_MOMENT
    (case a_p_is_name => k_is)
    (case l_p_is_name => k_is)
    (case c_p_is_name => k_is)
    (case k_p_is_name => k_is)
    (case a_p_is_moment => k_is)
    (case l_p_is_moment => k_is)
    (case c_p_is_moment => k_is)
    (case k_p_is_moment => k_is)
    (case a_p_is_stretch => k_is)
    (case l_p_is_stretch => k_is)
    (case c_p_is_stretch => k_is)
    (case k_p_is_stretch => k_is)
    (case a_cell_at => k_is)
    (case l_cell_at => k_is)
    (case c_cell_at => k_is)
    (case k_cell_at => k_is)
    (case a_stream => k_is)
    (case l_stream => k_is)
    (case c_stream => k_is)
    (case k_stream => k_is)
    (case a_take => k_is)
    (case l_take => k_is)
    (case c_take => k_is)
    (case k_take => k_is)
    (case a_text => k_is)
    (case l_text => k_is)
    (case c_text => k_is)
    (case k_text => k_is)
    (case a_spoilt => k_is)
    (case l_spoilt => k_is)
    (case c_spoilt => k_is)
    (case k_spoilt => k_is)
    (case a_number => k_is)
    (case l_number => k_is)
    (case c_number => k_is)
    (case k_number => k_is)
    (case a_thing => k_is)
    (case l_thing => k_is)
    (case c_thing => k_is)
    (case k_thing => k_is)
    (case a_is_name => k_is)
    (case l_is_name => k_is)
    (case c_is_name => k_is)
    (case k_is_name => k_is)
    (case a_moment => k_is)
    (case l_moment => k_is)
    (case c_moment => k_is)
    (case k_moment => k_is)
    (case a_stretch => k_is)
    (case l_stretch => k_is)
    (case c_stretch => k_is)
    (case k_stretch => k_is)
    (case a_truth => k_is)
    (case l_truth => k_is)
    (case c_truth => k_is)
    (case k_truth => k_is)
    (case a_right => k_is)
    (case l_right => k_is)
    (case c_right => k_is)
    (case k_right => k_is)
    (case a_law => k_is)
    (case l_law => k_is)
    (case c_law => k_is)
    (case k_law => k_is)
    (case z_all => k_is)
    (case z_isinstance => k_is)
    (case z_str => k_is)
    (case z_len => k_is)
    (case z_bool => k_is)
    (case z_int => k_is)
    (case z_range => k_is)
    (case v_LONGEST_NAME => k_is)
    (case v_LAST_MOMENT => k_is)

