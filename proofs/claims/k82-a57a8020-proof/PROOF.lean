import PyProof.Rows.All
import Wide.All
import OpenK.AllK
import Wide.FinOn
import Lean
import PyProof.EqAt
import PyProof.EqKinds
import PyProof.TupleCall
import PyProof.CompFree
import PyProof.P3In
import PyProof.RaisesMany
import PyProof.StationsW
import PyProof.ExcClass3
import PyProof.ExcBaseAll.ValueError
import PyProof.RulesTry
import PyProof.RulesAs
import PyProof.NsDelKeeps
import KE.KTryMore
import PyProof.ExcArgs
import KE.RegKIsAll
import PyProof.Rows.EqDataRows
import KE.KIntText
import KE.KDictOf
import PyProof.StrBlockH
import KE.KWords
import PyProof.CallStr
import PyProof.StrLawsTight
import PyProof.StrLawsChain
import PySem.Challenge.RW_twotimes_k82_no_lines
set_option Elab.async false
set_option linter.all false
set_option maxRecDepth 100000
namespace L2
open PySem PySem.Spec PyProof.Rows
abbrev Key := Sum Int Str
def keyIs : Key → Value → Bool
  | .inl k, v => Value.isInt k v
  | .inr x, v => Value.isStrOf x v
def keyH (w : World) : Key → Int
  | .inl k => hashInt k
  | .inr x => hashStr w x
theorem keyIs_shape : ∀ {k : Key} {v : Value}, keyIs k v = true → (∃ i t, k = Sum.inl i ∧ v = Value.int i t) ∨ (∃ x t, k = Sum.inr x ∧ v = Value.str x t)
  | .inl i, v, h => by
    obtain ⟨t, e⟩ := Value.isInt_shape (k := i) (v := v) h
    exact .inl ⟨i, t, rfl, e⟩
  | .inr x, v, h => by
    obtain ⟨t, e⟩ := Value.isStrOf_shape (x := x) (v := v) h
    exact .inr ⟨x, t, rfl, e⟩
theorem keyIs_int (i : Int) (t : Tok) : keyIs (.inl i) (.int i t) = true := by simp [keyIs, Value.isInt]
theorem keyIs_str (x : Str) (t : Tok) : keyIs (.inr x) (.str x t) = true := by simp [keyIs, Value.isStrOf]
theorem key_ll (a b : Int) : decide ((Sum.inl a : Key) = Sum.inl b) = (a == b) := by
  by_cases e : a = b
  · subst e; simp
  · have h : ¬ (Sum.inl a : Key) = Sum.inl b := fun q => e (Sum.inl.inj q)
    rw [decide_eq_false h]
    exact (beq_eq_false_iff_ne.mpr e).symm
theorem key_rr (a b : Str) : decide ((Sum.inr a : Key) = Sum.inr b) = decide (a = b) := by
  by_cases e : a = b
  · subst e; simp
  · have h : ¬ (Sum.inr a : Key) = Sum.inr b := fun q => e (Sum.inr.inj q)
    rw [decide_eq_false h, decide_eq_false e]
theorem key_lr (a : Int) (b : Str) : decide ((Sum.inl a : Key) = Sum.inr b) = false := decide_eq_false (fun q => nomatch q)
theorem key_rl (a : Str) (b : Int) : decide ((Sum.inr a : Key) = Sum.inl b) = false := decide_eq_false (fun q => nomatch q)
def mixKind (prog : Program) (w : World) : PySem.KeyKind prog w Key where
  is := keyIs
  hash := keyH w
  inj := fun v a b ha hb => by
    rcases keyIs_shape ha with ⟨i, t, rfl, rfl⟩ | ⟨x, t, rfl, rfl⟩
    · rcases keyIs_shape hb with ⟨j, u, rfl, e⟩ | ⟨y, u, rfl, e⟩
      · injection e with e1 _; rw [e1]
      · exact nomatch e
    · rcases keyIs_shape hb with ⟨j, u, rfl, e⟩ | ⟨y, u, rfl, e⟩
      · exact nomatch e
      · injection e with e1 _; rw [e1]
  byValue := fun k v h => by
    rcases keyIs_shape h with ⟨i, t, rfl, rfl⟩ | ⟨x, t, rfl, rfl⟩ <;> rfl
  pyHash := fun hv h => by
    rcases keyIs_shape hv with ⟨i, t, rfl, rfl⟩ | ⟨x, t, rfl, rfl⟩
    · exact wpAny_pyHash_int h
    · exact wpAny_pyHash_str h
  eqBool := fun hu hv h => by
    rcases keyIs_shape hu with ⟨i, t, rfl, rfl⟩ | ⟨x, t, rfl, rfl⟩
    · rcases keyIs_shape hv with ⟨j, u, rfl, rfl⟩ | ⟨y, u, rfl, rfl⟩
      · rw [key_ll] at h; exact wpAny_eqBool_int h
      · rw [key_lr] at h; exact SeqAt.EqAt.int_str i t y u _ _ _ _ h
    · rcases keyIs_shape hv with ⟨j, u, rfl, rfl⟩ | ⟨y, u, rfl, rfl⟩
      · rw [key_rl] at h; exact SeqAt.EqAt.str_int x t j u _ _ _ _ h
      · rw [key_rr] at h; exact wpAny_eqBool_str h
  «strs» := fun k x t v h => by
    rcases keyIs_shape h with ⟨i, u, rfl, e⟩ | ⟨y, u, rfl, e⟩
    · exact nomatch e
    · injection e with e1 _
      subst e1
      cases v <;> rfl
theorem mixKind_int (prog : Program) (w : World) (i : Int) (t : Tok) : (mixKind prog w).is (.inl i) (.int i t) = true := keyIs_int i t
theorem mixKind_str (prog : Program) (w : World) (x : Str) (t : Tok) : (mixKind prog w).is (.inr x) (.str x t) = true := keyIs_str x t
end L2
namespace L2
open PySem PySem.Spec PyProof.Rows
inductive V where
  | non | bl (b : Bool) | int (i : Int) | str (x : Str) | byt (b : Array UInt8) | flt (b : UInt64) | ref (a : Addr) | ty (n : String)
  deriving DecidableEq
def RelV : V → Value → Prop
  | .non, u => u = Value.none
  | .bl b, u => u = Value.bool b
  | .int i, u => ∃ t, u = Value.int i t
  | .str x, u => ∃ t, u = Value.str x t
  | .byt b, u => ∃ t, u = Value.bytes b t
  | .flt b, u => ∃ t, u = Value.float b t
  | .ref a, u => u = Value.ref a
  | .ty n, u => u = Value.type n
abbrev Vals : List V → List Value → Prop := Paired RelV
theorem Vals.length {xs : List V} {us : List Value} (r : Vals xs us) : xs.length = us.length := Paired.length r
theorem Vals.get : ∀ {xs : List V} {us : List Value} {i : Nat} {x : V}, Vals xs us → xs[i]? = some x → ∃ u, us[i]? = some u ∧ RelV x u
  | _, _, _, _, .nil, e => by simp at e
  | _, _, 0, _, .cons r _, e => by simp at e; subst e; exact ⟨_, rfl, r⟩
  | _, _, i + 1, x, .cons _ t, e => by
    obtain ⟨u, h1, h2⟩ := Vals.get (i := i) (x := x) t (by simpa using e)
    exact ⟨u, by simpa using h1, h2⟩
theorem Vals.set {x : V} {u : Value} (r : RelV x u) : ∀ {xs : List V} {us : List Value} (i : Nat), Vals xs us → Vals (xs.set i x) (us.set i u)
  | _, _, _, .nil => .nil
  | _, _, 0, .cons _ t => .cons r t
  | _, _, i + 1, .cons q t => .cons q (Vals.set r i t)
theorem Vals.append : ∀ {xs ys : List V} {us ws : List Value}, Vals xs us → Vals ys ws → Vals (xs ++ ys) (us ++ ws)
  | _, _, _, _, .nil, s => s
  | _, _, _, _, .cons r t, s => .cons r (Vals.append t s)
theorem Vals.take : ∀ {xs : List V} {us : List Value} (n : Nat), Vals xs us → Vals (xs.take n) (us.take n)
  | _, _, 0, _ => .nil
  | _, _, _ + 1, .nil => .nil
  | _, _, n + 1, .cons r t => .cons r (Vals.take n t)
theorem Vals.drop : ∀ {xs : List V} {us : List Value} (n : Nat), Vals xs us → Vals (xs.drop n) (us.drop n)
  | _, _, 0, r => r
  | _, _, _ + 1, .nil => .nil
  | _, _, n + 1, .cons _ t => Vals.drop n t
def RelO : Option V → Option Value → Prop
  | some v, some u => RelV v u
  | none, none => True
  | _, _ => False
def KV {κ : Type} : List (κ × V) → List (κ × Value) → Prop := Paired fun (p : κ × V) (q : κ × Value) => p.1 = q.1 ∧ RelV p.2 q.2
def kV : Key → V
  | .inl i => .int i
  | .inr x => .str x
inductive HO where
  /-- a list -/
  | lst (xs : List V)
  /-- a tuple (never changes) -/
  | tup (xs : List V)
  /-- a dict whose keys are ints and texts; one whose keys are tuples of ints and texts (the empty one is both) -/
  | dK (kvs : List (Key × V)) | dT (kvs : List (List Key × V))
  /-- a set of ints: its members, its size -/
  | set (S : Int → Bool) (n : Nat)
  /-- an instance of the class at C, its dict at dx, its attributes -/
  | ins (C dx : Addr) (fs : List (Str × V))
  /-- the dict of the instance at x -/
  | own (x : Addr)
  /-- the dict of an exception -/
  | xd (fs : List (Str × V))
  /-- a bound method, f of x -/
  | met (f x : Addr)
  /-- a range object lo, lo + 1, .. below hi -/
  | rng (lo hi : Int)
  /-- a thing that is known to the object (the script; a dict while a loop walks it): read, never written while it is so -/
  | frz (o : Obj) (u : HO)
  /-- a code object's table -/
  | tbl (ps : Array Value)
  /-- any other thing, by what is true of its one object (a def of one's own: SetO a S n := HO.ext fun h => ..) -/
  | ext (φ : Heap → Prop)
abbrev Hp := Addr → Option HO
def upd (H : Hp) (a : Addr) (o : HO) : Hp := fun b => if b = a then some o else H b
theorem upd_same {H : Hp} {a : Addr} {o : HO} : upd H a o a = some o := by unfold upd; rw [if_pos rfl]
theorem upd_ne {H : Hp} {a b : Addr} {o : HO} (h : b ≠ a) : upd H a o b = H b := by unfold upd; rw [if_neg h]
theorem ne_of_none {H : Hp} {a b : Addr} {o : HO} (h : H a = some o) (h' : H b = none) : a ≠ b := by
  intro e; subst e; rw [h] at h'; cases h'
section
variable (P : Program) (w : World)
def ObjOk (H : Hp) (h : Heap) (a : Addr) : HO → Prop
  | .lst xs => xs.length ≤ sizeLine ∧ ∃ (its : List Value) (n : Nat), Vals xs its ∧ h.get? a = some { cls := .type "list", data := .seq its.toArray n }
  | .tup xs => xs.length ≤ sizeLine ∧ ∃ its : List Value, Vals xs its ∧ IsTup h a its.toArray
  | .dK kvs => kvs.length ≤ sizeLine ∧ (a == sysModules) = false ∧ ∃ vs, KV kvs vs ∧ h.DictOf (mixKind P w) a vs
  | .dT kvs => kvs.length ≤ sizeLine ∧ (a == sysModules) = false ∧ ∃ xs : List (List Key × Addr × Value),
      Paired (fun (p : List Key × V) (q : List Key × Addr × Value) => p.1 = q.1 ∧ H q.2.1 = some (.tup (p.1.map kV)) ∧ RelV p.2 q.2.2) kvs xs ∧
      ∃ o es ep, h.get? a = some o ∧ o.ExactDict ∧ o.data = .dict es ep ∧ es.toList = xs.map (entryOfKey (tupleKind (mixKind P w))) ∧ (xs.map (·.1)).Nodup
  | .set S n => h.SetOf (intKind P w) a S n
  | .ins C dx fs => H dx = some (.own a) ∧ fs.length ≤ 1000 ∧ dx ≠ a ∧ h.get? a = some (PySem.W.instObj C dx) ∧
      ∃ mA, h.Ns1 dx mA ∧ (∀ f, RelO (fs.lookup f) (mA f)) ∧ PySem.Within mA (fs.map (·.1))
  | .own _ => ∃ o, h.get? a = some o
  | .xd fs => ∃ mA, h.Ns1 a mA ∧ ∀ f, RelO (fs.lookup f) (mA f)
  | .rng lo hi => ∃ t u v, h.get? a = some { cls := .type "range", data := .fields #[.int lo t, .int hi u, .int 1 v] }
  | .frz o u => h.get? a = some o ∧ ObjOk H h a u
  | .tbl ps => h.get? a = some { cls := .none, data := .fields ps }
  | .met f x => h.get? a = some (PySem.W.methodObj (.ref f) (.ref x))
  | .ext φ => φ h ∧ (∃ o, h.get? a = some o) ∧ ∀ h1 h2 : Heap, φ h1 → (∀ o, h1.get? a = some o → h2.get? a = some o) → φ h2
def HOk (H : Hp) (h : Heap) : Prop := ∀ a o, H a = some o → ObjOk P w H h a o
end
section
variable {P : Program} {w : World} {H H' : Hp} {h h' : Heap} {a : Addr} {o : HO}
theorem ObjOk.lt (x : ObjOk P w H h a o) : a < h.objs.size := by
  cases o with
  | lst xs => obtain ⟨_, _, _, _, e⟩ := x; exact Heap.lt_size e
  | tup xs => obtain ⟨_, _, _, p⟩ := x; exact p.lt
  | dK kvs => obtain ⟨_, _, _, _, o, _, _, e, _⟩ := x; exact Heap.lt_size e
  | dT kvs => obtain ⟨_, _, _, _, o, _, _, e, _⟩ := x; exact Heap.lt_size e
  | set S n => obtain ⟨o, _, _, _, e, _⟩ := x; exact Heap.lt_size e
  | ins C dx fs => obtain ⟨_, _, _, e, _⟩ := x; exact Heap.lt_size e
  | own y => obtain ⟨_, e⟩ := x; exact Heap.lt_size e
  | xd fs => obtain ⟨_, ⟨_, _, _, e, _⟩, _⟩ := x; exact Heap.lt_size e
  | rng lo hi => obtain ⟨_, _, _, e⟩ := x; exact Heap.lt_size e
  | frz ob u => obtain ⟨e, _⟩ := x; exact Heap.lt_size e
  | tbl ps => exact Heap.lt_size (show h.get? a = some _ from x)
  | met f y => exact Heap.lt_size (show h.get? a = some _ from x)
  | ext φ => obtain ⟨_, ⟨_, e⟩, _⟩ := x; exact Heap.lt_size e
theorem Paired.mapP {α β : Type} {F G : α → β → Prop} : ∀ {l₁ : List α} {l₂ : List β}, Paired F l₁ l₂ → (∀ a b, F a b → G a b) → Paired G l₁ l₂
  | _, _, .nil, _ => .nil
  | _, _, .cons r t, f => .cons (f _ _ r) (Paired.mapP t f)
theorem ObjOk.stay (x : ObjOk P w H h a o) (k : ∀ b u, (b = a ∨ H b = some (.own a)) → h.get? b = some u → h'.get? b = some u)
    (ho : ∀ b, H b = some (.own a) → H' b = some (.own a)) (ht : ∀ b xs, H b = some (.tup xs) → H' b = some (.tup xs)) : ObjOk P w H' h' a o := by
  induction o with
  | lst xs => obtain ⟨z, its, n, r, e⟩ := x; exact ⟨z, its, n, r, k _ _ (.inl rfl) e⟩
  | tup xs => obtain ⟨z, its, r, ob, e, c⟩ := x; exact ⟨z, its, r, ob, k _ _ (.inl rfl) e, c⟩
  | dK kvs => obtain ⟨z, y, vs, r, ob, es, ep, e, c⟩ := x; exact ⟨z, y, vs, r, ob, es, ep, k _ _ (.inl rfl) e, c⟩
  | dT kvs =>
    obtain ⟨z, y, xs, r, ob, es, ep, e, c⟩ := x
    exact ⟨z, y, xs, Paired.mapP r fun p q z => ⟨z.1, ht _ _ z.2.1, z.2.2⟩, ob, es, ep, k _ _ (.inl rfl) e, c⟩
  | set S n => obtain ⟨ob, es, ep, t, e, c⟩ := x; exact ⟨ob, es, ep, t, k _ _ (.inl rfl) e, c⟩
  | ins C dx fs =>
    obtain ⟨d, z, ne, e, mA, ⟨od, es, ep, e2, c⟩, r⟩ := x
    exact ⟨ho _ d, z, ne, k _ _ (.inl rfl) e, mA, ⟨od, es, ep, k _ _ (.inr d) e2, c⟩, r⟩
  | own y => obtain ⟨ob, e⟩ := x; exact ⟨ob, k _ _ (.inl rfl) e⟩
  | xd fs => obtain ⟨mA, ⟨od, es, ep, e, c⟩, r⟩ := x; exact ⟨mA, ⟨od, es, ep, k _ _ (.inl rfl) e, c⟩, r⟩
  | rng lo hi => obtain ⟨t, u, v, e⟩ := x; exact ⟨t, u, v, k _ _ (.inl rfl) e⟩
  | frz ob u ih => obtain ⟨e, q⟩ := x; exact ⟨k _ _ (.inl rfl) e, ih q⟩
  | tbl ps =>
    have e : h.get? a = some { cls := .none, data := .fields ps } := x
    show h'.get? a = some { cls := .none, data := .fields ps }
    exact k a _ (.inl rfl) e
  | met f y =>
    have e : h.get? a = some (PySem.W.methodObj (.ref f) (.ref y)) := x
    show h'.get? a = some (PySem.W.methodObj (.ref f) (.ref y))
    exact k a _ (.inl rfl) e
  | ext φ => obtain ⟨p, ⟨o, e⟩, st⟩ := x; exact ⟨st _ _ p fun o q => k _ _ (.inl rfl) q, ⟨o, k _ _ (.inl rfl) e⟩, st⟩
theorem HOk.lt (x : HOk P w H h) (e : H a = some o) : a < h.objs.size := (x a o e).lt
theorem HOk.fresh (x : HOk P w H h) (e : h.objs.size ≤ a) : H a = none := by
  cases q : H a with
  | none => rfl
  | some u => exact absurd (Nat.lt_of_lt_of_le (x.lt q) e) (Nat.lt_irrefl _)
theorem HOk.kept (x : HOk P w H h) (k : ∀ b u, h.get? b = some u → h'.get? b = some u) : HOk P w H h' := fun a o e =>
  (x a o e).stay (fun b u _ q => k b u q) (fun _ q => q) fun _ _ q => q
theorem HOk.laid (x : HOk P w H h) (k : ∀ b u, h.get? b = some u → h'.get? b = some u) (hp : h.objs.size ≤ a) (new : ObjOk P w (upd H a o) h' a o) : HOk P w (upd H a o) h' := fun b u e => by
  have hn := x.fresh hp
  by_cases hb : b = a
  · subst hb; rw [upd_same] at e; cases e; exact new
  · rw [upd_ne hb] at e
    exact (x b u e).stay (fun c v _ q => k c v q) (fun c q => by rw [upd_ne (ne_of_none q hn)]; exact q) fun c xs q => by rw [upd_ne (ne_of_none q hn)]; exact q
end
def Rd (H : Hp) (a : Addr) (u : HO) : Prop := H a = some u ∨ ∃ o, H a = some (.frz o u)
theorem Rd.of {H : Hp} {a : Addr} {u : HO} (h : H a = some u) : Rd H a u := .inl h
theorem Rd.ok {P : Program} {w : World} {H : Hp} {h : Heap} {a : Addr} {u : HO} (r : Rd H a u) (x : HOk P w H h) : ObjOk P w H h a u := by
  rcases r with r | ⟨o, r⟩
  · exact x a u r
  · obtain ⟨_, q⟩ := x a _ r
    exact q
def Mut : Option HO → Prop
  | some (.lst _) => True
  | some (.dK _) => True
  | some (.dT _) => True
  | some (.set _ _) => True
  | some (.ins _ _ _) => True
  | some (.ext _) => True
  | _ => False
section
variable {P : Program} {w : World} {H : Hp} {h h' : Heap} {x e : Addr} {o' : HO}
theorem HOk.write (ok : HOk P w H h) (mu : Mut (H x)) (he : e = x ∨ H e = some (.own x)) (k : ∀ b u, b ≠ e → h.get? b = some u → h'.get? b = some u) (heo : ∃ u, h'.get? e = some u)
    (new : ObjOk P w (upd H x o') h' x o') : HOk P w (upd H x o') h' := fun b u q => by
  have nown : ∀ c y, H c = some (.own y) → c ≠ x := fun c y r z => by subst z; rw [r] at mu; exact mu
  have ntup : ∀ c xs, H c = some (.tup xs) → c ≠ x := fun c xs r z => by subst z; rw [r] at mu; exact mu
  by_cases hb : b = x
  · subst hb; rw [upd_same] at q; cases q; exact new
  · rw [upd_ne hb] at q
    by_cases hbe : b = e
    · have q' : H b = some (.own x) := by
        rcases he with z | z
        · exact absurd (hbe.trans z) hb
        · rw [hbe]; exact z
      rw [q] at q'; cases q'
      obtain ⟨v, hv⟩ := heo
      exact ⟨v, by rw [hbe]; exact hv⟩
    · refine (ok b u q).stay (fun c v hc r => k c v ?_ r) (fun c r => by rw [upd_ne (nown c b r)]; exact r) fun c xs r => by rw [upd_ne (ntup c xs r)]; exact r
      rcases hc with rfl | hc
      · exact hbe
      · rintro rfl
        rcases he with z | z
        · exact nown c b hc z
        · rw [hc] at z; cases z; exact hb rfl
end
structure Un (fs ex : List Addr) (H H' : Hp) (h h' : Heap) : Prop where
  keep : ∀ b o, h.get? b = some o → H b = none → b ∉ fs → b ∉ ex → h'.get? b = some o
  slot : ∀ b o, h.get? b = some o → H b = none → b ∈ fs → b ∉ ex → ∃ sl, h'.get? b = some { o with slots := sl }
  free : ∀ b o, h.get? b = some o → H b = none → b ∉ ex → H' b = none
  there : ∀ b o, h.get? b = some o → b ∉ ex → ∃ o', h'.get? b = some o'
  tups : ∀ b xs, H b = some (.tup xs) → H' b = some (.tup xs)
  frzs : ∀ b o u, H b = some (.frz o u) → H' b = some (.frz o u)
  tbls : ∀ b ps, H b = some (.tbl ps) → ∃ more, H' b = some (.tbl (ps ++ more))
section
variable {fs fs' ex ex' : List Addr} {H H1 H2 : Hp} {h h1 h2 h' : Heap} {a x e : Addr} {o : HO}
theorem Un.any (u : Un fs ex H H1 h h1) {b : Addr} {ob : Obj} (q : h.get? b = some ob) (n : H b = none) (hx : b ∉ ex) : ∃ sl, h1.get? b = some { ob with slots := sl } := by
  by_cases hb : b ∈ fs
  · exact u.slot b ob q n hb hx
  · exact ⟨ob.slots, u.keep b ob q n hb hx⟩
theorem Un.trans (a : Un fs ex H H1 h h1) (b : Un fs ex H1 H2 h1 h2) : Un fs ex H H2 h h2 where
  keep := fun c ob q n hc hx => b.keep c ob (a.keep c ob q n hc hx) (a.free c ob q n hx) hc hx
  slot := fun c ob q n hc hx => by
    obtain ⟨sl, e1⟩ := a.slot c ob q n hc hx
    obtain ⟨sl', e2⟩ := b.slot c _ e1 (a.free c ob q n hx) hc hx
    exact ⟨sl', e2⟩
  free := fun c ob q n hx => by
    obtain ⟨o', e1⟩ := a.there c ob q hx
    exact b.free c o' e1 (a.free c ob q n hx) hx
  there := fun c ob q hx => by
    obtain ⟨o', e1⟩ := a.there c ob q hx
    exact b.there c o' e1 hx
  tups := fun c xs q => b.tups c xs (a.tups c xs q)
  frzs := fun c ob xs q => b.frzs c ob xs (a.frzs c ob xs q)
  tbls := fun c ps q => by
    obtain ⟨m1, e1⟩ := a.tbls c ps q
    obtain ⟨m2, e2⟩ := b.tbls c _ e1
    exact ⟨m1 ++ m2, by rw [e2, Array.append_assoc]⟩
theorem Un.kept (k : ∀ b u, h.get? b = some u → h'.get? b = some u) : Un fs ex H H h h' :=
  ⟨fun b ob q _ _ _ => k b ob q, fun b ob q _ _ _ => ⟨ob.slots, k b ob q⟩, fun _ _ _ n _ => n, fun b ob q _ => ⟨ob, k b ob q⟩, fun _ _ q => q, fun _ _ _ q => q, fun _ ps q => ⟨#[], by rw [q]; simp⟩⟩
theorem Un.refl : Un fs ex H H h h := Un.kept fun _ _ q => q
theorem Un.laid (k : ∀ b u, h.get? b = some u → h'.get? b = some u) (hp : h.objs.size ≤ a) (hn : H a = none) : Un fs ex H (upd H a o) h h' where
  keep := fun b u q _ _ _ => k b u q
  slot := fun b u q _ _ _ => ⟨u.slots, k b u q⟩
  free := fun b u q n _ => by rw [upd_ne (Nat.ne_of_lt (Nat.lt_of_lt_of_le (Heap.lt_size q) hp))]; exact n
  there := fun b u q _ => ⟨u, k b u q⟩
  tups := fun b xs q => by rw [upd_ne (ne_of_none q hn)]; exact q
  frzs := fun b u xs q => by rw [upd_ne (ne_of_none q hn)]; exact q
  tbls := fun b ps q => ⟨#[], by rw [upd_ne (ne_of_none q hn), q]; simp⟩
theorem Un.write (mu : Mut (H x)) (he : e = x ∨ H e = some (.own x)) (k : ∀ b u, b ≠ e → h.get? b = some u → h'.get? b = some u) (heo : ∃ u, h'.get? e = some u) : Un fs ex H (upd H x o) h h' := by
  have hx : ∀ b, H b = none → b ≠ x := fun b n z => by subst z; rw [n] at mu; exact mu
  have hb : ∀ b, H b = none → b ≠ e := fun b n z => by
    subst z
    rcases he with r | r
    · exact hx b n r
    · rw [n] at r; cases r
  have hm : ∀ b u, H b = some u → ¬ Mut (some u) → b ≠ x := fun b u q nm z => by subst z; rw [q] at mu; exact nm mu
  refine ⟨fun b u q n _ _ => k b u (hb b n) q, fun b u q n _ _ => ⟨u.slots, k b u (hb b n) q⟩, fun b u q n _ => by rw [upd_ne (hx b n)]; exact n, fun b u q _ => ?_,
    fun b xs q => by rw [upd_ne (hm b _ q fun z => z)]; exact q, fun b u xs q => by rw [upd_ne (hm b _ q fun z => z)]; exact q, fun b ps q => ⟨#[], by rw [upd_ne (hm b _ q fun z => z), q]; simp⟩⟩
  by_cases hbe : b = e
  · subst hbe; exact heo
  · exact ⟨u, k b u hbe q⟩
theorem Un.mono (u : Un fs ex H H1 h h1) (hs : ∀ b ∈ fs, b ∈ fs') (hx : ∀ b ∈ ex, b ∈ ex') : Un fs' ex' H H1 h h1 :=
  ⟨fun b ob q n hb he => u.keep b ob q n (fun z => hb (hs b z)) fun z => he (hx b z), fun _ _ q n _ he => u.any q n fun z => he (hx _ z), fun b ob q n he => u.free b ob q n fun z => he (hx b z), fun b ob q he => u.there b ob q fun z => he (hx b z), u.tups, u.frzs, u.tbls⟩
end
def trk (h : Heap) (H : Hp) : List Addr := (List.range h.objs.size).filter fun a => (H a).isSome
def hidT (h : Heap) (H : Hp) : Heap := PySem.W.hideAll h (trk h H)
theorem hidT_size (h : Heap) (H : Hp) : (hidT h H).objs.size = h.objs.size := PySem.W.hideAll_size _ _
theorem hidT_get {h : Heap} {H : Hp} {b : Addr} {o : Obj} (e : h.get? b = some o) (n : H b = none) : (hidT h H).get? b = some o :=
  PySem.W.hideAll_get _ e fun hm => by
    have q : (H b).isSome = true := (List.mem_filter.mp hm).2
    rw [n] at q; simp at q
theorem of_hidT {h : Heap} {H : Hp} {b : Addr} {o : Obj} (e : (hidT h H).get? b = some o) : h.get? b = some o ∧ H b = none := by
  have e' : h.get? b = some o := PySem.W.of_hideAll (trk h H) e
  refine ⟨e', ?_⟩
  cases q : H b with
  | none => rfl
  | some x =>
    have hm : b ∈ trk h H := List.mem_filter.mpr ⟨List.mem_range.mpr (Heap.lt_size e'), by simp [q]⟩
    have z : (hidT h H).get? b = none := PySem.W.hideAll_none (trk h H) hm
    rw [z] at e; cases e
def allNews (g h : Heap) (L : Addr) : List (Addr × Obj) := (List.range h.objs.size).filterMap fun a => if a = L ∨ (g.get? a).isSome = true then none else (h.get? a).map fun o => (a, o)
def rest (g h : Heap) (L d : Addr) : List (Addr × Obj) := (allNews g h L).filter fun p => decide (p.1 ≠ d)
end L2
namespace L2
open PySem PySem.Spec PyProof.Rows
structure Mod (K : PySem.W.Frag) (mg : Str → Option Value) (base : Heap) : Prop where
  kin : K.In base
  glob : base.Ns mainGlobals mg
  blt : ∃ mb, base.Ns builtinsNs mb ∧ ∀ x : Str, x ≠ "__name__" → mb x = bootBuiltins x
  nolimit : base.NoLimit
structure Cx where
  prog : Program
  w : World
  K : PySem.W.Frag
  mg : Str → Option Value
  base : Heap
  A : Around
  N : List Str
  s₀ : Shared
  H₀ : Hp
  env : Env
  outer : List Env
  stack : List Env
  ex : List Addr
  fn : Str → Bool
  calm : Bool
  pn : List (Addr × Obj)
  xe : Value → Shared → Prop
def frs (l : List Env) : List Addr := l.filterMap (·.frame)
abbrev Cx.fs (X : Cx) : List Addr := frs X.outer
def Vis (sc : Scope) (x : Str) : Prop := sc.names.lookup x = some .local ∨ sc.names.lookup x = some .cell ∨ sc.names.lookup x = some .free
def Loc (sc : Scope) (x : Str) : Prop := sc.names.lookup x = some .local ∨ sc.names.lookup x = some .cell
def Look (env : Env) (h : Heap) (m : Str → Option Value) (x : Str) (u : Value) : Prop :=
  (env.kindOf x = some .local ∧ m x = some u) ∨ ((env.kindOf x = some .cell ∨ env.kindOf x = some .free) ∧ ∃ c, env.cells.lookup x = some c ∧ h.IsCell c (some u))
structure Cx.Ok (X : Cx) : Prop where
  mod : Mod X.K X.mg X.base
  kind : X.env.scope.kind = .function
  glob : X.env.globals = mainGlobals
  blt : X.env.builtins = builtinsNs
  above : X.s₀.heap.objs.size ≤ X.env.locals
  inj : ∀ x y c, X.env.cells.lookup x = some c → X.env.cells.lookup y = some c → x = y
  has : ∀ x, (X.env.kindOf x = some .cell ∨ X.env.kindOf x = some .free) → ∃ c, X.env.cells.lookup x = some c
  cab : ∀ x c, X.fn x = true → X.env.cells.lookup x = some c → X.s₀.heap.objs.size ≤ c
  hd : X.calm = true → X.A.handled = none
  frames : X.A.frames = some X.stack
  stk : X.stack = X.outer ∨ (X.stack = X.env :: X.outer ∧ X.env.frame = some X.env.locals)
  exf : ∀ b ∈ X.ex, b ≠ X.env.locals ∧ ∀ x c, X.env.cells.lookup x = some c → c ≠ b
  bs : ∀ b o, X.base.get? b = some o → X.s₀.heap.get? b = some o ∧ X.H₀ b = none
  bsz : X.base.objs.size ≤ X.s₀.heap.objs.size
  noex : ∀ b o, X.base.get? b = some o → b ∉ X.ex
  exfs : ∀ b ∈ X.ex, b ∉ X.fs
  funs : X.s₀.heap.FunFrames X.base X.outer
  frf : ∀ b ∈ X.fs, X.H₀ b = none
structure Inv (X : Cx) (pins : List (Addr × Obj)) (σ : List (Option V)) (H : Hp) (s : Shared) : Prop where
  ok : X.Ok
  os : s.os = X.s₀.os
  bare : AllBare s.gens
  base : Un X.fs X.ex X.H₀ H X.s₀.heap s.heap
  loc : ∃ m, s.heap.Ns X.env.locals m ∧ ∀ (i : Nat) (x : Str) (v : V), X.N[i]? = some x → σ[i]? = some (some v) → Vis X.env.scope x → ∃ u, RelV v u ∧ Look X.env s.heap m x u
  cell : ∀ x c, X.env.cells.lookup x = some c → ∃ v, s.heap.IsCell c v
  free : H X.env.locals = none
  freeC : ∀ x c, X.env.cells.lookup x = some c → H c = none
  pin : ∀ p ∈ X.pn ++ pins, s.heap.get? p.1 = some p.2 ∧ H p.1 = none ∧ p.1 ≠ X.env.locals ∧ p.1 ∉ X.fs ∧ ∀ v, p.2.data ≠ .cell v
  hok : HOk X.prog X.w H s.heap
  len : σ.length = X.N.length
section
variable {X : Cx} {pins : List (Addr × Obj)} {σ : List (Option V)} {H H' : Hp} {s : Shared} {h' : Heap}
theorem Cx.Ok.nofr (ok : X.Ok) {b : Addr} {o : Obj} (e : X.base.get? b = some o) : b ∉ X.fs := fun hb => by
  have := (ok.funs.mem hb).1
  rw [e] at this; cases this
theorem Inv.bs (I : Inv X pins σ H s) : ∀ b o, X.base.get? b = some o → s.heap.get? b = some o ∧ H b = none := fun b o e =>
  ⟨I.base.keep b o (I.ok.bs b o e).1 (I.ok.bs b o e).2 (I.ok.nofr e) (I.ok.noex b o e), I.base.free b o (I.ok.bs b o e).1 (I.ok.bs b o e).2 (I.ok.noex b o e)⟩
theorem Inv.bk (I : Inv X pins σ H s) : ∀ b o, X.base.get? b = some o → s.heap.get? b = some o := fun b o e => (I.bs b o e).1
theorem Inv.mod (I : Inv X pins σ H s) : Mod X.K X.mg X.base := I.ok.mod
theorem Inv.kIn (I : Inv X pins σ H s) : X.K.In s.heap := I.ok.mod.kin.keeps I.bk
theorem Inv.nolimit (I : Inv X pins σ H s) : s.heap.NoLimit := I.ok.mod.nolimit.keeps I.bk
theorem Inv.fr (I : Inv X pins σ H s) : ∃ m, Fr X.base X.env.locals s.heap m :=
  let ⟨m, hn, _⟩ := I.loc
  ⟨m, hn, I.bk, Nat.le_trans I.ok.bsz I.ok.above⟩
theorem Inv.lt (I : Inv X pins σ H s) : X.env.locals < s.heap.objs.size := let ⟨_, hn, _⟩ := I.loc; hn.lt
theorem Inv.sz (I : Inv X pins σ H s) : X.s₀.heap.objs.size ≤ s.heap.objs.size := Nat.le_trans I.ok.above (Nat.le_of_lt I.lt)
theorem Inv.nofs (I : Inv X pins σ H s) {a : Addr} (h : s.heap.objs.size ≤ a) : a ∉ X.fs := fun hb => by
  obtain ⟨_, o, ho, _⟩ := I.ok.funs.mem hb
  exact absurd (Nat.lt_of_lt_of_le (Heap.lt_size ho) (Nat.le_trans I.sz h)) (Nat.lt_irrefl _)
theorem Inv.cne (I : Inv X pins σ H s) : ∀ x c, X.env.cells.lookup x = some c → c ≠ X.env.locals := fun x c e z => by
  obtain ⟨v, o, ho, hd⟩ := I.cell x c e
  obtain ⟨m, ⟨o', es, ep, ho', hd', _⟩, _⟩ := I.loc
  rw [z, ho'] at ho; cases ho; rw [hd'] at hd; cases hd
theorem Inv.funs (I : Inv X pins σ H s) : s.heap.FunFrames X.base X.outer := by
  have all : ∀ (l : List Env), (∀ b ∈ frs l, b ∈ X.fs) → X.s₀.heap.FunFrames X.base l → s.heap.FunFrames X.base l := by
    intro l
    induction l with
    | nil => intro _ _; trivial
    | cons env r ih =>
      intro hs hl
      obtain ⟨hk, ⟨L, o, hf, hn, ho, hd⟩, hr⟩ := hl
      have hL : L ∈ X.fs := hs L (by unfold frs; rw [List.filterMap_cons, hf]; exact List.mem_cons_self)
      obtain ⟨sl, e⟩ := I.base.slot L o ho (I.ok.frf L hL) hL fun z => I.ok.exfs L z hL
      exact ⟨hk, ⟨L, _, hf, hn, e, hd⟩, ih (fun b hb => hs b (by unfold frs; rw [List.filterMap_cons, hf]; exact List.mem_cons_of_mem _ hb)) hr⟩
  exact all X.outer (fun _ hb => hb) I.ok.funs
theorem Inv.stack (I : Inv X pins σ H s) : s.heap.FunFrames X.base X.stack := by
  rcases I.ok.stk with e | ⟨e, hf⟩
  · rw [e]; exact I.funs
  · rw [e]
    obtain ⟨m, hn, _⟩ := I.loc
    refine .cons (by rw [I.ok.kind]; decide) hf hn ?_ I.funs
    exact Heap.get?_none_of_le (Nat.le_trans I.ok.bsz I.ok.above)
theorem Inv.stkSub (I : Inv X pins σ H s) : ∀ b ∈ frs X.stack, b ∈ X.env.locals :: X.fs := fun b hb => by
  rcases I.ok.stk with e | ⟨e, hf⟩
  · rw [e] at hb; exact List.mem_cons_of_mem _ hb
  · rw [e] at hb
    unfold frs at hb
    rw [List.filterMap_cons, hf] at hb
    exact hb
theorem Inv.stkFree (I : Inv X pins σ H s) : ∀ b ∈ frs X.stack, H b = none := fun b hb => by
  rcases List.mem_cons.mp (I.stkSub b hb) with e | hb
  · rw [e]; exact I.free
  · obtain ⟨_, o, ho, _⟩ := I.ok.funs.mem hb
    exact I.base.free b o ho (I.ok.frf b hb) fun z => I.ok.exfs b z hb
theorem Inv.step {g' : Array GenState} {t' : Nat} {d' : Drawn} {ch : List Addr} (I : Inv X pins σ H s)
    (hch : ∀ b ∈ ch, (b ∈ X.ex ∨ X.s₀.heap.objs.size ≤ b) ∧ b ≠ X.env.locals ∧ (∀ x c, X.env.cells.lookup x = some c → c ≠ b) ∧ ∀ p ∈ X.pn ++ pins, p.1 ≠ b)
    (keep : ∀ b o, b ≠ X.env.locals → b ∉ X.fs → b ∉ ch → s.heap.get? b = some o → H b = none → h'.get? b = some o)
    (slot : ∀ b o, b ≠ X.env.locals → b ∈ X.fs → b ∉ ch → s.heap.get? b = some o → H b = none → ∃ sl, h'.get? b = some { o with slots := sl }) (free : ∀ b o, b ∉ ch → s.heap.get? b = some o → H b = none → H' b = none)
    (there : ∀ b o, b ∉ ch → s.heap.get? b = some o → ∃ o', h'.get? b = some o')
    (tups : ∀ b xs, H b = some (.tup xs) → H' b = some (.tup xs)) (frzs : ∀ b o u, H b = some (.frz o u) → H' b = some (.frz o u)) (tbls : ∀ b ps, H b = some (.tbl ps) → ∃ more, H' b = some (.tbl (ps ++ more)))
    (ns : ∀ m, s.heap.Ns X.env.locals m → h'.Ns X.env.locals m) (hok : HOk X.prog X.w H' h') (hg : AllBare g') :
    Inv X pins σ H' { s with heap := h', gens := g', drawn := d', toks := t' } := by
  have neL : ∀ b o, X.s₀.heap.get? b = some o → b ≠ X.env.locals := fun b o e => Nat.ne_of_lt (Nat.lt_of_lt_of_le (Heap.lt_size e) I.ok.above)
  have neC : ∀ b o, X.s₀.heap.get? b = some o → b ∉ X.ex → b ∉ ch := fun b o e hx hb => by
    rcases (hch b hb).1 with z | z
    · exact hx z
    · exact absurd (Nat.lt_of_lt_of_le (Heap.lt_size e) z) (Nat.lt_irrefl _)
  have cellK : ∀ x c, X.env.cells.lookup x = some c → ∀ v, s.heap.IsCell c v → h'.IsCell c v := fun x c e v ⟨o, ho, hd⟩ => by
    have nch : c ∉ ch := fun z => (hch c z).2.2.1 x c e rfl
    by_cases hc : c ∈ X.fs
    · obtain ⟨sl, q⟩ := slot c o (I.cne x c e) hc nch ho (I.freeC x c e)
      exact ⟨_, q, hd⟩
    · exact ⟨o, keep c o (I.cne x c e) hc nch ho (I.freeC x c e), hd⟩
  refine ⟨I.ok, I.os, hg, ⟨fun b o e n hb hx => ?_, fun b o e n hb hx => ?_, fun b o e n hx => ?_, fun b o e hx => ?_, fun b xs e => tups b xs (I.base.tups b xs e), fun b o xs e => frzs b o xs (I.base.frzs b o xs e), fun b ps e => ?_⟩, ?_, fun x c e => ?_, ?_, fun x c e => ?_, fun p hp => ?_, hok, I.len⟩
  · exact keep b o (neL b o e) hb (neC b o e hx) (I.base.keep b o e n hb hx) (I.base.free b o e n hx)
  · obtain ⟨sl, e1⟩ := I.base.slot b o e n hb hx
    obtain ⟨sl', e2⟩ := slot b _ (neL b o e) hb (neC b o e hx) e1 (I.base.free b o e n hx)
    exact ⟨sl', e2⟩
  · obtain ⟨o', e1⟩ := I.base.there b o e hx
    exact free b o' (neC b o e hx) e1 (I.base.free b o e n hx)
  · obtain ⟨o', e1⟩ := I.base.there b o e hx
    exact there b o' (neC b o e hx) e1
  · obtain ⟨m1, e1⟩ := I.base.tbls b ps e
    obtain ⟨m2, e2⟩ := tbls b _ e1
    exact ⟨m1 ++ m2, by rw [e2, Array.append_assoc]⟩
  · obtain ⟨m, hn, hl⟩ := I.loc
    refine ⟨m, ns m hn, fun i x v e1 e2 e3 => ?_⟩
    obtain ⟨u, r, l⟩ := hl i x v e1 e2 e3
    refine ⟨u, r, ?_⟩
    rcases l with l | ⟨k, c, e, z⟩
    · exact .inl l
    · exact .inr ⟨k, c, e, cellK x c e _ z⟩
  · obtain ⟨v, z⟩ := I.cell x c e
    exact ⟨v, cellK x c e v z⟩
  · obtain ⟨m, ⟨o, _, _, ho, _⟩, _⟩ := I.loc
    exact free _ o (fun z => (hch _ z).2.1 rfl) ho I.free
  · obtain ⟨v, o, ho, hd⟩ := I.cell x c e
    exact free c o (fun z => (hch c z).2.2.1 x c e rfl) ho (I.freeC x c e)
  · obtain ⟨e, n, ne, nf, d⟩ := I.pin p hp
    have nch : p.1 ∉ ch := fun z => (hch p.1 z).2.2.2 p hp rfl
    exact ⟨keep p.1 p.2 ne nf nch e n, free p.1 p.2 nch e n, ne, nf, d⟩
theorem Inv.un {t' : Nat} (I : Inv X pins σ H s) (u : Un X.fs [] H H' s.heap h') (hok : HOk X.prog X.w H' h') : Inv X pins σ H' { s with heap := h', toks := t' } := by
  obtain ⟨m, ⟨o, es, ep, ho, r⟩, _⟩ := id I.loc
  obtain ⟨sl, hL⟩ := u.any ho I.free (by simp)
  exact I.step (g' := s.gens) (d' := s.drawn) (ch := []) (fun _ z => nomatch z) (fun b o _ hb _ e n => u.keep b o e n hb (by simp)) (fun b o _ hb _ e n => u.slot b o e n hb (by simp)) (fun b o _ e n => u.free b o e n (by simp)) (fun b o _ e => u.there b o e (by simp)) u.tups u.frzs u.tbls (fun m' hm => by
    obtain ⟨o', es', ep', ho', r'⟩ := hm
    rw [ho] at ho'; cases ho'
    exact ⟨_, es', ep', hL, r'⟩) hok I.bare
theorem Inv.call {g' : Array GenState} {t' : Nat} {d' : Drawn} {ch : List Addr} (I : Inv X pins σ H s) (u : Un (frs X.stack) ch H H' s.heap h') (hok : HOk X.prog X.w H' h') (hg : AllBare g')
    (hch : ∀ b ∈ ch, (b ∈ X.ex ∨ X.s₀.heap.objs.size ≤ b) ∧ b ≠ X.env.locals ∧ (∀ x c, X.env.cells.lookup x = some c → c ≠ b) ∧ ∀ p ∈ X.pn ++ pins, p.1 ≠ b) :
    Inv X pins σ H' { s with heap := h', gens := g', drawn := d', toks := t' } := by
  obtain ⟨m, ⟨o, es, ep, ho, r⟩, _⟩ := id I.loc
  obtain ⟨sl, hL⟩ := u.any ho I.free fun z => (hch _ z).2.1 rfl
  exact I.step (ch := ch) hch (fun b o hL hb hc e n => u.keep b o e n (fun z => (List.mem_cons.mp (I.stkSub b z)).elim hL hb) hc) (fun b o _ _ hc e n => u.any e n hc) (fun b o hc e n => u.free b o e n hc) (fun b o hc e => u.there b o e hc) u.tups u.frzs u.tbls (fun m' hm => by
    obtain ⟨o', es', ep', ho', r'⟩ := hm
    rw [ho] at ho'; cases ho'
    exact ⟨_, es', ep', hL, r'⟩) hok hg
theorem Inv.turned {t' : Nat} {it : Addr} (I : Inv X pins σ H s) (k : ∀ b o, b ≠ it → s.heap.get? b = some o → h'.get? b = some o) (hn : H it = none) (hL : it ≠ X.env.locals)
    (h1 : it ∈ X.ex ∨ X.s₀.heap.objs.size ≤ it) (h2 : ∀ x c, X.env.cells.lookup x = some c → c ≠ it) (h3 : ∀ p ∈ X.pn ++ pins, p.1 ≠ it) : Inv X pins σ H { s with heap := h', toks := t' } := by
  have nit : ∀ b u, H b = some u → b ≠ it := fun b u e z => by rw [z, hn] at e; cases e
  refine I.step (g' := s.gens) (d' := s.drawn) (ch := [it]) (fun b hb => ?_) (fun b o _ _ hc e _ => k b o (fun z => hc (by simp [z])) e) (fun b o _ _ hc e _ => ⟨o.slots, k b o (fun z => hc (by simp [z])) e⟩) (fun _ _ _ _ n => n)
    (fun b o hc e => ⟨o, k b o (fun z => hc (by simp [z])) e⟩) (fun _ _ e => e) (fun _ _ _ e => e) (fun b ps e => ⟨#[], by rw [e]; simp⟩) (fun m hm => ?_) (fun b u e => ?_) I.bare
  · have e : b = it := by simpa using hb
    subst e
    exact ⟨h1, hL, h2, h3⟩
  · obtain ⟨o, es, ep, ho, r⟩ := hm
    exact ⟨o, es, ep, k _ o (Ne.symm hL) ho, r⟩
  · refine (I.hok b u e).stay (fun c v hc q => k c v ?_ q) (fun _ q => q) fun _ _ q => q
    rcases hc with z | z
    · rw [z]; exact nit b u e
    · exact nit c _ z
theorem Inv.tok (I : Inv X pins σ H s) (t : Nat) : Inv X pins σ H { s with toks := t } := I.un (h' := s.heap) (t' := t) Un.refl I.hok
theorem Inv.kept {t' : Nat} (I : Inv X pins σ H s) (k : ∀ b u, s.heap.get? b = some u → h'.get? b = some u) : Inv X pins σ H { s with heap := h', toks := t' } := I.un (Un.kept k) (I.hok.kept k)
theorem Inv.laid {a : Addr} {o : HO} {t' : Nat} (I : Inv X pins σ H s) (k : ∀ b u, s.heap.get? b = some u → h'.get? b = some u) (hp : s.heap.objs.size ≤ a) (new : ObjOk X.prog X.w (upd H a o) h' a o) :
    Inv X pins σ (upd H a o) { s with heap := h', toks := t' } := I.un (Un.laid k hp (I.hok.fresh hp)) (I.hok.laid k hp new)
theorem Inv.write {x e : Addr} {o : HO} {t' : Nat} (I : Inv X pins σ H s) (mu : Mut (H x)) (he : e = x ∨ H e = some (.own x)) (k : ∀ b u, b ≠ e → s.heap.get? b = some u → h'.get? b = some u) (heo : ∃ u, h'.get? e = some u)
    (new : ObjOk X.prog X.w (upd H x o) h' x o) : Inv X pins σ (upd H x o) { s with heap := h', toks := t' } := I.un (Un.write mu he k heo) (I.hok.write mu he k heo new)
theorem Inv.weak {σ' : List (Option V)} (I : Inv X pins σ H s) (hl : σ'.length = σ.length) (w : ∀ (i : Nat) v, σ'[i]? = some (some v) → σ[i]? = some (some v)) : Inv X pins σ' H s :=
  ⟨I.ok, I.os, I.bare, I.base, let ⟨m, hn, hl'⟩ := I.loc; ⟨m, hn, fun i x v e1 e2 e3 => hl' i x v e1 (w i v e2) e3⟩, I.cell, I.free, I.freeC, I.pin, I.hok, hl.trans I.len⟩
theorem Inv.pins_of {pins' : List (Addr × Obj)} (I : Inv X pins σ H s) (h : ∀ p ∈ pins', s.heap.get? p.1 = some p.2 ∧ H p.1 = none ∧ p.1 ≠ X.env.locals ∧ p.1 ∉ X.fs ∧ ∀ v, p.2.data ≠ .cell v) : Inv X pins' σ H s :=
  ⟨I.ok, I.os, I.bare, I.base, I.loc, I.cell, I.free, I.freeC, fun p hp => (List.mem_append.mp hp).elim (fun z => I.pin p (List.mem_append_left _ z)) (h p), I.hok, I.len⟩
theorem nodup_ix {N : List Str} (hN : N.Nodup) {i j : Nat} {x : Str} (a : N[i]? = some x) (b : N[j]? = some x) : i = j := by
  obtain ⟨h1, e1⟩ := List.getElem?_eq_some_iff.mp a
  obtain ⟨h2, e2⟩ := List.getElem?_eq_some_iff.mp b
  exact (List.getElem_inj hN).mp (e1.trans e2.symm)
theorem store_ok2 {M : Model} {A : Around} {E : Value → Shared → Prop} {i : Nat} {x : Str} {v : V} {u : Value} {Q : Unit → Shared → Prop} (I : Inv X pins σ H s) (hN : X.N.Nodup) (hi : X.N[i]? = some x) (hx : Loc X.env.scope x) (r : RelV v u)
    (h : ∀ s', Inv X pins (σ.set i (some v)) H s' → (∃ a, Heap.SameBut a s.heap s'.heap ∧ (a = X.env.locals ∨ X.env.cells.lookup x = some a)) → Q () s') (hf : X.fn x = true ∨ X.env.scope.names.lookup x = some .local := by first | exact .inl rfl | exact .inr rfl | assumption) : wpAny M A (storeName X.env x u) Q E s := by
  obtain ⟨m, hn, hl⟩ := id I.loc
  have hcls : (X.env.scope.kind == .class || (X.env.scope.kind == .module && X.env.locals != X.env.globals)) = false := by rw [I.ok.kind]; rfl
  have hiσ : i < σ.length := by rw [I.len]; exact (List.getElem?_eq_some_iff.mp hi).1
  have cne := I.cne
  have tracked : ∀ {a : Addr} {h' : Heap}, (∃ o, s.heap.get? a = some o ∧ H a = none) → Heap.SameBut a s.heap h' → HOk X.prog X.w H h' := fun {a h'} ha hs b ob e => by
    obtain ⟨_, _, hfree⟩ := ha
    refine (I.hok b ob e).stay (fun c w' hc q => (hs.2 c ?_).trans q) (fun _ q => q) fun _ _ q => q
    rintro rfl
    rcases hc with rfl | hc
    · rw [hfree] at e; cases e
    · rw [hfree] at hc; cases hc
  rcases hx with hk | hk
  · refine wpAny_storeName_local hk hn (fun h' hn' hs => ?_) hcls
    obtain ⟨oL, _, _, hoL, _⟩ := id hn
    refine h _ ⟨I.ok, I.os, I.bare, ⟨fun b o e n hb hx => ?_, fun b o e n hb hx => ?_, I.base.free, fun b o e hx => ?_, I.base.tups, I.base.frzs, I.base.tbls⟩, ⟨_, hn', fun j y v' e1 e2 e3 => ?_⟩, fun y c e => ?_, I.free, I.freeC, fun p hp => ?_, tracked ⟨oL, hoL, I.free⟩ hs, by simpa using I.len⟩ ⟨_, hs, .inl rfl⟩
    · exact (hs.2 b (Nat.ne_of_lt (Nat.lt_of_lt_of_le (Heap.lt_size e) I.ok.above))).trans (I.base.keep b o e n hb hx)
    · obtain ⟨sl, e1⟩ := I.base.slot b o e n hb hx
      exact ⟨sl, (hs.2 b (Nat.ne_of_lt (Nat.lt_of_lt_of_le (Heap.lt_size e) I.ok.above))).trans e1⟩
    · obtain ⟨o', e1⟩ := I.base.there b o e hx
      exact ⟨o', (hs.2 b (Nat.ne_of_lt (Nat.lt_of_lt_of_le (Heap.lt_size e) I.ok.above))).trans e1⟩
    · by_cases hj : j = i
      · subst hj
        rw [hi] at e1; cases e1
        rw [List.getElem?_set_self hiσ] at e2
        cases e2
        exact ⟨u, r, .inl ⟨hk, by simp⟩⟩
      · rw [List.getElem?_set_ne (Ne.symm hj)] at e2
        obtain ⟨u', r', q⟩ := hl j y v' e1 e2 e3
        refine ⟨u', r', ?_⟩
        rcases q with ⟨k, e⟩ | ⟨k, c, e, z⟩
        · refine .inl ⟨k, ?_⟩
          have : y ≠ x := fun e => hj (nodup_ix hN e1 (e ▸ hi))
          simp [this, e]
        · exact .inr ⟨k, c, e, z.sameBut hs (cne y c e)⟩
    · obtain ⟨w', z⟩ := I.cell y c e
      exact ⟨w', z.sameBut hs (cne y c e)⟩
    · obtain ⟨e, n, ne, nf, d⟩ := I.pin p hp
      exact ⟨(hs.2 p.1 ne).trans e, n, ne, nf, d⟩
  · have hfn : X.fn x = true := by
      rcases hf with z | z
      · exact z
      · rw [z] at hk; cases hk
    obtain ⟨c, hc⟩ := I.ok.has x (.inl hk)
    obtain ⟨w', z⟩ := I.cell x c hc
    refine wpAny_storeName_cell I.ok.kind hk hc z (fun h' hc' hs => ?_)
    obtain ⟨oc, hoc, hocd⟩ := id z
    refine h { s with heap := h' } ⟨I.ok, I.os, I.bare, ⟨fun b o e n hb hx => ?_, fun b o e n hb hx => ?_, I.base.free, fun b o e hx => ?_, I.base.tups, I.base.frzs, I.base.tbls⟩, ⟨m, hn.sameBut hs (Ne.symm (cne x c hc)), fun j y v' e1 e2 e3 => ?_⟩, fun y c' e => ?_, I.free, I.freeC, fun p hp => ?_, tracked ⟨oc, hoc, I.freeC x c hc⟩ hs, by simpa using I.len⟩ ⟨c, hs, .inr hc⟩
    · exact (hs.2 b (Nat.ne_of_lt (Nat.lt_of_lt_of_le (Heap.lt_size e) (I.ok.cab x c hfn hc)))).trans (I.base.keep b o e n hb hx)
    · obtain ⟨sl, e1⟩ := I.base.slot b o e n hb hx
      exact ⟨sl, (hs.2 b (Nat.ne_of_lt (Nat.lt_of_lt_of_le (Heap.lt_size e) (I.ok.cab x c hfn hc)))).trans e1⟩
    · obtain ⟨o', e1⟩ := I.base.there b o e hx
      exact ⟨o', (hs.2 b (Nat.ne_of_lt (Nat.lt_of_lt_of_le (Heap.lt_size e) (I.ok.cab x c hfn hc)))).trans e1⟩
    · by_cases hj : j = i
      · subst hj
        rw [hi] at e1; cases e1
        rw [List.getElem?_set_self hiσ] at e2
        cases e2
        exact ⟨u, r, .inr ⟨.inl hk, c, hc, hc'⟩⟩
      · rw [List.getElem?_set_ne (Ne.symm hj)] at e2
        obtain ⟨u', r', q⟩ := hl j y v' e1 e2 e3
        refine ⟨u', r', ?_⟩
        rcases q with q | ⟨k, c', e, z'⟩
        · exact .inl q
        · refine .inr ⟨k, c', e, z'.sameBut hs ?_⟩
          rintro rfl
          exact hj (nodup_ix hN e1 (I.ok.inj _ _ _ e hc ▸ hi))
    · by_cases hcc : c' = c
      · subst hcc; exact ⟨_, hc'⟩
      · obtain ⟨w2, z2⟩ := I.cell y c' e
        exact ⟨w2, z2.sameBut hs hcc⟩
    · obtain ⟨e, n, ne, nf, d⟩ := I.pin p hp
      refine ⟨(hs.2 p.1 ?_).trans e, n, ne, nf, d⟩
      intro q
      rw [q, hoc] at e
      have q' : oc = p.2 := Option.some.inj e
      exact d w' (by rw [← q']; exact hocd)
theorem store_ok {M : Model} {A : Around} {E : Value → Shared → Prop} {i : Nat} {x : Str} {v : V} {u : Value} {Q : Unit → Shared → Prop} (I : Inv X pins σ H s) (hN : X.N.Nodup) (hi : X.N[i]? = some x) (hx : Loc X.env.scope x) (r : RelV v u)
    (h : ∀ s', Inv X pins (σ.set i (some v)) H s' → Q () s') (hf : X.fn x = true ∨ X.env.scope.names.lookup x = some .local := by first | exact .inl rfl | exact .inr rfl | assumption) : wpAny M A (storeName X.env x u) Q E s :=
  store_ok2 I hN hi hx r (fun s' I' _ => h s' I') hf
theorem Inv.call' {s' : Shared} {ch : List Addr} (I : Inv X pins σ H s) (ho : s'.os = s.os) (u : Un (frs X.stack) ch H H' s.heap s'.heap) (hok : HOk X.prog X.w H' s'.heap) (hg : AllBare s'.gens)
    (hch : ∀ b ∈ ch, (b ∈ X.ex ∨ X.s₀.heap.objs.size ≤ b) ∧ b ≠ X.env.locals ∧ (∀ x c, X.env.cells.lookup x = some c → c ≠ b) ∧ ∀ p ∈ X.pn ++ pins, p.1 ≠ b) : Inv X pins σ H' s' := by
  obtain ⟨h', g', d', t', o'⟩ := s'
  have e : o' = s.os := ho
  subst e
  exact I.call (g' := g') (t' := t') (d' := d') u hok hg hch
end
abbrev XK := Value → Option Addr → Hp → Prop
abbrev St := List (Option V)
abbrev VK := V → Hp → Prop
abbrev TE := St → Hp → VK → Prop
abbrev TT := St → Hp → (Bool → Hp → Prop) → Prop
abbrev TA := St → Hp → (List V → Hp → Prop) → Prop
structure Ends where
  nx : St → Hp → Prop
  rt : VK
  bk : St → Hp → Prop := fun _ _ => False
  ct : St → Hp → Prop := fun _ _ => False
abbrev TS := Ends → St → Hp → Prop
def EP (X : Cx) (pins : List (Addr × Obj)) (σ : St) (Q : VK) (u : Value) (s' : Shared) : Prop := ∃ v H', Inv X pins σ H' s' ∧ RelV v u ∧ Q v H'
def TP (X : Cx) (pins : List (Addr × Obj)) (σ : St) (Q : Bool → Hp → Prop) (b : Bool) (s' : Shared) : Prop := ∃ H', Inv X pins σ H' s' ∧ Q b H'
def AP (X : Cx) (pins : List (Addr × Obj)) (σ : St) (Q : List V → Hp → Prop) (us : List Value) (s' : Shared) : Prop := ∃ vs H', Inv X pins σ H' s' ∧ Vals vs us ∧ Q vs H'
def SP (X : Cx) (pins : List (Addr × Obj)) (D : Ends) (f : Flow) (s' : Shared) : Prop :=
  match f with
  | .next => ∃ σ' H', Inv X pins σ' H' s' ∧ D.nx σ' H'
  | .brk => ∃ σ' H', Inv X pins σ' H' s' ∧ D.bk σ' H'
  | .cont => ∃ σ' H', Inv X pins σ' H' s' ∧ D.ct σ' H'
  | .ret u => ∃ v σ' H', Inv X pins σ' H' s' ∧ RelV v u ∧ D.rt v H'
def PE (X : Cx) (e : Expr) (t : TE) : Prop :=
  ∀ (pins : List (Addr × Obj)) (s : Shared) (σ : St) (H : Hp) (Q : VK), Inv X pins σ H s → t σ H Q → wpAny (model X.prog X.w) X.A (eval e X.env) (EP X pins σ Q) X.xe s
def PT (X : Cx) (e : Expr) (t : TT) : Prop :=
  ∀ (pins : List (Addr × Obj)) (s : Shared) (σ : St) (H : Hp) (Q : Bool → Hp → Prop), Inv X pins σ H s → t σ H Q → wpAny (model X.prog X.w) X.A (isTrue e X.env (eval e X.env)) (TP X pins σ Q) X.xe s
def PW (X : Cx) (e : Expr) (t : TT) : Prop :=
  ∀ (whole : Sem Value) (pins : List (Addr × Obj)) (s : Shared) (σ : St) (H : Hp) (Q : Bool → Hp → Prop), Inv X pins σ H s → t σ H Q → wpAny (model X.prog X.w) X.A (isTrue e X.env whole) (TP X pins σ Q) X.xe s
theorem PW.pt {X : Cx} {e : Expr} {t : TT} (h : PW X e t) : PT X e t := h _
def PA (X : Cx) (es : List Expr) (t : TA) : Prop :=
  ∀ (pos : Pos) (pins : List (Addr × Obj)) (s : Shared) (σ : St) (H : Hp) (Q : List V → Hp → Prop), Inv X pins σ H s → t σ H Q → wpAny (model X.prog X.w) X.A (spliced (backTo pos (starEach es X.env))) (AP X pins σ Q) X.xe s
def PS (X : Cx) (st : Stmt) (t : TS) : Prop :=
  ∀ (pins : List (Addr × Obj)) (s : Shared) (σ : St) (H : Hp) (D : Ends), Inv X pins σ H s → t D σ H → wpAny (model X.prog X.w) X.A (exec st X.env) (SP X pins D) X.xe s
def PSs (X : Cx) (st : List Stmt) (t : TS) : Prop :=
  ∀ (pins : List (Addr × Obj)) (s : Shared) (σ : St) (H : Hp) (D : Ends), Inv X pins σ H s → t D σ H → wpAny (model X.prog X.w) X.A (execs st X.env) (SP X pins D) X.xe s
theorem thn {α : Type} {t : Sem α} {Q Q' : α → Shared → Prop} {M : Model} {A : Around} {E : Value → Shared → Prop} {s : Shared} (h : wpAny M A t Q E s) (hQ : ∀ a s, Q a s → Q' a s) : wpAny M A t Q' E s := wpAny_mono h hQ fun _ _ x => x
end L2
namespace L2
open PySem PySem.Spec PyProof.Rows
section
variable {X : Cx}
def tVar (i : Nat) : TE := fun σ H Q => ∃ v, σ[i]? = some (some v) ∧ Q v H
def tC (v : V) : TE := fun _ H Q => Q v H
theorem pe_var {i : Nat} {x : Str} {pos : Pos} (hN : X.N[i]? = some x) (hv : Vis X.env.scope x) (hd : (x == ("__debug__" : Str)) = false := by decide) (hcd : (x == ("__classdict__" : Str)) = false := by decide) : PE X (.Name x pos) (tVar i) := by
  intro pins s σ H Q I h
  obtain ⟨v, e, h⟩ := h
  obtain ⟨m, hn, hl⟩ := I.loc
  obtain ⟨u, r, l⟩ := hl i x v hN e hv
  have fin : EP X pins σ Q u s := ⟨v, H, I, r, h⟩
  rcases l with ⟨hk, hm⟩ | ⟨hk, c, hc, hcell⟩
  · exact wpAny_Name (wpAny_loadName_local I.ok.kind hk hn hm fin) hd
  · rcases hk with hk | hk
    · exact wpAny_Name (wpAny_loadName_cell I.ok.kind hk hc hcell fin) hd
    · exact wpAny_Name (wpAny_loadName_free I.ok.kind hk hc hcell fin hcd) hd
theorem pe_int {i j pos} : PE X (.Constant (.int i) j pos) (tC (.int i)) := fun _ _ _ H _ I h => wpAny_Constant_int ⟨.int i, H, I.tok _, ⟨_, rfl⟩, h⟩
theorem pe_bl {b j pos} : PE X (.Constant (.bool b) j pos) (tC (.bl b)) := fun _ _ _ H _ I h => Constant_bool ⟨.bl b, H, I, rfl, h⟩
theorem pe_non {j pos} : PE X (.Constant .none j pos) (tC .non) := fun _ _ _ H _ I h => Constant_none ⟨.non, H, I, rfl, h⟩
theorem pe_str {x j pos} : PE X (.Constant (.str x) j pos) (tC (.str x)) := fun _ _ _ H _ I h => Calls.Constant_str ⟨.str x, H, I.tok _, ⟨_, rfl⟩, h⟩
def Gl (X : Cx) (x : Str) : Prop := X.env.kindOf x = some .globalImplicit
theorem ld_glob {E : Value → Shared → Prop} {pins : List (Addr × Obj)} {s : Shared} {σ : St} {H : Hp} {x : Str} {u : Value} {pos : Pos} {Q : Value → Shared → Prop} (I : Inv X pins σ H s) (hg : Gl X x) (hm : X.mg x = some u) (h : Q u s)
    (hd : (x == ("__debug__" : Str)) = false := by decide) : wpAny (model X.prog X.w) X.A (eval (.Name x pos) X.env) Q E s :=
  Calls.Name_function_global I.ok.kind hg (Calls.loadGlobal_global (by rw [I.ok.glob]; exact I.mod.glob.keeps I.bk) hm h) hd
theorem ld_blt {E : Value → Shared → Prop} {pins : List (Addr × Obj)} {s : Shared} {σ : St} {H : Hp} {x : Str} {u : Value} {pos : Pos} {Q : Value → Shared → Prop} (I : Inv X pins σ H s) (hg : Gl X x) (hm : X.mg x = none) (hv : bootBuiltins x = some u) (h : Q u s)
    (hn : x ≠ "__name__" := by decide) (hd : (x == ("__debug__" : Str)) = false := by decide) : wpAny (model X.prog X.w) X.A (eval (.Name x pos) X.env) Q E s := by
  obtain ⟨mb, h1, h2⟩ := I.mod.blt
  exact Calls.Name_function_global I.ok.kind hg (Calls.loadGlobal_builtin (by rw [I.ok.glob]; exact I.mod.glob.keeps I.bk) hm (by rw [I.ok.blt]; exact h1.keeps I.bk) ((h2 x hn).trans hv) h) hd
theorem pe_glob {x : Str} {v : V} {u : Value} {pos : Pos} (hg : Gl X x) (hm : X.mg x = some u) (r : RelV v u) (hd : (x == ("__debug__" : Str)) = false := by decide) : PE X (.Name x pos) (tC v) :=
  fun _ _ _ H _ I h => ld_glob I hg hm ⟨v, H, I, r, h⟩ hd
theorem pe_bltn {x : Str} {v : V} {u : Value} {pos : Pos} (hg : Gl X x) (hm : X.mg x = none) (hv : bootBuiltins x = some u) (r : RelV v u) (hn : x ≠ "__name__" := by decide) (hd : (x == ("__debug__" : Str)) = false := by decide) : PE X (.Name x pos) (tC v) :=
  fun _ _ _ H _ I h => ld_blt I hg hm hv ⟨v, H, I, r, h⟩ hn hd
variable {a b : Expr} {ta tb : TE} {pos : Pos}
def tB (t : TE) : TT := fun σ H Q => t σ H fun x H1 => ∃ c, x = .bl c ∧ Q c H1
theorem pt_val {e : Expr} {t : TE} (h : PE X e t) (he : ∀ whole, isTrue e X.env whole = (do let v ← whole; standAt e.pos; holding [v] (truthy v)) := by intro _; rfl) : PT X e (tB t) := by
  intro pins s σ H Q I hw
  refine isTrue_plain (thn (h pins s σ H _ I hw) fun v s1 ⟨x, H1, I1, r1, q1⟩ => ?_) (he _)
  obtain ⟨d, rfl, q⟩ := q1
  cases r1
  exact wpAny_truthy_bool ⟨H1, I1, q⟩
variable {tA tB' : TT} {rest : List Expr}
def tAnd (t u : TT) : TT := fun σ H Q => t σ H fun c H1 => if c = true then u σ H1 Q else Q false H1
def tOr (t u : TT) : TT := fun σ H Q => t σ H fun c H1 => if c = true then Q true H1 else u σ H1 Q
def tNot (t : TT) : TT := fun σ H Q => t σ H fun c H1 => Q (!c) H1
theorem pw_and1 (ha : PT X a tA) : PW X (.BoolOp .And [a] pos) tA := by
  intro wh pins s σ H Q I h
  refine isTrue_and (thn (ha pins s σ H Q I h) fun c s1 e => ?_)
  cases c with
  | true => exact isTrue_and_nil e
  | false => exact e
theorem pw_or1 (ha : PT X a tA) : PW X (.BoolOp .Or [a] pos) tA := by
  intro wh pins s σ H Q I h
  refine isTrue_or (thn (ha pins s σ H Q I h) fun c s1 e => ?_)
  cases c with
  | false => exact isTrue_or_nil e
  | true => exact e
theorem pw_and (ha : PT X a tA) (hb : PW X (.BoolOp .And (b :: rest) pos) tB') : PW X (.BoolOp .And (a :: b :: rest) pos) (tAnd tA tB') := by
  intro wh pins s σ H Q I h
  refine isTrue_and (thn (ha pins s σ H _ I h) fun c s1 ⟨H1, I1, q1⟩ => ?_)
  cases c with
  | true => exact hb wh pins s1 σ H1 Q I1 q1
  | false => exact ⟨H1, I1, q1⟩
theorem pw_or (ha : PT X a tA) (hb : PW X (.BoolOp .Or (b :: rest) pos) tB') : PW X (.BoolOp .Or (a :: b :: rest) pos) (tOr tA tB') := by
  intro wh pins s σ H Q I h
  refine isTrue_or (thn (ha pins s σ H _ I h) fun c s1 ⟨H1, I1, q1⟩ => ?_)
  cases c with
  | true => exact ⟨H1, I1, q1⟩
  | false => exact hb wh pins s1 σ H1 Q I1 q1
theorem pt_not (ha : PT X a tA) : PT X (.UnaryOp .Not a pos) (tNot tA) := by
  intro pins s σ H Q I h
  exact isTrue_not (ha pins s σ H (fun c H1 => Q (!c) H1) I h)
def tAndV (ta tb : TE) : TE := fun σ H Q => ta σ H fun x H1 => ∃ c, x = .bl c ∧ if c = true then tb σ H1 Q else Q (.bl false) H1
def tNotV (ta : TE) : TE := fun σ H Q => ta σ H fun x H1 => ∃ c, x = .bl c ∧ Q (.bl (!c)) H1
theorem pe_one {op} {t : TE} (h : PE X a t) : PE X (.BoolOp op [a] pos) t := fun pins s σ H Q I hw => BoolOp_one (h pins s σ H Q I hw)
theorem pe_and (ha : PE X a ta) (hb : PE X (.BoolOp .And (b :: rest) pos) tb) : PE X (.BoolOp .And (a :: b :: rest) pos) (tAndV ta tb) := by
  intro pins s σ H Q I h
  refine BoolOp_and (thn (ha pins s σ H _ I h) fun v s1 ⟨x, H1, I1, r1, q1⟩ => ?_)
  obtain ⟨c, rfl, q1⟩ := q1
  cases r1
  refine wpAny_truthy_bool ?_
  cases c with
  | true => exact hb pins s1 σ H1 Q I1 q1
  | false => exact ⟨.bl false, H1, I1, rfl, q1⟩
theorem pe_not (ha : PE X a ta) : PE X (.UnaryOp .Not a pos) (tNotV ta) := by
  intro pins s σ H Q I h
  refine UnaryOp_ (thn (ha pins s σ H _ I h) fun v s1 ⟨x, H1, I1, r1, q1⟩ => ?_)
  obtain ⟨c, rfl, q1⟩ := q1
  cases r1
  exact not_of (wpAny_truthy_bool ⟨.bl (!c), H1, I1, rfl, q1⟩)
end
end L2
namespace L2
open PySem PySem.Spec PyProof.Rows
def SqL (K : PySem.W.Frag) (H : Hp) (a : Addr) (xs : List V) : Prop :=
  Rd H a (.lst xs) ∨
    ∃ (o : Obj) (its : Array Value) (n : Nat), K.lookup a = some o ∧ o.cls = .type "list" ∧ o.dict = none ∧ o.data = .seq its n ∧ its.size ≤ sizeLine ∧ Vals xs its.toList
def SqT (K : PySem.W.Frag) (H : Hp) (a : Addr) (xs : List V) : Prop :=
  Rd H a (.tup xs) ∨
    ∃ (o : Obj) (its : Array Value) (n : Nat), K.lookup a = some o ∧ o.cls = .type "tuple" ∧ o.data = .seq its n ∧ its.size ≤ sizeLine ∧ Vals xs its.toList
def absV : Value → Option V
  | .none => some .non
  | .bool b => some (.bl b)
  | .int i _ => some (.int i)
  | .str x _ => some (.str x)
  | .bytes b _ => some (.byt b)
  | .float b _ => some (.flt b)
  | .ref a => some (.ref a)
  | .type n => some (.ty n)
  | _ => none
theorem RelV.abs {x : V} {u : Value} (r : RelV x u) : absV u = some x := by
  cases x with
  | non => cases r; rfl
  | bl _ => cases r; rfl
  | int _ => obtain ⟨t, rfl⟩ := r; rfl
  | str _ => obtain ⟨t, rfl⟩ := r; rfl
  | byt _ => obtain ⟨t, rfl⟩ := r; rfl
  | flt _ => obtain ⟨t, rfl⟩ := r; rfl
  | ref _ => cases r; rfl
  | ty _ => cases r; rfl
theorem RelV.inj {x y : V} {u : Value} (r : RelV x u) (q : RelV y u) : x = y := Option.some.inj (r.abs.symm.trans q.abs)
theorem Vals.inj : ∀ {xs ys : List V} {us : List Value}, Vals xs us → Vals ys us → xs = ys
  | _, _, _, .nil, .nil => rfl
  | _, _, _, .cons r t, .cons r' t' => by rw [r.inj r', Vals.inj t t']
section
variable {X : Cx} {pins : List (Addr × Obj)} {σ : St} {H : Hp} {s : Shared} {a : Addr} {xs ys : List V}
theorem SqL.of {K : PySem.W.Frag} (h : H a = some (.lst xs)) : SqL K H a xs := .inl (.inl h)
theorem SqT.of {K : PySem.W.Frag} (h : H a = some (.tup xs)) : SqT K H a xs := .inl (.inl h)
theorem Inv.list (I : Inv X pins σ H s) (h : SqL X.K H a xs) : ∃ its : List Value, Vals xs its ∧ PlainL s.heap a its.toArray ∧ xs.length ≤ sizeLine := by
  rcases h with h | ⟨o, its, n, hk, hc, hd, hs, hz, r⟩
  · obtain ⟨z, its, n, r, e⟩ := h.ok I.hok
    exact ⟨its, r, ⟨_, n, e, rfl, rfl, rfl⟩, z⟩
  · refine ⟨its.toList, r, ⟨o, n, I.kIn a o hk, hc, hd, by simpa using hs⟩, ?_⟩
    have e := r.length
    simp only [Array.length_toList] at e
    omega
theorem Inv.tuple (I : Inv X pins σ H s) (h : SqT X.K H a xs) : ∃ its : List Value, Vals xs its ∧ IsTup s.heap a its.toArray ∧ xs.length ≤ sizeLine := by
  rcases h with h | ⟨o, its, n, hk, hc, hs, hz, r⟩
  · obtain ⟨z, its, r, p⟩ := h.ok I.hok
    exact ⟨its, r, p, z⟩
  · refine ⟨its.toList, r, ⟨o, I.kIn a o hk, hc, n, by simpa using hs⟩, ?_⟩
    have e := r.length
    simp only [Array.length_toList] at e
    omega
theorem Inv.list_inj (I : Inv X pins σ H s) (h : SqL X.K H a xs) (h' : SqL X.K H a ys) : xs = ys := by
  obtain ⟨its, r, ⟨o, n, e, _, _, d⟩, _⟩ := I.list h
  obtain ⟨its', r', ⟨o', n', e', _, _, d'⟩, _⟩ := I.list h'
  rw [e] at e'; cases e'
  rw [d] at d'
  injection d' with d1 _
  have : its = its' := by simpa using congrArg Array.toList d1
  subst this
  exact r.inj r'
theorem Inv.tuple_inj (I : Inv X pins σ H s) (h : SqT X.K H a xs) (h' : SqT X.K H a ys) : xs = ys := by
  obtain ⟨its, r, ⟨o, e, _, n, d⟩, _⟩ := I.tuple h
  obtain ⟨its', r', ⟨o', e', _, n', d'⟩, _⟩ := I.tuple h'
  rw [e] at e'; cases e'
  rw [d] at d'
  injection d' with d1 _
  have : its = its' := by simpa using congrArg Array.toList d1
  subst this
  exact r.inj r'
end
abbrev Cx.wish (X : Cx) (E : Value → Shared → Prop) : Cx := { X with xe := E }
abbrev Cx.nox (X : Cx) : Cx := X.wish fun _ _ => False
theorem Cx.Ok.wish {X : Cx} (ok : X.Ok) (E : Value → Shared → Prop) : (X.wish E).Ok :=
  ⟨ok.mod, ok.kind, ok.glob, ok.blt, ok.above, ok.inj, ok.has, ok.cab, ok.hd, ok.frames, ok.stk, ok.exf, ok.bs, ok.bsz, ok.noex, ok.exfs, ok.funs, ok.frf⟩
theorem Cx.Ok.unwish {X : Cx} {E : Value → Shared → Prop} (ok : (X.wish E).Ok) : X.Ok :=
  ⟨ok.mod, ok.kind, ok.glob, ok.blt, ok.above, ok.inj, ok.has, ok.cab, ok.hd, ok.frames, ok.stk, ok.exf, ok.bs, ok.bsz, ok.noex, ok.exfs, ok.funs, ok.frf⟩
section
variable {X : Cx} {pins : List (Addr × Obj)} {σ : St} {H : Hp} {s : Shared} {E : Value → Shared → Prop}
theorem Inv.wish (I : Inv X pins σ H s) (E : Value → Shared → Prop) : Inv (X.wish E) pins σ H s := ⟨I.ok.wish E, I.os, I.bare, I.base, I.loc, I.cell, I.free, I.freeC, I.pin, I.hok, I.len⟩
theorem Inv.unwish (I : Inv (X.wish E) pins σ H s) : Inv X pins σ H s := ⟨I.ok.unwish, I.os, I.bare, I.base, I.loc, I.cell, I.free, I.freeC, I.pin, I.hok, I.len⟩
theorem SP.unwish {D : Ends} {f : Flow} {s' : Shared} (h : SP (X.wish E) pins D f s') : SP X pins D f s' := by
  cases f with
  | next => obtain ⟨σ', H', I, q⟩ := h; exact ⟨σ', H', I.unwish, q⟩
  | brk => obtain ⟨σ', H', I, q⟩ := h; exact ⟨σ', H', I.unwish, q⟩
  | cont => obtain ⟨σ', H', I, q⟩ := h; exact ⟨σ', H', I.unwish, q⟩
  | ret u => obtain ⟨v, σ', H', I, r, q⟩ := h; exact ⟨v, σ', H', I.unwish, r, q⟩
theorem PE.nox {e : Expr} {t : TE} (h : PE X.nox e t) : PE X e t := fun pins s σ H Q I hw =>
  wpAny_mono (h pins s σ H Q (I.wish _) hw) (fun _ _ ⟨v, H', I', r, q⟩ => ⟨v, H', I'.unwish, r, q⟩) fun _ _ z => False.elim z
theorem PT.nox {e : Expr} {t : TT} (h : PT X.nox e t) : PT X e t := fun pins s σ H Q I hw =>
  wpAny_mono (h pins s σ H Q (I.wish _) hw) (fun _ _ ⟨H', I', q⟩ => ⟨H', I'.unwish, q⟩) fun _ _ z => False.elim z
theorem PSs.nox {st : List Stmt} {t : TS} (h : PSs X.nox st t) : PSs X st t := fun pins s σ H D I hw =>
  wpAny_mono (h pins s σ H D (I.wish _) hw) (fun _ _ q => q.unwish) fun _ _ z => False.elim z
end
section
variable {X : Cx} {st : Stmt} {rest : List Stmt} {t u : TS} {e : Expr} {te : TE} {pos : Pos}
def tNext : TS := fun D σ H => D.nx σ H
def tSeq (t u : TS) : TS := fun D σ H => t { D with nx := u D } σ H
theorem pss_nil : PSs X [] tNext := fun _ _ σ H _ I h => wpAny_execs_nil ⟨σ, H, I, h⟩
theorem pss_cons (h1 : PS X st t) (h2 : PSs X rest u) : PSs X (st :: rest) (tSeq t u) := by
  intro pins s σ H D I h
  refine wpAny_execs_cons (thn (h1 pins s σ H { D with nx := u D } I h) fun f s1 q => ?_)
  cases f with
  | next =>
    obtain ⟨σ', H', I', q⟩ := q
    exact h2 pins s1 σ' H' D I' q
  | ret v => exact q
  | brk => exact q
  | cont => exact q
theorem pss_one (h1 : PS X st t) : PSs X [st] t := by
  intro pins s σ H D I h
  refine wpAny_execs_cons (thn (h1 pins s σ H D I h) fun f s1 q => ?_)
  cases f with
  | next => exact wpAny_execs_nil q
  | ret v => exact q
  | brk => exact q
  | cont => exact q
theorem Inv.quiet {pins : List (Addr × Obj)} {σ : St} {H : Hp} {s : Shared} (I : Inv X pins σ H s) : interactive X.env = false := by simp [interactive, I.ok.kind]
def tRet (te : TE) : TS := fun D σ H => te σ H D.rt
theorem ps_ret (he : PE X e te) : PS X (.Return (some e) pos) (tRet te) := by
  intro pins s σ H D I h
  exact wpAny_Return_some (thn (he pins s σ H _ I h) fun v s1 ⟨x, H1, I1, r1, q1⟩ => ⟨x, σ, H1, I1, r1, q1⟩)
def tIfS (c : TT) (t u : TS) : TS := fun D σ H => c σ H fun b H1 => if b = true then t D σ H1 else u D σ H1
theorem ps_if {c : Expr} {a b : List Stmt} {tc : TT} (hc : PT X c tc) (ha : PSs X a t) (hb : PSs X b u) : PS X (.If c a b pos) (tIfS tc t u) := by
  intro pins s σ H D I h
  refine wpAny_If (thn (hc pins s σ H _ I h) fun d s1 ⟨H1, I1, q1⟩ => ?_)
  cases d with
  | true => exact ha pins s1 σ H1 D I1 q1
  | false => exact hb pins s1 σ H1 D I1 q1
end
abbrev TG := V → St → Hp → (St → Hp → Prop) → Prop
abbrev TGs := List V → St → Hp → (St → Hp → Prop) → Prop
def PG (X : Cx) (target : Expr) (t : TG) : Prop :=
  ∀ (pins : List (Addr × Obj)) (s : Shared) (σ : St) (H : Hp) (v : V) (u : Value) (Q : St → Hp → Prop), Inv X pins σ H s → RelV v u → t v σ H Q →
    wpAny (model X.prog X.w) X.A (assign target X.env u) (fun _ s' => ∃ σ' H', Inv X pins σ' H' s' ∧ Q σ' H') X.xe s
def PGs (X : Cx) (ts : List Expr) (t : TGs) : Prop :=
  ∀ (pins : List (Addr × Obj)) (s : Shared) (σ : St) (H : Hp) (vs : List V) (us : List Value) (Q : St → Hp → Prop), Inv X pins σ H s → Vals vs us → t vs σ H Q →
    wpAny (model X.prog X.w) X.A (assignInOrder ((assignEach ts X.env).map (·.2)) us) (fun _ s' => ∃ σ' H', Inv X pins σ' H' s' ∧ Q σ' H') X.xe s
abbrev TSet := V → V → V → Hp → (Hp → Prop) → Prop
section
variable {X : Cx} {pos : Pos}
def gName (i : Nat) : TG := fun v σ H Q => Q (σ.set i (some v)) H
theorem pg_name {i : Nat} {x : Str} (hN : X.N.Nodup) (hi : X.N[i]? = some x) (hx : Loc X.env.scope x) (hf : X.fn x = true ∨ X.env.scope.names.lookup x = some .local := by first | exact .inl rfl | exact .inr rfl | assumption) : PG X (.Name x pos) (gName i) := by
  intro pins s σ H v u Q I r h
  exact wpAny_assign_Name (store_ok I hN hi hx r (fun s' I' => ⟨_, H, I', h⟩) hf)
def gNil : TGs := fun vs σ H Q => vs = [] ∧ Q σ H
def gCons (t : TG) (u : TGs) : TGs := fun vs σ H Q => ∃ v r, vs = v :: r ∧ t v σ H fun σ' H' => u r σ' H' Q
theorem pgs_nil : PGs X [] gNil := by
  intro pins s σ H vs us Q I r h
  obtain ⟨e, h⟩ := h
  subst e
  cases r
  exact assignInOrder_nil ⟨σ, H, I, h⟩
theorem pgs_cons {e : Expr} {es : List Expr} {t : TG} {u : TGs} (h1 : PG X e t) (h2 : PGs X es u)
    (hs : (assignEach (e :: es) X.env).map (·.2) = assign e X.env :: (assignEach es X.env).map (·.2) := by rfl) : PGs X (e :: es) (gCons t u) := by
  intro pins s σ H vs us Q I r h
  obtain ⟨v, vr, e1, h⟩ := h
  subst e1
  cases r with
  | cons r rr =>
    rw [hs]
    refine assignInOrder_cons (thn (h1 pins s σ H _ _ _ I r h) fun _ s1 ⟨σ1, H1, I1, q1⟩ => ?_)
    exact h2 pins s1 σ1 H1 _ _ Q I1 rr q1
def gTup (K : PySem.W.Frag) (n : Nat) (t : TGs) : TG := fun v σ H Q => ∃ a xs, v = .ref a ∧ SqT K H a xs ∧ xs.length = n ∧ t xs σ H Q
theorem pg_tup {es : List Expr} {k : Nat} {t : TGs} {n : Nat} (hc : X.calm = true) (h : PGs X es t)
    (hn : (assignEach es X.env).length = n := by rfl) (hst : (assignEach es X.env).findIdx? (·.1) = none := by rfl) : PG X (.Tuple es k pos) (gTup X.K n t) := by
  intro pins s σ H v u Q I r hw
  obtain ⟨a, xs, e1, hq, hl, hw⟩ := hw
  subst e1
  cases r
  obtain ⟨its, rv, ht, hz⟩ := I.tuple hq
  refine assign_Tuple_tuple (I.ok.hd hc) ht (by simp [hn, ← hl, rv.length]) hst fun h' hx => ?_
  have I1 : Inv X pins σ H { s with heap := h' } := I.kept (t' := s.toks) fun b o e => hx b o (Nat.ne_of_lt (Heap.lt_size e)) e
  exact h pins _ σ H xs _ Q I1 (by simpa using rv) hw
def tAsg (te : TE) (g : TG) : TS := fun D σ H => te σ H fun x H1 => g x σ H1 D.nx
theorem ps_set {i : Nat} {x : Str} {e : Expr} {te : TE} {pos' : Pos} (hN : X.N.Nodup) (hi : X.N[i]? = some x) (hx : Loc X.env.scope x) (he : PE X e te) (hs : swapsWith e (some (.Name x pos')) pos.line X.env = pure false := by rfl) (hf : X.fn x = true ∨ X.env.scope.names.lookup x = some .local := by first | exact .inl rfl | exact .inr rfl | assumption) :
    PS X (.Assign [.Name x pos'] e pos) (tAsg te (gName i)) := by
  intro pins s σ H D I h
  refine wpAny_Assign_Name (thn (he pins s σ H _ I h) fun v s1 ⟨y, H1, I1, r1, q1⟩ => ?_) hs
  exact store_ok I1 hN hi hx r1 (fun s2 I2 => ⟨_, H1, I2, q1⟩) hf
end
section
variable {X : Cx} {pos : Pos}
end
structure It where
  go : Nat → Hp → Prop
  yld : Nat → Hp → V → Hp → Prop
  stop : Nat → Hp → Prop
def FpOk (X : Cx) (pins : List (Addr × Obj)) (H : Hp) (b : Addr) : Prop :=
  H b = none ∧ b ≠ X.env.locals ∧ b ∉ X.fs ∧ (b ∈ X.ex ∨ X.s₀.heap.objs.size ≤ b) ∧ (∀ x c, X.env.cells.lookup x = some c → c ≠ b) ∧ ∀ p ∈ X.pn ++ pins, p.1 ≠ b
theorem Inv.fpOk {X : Cx} {pins : List (Addr × Obj)} {σ : St} {H H' : Hp} {s : Shared} {b : Addr} (I : Inv X pins σ H s) (hb : s.heap.objs.size ≤ b) (hn : H' b = none) : FpOk X pins H' b := by
  refine ⟨hn, Nat.ne_of_gt (Nat.lt_of_lt_of_le I.lt hb), I.nofs hb, .inr (Nat.le_trans I.sz hb), fun x c e z => ?_, fun p hp z => ?_⟩
  · obtain ⟨v, q⟩ := I.cell x c e
    exact absurd (Nat.lt_of_lt_of_le q.lt (by rw [z]; exact hb)) (Nat.lt_irrefl _)
  · exact absurd (Nat.lt_of_lt_of_le (Heap.lt_size (I.pin p hp).1) (by rw [z]; exact hb)) (Nat.lt_irrefl _)
structure Turn (P : Program) (w : World) (K : PySem.W.Frag) (tg : Expr) (J : It) (fp : List Addr) (it : Addr) (tn : Nat → Heap → Prop) : Prop where
  mem : it ∈ fp
  obj : ∀ i h, tn i h → ∀ b ∈ fp, ∃ o, h.get? b = some o ∧ ∀ v, o.data ≠ .cell v
  keep : ∀ i h h', tn i h → (∀ b ∈ fp, ∀ o, h.get? b = some o → h'.get? b = some o) → tn i h'
  item : ∀ (X : Cx), X.prog = P → X.w = w → X.K = K → X.calm = true → ∀ (i : Nat) (pins : List (Addr × Obj)) (s : Shared) (σ : St) (H : Hp) (E : Value → Shared → Prop), Inv X pins σ H s → (∀ b ∈ fp, FpOk X pins H b) → tn i s.heap → J.go i H →
    wpAny (model P w) X.A (pyNext (.ref it)) (fun r s1 => ∃ u, r = some u ∧
      wpAny (model P w) X.A (letOwnedTupleGo tg (.ref it) u) (fun _ s2 => ∃ x H', Inv X pins σ H' s2 ∧ RelV x u ∧ J.yld i H x H' ∧ tn (i + 1) s2.heap ∧ ∀ b ∈ fp, H' b = none) E s1) E s
  done : ∀ (X : Cx), X.prog = P → X.w = w → X.K = K → X.calm = true → ∀ (i : Nat) (pins : List (Addr × Obj)) (s : Shared) (σ : St) (H : Hp) (E : Value → Shared → Prop), Inv X pins σ H s → (∀ b ∈ fp, FpOk X pins H b) → tn i s.heap → J.stop i H →
    wpAny (model P w) X.A (pyNext (.ref it)) (fun r s1 => r = none ∧ Inv X pins σ H s1) E s
  self : ∀ (A : Around) (i : Nat) (s : Shared) (Q : Value → Shared → Prop) (E : Value → Shared → Prop), tn i s.heap → Q (.ref it) s → wpAny (model P w) A (pyIter (.ref it)) Q E s
abbrev TI := St → Hp → (It → Hp → Prop) → Prop
def PIE (X : Cx) (pins : List (Addr × Obj)) (σ : St) (tg : Expr) (R : It → Hp → Prop) (itv : Value) (s2 : Shared) : Prop :=
  ∃ (it : Addr) (fp : List Addr) (tn : Nat → Heap → Prop) (J : It) (H' : Hp), itv = .ref it ∧ Inv X pins σ H' s2 ∧ Turn X.prog X.w X.K tg J fp it tn ∧ tn 0 s2.heap ∧ (∀ b ∈ fp, FpOk X pins H' b) ∧ R J H'
def PI (X : Cx) (tg iter : Expr) (wi : TI) : Prop :=
  ∀ (pins : List (Addr × Obj)) (s : Shared) (σ : St) (H : Hp) (R : It → Hp → Prop), Inv X pins σ H s → wi σ H R →
    wpAny (model X.prog X.w) X.A (eval iter X.env) (fun v s1 => wpAny (model X.prog X.w) X.A (pyIter v) (PIE X pins σ tg R) X.xe s1) X.xe s
theorem go_of {M : Model} {A : Around} {E : Value → Shared → Prop} {s : Shared} {tg : Expr} {it : Addr} {u : Value} {o : Obj} {n : String} {vs : Array Value} {Q : Unit → Shared → Prop} (ho : s.heap.get? it = some o) (hc : o.cls = .type n) (hd : o.data = .fields vs)
    (hn : ["enumerate", "zip", "dict_itemiterator", "dict_reverseitemiterator", "odict_iterator", "itertools.zip_longest", "itertools.pairwise"].contains n = false) (hQ : Q () s) : wpAny M A (letOwnedTupleGo tg (.ref it) u) Q E s := by
  unfold letOwnedTupleGo
  cases tg <;> first
    | exact wpAny_pure hQ
    | (cases u <;> first
        | exact wpAny_pure hQ
        | (refine wpAny_bind (wpAny_load ho ?_)
           rw [hc, hd]
           show wpAny M A (if (["enumerate", "zip", "dict_itemiterator", "dict_reverseitemiterator", "odict_iterator", "itertools.zip_longest", "itertools.pairwise"].contains n && vs[0]? == some (rawInt _)) = true then _ else _) Q E s
           rw [if_neg (by intro h; rw [hn, Bool.false_and] at h; cases h)]
           exact wpAny_pure hQ))
def Itl (K : PySem.W.Frag) (a : Addr) : It :=
  ⟨fun i H => ∃ xs x, SqL K H a xs ∧ xs[i]? = some x, fun i H x H' => H' = H ∧ ∀ xs, SqL K H a xs → xs[i]? = some x, fun i H => ∃ xs, SqL K H a xs ∧ xs.length ≤ i⟩
def Itr (lo : Int) (n : Nat) : It := ⟨fun i _ => i < n, fun i H x H' => H' = H ∧ x = .int (lo + i), fun i _ => n ≤ i⟩
theorem turn_list {P : Program} {w : World} {K : PySem.W.Frag} {tg : Expr} (a it : Addr) : Turn P w K tg (Itl K a) [it] it (fun i h => h.IsListIter it a i) where
  mem := by simp
  obj := fun i h st b hb => by
    have e : b = it := by simpa using hb
    subst e
    obtain ⟨o, e, c, d⟩ := st
    exact ⟨o, e, fun v z => by rw [d] at z; cases z⟩
  keep := fun i h h' st k => st.at fun o e => k it (by simp) o e
  item := by
    intro X hP hw hK hc i pins s σ H E I hf st hg
    subst hP hw hK
    obtain ⟨xs, x, hq, hx⟩ := hg
    obtain ⟨its, rv, p, hz⟩ := I.list hq
    obtain ⟨u, hu, ru⟩ := rv.get hx
    obtain ⟨f0, f1, f2, f3, f4, f5⟩ := hf it (by simp)
    refine wpAny_pyNext_list_item st p.isList (x := u) (by simpa using hu) fun h' st' sb => ?_
    have I1 : Inv X pins σ H { s with heap := h' } := I.turned (t' := s.toks) (fun b o hb e => (sb.2 b hb).trans e) f0 f1 f3 f4 f5
    obtain ⟨o, e, c, d⟩ := id st'
    exact ⟨u, rfl, go_of (s := { s with heap := h' }) e c d (by decide) ⟨x, H, I1, ru, ⟨rfl, fun ys hy => by rw [I.list_inj hy hq]; exact hx⟩, st', fun b hb => (hf b hb).1⟩⟩
  done := by
    intro X hP hw hK hc i pins s σ H E I hf st hg
    subst hP hw hK
    obtain ⟨xs, hq, hx⟩ := hg
    obtain ⟨its, rv, p, hz⟩ := I.list hq
    obtain ⟨f0, f1, f2, f3, f4, f5⟩ := hf it (by simp)
    have hl := rv.length
    exact wpAny_pyNext_list_end (I.ok.hd hc) st p.isList (by simp; omega) fun h' eb => ⟨rfl, I.turned (t' := s.toks) (fun b o hb e => eb b o hb e) f0 f1 f3 f4 f5⟩
  self := fun _ _ _ _ _ st h => wpAny_pyIter_listiter st h
theorem turn_range {P : Program} {w : World} {K : PySem.W.Frag} {tg : Expr} (it : Addr) (lo : Int) (n : Nat) : Turn P w K tg (Itr lo n) [it] it (fun i h => IsRangeIter h it (lo + (i : Nat) * 1) ((n : Int) - (i : Nat)) 1) where
  mem := by simp
  obj := fun i h st b hb => by
    have e : b = it := by simpa using hb
    subst e
    exact ⟨_, st, fun v z => by
      have z' : Data.fields _ = Data.cell v := z
      cases z'⟩
  keep := fun i h h' st k => k it (by simp) _ st
  item := by
    intro X hP hw hK hc i pins s σ H E I hf st hg
    subst hP hw hK
    obtain ⟨f0, f1, f2, f3, f4, f5⟩ := hf it (by simp)
    have W := Walks.range (prog := X.prog) (w := X.w) (I.ok.hd hc) it lo 1 n
    refine W.item i s _ _ hg st fun v h' tk hv st' kk => ?_
    obtain ⟨t, rfl⟩ := hv
    have I1 : Inv X pins σ H { s with heap := h', toks := tk } := I.turned (fun b o hb e => kk b o (by simpa using hb) e) f0 f1 f3 f4 f5
    refine ⟨_, rfl, go_of (s := { s with heap := h', toks := tk }) (n := "range_iterator") st' rfl rfl (by decide) ⟨.int (lo + i), H, I1, ⟨t, ?_⟩, ⟨rfl, rfl⟩, st', fun b hb => (hf b hb).1⟩⟩
    rw [Int.mul_one]
  done := by
    intro X hP hw hK hc i pins s σ H E I hf st hg
    subst hP hw hK
    obtain ⟨f0, f1, f2, f3, f4, f5⟩ := hf it (by simp)
    exact wpAny_pyNext_range_end (I.ok.hd hc) st (by have : n ≤ i := hg; omega) fun h' eb => ⟨rfl, I.turned (t' := s.toks) (fun b o hb e => eb b o hb e) f0 f1 f3 f4 f5⟩
  self := fun _ _ _ _ _ st h => wpAny_pyIter_rangeiter st h
end L2
namespace L2
open PySem PySem.Spec PyProof.Rows
section
variable {X : Cx} {tg : Expr}
def iList (K : PySem.W.Frag) (tl : TE) : TI := fun σ H R => tl σ H fun x H1 => ∃ a, x = .ref a ∧ (∃ xs, SqL K H1 a xs) ∧ R (Itl K a) H1
theorem pi_list {l : Expr} {tl : TE} (hl : PE X l tl) : PI X tg l (iList X.K tl) := by
  intro pins s σ H R I h
  refine thn (hl pins s σ H _ I h) fun v s1 ⟨x, H1, I1, r1, q1⟩ => ?_
  obtain ⟨a, e, ⟨xs, hq⟩, q⟩ := q1
  subst e
  cases r1
  obtain ⟨its, rv, p, hz⟩ := I1.list hq
  refine wpAny_pyIter_list p.isList ?_
  refine ⟨s1.heap.objs.size, [s1.heap.objs.size], _, _, H1, rfl, I1.kept (t' := s1.toks) fun b o e => Heap.get?_push_of_some _ e, turn_list a _, ⟨_, Heap.get?_push_size _ rfl, rfl, rfl⟩, fun b hb => ?_, q⟩
  have e : b = s1.heap.objs.size := by simpa using hb
  subst e
  exact I1.fpOk (Nat.le_refl _) (I1.hok.fresh (Nat.le_refl _))
theorem range_it {pins : List (Addr × Obj)} {σ : St} {H : Hp} {s : Shared} {R : It → Hp → Prop} {E : Value → Shared → Prop} {lo hi : Int} {t u v : Tok} {tk : Nat} (I : Inv X pins σ H s) (h1 : -(2 ^ 62) ≤ lo) (h2 : lo < 2 ^ 62) (h3 : -(2 ^ 62) ≤ hi) (h4 : hi < 2 ^ 62)
    (q : R (Itr lo (hi - lo).toNat) H) : wpAny (model X.prog X.w) X.A (pyIter (.ref s.heap.objs.size)) (PIE X pins σ tg R) E { s with heap := s.heap.push { cls := .type "range", data := .fields #[.int lo t, .int hi u, .int 1 v] }, toks := tk } := by
  refine wpAny_pyIter_range (IsRange.new ..) (small_one h1 h2 h3 h4) ?_
  have I1 : Inv X pins σ H { s with heap := s.heap.push { cls := .type "range", data := .fields #[.int lo t, .int hi u, .int 1 v] }, toks := tk } := I.kept fun b o e => Heap.get?_push_of_some _ e
  refine ⟨(s.heap.push { cls := .type "range", data := .fields #[.int lo t, .int hi u, .int 1 v] }).objs.size, [(s.heap.push { cls := .type "range", data := .fields #[.int lo t, .int hi u, .int 1 v] }).objs.size], _, _, H, rfl,
    I1.kept (t' := tk) fun b o e => Heap.get?_push_of_some _ e, turn_range _ lo (hi - lo).toNat, ?_, fun b hb => ?_, q⟩
  · have e1 : lo + ((0 : Nat) : Int) * 1 = lo := by simp
    have e2 : (((hi - lo).toNat : Nat) : Int) - ((0 : Nat) : Int) = Builtin.Range.rangeSize lo hi 1 := by rw [rangeSize_one]; split <;> omega
    show IsRangeIter _ _ (lo + ((0 : Nat) : Int) * 1) ((((hi - lo).toNat : Nat) : Int) - ((0 : Nat) : Int)) 1
    rw [e1, e2]
    exact Heap.get?_push_size _ rfl
  · have e : b = (s.heap.push { cls := .type "range", data := .fields #[.int lo t, .int hi u, .int 1 v] }).objs.size := by simpa using hb
    subst e
    exact I1.fpOk (Nat.le_refl _) (I1.hok.fresh (Nat.le_refl _))
def iRng1 (ta : TA) : TI := fun σ H R => ta σ H fun vs H1 => ∃ j : Int, vs = [.int j] ∧ -(2 ^ 62) ≤ j ∧ j < 2 ^ 62 ∧ R (Itr 0 j.toNat) H1
theorem pi_range1 {a : Expr} {ta : TA} {p pos : Pos} (hg : Gl X "range") (hm : X.mg "range" = none) (ha : PA X [a] ta) (hs : starEach [a] X.env = [(false, eval a X.env)] := by rfl) : PI X tg (.Call (.Name "range" p) [a] [] pos) (iRng1 ta) := by
  intro pins s σ H R I h
  refine Call_ (ld_blt I hg hm boot_range (PyProof.Rows.callWith_type1 (thn (ha pos pins s σ H _ I h) fun us s1 ⟨vs, H1, I1, r1, q1⟩ => ?_) hs rfl))
  obtain ⟨j, e, q1, q2, q⟩ := q1
  subst e
  cases r1 with
  | cons r rr =>
    cases rr
    obtain ⟨t, rfl⟩ := r
    exact call_range_1 (range_it I1 (by omega) (by omega) q1 q2 (by simpa using q))
def tFor (wi : TI) (g : TG) (tb : TS) : TS := fun D σ H => wi σ H fun J H1 => ∃ W : Nat → Nat → St → Hp → Prop, (∃ m, W 0 m σ H1) ∧ ∀ i m σ H, W i m σ H →
  (J.stop i H ∧ D.nx σ H) ∨ (J.go i H ∧ ∃ N : St → Hp → Prop, (∀ σ' H', N σ' H' → ∃ m', m' < m ∧ W (i + 1) m' σ' H') ∧ ∀ x H', J.yld i H x H' → g x σ H' fun σ2 H2 => tb { D with nx := N, ct := N, bk := D.nx } σ2 H2)
def pinsAt (fp : List Addr) (h : Heap) : List (Addr × Obj) := fp.filterMap fun b => (h.get? b).map fun o => (b, o)
theorem mem_pinsAt {fp : List Addr} {h : Heap} {b : Addr} {o : Obj} (hb : b ∈ fp) (e : h.get? b = some o) : (b, o) ∈ pinsAt fp h := List.mem_filterMap.mpr ⟨b, hb, by rw [e]; rfl⟩
theorem of_pinsAt {fp : List Addr} {h : Heap} {p : Addr × Obj} (hp : p ∈ pinsAt fp h) : p.1 ∈ fp ∧ h.get? p.1 = some p.2 := by
  obtain ⟨b, hb, e⟩ := List.mem_filterMap.mp hp
  cases q : h.get? b with
  | none => rw [q] at e; cases e
  | some o =>
    rw [q] at e
    have e' : (b, o) = p := Option.some.inj e
    subst e'
    exact ⟨hb, q⟩
theorem Inv.pinned {pins : List (Addr × Obj)} {σ : St} {H : Hp} {s : Shared} {fp : List Addr} (I : Inv X pins σ H s) (hf : ∀ b ∈ fp, FpOk X pins H b) (ho : ∀ b ∈ fp, ∃ o, s.heap.get? b = some o ∧ ∀ v, o.data ≠ .cell v) : Inv X (pins ++ pinsAt fp s.heap) σ H s :=
  I.pins_of fun p hp => (List.mem_append.mp hp).elim (fun z => I.pin p (List.mem_append_right _ z)) fun z => by
    obtain ⟨hb, e⟩ := of_pinsAt z
    obtain ⟨f0, f1, f2, _⟩ := hf p.1 hb
    obtain ⟨o, e', d⟩ := ho p.1 hb
    rw [e] at e'; cases e'
    exact ⟨e, f0, f1, f2, d⟩
theorem Inv.unpinned {pins pl : List (Addr × Obj)} {σ : St} {H : Hp} {s : Shared} (I : Inv X (pins ++ pl) σ H s) : Inv X pins σ H s := I.pins_of fun p hp => I.pin p (List.mem_append_right _ (List.mem_append_left _ hp))
theorem ps_for {iter : Expr} {body : List Stmt} {wi : TI} {g : TG} {tb : TS} {pos : Pos} (hp : PassesOwn (model X.prog X.w) X.A X.env X.xe) (hc : X.calm = true) (hi : PI X tg iter wi) (hg : PG X tg g) (hb : PSs X body tb)
    (hs : ∀ x, foldedSetIterable iter X.env x = pure x := by intro _; rfl) : PS X (.For tg iter body [] pos) (tFor wi g tb) := by
  intro pins s σ H D I h
  refine wpAny_For (thn (hi pins s σ H _ I h) fun v s1 h1 => thn h1 fun itv s2 h2 => ?_) hs
  obtain ⟨it, fp, tn, J, H2, e, I2, T, st2, f2, W, ⟨m0, w0⟩, turn⟩ := h2
  subst e
  have stat : ∀ {H' : Hp}, (∀ b ∈ fp, H' b = none) → ∀ b ∈ fp, FpOk X pins H' b := fun hn b hb => ⟨hn b hb, (f2 b hb).2⟩
  refine codeAny_forLoop_any (fun n s' => ∃ i σ' H', Inv X pins σ' H' s' ∧ tn i s'.heap ∧ (∀ b ∈ fp, H' b = none) ∧ W i n σ' H') ?_ m0 ⟨0, σ, H2, I2, st2, fun b hb => (f2 b hb).1, w0⟩
  rintro n s3 ⟨i, σ3, H3, I3, st3, fr3, w3⟩
  rcases turn i n σ3 H3 w3 with ⟨stop, qn⟩ | ⟨go, N, hN, step⟩
  · refine wpAny_passesOwn hp (thn (T.done X rfl rfl rfl hc i pins s3 σ3 H3 X.xe I3 (stat fr3) st3 stop) fun r s4 ⟨hr, I4⟩ => ?_)
    subst hr
    exact wpAny_execs_nil ⟨σ3, H3, I4, qn⟩
  · refine wpAny_passesOwn hp (thn (T.item X rfl rfl rfl hc i pins s3 σ3 H3 X.xe I3 (stat fr3) st3 go) fun r s4 ⟨u, hr, h4⟩ => ?_)
    subst hr
    refine wpAny_passesOwn hp (thn h4 fun _ s5 ⟨x, H5, I5, r5, y5, st5, fr5⟩ => ?_)
    have I5' := I5.pinned (stat fr5) (T.obj _ _ st5)
    refine wpAny_passesOwn hp (thn (hg _ s5 σ3 H5 x u _ I5' r5 (step x H5 y5)) fun _ s6 ⟨σ6, H6, I6, q6⟩ => ?_)
    refine wpAny_passesOwn hp (thn (hb _ s6 σ6 H6 _ I6 q6) fun f s7 q7 => ?_)
    have again : ∀ {σ7 : St} {H7 : Hp}, Inv X (pins ++ pinsAt fp s5.heap) σ7 H7 s7 → N σ7 H7 → ∃ m, m < n ∧ ∃ i σ' H', Inv X pins σ' H' s7 ∧ tn i s7.heap ∧ (∀ b ∈ fp, H' b = none) ∧ W i m σ' H' := fun {σ7 H7} I7 n7 => by
      obtain ⟨m', hm, w7⟩ := hN σ7 H7 n7
      refine ⟨m', hm, i + 1, σ7, H7, I7.unpinned, T.keep _ _ _ st5 fun b hb o e => (I7.pin (b, o) (List.mem_append_right _ (List.mem_append_right _ (mem_pinsAt hb e)))).1, fun b hb => ?_, w7⟩
      obtain ⟨o, e, d⟩ := T.obj _ _ st5 b hb
      exact (I7.pin (b, o) (List.mem_append_right _ (List.mem_append_right _ (mem_pinsAt hb e)))).2.1
    cases f with
    | next => obtain ⟨σ7, H7, I7, n7⟩ := q7; exact again I7 n7
    | cont => obtain ⟨σ7, H7, I7, n7⟩ := q7; exact again I7 n7
    | brk => obtain ⟨σ7, H7, I7, q7⟩ := q7; exact ⟨σ7, H7, I7.unpinned, q7⟩
    | ret v => obtain ⟨x7, σ7, H7, I7, r7, q7⟩ := q7; exact ⟨x7, σ7, H7, I7.unpinned, r7, q7⟩
end
end L2
namespace L2
open PySem PySem.Spec PyProof.Rows
abbrev R2 := V → V → Hp → VK → Prop
def OpR (X : Cx) (f : Value → Value → Sem Value) (r : R2) : Prop :=
  ∀ (pins : List (Addr × Obj)) (s : Shared) (σ : St) (H : Hp) (x y : V) (v u : Value) (Q : VK), Inv X pins σ H s → RelV x v → RelV y u → r x y H Q →
    wpAny (model X.prog X.w) X.A (f v u) (EP X pins σ Q) X.xe s
def UnR (X : Cx) (f : Value → Sem Value) (r : V → Hp → VK → Prop) : Prop :=
  ∀ (pins : List (Addr × Obj)) (s : Shared) (σ : St) (H : Hp) (x : V) (v : Value) (Q : VK), Inv X pins σ H s → RelV x v → r x H Q →
    wpAny (model X.prog X.w) X.A (f v) (EP X pins σ Q) X.xe s
def CallR (X : Cx) (f : Value) (r : List V → Hp → VK → Prop) : Prop :=
  ∀ (pins : List (Addr × Obj)) (s : Shared) (σ : St) (H : Hp) (xs : List V) (us : List Value) (Q : VK), Inv X pins σ H s → Vals xs us → r xs H Q →
    wpAny (model X.prog X.w) X.A (call f us) (EP X pins σ Q) X.xe s
def tOp (r : R2) (ta tb : TE) : TE := fun σ H Q => ta σ H fun x H1 => tb σ H1 fun y H2 => r x y H2 Q
def tUn (r : V → Hp → VK → Prop) (ta : TE) : TE := fun σ H Q => ta σ H fun x H1 => r x H1 Q
def rI (C : Int → Int → Prop) (g : Int → Int → V) : R2 := fun x y H Q => ∃ i j, x = .int i ∧ y = .int j ∧ C i j ∧ Q (g i j) H
def rI0 (g : Int → Int → V) : R2 := fun x y H Q => ∃ i j, x = .int i ∧ y = .int j ∧ Q (g i j) H
def rU (g : Int → V) : V → Hp → VK → Prop := fun x H Q => ∃ i, x = .int i ∧ Q (g i) H
section
variable {X : Cx} {a b c : Expr} {ta tb tc : TE} {pos : Pos}
theorem binT (ha : PE X a ta) (hb : PE X b tb) {pins : List (Addr × Obj)} {s : Shared} {σ : St} {H : Hp} {R : V → V → Hp → Prop} (I : Inv X pins σ H s)
    (h : ta σ H fun x H1 => tb σ H1 fun y H2 => R x y H2) {Q : Value → Shared → Prop} {f : Value → Value → Sem Value}
    (hf : ∀ v u s2 x y H2, Inv X pins σ H2 s2 → RelV x v → RelV y u → R x y H2 → wpAny (model X.prog X.w) X.A (f v u) Q X.xe s2) :
    wpAny (model X.prog X.w) X.A (eval a X.env) (fun v s₁ => wpAny (model X.prog X.w) X.A (eval b X.env) (fun u s₂ => wpAny (model X.prog X.w) X.A (f v u) Q X.xe s₂) X.xe s₁) X.xe s := by
  refine thn (ha pins s σ H _ I h) fun v s1 ⟨x, H1, I1, r1, q1⟩ => ?_
  refine thn (hb pins s1 σ H1 _ I1 q1) fun u s2 ⟨y, H2, I2, r2, q2⟩ => ?_
  exact hf v u s2 x y H2 I2 r1 r2 q2
theorem pe_op {op : Operator} {r : R2} (ho : OpR X (binaryOp op) r) (ha : PE X a ta) (hb : PE X b tb) : PE X (.BinOp a op b pos) (tOp r ta tb) := by
  intro pins s σ H Q I h
  exact wpAny_BinOp (binT ha hb I h fun v u s2 x y H2 I2 rx ry q => ho pins s2 σ H2 x y v u Q I2 rx ry q)
theorem pe_un {op : UnaryOp} {r : V → Hp → VK → Prop} (ho : UnR X (unaryOp op) r) (ha : PE X a ta) : PE X (.UnaryOp op a pos) (tUn r ta) := by
  intro pins s σ H Q I h
  exact UnaryOp_ (thn (ha pins s σ H _ I h) fun v s1 ⟨x, H1, I1, r1, q1⟩ => ho pins s1 σ H1 x v Q I1 r1 q1)
theorem opI {f : Value → Value → Sem Value} {C : Int → Int → Prop} {g : Int → Int → Int}
    (rule : ∀ (i j : Int) (t u : Tok) (s : Shared) (Q : Value → Shared → Prop) (E : Value → Shared → Prop), C i j → Q (.int (g i j) s.toks) { s with toks := s.toks + 1 } → wpAny (model X.prog X.w) X.A (f (.int i t) (.int j u)) Q E s) :
    OpR X f (rI C fun i j => .int (g i j)) := by
  intro pins s σ H x y v u Q I rx ry h
  obtain ⟨i, j, rfl, rfl, hc, q⟩ := h
  obtain ⟨t, rfl⟩ := rx
  obtain ⟨t', rfl⟩ := ry
  exact rule i j t t' s _ _ hc ⟨.int (g i j), H, I.tok _, ⟨_, rfl⟩, q⟩
theorem opI0 {f : Value → Value → Sem Value} {g : Int → Int → Int}
    (rule : ∀ (i j : Int) (t u : Tok) (s : Shared) (Q : Value → Shared → Prop) (E : Value → Shared → Prop), Q (.int (g i j) s.toks) { s with toks := s.toks + 1 } → wpAny (model X.prog X.w) X.A (f (.int i t) (.int j u)) Q E s) :
    OpR X f (rI0 fun i j => .int (g i j)) := by
  intro pins s σ H x y v u Q I rx ry h
  obtain ⟨i, j, rfl, rfl, q⟩ := h
  obtain ⟨t, rfl⟩ := rx
  obtain ⟨t', rfl⟩ := ry
  exact rule i j t t' s _ _ ⟨.int (g i j), H, I.tok _, ⟨_, rfl⟩, q⟩
theorem opB0 {f : Value → Value → Sem Value} {g : Int → Int → Bool}
    (rule : ∀ (i j : Int) (t u : Tok) (s : Shared) (Q : Value → Shared → Prop) (E : Value → Shared → Prop), Q (.bool (g i j)) s → wpAny (model X.prog X.w) X.A (f (.int i t) (.int j u)) Q E s) :
    OpR X f (rI0 fun i j => .bl (g i j)) := by
  intro pins s σ H x y v u Q I rx ry h
  obtain ⟨i, j, rfl, rfl, q⟩ := h
  obtain ⟨t, rfl⟩ := rx
  obtain ⟨t', rfl⟩ := ry
  exact rule i j t t' s _ _ ⟨.bl (g i j), H, I, rfl, q⟩
def CMul (i j : Int) : Prop := (-(2 ^ 64) < i ∧ i < 2 ^ 64) ∨ (-(2 ^ 64) < j ∧ j < 2 ^ 64)
theorem CMul.ok {i j : Int} (h : CMul i j) : IntMulOk i j := by
  rcases h with ⟨h1, h2⟩ | ⟨h1, h2⟩
  · exact .of_left (intBits_le_64 h1 h2)
  · exact .of_right (intBits_le_64 h1 h2)
theorem op_add : OpR X (binaryOp .Add) (rI0 fun i j => .int (i + j)) := opI0 fun _ _ _ _ _ _ _ q => add_int q
theorem op_sub : OpR X (binaryOp .Sub) (rI0 fun i j => .int (i - j)) := opI0 fun _ _ _ _ _ _ _ q => sub_int q
theorem op_mul : OpR X (binaryOp .Mult) (rI CMul fun i j => .int (i * j)) := opI fun _ _ _ _ _ _ _ hc q => mul_int q hc.ok
theorem op_mod : OpR X (binaryOp .Mod) (rI (fun _ j => 0 < j) fun i j => .int (i % j)) := opI fun i j _ _ _ _ _ hc q => by
  have h1 : (0 : Int) < j := hc
  exact mod_int' (by omega) (by rw [Int.fmod_eq_emod_of_nonneg i (by omega)]; exact q)
theorem unI {f : Value → Sem Value} {g : Int → Int}
    (rule : ∀ (i : Int) (t : Tok) (s : Shared) (Q : Value → Shared → Prop) (E : Value → Shared → Prop), Q (.int (g i) s.toks) { s with toks := s.toks + 1 } → wpAny (model X.prog X.w) X.A (f (.int i t)) Q E s) :
    UnR X f (rU fun i => .int (g i)) := by
  intro pins s σ H x v Q I rx h
  obtain ⟨i, rfl, q⟩ := h
  obtain ⟨t, rfl⟩ := rx
  exact rule i t s _ _ ⟨.int (g i), H, I.tok _, ⟨_, rfl⟩, q⟩
theorem un_neg : UnR X (unaryOp .USub) (rU fun i => .int (-i)) := unI fun _ _ _ _ _ q => neg_int q
end
def scal : V → V → Bool
  | .non, .non => true | .non, .int _ => true | .int _, .non => true | .non, .bl _ => true | .bl _, .non => true | .non, .str _ => true | .str _, .non => true
  | .int _, .int _ => true | .bl _, .bl _ => true | .str _, .str _ => true | .byt _, .byt _ => true
  | .int _, .str _ => true | .str _, .int _ => true | .bl _, .str _ => true | .str _, .bl _ => true
  | _, _ => false
def rEq : R2 := fun x y H Q => scal x y = true ∧ Q (.bl (decide (x = y))) H
def rNe : R2 := fun x y H Q => scal x y = true ∧ Q (.bl (!decide (x = y))) H
theorem dec_int {i j : Int} : decide (V.int i = V.int j) = (i == j) := by
  rw [Bool.eq_iff_iff]
  simp
theorem dec_bl {i j : Bool} : decide (V.bl i = V.bl j) = (i == j) := by
  rw [Bool.eq_iff_iff]
  simp
theorem dec_str {i j : Str} : decide (V.str i = V.str j) = (i == j) := by
  rw [Bool.eq_iff_iff]
  simp
theorem dec_byt {i j : Array UInt8} : decide (V.byt i = V.byt j) = (i.toList == j.toList) := by
  rw [Bool.eq_iff_iff]
  cases i
  cases j
  simp
section
variable {X : Cx} {a b c : Expr} {ta tb tc : TE} {pos : Pos}
theorem fin_bl {pins : List (Addr × Obj)} {σ : St} {H : Hp} {s : Shared} {Q : VK} {k k' : Bool} (I : Inv X pins σ H s) (q : Q (.bl k) H) (e : k = k') : EP X pins σ Q (.bool k') s := by
  subst e
  exact ⟨.bl k, H, I, rfl, q⟩
theorem op_eq : OpR X (compareOp .Eq) rEq := by
  intro pins s σ H x y v u Q I rx ry h
  obtain ⟨hs, q⟩ := h
  cases x with
  | non =>
    cases rx
    cases y with
    | non => cases ry; exact PySem.EqNone.eq_none_none (fin_bl I q (by simp))
    | bl j => cases ry; exact PySem.EqNone.eq_none_bool (fin_bl I q (by simp))
    | int j => obtain ⟨t', rfl⟩ := ry; exact PySem.EqNone.eq_none_int (fin_bl I q (by simp))
    | str j => obtain ⟨t', rfl⟩ := ry; exact PySem.EqNone.eq_none_str (fin_bl I q (by simp))
    | _ => exact absurd (show false = true from hs) Bool.false_ne_true
  | bl i =>
    cases rx
    cases y with
    | non => cases ry; exact PySem.EqNone.eq_bool_none (fin_bl I q (by simp))
    | bl j => cases ry; exact eq_bool (fin_bl I q dec_bl)
    | str j => obtain ⟨t', rfl⟩ := ry; exact PySem.EqMixed.eq_bool_str (fin_bl I q (by simp))
    | _ => exact absurd (show false = true from hs) Bool.false_ne_true
  | int i =>
    obtain ⟨t, rfl⟩ := rx
    cases y with
    | non => cases ry; exact PySem.EqNone.eq_int_none (fin_bl I q (by simp))
    | int j => obtain ⟨t', rfl⟩ := ry; exact eq_int (fin_bl I q dec_int)
    | str j => obtain ⟨t', rfl⟩ := ry; exact PySem.EqMixed.eq_int_str (fin_bl I q (by simp))
    | _ => exact absurd (show false = true from hs) Bool.false_ne_true
  | str i =>
    obtain ⟨t, rfl⟩ := rx
    cases y with
    | non => cases ry; exact PySem.EqNone.eq_str_none (fin_bl I q (by simp))
    | bl j => cases ry; exact PySem.EqMixed.eq_str_bool (fin_bl I q (by simp))
    | int j => obtain ⟨t', rfl⟩ := ry; exact PySem.EqMixed.eq_str_int (fin_bl I q (by simp))
    | str j => obtain ⟨t', rfl⟩ := ry; exact eq_str (fin_bl I q dec_str)
    | _ => exact absurd (show false = true from hs) Bool.false_ne_true
  | byt i =>
    obtain ⟨t, rfl⟩ := rx
    cases y with
    | byt j => obtain ⟨t', rfl⟩ := ry; exact PySem.W.eq_bytes (fin_bl I q dec_byt)
    | _ => exact absurd (show false = true from hs) Bool.false_ne_true
  | _ => cases y <;> exact absurd (show false = true from hs) Bool.false_ne_true
theorem op_ne : OpR X (compareOp .NotEq) rNe := by
  intro pins s σ H x y v u Q I rx ry h
  obtain ⟨hs, q⟩ := h
  cases x with
  | non =>
    cases rx
    cases y with
    | non => cases ry; exact PySem.EqNone.ne_none_none (fin_bl I q (by simp))
    | bl j => cases ry; exact PySem.EqNone.ne_none_bool (fin_bl I q (by simp))
    | int j => obtain ⟨t', rfl⟩ := ry; exact PySem.EqNone.ne_none_int (fin_bl I q (by simp))
    | str j => obtain ⟨t', rfl⟩ := ry; exact PySem.EqNone.ne_none_str (fin_bl I q (by simp))
    | _ => exact absurd (show false = true from hs) Bool.false_ne_true
  | bl i =>
    cases rx
    cases y with
    | non => cases ry; exact PySem.EqNone.ne_bool_none (fin_bl I q (by simp))
    | bl j => cases ry; exact ne_bool (fin_bl I q (congrArg not dec_bl))
    | str j => obtain ⟨t', rfl⟩ := ry; exact PySem.EqMixed.ne_bool_str (fin_bl I q (by simp))
    | _ => exact absurd (show false = true from hs) Bool.false_ne_true
  | int i =>
    obtain ⟨t, rfl⟩ := rx
    cases y with
    | non => cases ry; exact PySem.EqNone.ne_int_none (fin_bl I q (by simp))
    | int j => obtain ⟨t', rfl⟩ := ry; exact ne_int (fin_bl I q (congrArg not dec_int))
    | str j => obtain ⟨t', rfl⟩ := ry; exact PySem.EqMixed.ne_int_str (fin_bl I q (by simp))
    | _ => exact absurd (show false = true from hs) Bool.false_ne_true
  | str i =>
    obtain ⟨t, rfl⟩ := rx
    cases y with
    | non => cases ry; exact PySem.EqNone.ne_str_none (fin_bl I q (by simp))
    | bl j => cases ry; exact PySem.EqMixed.ne_str_bool (fin_bl I q (by simp))
    | int j => obtain ⟨t', rfl⟩ := ry; exact PySem.EqMixed.ne_str_int (fin_bl I q (by simp))
    | str j => obtain ⟨t', rfl⟩ := ry; exact ne_str (fin_bl I q (congrArg not dec_str))
    | _ => exact absurd (show false = true from hs) Bool.false_ne_true
  | byt i =>
    obtain ⟨t, rfl⟩ := rx
    cases y with
    | byt j => obtain ⟨t', rfl⟩ := ry; exact PySem.W.ne_bytes (fin_bl I q (congrArg not dec_byt))
    | _ => exact absurd (show false = true from hs) Bool.false_ne_true
  | _ => cases y <;> exact absurd (show false = true from hs) Bool.false_ne_true
theorem op_le : OpR X (compareOp .LtE) (rI0 fun i j => .bl (decide (i ≤ j))) := opB0 fun _ _ _ _ _ _ _ q => le_int q
theorem op_gt : OpR X (compareOp .Gt) (rI0 fun i j => .bl (decide (j < i))) := opB0 fun _ _ _ _ _ _ _ q => gt_int q
theorem OpR.or {f : Value → Value → Sem Value} {r r' : R2} (h : OpR X f r) (h' : OpR X f r') : OpR X f (fun x y H Q => r x y H Q ∨ r' x y H Q) := by
  intro pins s σ H x y v u Q I rx ry q
  rcases q with q | q
  · exact h pins s σ H x y v u Q I rx ry q
  · exact h' pins s σ H x y v u Q I rx ry q
theorem nomark (b : Expr) {op : CmpOp} (h : op ≠ .In := by decide) (h2 : op ≠ .NotIn := by decide) : behindInMarks op b = false := by
  have e1 : (op == CmpOp.In) = false := by cases op <;> first | rfl | exact absurd rfl h
  have e2 : (op == CmpOp.NotIn) = false := by cases op <;> first | rfl | exact absurd rfl h2
  cases b <;> simp [behindInMarks, e1, e2]
def tTest (t : TE) : TT := fun σ H Q => t σ H fun x H' => ∃ k, x = .bl k ∧ Q k H'
theorem pt_cmpR {op : CmpOp} {r : R2} (ho : OpR X (compareOp op) r) (ha : PE X a ta) (hb : PE X b tb) (hm : behindInMarks op b = false) : PT X (.Compare a [op] [b] pos) (tTest (tOp r ta tb)) := by
  intro pins s σ H Q I h
  refine wpAny_isTrue_Compare1 (thn (ha pins s σ H _ I h) fun v s1 ⟨x, H1, I1, r1, q1⟩ => thn (hb pins s1 σ H1 _ I1 q1) fun u s2 ⟨y, H2, I2, r2, q2⟩ =>
    thn (ho pins s2 σ H2 x y v u _ I2 r1 r2 q2) fun c s3 ⟨z, H3, I3, r3, k, e, q3⟩ => ?_) hm
  subst e
  cases r3
  exact wpAny_truthy_bool ⟨H3, I3, q3⟩
def tChain (r r' : R2) (ta tb tc : TE) : TE := fun σ H Q => ta σ H fun x H1 => tb σ H1 fun y H2 => r x y H2 fun z H3 => ∃ k, z = .bl k ∧
  (if k = true then tc σ H3 fun w' H4 => r' y w' H4 Q else Q (.bl false) H3)
theorem pe_chain {op op' : CmpOp} {r r' : R2} (ho : OpR X (compareOp op) r) (ho' : OpR X (compareOp op') r') (ha : PE X a ta) (hb : PE X b tb) (hc : PE X c tc)
    (hm : lastMarks [op, op'] [b, c] = false := by with_unfolding_all rfl) : PE X (.Compare a [op, op'] [b, c] pos) (tChain r r' ta tb tc) := by
  intro pins s σ H Q I h
  refine Compare_chain (thn (ha pins s σ H _ I h) fun v s1 ⟨x, H1, I1, r1, q1⟩ => chain_link (thn (hb pins s1 σ H1 _ I1 q1) fun u s2 ⟨y, H2, I2, r2, q2⟩ =>
    thn (ho pins s2 σ H2 x y v u _ I2 r1 r2 q2) fun d s3 ⟨z, H3, I3, r3, k, e, q3⟩ => ?_)) hm
  subst e
  cases r3
  refine wpAny_truthy_bool ?_
  cases k with
  | false => exact ite_ff ⟨.bl false, H3, I3, rfl, q3⟩
  | true => exact ite_tt (chain_last (thn (hc pins s3 σ H3 _ I3 q3) fun w' s4 ⟨z', H4, I4, r4, q4⟩ => ho' pins s4 σ H4 y z' u w' Q I4 r2 r4 q4))
theorem line63 : (sizeLine : Nat) < 2 ^ 63 := by rw [sizeLine_eq]; decide
theorem op_add_str : OpR X (binaryOp .Add) (fun x y H Q => ∃ i j, x = .str i ∧ y = .str j ∧ i.length + j.length ≤ sizeLine ∧ Q (.str (i ++ j)) H) := by
  intro pins s σ H x y v u Q I rx ry h
  obtain ⟨i, j, rfl, rfl, hz, q⟩ := h
  obtain ⟨t, rfl⟩ := rx
  obtain ⟨t', rfl⟩ := ry
  exact add_str (fun t' tk => ⟨.str (i ++ j), H, I.tok _, ⟨_, rfl⟩, q⟩) hz
theorem vals1 {x : V} {us : List Value} (r : Vals [x] us) : ∃ u, us = [u] ∧ RelV x u := by
  cases r with
  | cons r1 r2 => cases r2; exact ⟨_, rfl, r1⟩
theorem vals2 {x y : V} {us : List Value} (r : Vals [x, y] us) : ∃ u w', us = [u, w'] ∧ RelV x u ∧ RelV y w' := by
  cases r with
  | cons r1 r2 =>
    cases r2 with
    | cons r3 r4 => cases r4; exact ⟨_, _, rfl, r1, r3⟩
theorem call_max2 (hc : X.calm = true) : CallR X (.builtin "max") (fun xs H Q => ∃ i j, xs = [.int i, .int j] ∧ Q (.int (if j > i then j else i)) H) := by
  intro pins s σ H xs us Q I r h
  obtain ⟨i, j, rfl, q⟩ := h
  obtain ⟨u, w', rfl, ⟨t, rfl⟩, ⟨t', rfl⟩⟩ := vals2 r
  refine max_two_ints (I.ok.hd hc) fun h' tk k => ⟨_, H, I.kept k, ?_, q⟩
  by_cases hj : j > i
  · rw [if_pos hj, if_pos hj]; exact ⟨_, rfl⟩
  · rw [if_neg hj, if_neg hj]; exact ⟨_, rfl⟩
def LenV (K : PySem.W.Frag) (x : V) (H : Hp) (n : Nat) : Prop :=
  match x with
  | .str y => y.length ≤ sizeLine ∧ n = y.length
  | .byt y => y.size ≤ sizeLine ∧ n = y.size
  | .ref p => (∃ xs, SqL K H p xs ∧ n = xs.length) ∨ ∃ xs, SqT K H p xs ∧ n = xs.length
  | _ => False
theorem call_len : CallR X (.builtin "len") (fun xs H Q => ∃ x n, xs = [x] ∧ LenV X.K x H n ∧ Q (.int n) H) := by
  intro pins s σ H xs us Q I r h
  obtain ⟨x, n, rfl, e, q⟩ := h
  obtain ⟨u, rfl, rx⟩ := vals1 r
  have hl := line63
  have hs : sizeLine = 16777216 := sizeLine_eq
  cases x with
  | str y =>
    obtain ⟨t, rfl⟩ := rx
    obtain ⟨hy, e'⟩ : y.length ≤ sizeLine ∧ n = y.length := e
    subst e'
    exact len_str (by omega) ⟨.int _, H, I.tok _, ⟨_, rfl⟩, q⟩
  | byt y =>
    obtain ⟨t, rfl⟩ := rx
    obtain ⟨hy, e'⟩ : y.size ≤ sizeLine ∧ n = y.size := e
    subst e'
    exact PySem.W.len_bytes (by omega) ⟨.int _, H, I.tok _, ⟨_, rfl⟩, q⟩
  | ref p =>
    cases rx
    have e' : (∃ xs, SqL X.K H p xs ∧ n = xs.length) ∨ ∃ xs, SqT X.K H p xs ∧ n = xs.length := e
    rcases e' with ⟨xs, hx, e'⟩ | ⟨xs, hx, e'⟩
    · subst e'
      obtain ⟨its, r', pl, hz⟩ := I.list hx
      have hlen := r'.length
      exact Calls.call_len_list pl.isList (by simp only [List.size_toArray]; omega) ⟨.int xs.length, H, I.tok _, ⟨_, by simp only [List.size_toArray]; rw [hlen]⟩, q⟩
    · subst e'
      obtain ⟨its, r', pl, hz⟩ := I.tuple hx
      have hlen := r'.length
      exact len_tuple pl (by simp only [List.size_toArray]; omega) ⟨.int xs.length, H, I.tok _, ⟨_, by simp only [List.size_toArray]; rw [hlen]⟩, q⟩
  | _ => exact (show False from e).elim
end
end L2
namespace L2
open PySem PySem.Spec PyProof.Rows
structure ObjM (h : Heap) (x dx C : Addr) (mA : Str → Option Value) : Prop where
  obj : h.get? x = some (PySem.W.instObj C dx)
  ns : h.Ns1 dx mA
  ne : dx ≠ x
section
variable {prog : Program} {w : World} {A : Around} {E : Value → Shared → Prop} {s : Shared} {K : PySem.W.Frag} {x dx C f : Addr} {mA : Str → Option Value} {name : Str} {v : Value}
end
theorem RelO.some_of {v : V} {o : Option Value} (r : RelO (some v) o) : ∃ u, o = some u ∧ RelV v u := by
  cases o with
  | none => exact (show False from r).elim
  | some u => exact ⟨u, rfl, r⟩
section
variable {P : Program} {w : World} {H H' : Hp} {h h' : Heap} {a C dx : Addr} {fs fs' : List (Str × V)}
end
structure Cls (K : PySem.W.Frag) (C : Addr) : Prop where
  pg : PySem.W.plainGet K C Str.empty = true
  hd : PySem.W.hasDictIn K C = true
  po : PySem.W.plainOver K C = true
  sa : PySem.W.findIn K (.ref C) "__setattr__" = some (some (.builtin "object.__setattr__"))
theorem Cls.get {K : PySem.W.Frag} {C : Addr} (c : Cls K C) (f : Str) : PySem.W.plainGet K C f = true := c.pg
structure Con (K : PySem.W.Frag) (C : Addr) (f : Str) (v : V) (u : Value) : Prop where
  at_ : PySem.W.findIn K (.ref C) f = some (some u)
  rel : RelV v u
  get : PySem.W.specialIn K u "__get__" = some none
  cp : PySem.W.copiedNames.contains f = false
structure Meth (K : PySem.W.Frag) (C : Addr) (m : Str) (f : Addr) : Prop where
  at_ : PySem.W.findIn K (.ref C) m = some (some (.ref f))
  fn : PySem.W.isFn K (.ref f) = true
  kp : PySem.W.keepIn K (.ref f) = true
section
variable {X : Cx} {pins : List (Addr × Obj)} {σ : St} {H : Hp} {s : Shared} {a C dx : Addr} {fs : List (Str × V)} {f : Str} {v : V} {A : Around} {E : Value → Shared → Prop}
end
section
variable {X : Cx} {o e value : Expr} {f : Str} {pos pos' tpos : Pos} {ta tv : TE}
end
section
variable {X : Cx} {pins : List (Addr × Obj)} {σ : St} {H : Hp} {s : Shared} {A : Around} {E : Value → Shared → Prop} {Q : Value → Shared → Prop} {c : Value} {b : Bool}
inductive TyOf (K : PySem.W.Frag) (H : Hp) : V → Value → Prop where
  | non : TyOf K H .non (.type "NoneType")
  | bl (x : Bool) : TyOf K H (.bl x) (.type "bool")
  | int (i : Int) : TyOf K H (.int i) (.type "int")
  | str (x : Str) : TyOf K H (.str x) (.type "str")
  | flt (x : UInt64) : TyOf K H (.flt x) (.type "float")
  | lst {a : Addr} {xs : List V} (e : H a = some (.lst xs)) : TyOf K H (.ref a) (.type "list")
  | frz {a : Addr} {o : Obj} {xs : List V} (e : H a = some (.frz o (.lst xs))) : TyOf K H (.ref a) (.type "list")
  | tup {a : Addr} {xs : List V} (e : H a = some (.tup xs)) : TyOf K H (.ref a) (.type "tuple")
  | dK {a : Addr} {kvs : List (Key × V)} (e : H a = some (.dK kvs)) : TyOf K H (.ref a) (.type "dict")
  | dT {a : Addr} {kvs : List (List Key × V)} (e : H a = some (.dT kvs)) : TyOf K H (.ref a) (.type "dict")
  | ins {a C dx : Addr} {fs : List (Str × V)} (e : H a = some (.ins C dx fs)) (cl : Cls K C) (ha : PySem.W.findIn K (.ref C) "__class__" = some (some (.builtin "object.__class__")))
      (hn : PySem.W.specialIn K (.builtin "object.__class__") "__get__" = some (some (.builtin "getset_descriptor.__get__"))) (htk : PySem.W.takesIn K (.builtin "object.__class__") = some true)
      (hm : PySem.W.mroIn K C (.type "object") = some true) : TyOf K H (.ref a) (.ref C)
end
end L2
namespace L2
open PySem PySem.Spec PyProof.Rows
structure Room (k : Nat) (A : Around) : Prop where
  hd : A.handled = none
  dp : A.depth + 3 * k + 5 < recursionLimit
  un : A.units + 16 * k + 200 < cLine
theorem Room.mono {j k : Nat} {A : Around} (r : Room k A) (h : j ≤ k) : Room j A := ⟨r.hd, by have := r.dp; omega, by have := r.un; omega⟩
theorem Room.deeper {k : Nat} {A : Around} (r : Room (k + 1) A) (env : Env) : Room k (A.deeper env) :=
  ⟨r.hd, by have := r.dp; show A.depth + 1 + 3 * k + 5 < _; omega, by have := r.un; show A.units + 3 + 16 * k + 200 < _; omega⟩
theorem Room.in1 {k : Nat} {A : Around} (r : Room (k + 1) A) : Room k A.in1 :=
  ⟨r.hd, by have := r.dp; show A.depth + 3 * k + 5 < _; omega, by have := r.un; show A.units + 1 + 16 * k + 200 < _; omega⟩
theorem Room.depth {k : Nat} {A : Around} (r : Room k A) : A.depth < recursionLimit := by have := r.dp; omega
theorem Room.units {k : Nat} {A : Around} (r : Room k A) : A.units + 64 < cLine := by have := r.un; omega
def tNil : TA := fun _ H Q => Q [] H
def tCons (ta : TE) (tr : TA) : TA := fun σ H Q => ta σ H fun x H1 => tr σ H1 fun xs H2 => Q (x :: xs) H2
section
variable {X : Cx} {e : Expr} {es : List Expr} {te : TE} {t : TA} {pos : Pos}
theorem pa_nil : PA X [] tNil := fun _ _ _ _ H Q I h => Calls.spliced_nil ⟨[], H, I, .nil, h⟩
theorem pa_cons (ha : PE X e te) (hr : PA X es t) (hs : starEach (e :: es) X.env = (false, eval e X.env) :: starEach es X.env := by rfl) : PA X (e :: es) (tCons te t) := by
  intro pos pins s σ H Q I h
  rw [hs]
  show wpAny _ _ (spliced ((false, eval e X.env) :: backTo pos (starEach es X.env))) _ _ s
  refine Calls.spliced_cons (thn (ha pins s σ H _ I h) fun u s1 ⟨x, H1, I1, r1, q1⟩ => ?_)
  exact thn (hr pos pins s1 σ H1 _ I1 q1) fun us s2 ⟨xs, H2, I2, r2, q2⟩ => ⟨x :: xs, H2, I2, .cons r1 r2, q2⟩
def tTup (t : TA) : TE := fun σ H Q => t σ H fun xs H1 => xs.length ≤ sizeLine ∧ ∀ p, H1 p = none → Q (.ref p) (upd H1 p (.tup xs))
def tLst (t : TA) : TE := fun σ H Q => t σ H fun xs H1 => xs.length ≤ sizeLine ∧ ∀ p, H1 p = none → Q (.ref p) (upd H1 p (.lst xs))
theorem pe_tup {x1} (h : PA X es t) : PE X (.Tuple es x1 pos) (tTup t) := by
  intro pins s σ H Q I hq
  refine wpAny_Tuple_spliced (thn (h pos pins s σ H _ I hq) fun us s1 ⟨xs, H1, I1, r, z, q⟩ => ⟨by rw [← r.length]; exact z, ?_⟩)
  have hf : H1 s1.heap.objs.size = none := I1.hok.fresh (Nat.le_refl _)
  refine ⟨.ref s1.heap.objs.size, upd H1 s1.heap.objs.size (.tup xs), I1.laid (t' := s1.toks) (fun b u e => Heap.get?_push_of_some _ e) (Nat.le_refl _) ?_, rfl, q _ hf⟩
  exact ⟨z, us, r, ⟨_, Heap.get?_push_size _ rfl, rfl, _, rfl⟩⟩
theorem pe_lst (h : PA X es t) : PE X (.List es pos) (tLst t) := by
  intro pins s σ H Q I hq
  refine wpAny_List_spliced (thn (h pos pins s σ H _ I hq) fun us s1 ⟨xs, H1, I1, r, z, q⟩ => ⟨by rw [← r.length]; exact z, ?_⟩)
  have hf : H1 s1.heap.objs.size = none := I1.hok.fresh (Nat.le_refl _)
  refine ⟨.ref s1.heap.objs.size, upd H1 s1.heap.objs.size (.lst xs), I1.laid (t' := s1.toks) (fun b u e => Heap.get?_push_of_some _ e) (Nat.le_refl _) ?_, rfl, q _ hf⟩
  exact ⟨z, us, 0, r, Heap.get?_push_size _ rfl⟩
end
abbrev Sp := List V → Hp → VK → XK → Prop
abbrev CXT := List Env → Hp → Shared → XK → Value → Shared → Prop
structure Env0 (P : Program) (w : World) (K : PySem.W.Frag) (mg : Str → Option Value) (base : Heap) (A : Around) (outer : List Env) (s : Shared) (H : Hp) : Prop where
  frames : A.frames = some outer
  mod : Mod K mg base
  bs : ∀ b o, base.get? b = some o → s.heap.get? b = some o ∧ H b = none
  bsz : base.objs.size ≤ s.heap.objs.size
  funs : s.heap.FunFrames base outer
  frf : ∀ b ∈ frs outer, H b = none
  hok : HOk P w H s.heap
  bare : AllBare s.gens
def CE (outer : List Env) (P : Program) (w : World) (H : Hp) (s : Shared) (Q : VK) (u : Value) (s' : Shared) : Prop :=
  ∃ v H', s'.os = s.os ∧ AllBare s'.gens ∧ Un (frs outer) [] H H' s.heap s'.heap ∧ HOk P w H' s'.heap ∧ RelV v u ∧ Q v H'
def CR (CX : CXT) (outer : List Env) (P : Program) (w : World) (H : Hp) (s : Shared) (Q : VK) (E : XK) (r : Result) (s' : Shared) : Prop :=
  match r with
  | .ok (.ret u) => CE outer P w H s Q u s'
  | .ok _ => False
  | .error e => CX outer H s E e s'
structure FnOk (P : Program) (w : World) (K : PySem.W.Frag) (mg : Str → Option Value) (base : Heap) (CX : CXT) (k : Nat) (f : Addr) (fd : FuncData) (ps : List Str) (sp : Sp) : Prop where
  len : ∀ vs H Q E, sp vs H Q E → vs.length = ps.length
  run : ∀ (A : Around) (outer : List Env) (s : Shared) (H : Hp) (args : Args) (us : List Value) (vs : List V) (Q : VK) (E : XK), Room k A → Env0 P w K mg base A outer s H → BindsTo s fd args (ps.zip us) → Vals vs us → sp vs H Q E →
    codeAny (model P w) A (.call (.ref f) args) (CR CX outer P w H s Q E) s
theorem FnOk.mono {P : Program} {w : World} {K : PySem.W.Frag} {mg : Str → Option Value} {base : Heap} {CX : CXT} {j k : Nat} {f : Addr} {fd : FuncData} {ps : List Str} {sp : Sp} (F : FnOk P w K mg base CX j f fd ps sp) (h : j ≤ k) :
    FnOk P w K mg base CX k f fd ps sp := ⟨F.len, fun A outer s H args us vs Q E hr => F.run A outer s H args us vs Q E (hr.mono h)⟩
theorem FnOk.imp {P : Program} {w : World} {K : PySem.W.Frag} {mg : Str → Option Value} {base : Heap} {CX : CXT} {k : Nat} {f : Addr} {fd : FuncData} {ps : List Str} {sp sp' : Sp} (F : FnOk P w K mg base CX k f fd ps sp)
    (h : ∀ vs H Q E, sp' vs H Q E → sp vs H Q E) : FnOk P w K mg base CX k f fd ps sp' :=
  ⟨fun vs H Q E q => F.len vs H Q E (h _ _ _ _ q), fun A outer s H args us vs Q E hr he hb hv hs => F.run A outer s H args us vs Q E hr he hb hv (h _ _ _ _ hs)⟩
theorem Env0.in1 {P : Program} {w : World} {K : PySem.W.Frag} {mg : Str → Option Value} {base : Heap} {A : Around} {outer : List Env} {s : Shared} {H : Hp} (e : Env0 P w K mg base A outer s H) :
    Env0 P w K mg base A.in1 outer s H := ⟨e.frames, e.mod, e.bs, e.bsz, e.funs, e.frf, e.hok, e.bare⟩
section
variable {X : Cx} {pins : List (Addr × Obj)} {σ : St} {H : Hp} {s s' : Shared}
theorem Inv.env0 (I : Inv X pins σ H s) : Env0 X.prog X.w X.K X.mg X.base X.A X.stack s H :=
  ⟨I.ok.frames, I.ok.mod, I.bs, Nat.le_trans I.ok.bsz I.sz, I.stack, I.stkFree, I.hok, I.bare⟩
theorem Inv.after {Q : VK} {u : Value} (I : Inv X pins σ H s) (h : CE X.stack X.prog X.w H s Q u s') : EP X pins σ Q u s' := by
  obtain ⟨v, H', os, bare, un, hok, r, q⟩ := h
  obtain ⟨hh, g, d, t, os'⟩ := s'
  obtain rfl : os' = s.os := os
  exact ⟨v, H', I.call (h' := hh) (g' := g) (d' := d) (t' := t) (ch := []) un hok bare (fun b z => absurd z (by simp)), r, q⟩
end
def tCall (sp : Sp) (dvs : List V) (E : XK) (t : TA) : TE := fun σ H Q => t σ H fun vs H1 => sp (vs ++ dvs) H1 Q E
def Binds (K : PySem.W.Frag) (fd : FuncData) (ps : List Str) (ds : List Value) : Prop :=
  ∀ (s : Shared) (us : List Value), K.In s.heap → (us ++ ds).length = ps.length → BindsTo s fd ⟨us, []⟩ (ps.zip (us ++ ds))
theorem Binds.all {K : PySem.W.Frag} {fd : FuncData} {ps : List Str} (h : ∀ us : List Value, us.length = ps.length → bindArgs fd ⟨us, []⟩ = pure (ps.zip us)) : Binds K fd ps [] := fun s us _ hl => by
  rw [List.append_nil] at hl ⊢
  exact .of_eq (h us hl)
def Passes (CX : CXT) (X : Cx) (E : XK) : Prop := ∀ (pins : List (Addr × Obj)) (σ : St) (H : Hp) (s : Shared) (e : Value) (s' : Shared), Inv X pins σ H s → CX X.stack H s E e s' → X.xe e s'
section
variable {X : Cx} {CX : CXT} {k : Nat} {f C : Addr} {fd : FuncData} {ps : List Str} {sp : Sp} {dvs : List V} {ds : List Value} {E : XK} {x m : Str} {p pos apos : Pos} {e o : Expr} {es : List Expr} {ta : TE} {t : TA}
theorem run_fn {pins : List (Addr × Obj)} {σ : St} {H : Hp} {s : Shared} {Q : VK} {us : List Value} {vs : List V} (F : FnOk X.prog X.w X.K X.mg X.base CX k f fd ps sp) (hr : Room k X.A) (hb : Binds X.K fd ps ds) (hd : Vals dvs ds) (hx : Passes CX X E)
    (I : Inv X pins σ H s) (r : Vals vs us) (h : sp (vs ++ dvs) H Q E) : wpAny (model X.prog X.w) X.A (call (.ref f) us) (EP X pins σ Q) X.xe s := by
  have r2 : Vals (vs ++ dvs) (us ++ ds) := r.append hd
  have hl : (us ++ ds).length = ps.length := by rw [← r2.length]; exact F.len _ _ _ _ h
  refine wpAny_call (codeAny_mono (F.run X.A X.stack s H ⟨us, []⟩ (us ++ ds) (vs ++ dvs) Q E hr I.env0 (hb s us I.kIn hl) r2 h) fun r s' hq => ?_)
  cases r with
  | error e => exact hx pins σ H s e s' I hq
  | ok fl =>
    cases fl with
    | ret u => exact I.after hq
    | next => exact False.elim hq
    | brk => exact False.elim hq
    | cont => exact False.elim hq
theorem pe_call (F : FnOk X.prog X.w X.K X.mg X.base CX k f fd ps sp) (hr : Room k X.A) (hg : Gl X x) (hm : X.mg x = some (.ref f)) (hk : PySem.W.keepIn X.K (.ref f) = true) (hb : Binds X.K fd ps ds) (hd : Vals dvs ds) (hx : Passes CX X E)
    (ha : PA X (e :: es) t) (hdb : (x == ("__debug__" : Str)) = false := by decide) (he : starEach (e :: es) X.env = (false, eval e X.env) :: starEach es X.env := by rfl) (hpl : (backTo pos (starEach es X.env)).any (·.1) = false := by rfl) :
    PE X (.Call (.Name x p) (e :: es) [] pos) (tCall sp dvs E t) := by
  intro pins s σ H Q I h
  refine wpAny_Call_Name_kw (ld_glob I hg hm ?_ hdb)
  refine PySem.W.callWith_K (h₀ := X.base) I.ok.mod.kin hk (thn (ha pos pins s σ H _ I h) fun us s1 ⟨vs, H1, I1, r, q⟩ => ⟨I1.kIn, ?_⟩) he hpl
  exact run_fn F hr hb hd hx I1 r q
structure Mk (K : PySem.W.Frag) (C f : Addr) : Prop where
  makes : PySem.W.makesIn K C = true
  init : PySem.W.findIn K (.ref C) "__init__" = some (some (.ref f))
  fn : PySem.W.isFn K (.ref f) = true
  kp : PySem.W.keepIn K (.ref C) = true
end
section
variable {X : Cx} {CX : CXT} {k : Nat} {f C : Addr} {fd : FuncData} {ps ks : List Str} {sp : Sp} {E : XK} {x m : Str} {p pos apos kpos : Pos} {e o : Expr} {es : List Expr} {kws : List Keyword} {te ta : TE} {t tk : TA} {nm : Option Str}
structure KBinds (K : PySem.W.Frag) (fd : FuncData) (ps ks : List Str) (g : List Value → List Value → List Value) (gV : List V → List V → List V) : Prop where
  to : ∀ (s : Shared) (us ws : List Value), K.In s.heap → (g us ws).length = ps.length → BindsTo s fd ⟨us, ks.zip ws⟩ (ps.zip (g us ws))
  rel : ∀ {vs : List V} {us : List Value} {zs : List V} {ws : List Value}, Vals vs us → Vals zs ws → Vals (gV vs zs) (g us ws)
variable {g : List Value → List Value → List Value} {gV : List V → List V → List V}
end
structure FnScope (N P : List Str) (sc : Scope) : Prop where
  kind : sc.kind = .function
  co : sc.isCoroutine = false
  gen : sc.isGenerator = false
  nd : N.Nodup
  pre : N.take P.length = P
  par : ∀ x ∈ P, sc.names.lookup x = some .local ∨ sc.names.lookup x = some .cell
  nofree : ∀ y ∈ sc.names, y.2 ≠ .free
theorem bindL_out {kindOf : Str → Option NameKind} {x : Str} : ∀ {binds : List (Str × Value)} {m : Str → Option Value}, (∀ v, (x, v) ∉ binds) → bindL kindOf binds m x = m x
  | [], _, _ => rfl
  | (n, v) :: r, m, h => by
    unfold bindL
    rw [bindL_out fun w hw => h w (List.mem_cons_of_mem _ hw)]
    split
    · have : x ≠ n := by rintro rfl; exact h v List.mem_cons_self
      simp [this]
    · rfl
theorem bindC_out {kindOf : Str → Option NameKind} {x : Str} : ∀ {binds : List (Str × Value)} {m : Str → Option Value}, (∀ v, (x, v) ∉ binds) → bindC kindOf binds m x = m x
  | [], _, _ => rfl
  | (n, v) :: r, m, h => by
    unfold bindC
    rw [bindC_out fun w hw => h w (List.mem_cons_of_mem _ hw)]
    split
    · rfl
    · have : x ≠ n := by rintro rfl; exact h v List.mem_cons_self
      simp [this]
theorem bindL_get {kindOf : Str → Option NameKind} {x : Str} {v : Value} : ∀ {P : List Str} {vs : List Value} {i : Nat} {m : Str → Option Value}, P.Nodup → P[i]? = some x → vs[i]? = some v → kindOf x = some .local →
    bindL kindOf (P.zip vs) m x = some v
  | [], _, _, _, _, h, _, _ => by simp at h
  | _ :: _, [], _, _, _, _, h, _ => by simp at h
  | p :: P, w :: vs, 0, m, nd, h1, h2, hk => by
    simp at h1 h2; subst h1; subst h2
    show bindL kindOf ((p, w) :: P.zip vs) m p = _
    unfold bindL
    rw [bindL_out fun v hv => (List.nodup_cons.mp nd).1 (List.of_mem_zip hv).1, if_pos hk]
    simp
  | p :: P, w :: vs, i + 1, m, nd, h1, h2, hk => by
    show bindL kindOf ((p, w) :: P.zip vs) m x = _
    unfold bindL
    exact bindL_get (i := i) (List.nodup_cons.mp nd).2 (by simpa using h1) (by simpa using h2) hk
theorem bindC_get {kindOf : Str → Option NameKind} {x : Str} {v : Value} : ∀ {P : List Str} {vs : List Value} {i : Nat} {m : Str → Option Value}, P.Nodup → P[i]? = some x → vs[i]? = some v → kindOf x ≠ some .local →
    bindC kindOf (P.zip vs) m x = some v
  | [], _, _, _, _, h, _, _ => by simp at h
  | _ :: _, [], _, _, _, _, h, _ => by simp at h
  | p :: P, w :: vs, 0, m, nd, h1, h2, hk => by
    simp at h1 h2; subst h1; subst h2
    show bindC kindOf ((p, w) :: P.zip vs) m p = _
    unfold bindC
    rw [bindC_out fun v hv => (List.nodup_cons.mp nd).1 (List.of_mem_zip hv).1, if_neg hk]
    simp
  | p :: P, w :: vs, i + 1, m, nd, h1, h2, hk => by
    show bindC kindOf ((p, w) :: P.zip vs) m x = _
    unfold bindC
    exact bindC_get (i := i) (List.nodup_cons.mp nd).2 (by simpa using h1) (by simpa using h2) hk
def start (N : List Str) (vs : List V) : St := vs.map some ++ List.replicate (N.length - vs.length) none
def cxOf (CX : CXT) (P : Program) (w : World) (K : PySem.W.Frag) (mg : Str → Option Value) (base : Heap) (N : List Str) (qual : Str) (scope : Scope) (f : Addr) (cd : Value) (A : Around) (outer : List Env) (s : Shared) (H : Hp) (E : XK) : Cx where
  prog := P
  w := w
  K := K
  mg := mg
  base := base
  A := A.deeper (envOfC qual scope s.heap.objs.size f cd)
  N := N
  s₀ := s
  H₀ := H
  env := envOfC qual scope s.heap.objs.size f cd
  outer := outer
  stack := envOfC qual scope s.heap.objs.size f cd :: outer
  ex := []
  calm := true
  fn := fun _ => true
  pn := []
  xe := fun e s' => wpAny (model P w) (A.deeper (envOfC qual scope s.heap.objs.size f cd)) (leaving (envOfC qual scope s.heap.objs.size f cd) e) (fun _ s'' => CX outer H s E e s'') (fun e' s'' => CX outer H s E e' s'') s'
theorem cell_has {sc : Scope} {n : Nat} {x : Str} (h : sc.names.lookup x = some .cell) : ∃ c, (cellsFrom n sc.names []).lookup x = some c := by
  have q := PySem.W.cellsFrom_some sc.names n [] (.inl h)
  exact Option.isSome_iff_exists.mp q
theorem inv_start {CX : CXT} {P : Program} {w : World} {K : PySem.W.Frag} {mg : Str → Option Value} {base : Heap} {N ps : List Str} {qual : Str} {scope : Scope} {f : Addr} {cd : Value} {A : Around} {outer : List Env} {s s1 : Shared} {H : Hp} {E : XK} {us : List Value} {vs : List V}
    (S : FnScope N ps scope) (hd : A.handled = none) (e0 : Env0 P w K mg base A outer s H) (hl : vs.length = ps.length) (r : Vals vs us)
    (x : InCallC s s.heap.objs.size (bindL (envOfC qual scope s.heap.objs.size f cd).kindOf (ps.zip us) fun _ => none) (cellsFrom (s.heap.objs.size + 1) scope.names []) (bindC (envOfC qual scope s.heap.objs.size f cd).kindOf (ps.zip us) fun _ => none) s1) :
    Inv (cxOf CX P w K mg base N qual scope f cd A outer s H E) [] (start N vs) H s1 := by
  have hpl : ps.length ≤ N.length := by have := congrArg List.length S.pre; rw [List.length_take] at this; omega
  obtain ⟨h1, tk, rfl, hk⟩ := x.done
  have noA : ∀ b : Addr, b ∉ (cxOf CX P w K mg base N qual scope f cd A outer s H E).ex := fun b z => absurd (show b ∈ ([] : List Addr) from z) (by simp)
  refine ⟨⟨e0.mod, S.kind, rfl, rfl, Nat.le_refl _, fun y z c h1 h2 => ?_, fun y hy => ?_, fun y c _ h => ?_, fun _ => hd, Around.frames_deeper e0.frames, .inr ⟨rfl, rfl⟩, fun b z => absurd z (noA b), e0.bs, e0.bsz, fun b _ _ => noA b, fun b z => absurd z (noA b), e0.funs, e0.frf⟩,
    rfl, e0.bare, Un.kept hk, ⟨_, x.toInCall.ns, fun i y v h1 h2 h3 => ?_⟩, fun y c h => ⟨_, x.cell y c h⟩, e0.hok.fresh (Nat.le_refl _), fun y c h => ?_, fun p hp => absurd (show p ∈ ([] : List (Addr × Obj)) from hp) (by simp), e0.hok.kept hk, ?_⟩
  · exact name_of_addr x.apart (PySem.mem_of_lookup h1) (PySem.mem_of_lookup h2)
  · have hy : scope.names.lookup y = some .cell ∨ scope.names.lookup y = some .free := hy
    rcases hy with hy | hy
    · exact cell_has hy
    · exact absurd rfl (S.nofree _ (PySem.mem_of_lookup hy))
  · exact Nat.le_of_lt (x.above y c (PySem.mem_of_lookup h))
  · have hi : i < vs.length := by
      unfold start at h2
      by_cases hi : i < vs.length
      · exact hi
      · rw [List.getElem?_append_right (by simpa using hi)] at h2
        rw [List.getElem?_replicate] at h2
        split at h2 <;> cases h2
    have ha : vs[i]? = some v := by
      unfold start at h2
      rw [List.getElem?_append_left (by simpa using hi), List.getElem?_map] at h2
      cases e : vs[i]? with
      | none => rw [e] at h2; cases h2
      | some a => rw [e] at h2; cases h2; rfl
    obtain ⟨u, hu, rv⟩ := r.get ha
    have hp : ps[i]? = some y := by
      rw [← S.pre, List.getElem?_take_of_lt (by omega)]; exact h1
    have ndP : ps.Nodup := by rw [← S.pre]; exact S.nd.sublist (List.take_sublist _ _)
    refine ⟨u, rv, ?_⟩
    rcases S.par y (List.mem_of_getElem? hp) with k | k
    · exact .inl ⟨k, bindL_get ndP hp hu k⟩
    · obtain ⟨c, e⟩ := cell_has (n := s.heap.objs.size + 1) k
      refine .inr ⟨.inl k, c, e, ?_⟩
      have q := x.cell y c e
      rw [bindC_get ndP hp hu (by show scope.names.lookup y ≠ _; rw [k]; decide)] at q
      exact q
  · exact e0.hok.fresh (Nat.le_of_lt (x.above y c (PySem.mem_of_lookup h)))
  · unfold start
    show _ = N.length
    rw [List.length_append, List.length_map, List.length_replicate]
    omega
theorem fn_of {CX : CXT} {P : Program} {w : World} {K : PySem.W.Frag} {mg : Str → Option Value} {base : Heap} {k : Nat} {f : Addr} {name qual : Str} {params : Arguments} {body : List Stmt} {scope : Scope} {dV kV doc pm cdv ct oc : Value} {an od : Option Addr}
    {osl : Array (Option Value)} {N ps : List Str} {sp : Sp} (lk : K.lookup f = some ⟨oc, od, .func (PySem.W.fnOf name qual params body scope dV kV doc pm an cdv ct), osl⟩) (hcd : PySem.W.codeIn K cdv qual = true) (S : FnScope N ps scope)
    (len : ∀ vs H Q E, sp vs H Q E → vs.length = ps.length)
    (hbody : ∀ (A : Around) (outer : List Env) (s : Shared) (H : Hp) (vs : List V) (Q : VK) (E : XK), Room k (A.deeper (envOfC qual scope s.heap.objs.size f cdv)) → sp vs H Q E →
      ∃ t, PSs (cxOf CX P w K mg base N qual scope f cdv A outer s H E) body t ∧ t { nx := fun _ H' => Q .non H', rt := Q } (start N vs) H) :
    FnOk P w K mg base CX (k + 1) f (PySem.W.fnOf name qual params body scope dV kV doc pm an cdv ct) ps sp := by
  refine ⟨len, fun A outer s H args us vs Q E hr e0 hb r hsp => ?_⟩
  have hl := len _ _ _ _ hsp
  have KX : K.In s.heap := e0.mod.kin.keeps fun b o e => (e0.bs b o e).1
  have lim : s.heap.NoLimit := e0.mod.nolimit.keeps fun b o e => (e0.bs b o e).1
  have hkind : ∀ y ∈ ps.zip us, scope.names.lookup y.1 = some .local ∨ (scope.names.lookup y.1 = some .cell ∧ ((cellsFrom (s.heap.objs.size + 1) scope.names []).lookup y.1).isSome = true) := fun ⟨n, v⟩ hy => by
    rcases S.par n (List.of_mem_zip hy).1 with q | q
    · exact .inl q
    · exact .inr ⟨q, PySem.W.cellsFrom_some _ _ _ (.inl q)⟩
  refine codeAny_call_function hr.depth (KX _ _ lk) rfl S.co S.gen rfl (PySem.W.codeRec_of KX hcd) (hb _ _ _ _ ?_)
  refine wpAny_newFunctionEnv_cells S.kind hkind fun env he s1 x => ?_
  subst he
  refine ⟨lim.keeps x.toInCall.keep, codeAny_func ?_⟩
  obtain ⟨t, ht, hq⟩ := hbody A outer s H vs Q E (hr.deeper _) hsp
  have I : Inv (cxOf CX P w K mg base N qual scope f cdv A outer s H E) [] (start N vs) H s1 := inv_start S hr.hd e0 hl r x
  refine wpAny_mono (ht [] s1 (start N vs) H _ I hq) (fun fl s' hs => ?_) fun e s' hs => hs
  have fin : ∀ {σ' : St} {H' : Hp} {v : V} {u : Value}, Inv (cxOf CX P w K mg base N qual scope f cdv A outer s H E) [] σ' H' s' → RelV v u → Q v H' → CE outer P w H s Q u s' :=
    fun {σ' H' v u} J rv q => ⟨v, H', J.os, J.bare, J.base, J.hok, rv, q⟩
  cases fl with
  | ret u =>
    obtain ⟨v, σ', H', J, rv, q⟩ := hs
    exact fin J rv q
  | next =>
    obtain ⟨σ', H', J, q⟩ := hs
    exact fin (v := V.non) (u := Value.none) J rfl q
  | brk =>
    obtain ⟨_, _, _, q⟩ := hs
    exact False.elim q
  | cont =>
    obtain ⟨_, _, _, q⟩ := hs
    exact False.elim q
end L2
namespace L2
open PySem PySem.Spec PyProof.Rows
section
variable {X : Cx} {x : Str} {p pos : Pos} {e : Expr} {es : List Expr} {t : TA} {id T : String} {r : List V → Hp → VK → Prop}
def tCB (r : List V → Hp → VK → Prop) (t : TA) : TE := fun σ H Q => t σ H fun vs H1 => r vs H1 Q
theorem pe_callB (hc : CallR X (.builtin id) r) (hg : Gl X x) (hm : X.mg x = none) (hv : bootBuiltins x = some (.builtin id)) (ha : PA X (e :: es) t) (hn : x ≠ "__name__" := by decide) (hdb : (x == ("__debug__" : Str)) = false := by decide)
    (he : starEach (e :: es) X.env = (false, eval e X.env) :: starEach es X.env := by rfl) (hpl : (backTo pos (starEach es X.env)).any (·.1) = false := by rfl) : PE X (.Call (.Name x p) (e :: es) [] pos) (tCB r t) := by
  intro pins s σ H Q I h
  refine wpAny_Call_Name_kw (ld_blt I hg hm hv ?_ hn hdb)
  exact PyProof.Rows.callWith_builtin1 (thn (ha pos pins s σ H _ I h) fun us s1 ⟨vs, H1, I1, r1, q1⟩ => hc pins s1 σ H1 vs us Q I1 r1 q1) he hpl
theorem pe_callTy (hc : CallR X (.type T) r) (hg : Gl X x) (hm : X.mg x = none) (hv : bootBuiltins x = some (.type T)) (ha : PA X (e :: es) t) (hn : x ≠ "__name__" := by decide) (hdb : (x == ("__debug__" : Str)) = false := by decide)
    (he : starEach (e :: es) X.env = (false, eval e X.env) :: starEach es X.env := by rfl) (hpl : (backTo pos (starEach es X.env)).any (·.1) = false := by rfl) : PE X (.Call (.Name x p) (e :: es) [] pos) (tCB r t) := by
  intro pins s σ H Q I h
  refine wpAny_Call_Name_kw (ld_blt I hg hm hv ?_ hn hdb)
  exact PyProof.Rows.callWith_type1 (thn (ha pos pins s σ H _ I h) fun us s1 ⟨vs, H1, I1, r1, q1⟩ => hc pins s1 σ H1 vs us Q I1 r1 q1) he hpl
end
end L2
namespace HT
open PySem PyProof.Rows
section
open PySem.SeqAt
open PySem.AutoSeq1 (wpAny_loadPart')
open PySem.MeetsSeq PySem.MeetsSeq2 PySem.MeetsSeq3
end
section
variable {prog : Program} {w : World} {A : Around} {E : Value → Shared → Prop} {s : Shared}
theorem cat_tup {t b : Addr} {vs ws : List Value} {Q : Value → Shared → Prop} (ht : IsTup s.heap t vs.toArray) (hb : IsTup s.heap b ws.toArray) (hv : vs ≠ [])
    (h1 : ws = [] → Q (.ref t) s) (h2 : ws ≠ [] → Q (.ref s.heap.objs.size) { s with heap := s.heap.push { cls := .type "tuple", data := .seq (vs ++ ws).toArray } })
    (hsz : vs.length + ws.length ≤ sizeLine) : wpAny (model prog w) A (binaryOp .Add (.ref t) (.ref b)) Q E s := by
  obtain ⟨⟨cls, dd, data, sl⟩, ho, hc, n, hd⟩ := id ht
  obtain ⟨⟨cls2, dd2, data2, sl2⟩, ho2, hc2, n2, hd2⟩ := id hb
  simp only at hc hd hc2 hd2
  subst hc hd hc2 hd2
  have e : vs.toArray ++ ws.toArray = (vs ++ ws).toArray := by simp
  by_cases hw : ws = []
  · exact concat_meets ⟨_, ho, rfl⟩ ⟨_, ho2, rfl⟩ noFill_tuple_add seq_tuple_add PySem.F.slot_tuple_add PySem.F.entry_tuple_add (PySem.F.args_tuple_add_2 _ _)
      (tuple_addW1 t b vs.toArray ws.toArray n n2 dd dd2 sl sl2 (by simpa using hv) (by simp [hw])) ⟨ho, ho2, h1 hw⟩
  · refine concat_meets ⟨_, ho, rfl⟩ ⟨_, ho2, rfl⟩ noFill_tuple_add seq_tuple_add PySem.F.slot_tuple_add PySem.F.entry_tuple_add (PySem.F.args_tuple_add_2 _ _)
      (tuple_addW2 t b vs.toArray ws.toArray n n2 dd dd2 sl sl2 (by simpa using hv) (by simpa using hw) (by rw [List.size_toArray, List.size_toArray]; exact hsz)) ⟨ho, ho2, ?_⟩
    rw [e]
    exact h2 hw
def sIx (n d : Nat) : Option Int → Nat
  | none => d
  | some v => if v < 0 then (v + (n : Int)).toNat else min v.toNat n
theorem sIx_nat (n d k : Nat) : sIx n d (some (k : Int)) = min k n := by
  show (if (k : Int) < 0 then ((k : Int) + (n : Int)).toNat else min (k : Int).toNat n) = min k n
  rw [if_neg (by omega), Int.toNat_natCast]
theorem sIx_le (n d : Nat) (hd : d ≤ n) (o : Option Int) : sIx n d o ≤ n := by
  cases o with
  | none => exact hd
  | some v =>
    show (if v < 0 then (v + (n : Int)).toNat else min v.toNat n) ≤ n
    by_cases hv : v < 0
    · rw [if_pos hv]; omega
    · rw [if_neg hv]; exact Nat.min_le_right _ _
theorem clip_eq (v : Int) (n d : Nat) : (if v < 0 then max (v + (n : Int)) 0 else min v (n : Int)) = ((sIx n d (some v) : Nat) : Int) := by
  show (if v < 0 then max (v + (n : Int)) 0 else min v (n : Int)) = (((if v < 0 then (v + (n : Int)).toNat else min v.toNat n) : Nat) : Int)
  by_cases hv : v < 0
  · simp only [if_pos hv]; omega
  · simp only [if_neg hv]; omega
theorem adjust_gen (lo hi : Option Int) (n : Nat) : Builtin.Slice.sliceAdjust lo hi 1 (n : Int) = (((sIx n 0 lo : Nat) : Int), ((sIx n n hi : Nat) : Int)) := by
  have h1 : ¬ ((1 : Int) < 0) := by omega
  unfold Builtin.Slice.sliceAdjust
  simp only [h1, if_false]
  refine Prod.ext ?_ ?_
  · cases lo with
    | none => rfl
    | some v => exact clip_eq v n 0
  · cases hi with
    | none => rfl
    | some v => exact clip_eq v n n
theorem places_gen (i j : Nat) : Builtin.Slice.slicePlaces (i : Int) (j : Int) 1 = j - i := by
  unfold Builtin.Slice.slicePlaces
  have h1 : (1 : Int) > 0 := by omega
  simp only [h1, if_true, Int.ediv_one]
  split <;> omega
theorem slicePart_ {v : Value} {o : Option Int} {Q : Option Int → Shared → Prop} (p : IsPart v o) (h : Q o s) : wpAny (model prog w) A (Builtin.Slice.slicePartIndex v) Q E s := by
  cases p with
  | none => exact slicePart_none h
  | int i t => exact slicePart_int h
theorem sliceApplied_gen {sl : Addr} {vl vu : Value} {lo hi : Option Int} {n : Nat} {Q : Int × Int × Nat → Shared → Prop} (hs : s.heap.IsSliceOf sl vl vu .none) (pl : IsPart vl lo) (pu : IsPart vu hi)
    (h : Q (((sIx n 0 lo : Nat) : Int), 1, sIx n n hi - sIx n 0 lo) s) : wpAny (model prog w) A (Builtin.Slice.sliceApplied (.ref sl) (pure (n : Int))) Q E s := by
  obtain ⟨os, hos, hcs, hds⟩ := id hs
  unfold Builtin.Slice.sliceApplied Builtin.Slice.sliceFields
  refine wpAny_bind (wpAny_bind (wpAny_field hos hds (x := vl) rfl (wpAny_bind (wpAny_field hos hds (x := vu) rfl (wpAny_bind (wpAny_field hos hds (x := .none) rfl (wpAny_pure ?_)))))))
  refine wpAny_bind (slicePart_none ?_)
  show wpAny _ _ (if ((1 : Int) == 0) = true then _ else _) _ _ s
  rw [if_neg (by decide)]
  refine wpAny_bind (slicePart_ pl (wpAny_bind (slicePart_ pu (wpAny_bind (wpAny_pure ?_)))))
  show wpAny _ _ (match Builtin.Slice.sliceAdjust lo hi 1 (n : Int) with | (lo, hi) => pure (lo, (1 : Int), Builtin.Slice.slicePlaces lo hi 1)) _ _ s
  rw [adjust_gen lo hi n]
  show wpAny _ _ (pure (((sIx n 0 lo : Nat) : Int), (1 : Int), Builtin.Slice.slicePlaces ((sIx n 0 lo : Nat) : Int) ((sIx n n hi : Nat) : Int) 1)) _ _ s
  rw [places_gen]
  exact wpAny_pure h
theorem pick_gen (xs : Array Value) (i k : Nat) : ((List.range k).filterMap fun (m : Nat) => xs[((i : Int) + (m : Int) * 1).toNat]?).toArray = ((xs.toList.drop i).take k).toArray := by
  have e : (fun (m : Nat) => xs[((i : Int) + (m : Int) * 1).toNat]?) = fun m => xs[i + m]? := by
    funext m
    have : ((i : Int) + (m : Int) * 1).toNat = i + m := by omega
    rw [this]
  rw [e]
  have := pick_run xs i k
  rw [List.filterMap_map] at this
  have e2 : ((fun x => xs[x]?) ∘ fun x => i + x) = fun m => xs[i + m]? := rfl
  rw [e2] at this
  rw [this]
theorem getItem_tuple_cut {t sl : Addr} {items : Array Value} {vl vu : Value} {lo hi : Option Int} {Q : Value → Shared → Prop} (ht : IsTup s.heap t items) (hs : s.heap.IsSliceOf sl vl vu .none) (pl : IsPart vl lo) (pu : IsPart vu hi)
    (hw : ¬ (sIx items.size 0 lo = 0 ∧ sIx items.size items.size hi = items.size))
    (h : Q (.ref s.heap.objs.size) { s with heap := s.heap.push { cls := .type "tuple", data := .seq ((items.toList.drop (sIx items.size 0 lo)).take (sIx items.size items.size hi - sIx items.size 0 lo)).toArray } })
    (hsz : items.size ≤ sizeLine) : wpAny (model prog w) A (getItem (.ref t) (.ref sl)) Q E s := by
  have htake : sizeOk (.seq ((items.toList.drop (sIx items.size 0 lo)).take (sIx items.size items.size hi - sIx items.size 0 lo)).toArray) := by
    show ((items.toList.drop (sIx items.size 0 lo)).take (sIx items.size items.size hi - sIx items.size 0 lo)).toArray.size ≤ sizeLine
    rw [List.size_toArray, List.length_take, List.length_drop, Array.length_toList]
    omega
  have hj : sIx items.size items.size hi ≤ items.size := sIx_le _ _ (Nat.le_refl _) hi
  obtain ⟨os, hos, hcs, hds⟩ := id hs
  have hTs : s.TypeIs (.ref sl) "slice" := ⟨os, hos, hcs⟩
  unfold getItem
  try with_reducible refine wpAny_holding ?_
  first | refine wpAny_bind (wpAny_pure ?_) | skip
  refine wpAny_bind (wpAny_sequenceKey ht.typeIs (by decide) ?_)
  refine wpAny_bind (wpAny_callSpecial?_slot (name := Str.ofString "__getitem__") ht.typeIs PyProof.Rows.slot_tuple_getitem
    (wpAny_call_entry PyProof.Rows.slot_tuple_getitem ht.typeIs entry_tuple_getitem ?_ (args_tuple_getitem _ _)))
  show wpAny _ _ (Builtin.Tuple.tupleItemsOf (.ref t) >>= _) _ _ s
  refine wpAny_bind (tupleItemsOf_ ht ?_)
  refine wpAny_bind (wpAny_typeOf hTs ?_)
  rw [if_pos (by decide)]
  refine wpAny_bind (sliceApplied_gen hs pl pu ?_)
  have hno : ¬ ((((sIx items.size 0 lo : Nat) : Int) == 0 && (1 : Int) == 1 && (sIx items.size items.size hi - sIx items.size 0 lo) == items.size) = true) := by
    intro q
    rw [Bool.and_eq_true, Bool.and_eq_true] at q
    have q1 : ((sIx items.size 0 lo : Nat) : Int) = 0 := eq_of_beq q.1.1
    have q2 : sIx items.size items.size hi - sIx items.size 0 lo = items.size := eq_of_beq q.2
    exact hw ⟨by omega, by omega⟩
  show wpAny _ _ (if (((sIx items.size 0 lo : Nat) : Int) == 0 && (1 : Int) == 1 && (sIx items.size items.size hi - sIx items.size 0 lo) == items.size) = true then _ else _) _ _ s
  rw [if_neg hno, pick_gen]
  first
    | exact wpAny_bind (m := Builtin.Tuple.tupleExact _) (wpAny_newObj_type (wpAny_pure ⟨_, rfl, wpAny_pure h⟩) htake)
    | exact wpAny_bind (m := Builtin.Tuple.tupleExact _) (wpAny_newObj_type (wpAny_bind (wpAny_pure (wpAny_pure ⟨_, rfl, wpAny_pure h⟩))) htake)
    | exact wpAny_bind (wpAny_bind (m := Builtin.Tuple.tupleExact _) (wpAny_newObj_type (wpAny_pure (wpAny_pure ⟨_, rfl, wpAny_pure h⟩)) htake))
    | exact wpAny_bind (wpAny_bind (m := Builtin.Tuple.tupleExact _) (wpAny_newObj_type (wpAny_pure ⟨_, rfl, wpAny_pure h⟩) htake))
end
end HT
namespace L2
open PySem PySem.Spec PyProof.Rows
abbrev TO := St → Hp → (Option Int → Hp → Prop) → Prop
def PO (X : Cx) (e : Option Expr) (t : TO) : Prop :=
  ∀ (pins : List (Addr × Obj)) (s : Shared) (σ : St) (H : Hp) (Q : Option Int → Hp → Prop), Inv X pins σ H s → t σ H Q →
    wpAny (model X.prog X.w) X.A (evalPart e X.env) (fun u s' => ∃ o H', Inv X pins σ H' s' ∧ IsPart u o ∧ Q o H') X.xe s
def tNoPart : TO := fun _ H Q => Q none H
def tPart (t : TE) : TO := fun σ H Q => t σ H fun x H1 => ∃ i, x = .int i ∧ Q (some i) H1
section
variable {X : Cx} {e : Expr} {te : TE} {lo hi : Option Expr} {tl th : TO} {pos p2 : Pos}
theorem po_none : PO X none tNoPart := by
  intro pins s σ H Q I h
  rw [evalPart_none]
  exact wpAny_pure ⟨none, H, I, .none, h⟩
theorem po_some (h : PE X e te) : PO X (some e) (tPart te) := by
  intro pins s σ H Q I hw
  rw [evalPart_some]
  refine thn (h pins s σ H _ I hw) fun u s1 ⟨x, H1, I1, r1, q1⟩ => ?_
  obtain ⟨i, rfl, q⟩ := q1
  obtain ⟨t, rfl⟩ := r1
  exact ⟨some i, H1, I1, .int i t, q⟩
def SlR (X : Cx) (r : V → Option Int → Option Int → Hp → VK → Prop) : Prop :=
  ∀ (pins : List (Addr × Obj)) (s : Shared) (σ : St) (H : Hp) (x : V) (v vl vu : Value) (lo hi : Option Int) (sl : Addr) (Q : VK), Inv X pins σ H s → RelV x v → s.heap.IsSliceOf sl vl vu .none → IsPart vl lo → IsPart vu hi → r x lo hi H Q →
    ∃ T id, typeLookup (.type T) "__getitem__" = pure (some (.builtin id)) ∧ s.TypeIs v T ∧ wpAny (model X.prog X.w) X.A (getItem v (.ref sl)) (EP X pins σ Q) X.xe s
theorem SlR.or {r r' : V → Option Int → Option Int → Hp → VK → Prop} (h : SlR X r) (h' : SlR X r') : SlR X (fun x lo hi H Q => r x lo hi H Q ∨ r' x lo hi H Q) := by
  intro pins s σ H x v vl vu lo hi sl Q I rx hs pl pu q
  rcases q with q | q
  · exact h pins s σ H x v vl vu lo hi sl Q I rx hs pl pu q
  · exact h' pins s σ H x v vl vu lo hi sl Q I rx hs pl pu q
def tSl (r : V → Option Int → Option Int → Hp → VK → Prop) (te : TE) (tl th : TO) : TE := fun σ H Q => te σ H fun x H1 => tl σ H1 fun l H2 => th σ H2 fun u H3 => r x l u H3 Q
theorem pe_slice {r : V → Option Int → Option Int → Hp → VK → Prop} (hr : SlR X r) (he : PE X e te) (hl : PO X lo tl) (hu : PO X hi th) : PE X (.Subscript e (.Slice lo hi none p2) pos) (tSl r te tl th) := by
  intro pins s σ H Q I h
  refine Subscript_ (thn (he pins s σ H _ I h) fun v s1 ⟨x, H1, I1, r1, q1⟩ => ?_)
  refine wpAny_Slice (thn (hl pins s1 σ H1 _ I1 q1) fun vl s2 ⟨l, H2, I2, pl, q2⟩ => thn (hu pins s2 σ H2 _ I2 q2) fun vu s3 ⟨u, H3, I3, pu, q3⟩ => ?_)
  rw [evalPart_none]
  refine wpAny_pure ?_
  have I4 : Inv X pins σ H3 { s3 with heap := s3.heap.push { cls := .type "slice", data := .fields #[vl, vu, .none] } } := I3.kept (t' := s3.toks) fun b ob q => Heap.get?_push_of_some _ q
  obtain ⟨T, id, hT, ht, hg⟩ := hr pins { s3 with heap := s3.heap.push { cls := .type "slice", data := .fields #[vl, vu, .none] } } σ H3 x v vl vu l u s3.heap.objs.size Q I4 r1 (Heap.IsSliceOf.new ..) pl pu q3
  show wpAny (model X.prog X.w) X.A (subscriptTail e (.Slice lo hi none p2) v (.ref s3.heap.objs.size)) (EP X pins σ Q) X.xe { s3 with heap := s3.heap.push { cls := .type "slice", data := .fields #[vl, vu, .none] } }
  exact tail_any (ops := [.ref s3.heap.objs.size, v]) ht hT hg (by with_unfolding_all rfl)
def cutV (xs : List V) (lo hi : Option Int) : List V := (xs.drop (HT.sIx xs.length 0 lo)).take (HT.sIx xs.length xs.length hi - HT.sIx xs.length 0 lo)
theorem cutV_length (xs : List V) (lo hi : Option Int) : (cutV xs lo hi).length ≤ xs.length := by
  unfold cutV
  rw [List.length_take, List.length_drop]
  omega
def rSlT (K : PySem.W.Frag) : V → Option Int → Option Int → Hp → VK → Prop := fun x lo hi H Q => ∃ a xs, x = .ref a ∧ SqT K H a xs ∧
  ¬ (HT.sIx xs.length 0 lo = 0 ∧ HT.sIx xs.length xs.length hi = xs.length) ∧ ∀ p, H p = none → Q (.ref p) (upd H p (.tup (cutV xs lo hi)))
theorem sl_tup : SlR X (rSlT X.K) := by
  intro pins s σ H x v vl vu lo hi sl Q I rx hs pl pu h
  obtain ⟨a, xs, rfl, hx, hw, q⟩ := h
  cases rx
  obtain ⟨its, r, ht, hz⟩ := I.tuple hx
  have hlen : its.toArray.size = xs.length := by rw [List.size_toArray]; exact r.length.symm
  refine ⟨"tuple", _, PyProof.Rows.slot_tuple_getitem.lookup, ht.typeIs, ?_⟩
  refine HT.getItem_tuple_cut ht hs pl pu (by rw [hlen]; exact hw) ?_ (by rw [hlen]; exact hz)
  rw [hlen]
  refine ⟨.ref s.heap.objs.size, _, I.laid (t' := s.toks) (o := .tup (cutV xs lo hi)) (fun b ob q => Heap.get?_push_of_some _ q) (Nat.le_refl _) ?_, rfl, q _ (I.hok.fresh (Nat.le_refl _))⟩
  exact ⟨Nat.le_trans (cutV_length xs lo hi) hz, _, (r.drop (HT.sIx xs.length 0 lo)).take (HT.sIx xs.length xs.length hi - HT.sIx xs.length 0 lo), IsTup.new _ _⟩
def rCatT (K : PySem.W.Frag) : R2 := fun x y H Q => ∃ a b xs ys, x = .ref a ∧ y = .ref b ∧ SqT K H a xs ∧ SqT K H b ys ∧ xs ≠ [] ∧ xs.length + ys.length ≤ sizeLine ∧
  (ys = [] → Q (.ref a) H) ∧ (ys ≠ [] → ∀ p, H p = none → Q (.ref p) (upd H p (.tup (xs ++ ys))))
theorem Vals.nil_iff {xs : List V} {us : List Value} (r : Vals xs us) : us = [] ↔ xs = [] := by
  cases r with
  | nil => simp
  | cons _ _ => simp
theorem op_catT : OpR X (binaryOp .Add) (rCatT X.K) := by
  intro pins s σ H x y v u Q I rx ry h
  obtain ⟨a, b, xs, ys, rfl, rfl, ha, hb, hx, hz, q1, q2⟩ := h
  cases rx
  cases ry
  obtain ⟨its, r1, p1, _⟩ := I.tuple ha
  obtain ⟨its2, r2, p2, _⟩ := I.tuple hb
  refine HT.cat_tup p1 p2 (fun z => hx (r1.nil_iff.mp z)) (fun z => ⟨.ref a, H, I, rfl, q1 (r2.nil_iff.mp z)⟩) (fun z => ?_) (by rw [← r1.length, ← r2.length]; exact hz)
  refine ⟨.ref s.heap.objs.size, _, I.laid (t' := s.toks) (o := .tup (xs ++ ys)) (fun b ob q => Heap.get?_push_of_some _ q) (Nat.le_refl _) ?_, rfl, q2 (fun w => z (r2.nil_iff.mpr w)) _ (I.hok.fresh (Nat.le_refl _))⟩
  exact ⟨by rw [List.length_append]; exact hz, _, r1.append r2, IsTup.new _ _⟩
end
end L2
namespace L2
open PySem PySem.Spec PyProof.Rows
def ixN (n : Nat) (i : Int) : Option Nat := if 0 ≤ i then (if i < n then some i.toNat else none) else if -(n : Int) ≤ i then some (i + n).toNat else none
def atI {α : Type} (xs : List α) (i : Int) : Option α := (ixN xs.length i).bind fun j => xs[j]?
theorem ixN_seq {n : Nat} {i : Int} {j : Nat} (h : ixN n i = some j) : seqIndex? i n = some j ∧ j < n ∧ -(n : Int) ≤ i ∧ i < n := by
  unfold ixN at h
  by_cases h0 : 0 ≤ i
  · rw [if_pos h0] at h
    by_cases h1 : i < n
    · rw [if_pos h1] at h
      have e : i.toNat = j := Option.some.inj h
      exact ⟨by rw [seqIndex_of h0 h1, e], by omega, by omega, h1⟩
    · rw [if_neg h1] at h; cases h
  · rw [if_neg h0] at h
    by_cases h1 : -(n : Int) ≤ i
    · rw [if_pos h1] at h
      have e : (i + n).toNat = j := Option.some.inj h
      exact ⟨by rw [seqIndex_neg (by omega) h1, e], by omega, h1, by omega⟩
    · rw [if_neg h1] at h; cases h
theorem atI_get {α : Type} {xs : List α} {i : Int} {v : α} (h : atI xs i = some v) : ∃ j, seqIndex? i xs.length = some j ∧ xs[j]? = some v ∧ j < xs.length ∧ -(xs.length : Int) ≤ i ∧ i < xs.length := by
  unfold atI at h
  cases e : ixN xs.length i with
  | none => rw [e] at h; cases h
  | some j =>
    rw [e] at h
    obtain ⟨h1, h2, h3, h4⟩ := ixN_seq e
    exact ⟨j, h1, h, h2, h3, h4⟩
theorem atI_nat {α : Type} {xs : List α} {j : Nat} {v : α} (h : xs[j]? = some v) : atI xs (j : Int) = some v := by
  have hj : j < xs.length := (List.getElem?_eq_some_iff.mp h).1
  have e : ixN xs.length (j : Int) = some j := by
    unfold ixN
    rw [if_pos (by omega), if_pos (by omega)]; simp
  unfold atI; rw [e]; exact h
def PlainIx (b : Expr) : Prop := ∀ o i, subscripted b false o i = operate [o, i] (getItem o i)
def IxR (X : Cx) (r : R2) : Prop :=
  ∀ (value slice : Expr) (pins : List (Addr × Obj)) (s : Shared) (σ : St) (H : Hp) (x y : V) (v u : Value) (Q : VK), Inv X pins σ H s → RelV x v → RelV y u → r x y H Q →
    subscripted slice false v u = operate [v, u] (getItem v u) → wpAny (model X.prog X.w) X.A (subscriptTail value slice v u) (EP X pins σ Q) X.xe s
def MtR (X : Cx) (id : String) (r : V → List V → Hp → VK → Prop) : Prop :=
  ∀ (pins : List (Addr × Obj)) (s : Shared) (σ : St) (H : Hp) (x : V) (xs : List V) (v : Value) (us : List Value) (Q : VK), Inv X pins σ H s → RelV x v → Vals xs us → r x xs H Q →
    wpAny (model X.prog X.w) X.A (call (.builtin id) (v :: us)) (EP X pins σ Q) X.xe s
section
variable {X : Cx} {a b : Expr} {ta tb : TE} {pos : Pos}
theorem IxR.or {r r' : R2} (h : IxR X r) (h' : IxR X r') : IxR X (fun x y H Q => r x y H Q ∨ r' x y H Q) := by
  intro value slice pins s σ H x y v u Q I rx ry q hs
  rcases q with q | q
  · exact h value slice pins s σ H x y v u Q I rx ry q hs
  · exact h' value slice pins s σ H x y v u Q I rx ry q hs
theorem MtR.or {id : String} {r r' : V → List V → Hp → VK → Prop} (h : MtR X id r) (h' : MtR X id r') : MtR X id (fun x xs H Q => r x xs H Q ∨ r' x xs H Q) := by
  intro pins s σ H x xs v us Q I rx rs q
  rcases q with q | q
  · exact h pins s σ H x xs v us Q I rx rs q
  · exact h' pins s σ H x xs v us Q I rx rs q
theorem pe_ix {r : R2} (hr : IxR X r) (ha : PE X a ta) (hb : PE X b tb) (hs : PlainIx b) : PE X (.Subscript a b pos) (tOp r ta tb) := by
  intro pins s σ H Q I h
  exact Subscript_ (binT ha hb I h fun v u s2 x y H2 I2 rx ry q => hr a b pins s2 σ H2 x y v u Q I2 rx ry q (hs _ _))
def rIxL (K : PySem.W.Frag) : R2 := fun x y H Q => ∃ p xs i v, x = .ref p ∧ y = .int i ∧ SqL K H p xs ∧ atI xs i = some v ∧ Q v H
def rIxT (K : PySem.W.Frag) : R2 := fun x y H Q => ∃ p xs i v, x = .ref p ∧ y = .int i ∧ SqT K H p xs ∧ atI xs i = some v ∧ Q v H
def rIxS : R2 := fun x y H Q => ∃ z i c, x = .str z ∧ y = .int i ∧ z.length ≤ sizeLine ∧ atI z.cps.toList i = some c ∧ Q (.str ⟨#[c]⟩) H
theorem ix_list : IxR X (rIxL X.K) := by
  intro value slice pins s σ H x y v u Q I rx ry h hs
  obtain ⟨p, xs, i, z, rfl, rfl, hq, he, q⟩ := h
  cases rx
  obtain ⟨t, rfl⟩ := ry
  obtain ⟨its, r, pl, hz⟩ := I.list hq
  obtain ⟨j, h1, h2, h3, h4, h5⟩ := atI_get he
  obtain ⟨w, ew, rw'⟩ := r.get h2
  have hl := r.length
  have hn := line63
  have fin : EP X pins σ Q w s := ⟨z, H, I, rw', q⟩
  by_cases h0 : 0 ≤ i
  · have hj : i.toNat = j := by
      rw [seqIndex_of h0 h5] at h1
      exact Option.some.inj h1
    exact item_listR pl.isList h0 (by omega) (by rw [hj]; simpa using ew) fin hs
  · have hj : (i + (its.toArray.size : Int)).toNat = j := by
      rw [seqIndex_neg (by omega) h4] at h1
      rw [List.size_toArray, ← hl]
      exact Option.some.inj h1
    exact subscriptTail_builtinR (x := w) pl.isList.typeIs slot_list_getitem.lookup
      (wpAny_getItem_list_neg (Q := fun r s' => r = w ∧ EP X pins σ Q r s') pl.isList (by omega) (by rw [List.size_toArray] <;> omega) (by omega) (by rw [hj]; simpa using ew) ⟨rfl, fin⟩) hs
theorem ix_tup : IxR X (rIxT X.K) := by
  intro value slice pins s σ H x y v u Q I rx ry h hs
  obtain ⟨p, xs, i, z, rfl, rfl, hq, he, q⟩ := h
  cases rx
  obtain ⟨t, rfl⟩ := ry
  obtain ⟨its, r, pl, hz⟩ := I.tuple hq
  obtain ⟨j, h1, h2, h3, h4, h5⟩ := atI_get he
  obtain ⟨w, ew, rw'⟩ := r.get h2
  have hl := r.length
  have hn := line63
  have fin : EP X pins σ Q w s := ⟨z, H, I, rw', q⟩
  exact subscriptTail_builtinR (x := w) pl.typeIs slot_tuple_getitem.lookup
    (getItem_tuple (j := j) (Q := fun r s' => r = w ∧ EP X pins σ Q r s') pl (by omega) (by omega) (by rw [List.size_toArray, ← hl]; exact h1) (by simpa using ew) ⟨rfl, fin⟩) hs
theorem ix_str : IxR X rIxS := by
  intro value slice pins s σ H x y v u Q I rx ry h hs
  obtain ⟨z, i, c, rfl, rfl, hz, he, q⟩ := h
  obtain ⟨t, rfl⟩ := rx
  obtain ⟨t', rfl⟩ := ry
  obtain ⟨j, h1, h2, h3, h4, h5⟩ := atI_get he
  have hl : z.cps.toList.length = z.length := by simp [Str.length]
  rw [hl] at h1 h4 h5
  have hn := line63
  exact tail_any (typeIs_str s z t) slot_str_getitem.lookup (getItem_str (c := c) (by
    have e1 : decide (i < -(2 ^ 63 : Int)) = false := decide_eq_false (by omega)
    have e2 : decide (i ≥ 2 ^ 63) = false := decide_eq_false (by omega)
    rw [e1, e2, Bool.or_false]) (by rw [h1]; simpa using h2) ⟨.str ⟨#[c]⟩, H, I.tok _, ⟨_, rfl⟩, q⟩) hs
def rIx (K : PySem.W.Frag) : R2 := fun x y H Q => rIxL K x y H Q ∨ rIxT K x y H Q ∨ rIxS x y H Q
theorem ix_seq : IxR X (rIx X.K) := ix_list.or (ix_tup.or ix_str)
theorem Inv.lst {pins : List (Addr × Obj)} {σ : St} {H : Hp} {s : Shared} {p : Addr} {xs : List V} (I : Inv X pins σ H s) (h : H p = some (.lst xs)) :
    ∃ (its : List Value) (n : Nat), Vals xs its ∧ s.heap.get? p = some { cls := .type "list", data := .seq its.toArray n } ∧ xs.length ≤ sizeLine := by
  obtain ⟨z, its, n, r, e⟩ := I.hok p _ h
  exact ⟨its, n, r, e, z⟩
theorem slice_bounds (lo hi : Option Int) (n : Nat) : (sliceBounds lo hi none n).1 = ((HT.sIx n 0 lo : Nat) : Int) ∧ (sliceBounds lo hi none n).2.1 = ((HT.sIx n n hi : Nat) : Int) ∧ (sliceBounds lo hi none n).2.2 = 1 := by
  refine ⟨?_, ?_, rfl⟩
  · cases lo with
    | none => simp [sliceBounds, HT.sIx]
    | some i =>
      simp only [sliceBounds, HT.sIx, Option.getD_none, show (1 : Int) > 0 by decide, if_true]
      by_cases h : i < 0
      · simp only [h, if_true] <;> omega
      · simp only [h, if_false] <;> omega
  · cases hi with
    | none => simp [sliceBounds, HT.sIx]
    | some i =>
      simp only [sliceBounds, HT.sIx, Option.getD_none, show (1 : Int) > 0 by decide, if_true]
      by_cases h : i < 0
      · simp only [h, if_true] <;> omega
      · simp only [h, if_false] <;> omega
theorem slicePick_cut (its : List Value) (lo hi : Option Int) : slicePick its.toArray lo hi none = ((its.drop (HT.sIx its.length 0 lo)).take (HT.sIx its.length its.length hi - HT.sIx its.length 0 lo)).toArray := by
  obtain ⟨h1, h2, h3⟩ := slice_bounds lo hi its.toArray.size
  unfold slicePick
  rw [h1, h2, h3]
  simp only [sliceRange_one, pick_run, List.size_toArray] <;> rfl
def rSlL (K : PySem.W.Frag) : V → Option Int → Option Int → Hp → VK → Prop := fun x lo hi H Q => ∃ a xs, x = .ref a ∧ SqL K H a xs ∧ ∀ p, H p = none → Q (.ref p) (upd H p (.lst (cutV xs lo hi)))
theorem sl_list : SlR X (rSlL X.K) := by
  intro pins s σ H x v vl vu lo hi sl Q I rx hs pl pu h
  obtain ⟨a, xs, rfl, hx, q⟩ := h
  cases rx
  obtain ⟨its, r, ht, hz⟩ := I.list hx
  have hlen := r.length
  refine ⟨"list", _, slot_list_getitem.lookup, ht.isList.typeIs, ?_⟩
  refine wpAny_getItem_list_slice ht.isList hs pl pu .none (by simp) ?_ (by rw [List.size_toArray] <;> omega)
  rw [slicePick_cut, ← hlen]
  refine ⟨.ref s.heap.objs.size, _, I.laid (t' := s.toks) (o := .lst (cutV xs lo hi)) (fun b ob q => Heap.get?_push_of_some _ q) (Nat.le_refl _) ?_, rfl, q _ (I.hok.fresh (Nat.le_refl _))⟩
  exact ⟨Nat.le_trans (cutV_length xs lo hi) hz, _, 0, (r.drop (HT.sIx xs.length 0 lo)).take (HT.sIx xs.length xs.length hi - HT.sIx xs.length 0 lo), Heap.get?_push_size _ rfl⟩
theorem call_len_seq : CallR X (.builtin "len") (fun xs H Q => ∃ p ys, xs = [.ref p] ∧ (SqL X.K H p ys ∨ SqT X.K H p ys) ∧ Q (.int ys.length) H) := by
  intro pins s σ H xs us Q I r h
  obtain ⟨p, ys, rfl, hq, q⟩ := h
  obtain ⟨u, rfl, rx⟩ := vals1 r
  cases rx
  have hn := line63
  rcases hq with hq | hq
  · obtain ⟨its, r', pl, hz⟩ := I.list hq
    have hlen := r'.length
    exact Calls.call_len_list pl.isList (by simp only [List.size_toArray] <;> omega) ⟨.int ys.length, H, I.tok _, ⟨s.toks + 1, by rw [List.size_toArray, hlen]⟩, q⟩
  · obtain ⟨its, r', pl, hz⟩ := I.tuple hq
    have hlen := r'.length
    exact len_tuple pl (by simp only [List.size_toArray] <;> omega) ⟨.int ys.length, H, I.tok _, ⟨s.toks + 1, by rw [List.size_toArray, hlen]⟩, q⟩
theorem CallR.or {f : Value} {r r' : List V → Hp → VK → Prop} (h : CallR X f r) (h' : CallR X f r') : CallR X f (fun xs H Q => r xs H Q ∨ r' xs H Q) := by
  intro pins s σ H xs us Q I rs q
  rcases q with q | q
  · exact h pins s σ H xs us Q I rs q
  · exact h' pins s σ H xs us Q I rs q
theorem call_tuple_of : CallR X (.type "tuple") (fun xs H Q => ∃ p ys, xs = [.ref p] ∧ ((SqL X.K H p ys ∧ ∀ l, H l = none → Q (.ref l) (upd H l (.tup ys))) ∨ (SqT X.K H p ys ∧ Q (.ref p) H))) := by
  intro pins s σ H xs us Q I r h
  obtain ⟨p, ys, rfl, h⟩ := h
  obtain ⟨u, rfl, rx⟩ := vals1 r
  cases rx
  rcases h with ⟨hq, q⟩ | ⟨hq, q⟩
  · obtain ⟨its, r', pl, hz⟩ := I.list hq
    have hlen := r'.length
    refine call_tuple_list pl.isList (fun h' kp => ?_) (by simp only [List.size_toArray] <;> omega)
    have I1 : Inv X pins σ H { s with heap := h' } := I.kept (t' := s.toks) kp
    have I2 : Inv X pins σ (upd H h'.objs.size (.tup ys)) { s with heap := h'.push { cls := .type "tuple", data := .seq its.toArray } } :=
      I1.laid (t' := s.toks) (fun b o e => Heap.get?_push_of_some _ e) (Nat.le_refl _) (show ObjOk X.prog X.w _ _ _ (.tup ys) from ⟨hz, its, r', IsTup.new _ _⟩)
    exact ⟨.ref h'.objs.size, _, I2, rfl, q _ (I1.hok.fresh (Nat.le_refl _))⟩
  · obtain ⟨its, r', pl, hz⟩ := I.tuple hq
    exact call_tuple_same pl ⟨.ref p, H, I, rfl, q⟩
def tyV (K : PySem.W.Frag) (T : String) (x : V) (H : Hp) : Prop := match x with
  | .str _ => T = "str"
  | .int _ => T = "int"
  | .ref p => (T = "list" ∧ ∃ xs, SqL K H p xs) ∨ (T = "tuple" ∧ ∃ o, K.lookup p = some o ∧ o.cls = .type "tuple" ∧ o.dict = none) ∨
      (T = "dict" ∧ ((∃ kvs, H p = some (.dK kvs)) ∨ ∃ kvs, H p = some (.dT kvs))) ∨ (T = "set" ∧ ∃ S n, H p = some (.set S n))
  | _ => False
theorem tyV_is {pins : List (Addr × Obj)} {σ : St} {H : Hp} {s : Shared} {T : String} {x : V} {v : Value} (I : Inv X pins σ H s) (r : RelV x v) (ty : tyV X.K T x H) :
    s.TypeIs v T ∧ ∀ a, v = .ref a → ∃ ob, s.heap.get? a = some ob ∧ ob.dict = none := by
  cases x with
  | str z =>
    obtain ⟨t, rfl⟩ := r
    cases (show T = "str" from ty)
    exact ⟨typeIs_str s z t, fun _ e => nomatch e⟩
  | int i =>
    obtain ⟨t, rfl⟩ := r
    cases (show T = "int" from ty)
    exact ⟨typeIs_int s i t, fun _ e => nomatch e⟩
  | ref p =>
    cases r
    rcases ty with ⟨rfl, xs, hq⟩ | ⟨rfl, o, hk, hc, hd⟩ | ⟨rfl, hk⟩ | ⟨rfl, S, n, hk⟩
    · obtain ⟨its, _, pl, _⟩ := I.list hq
      refine ⟨pl.isList.typeIs, fun a e => ?_⟩
      cases e
      obtain ⟨o, n, e, c, hd, _⟩ := pl
      exact ⟨o, e, hd⟩
    · refine ⟨⟨o, I.kIn p o hk, hc⟩, fun a e => ?_⟩
      cases e
      exact ⟨o, I.kIn _ o hk, hd⟩
    · have z : ∃ o, s.heap.get? p = some o ∧ o.ExactDict := by
        rcases hk with ⟨kvs, hk⟩ | ⟨kvs, hk⟩
        · obtain ⟨_, _, _, _, o, _, _, e, ex, _⟩ := I.hok p _ hk
          exact ⟨o, e, ex⟩
        · obtain ⟨_, _, _, _, o, _, _, e, ex, _⟩ := I.hok p _ hk
          exact ⟨o, e, ex⟩
      obtain ⟨o, e, ex⟩ := z
      refine ⟨⟨o, e, ex.1⟩, fun a e2 => ?_⟩
      cases e2
      exact ⟨o, e, ex.2.1⟩
    · obtain ⟨o, _, _, _, e, ex, _⟩ := I.hok p _ hk
      refine ⟨⟨o, e, ex.1⟩, fun a e2 => ?_⟩
      cases e2
      exact ⟨o, e, ex.2.1⟩
  | _ => exact False.elim ty
def tBM0 (K : PySem.W.Frag) (T : String) (r : V → List V → Hp → VK → Prop) (to : TE) : TE := fun σ H Q => to σ H fun x H1 => tyV K T x H1 ∧ r x [] H1 Q
def tBM (K : PySem.W.Frag) (T : String) (r : V → List V → Hp → VK → Prop) (to : TE) (t : TA) : TE := fun σ H Q => to σ H fun x H1 => tyV K T x H1 ∧ t σ H1 fun xs H2 => r x xs H2 Q
variable {o e : Expr} {es : List Expr} {to : TE} {t : TA} {name : Str} {apos cpos : Pos} {T id : String} {r : V → List V → Hp → VK → Prop}
theorem pe_bm0 (pa : PlainAttrs T) (slot : Slot T name id) (hty : typeOf (.builtin id) = pure (.type "method_descriptor")) (hm : MtR X id r) (ho : PE X o to)
    (hbase : attributeBase o name X.env (eval o X.env) = eval o X.env := by rfl) (hline : (apos.endLine == cpos.line) = true := by rfl) : PE X (.Call (.Attribute o name apos) [] [] cpos) (tBM0 X.K T r to) := by
  intro pins s σ H Q I h
  refine wpAny_Call_method0_late hbase hline (thn (ho pins s σ H _ I h) fun v s1 ⟨x, H1, I1, r1, ty, q1⟩ => ?_)
  obtain ⟨h1, h2⟩ := tyV_is I1 r1 ty
  exact ⟨T, id, pa, slot, hty, h1, h2, Calls.callWith_builtin rfl (PySem.evalArgs_none (hm pins s1 σ H1 x [] v [] Q I1 r1 .nil q1))⟩
theorem pe_bm (pa : PlainAttrs T) (slot : Slot T name id) (hty : typeOf (.builtin id) = pure (.type "method_descriptor")) (hm : MtR X id r) (ho : PE X o to) (ha : PA X (e :: es) t)
    (hbase : attributeBase o name X.env (eval o X.env) = eval o X.env := by rfl)
    (hfew : ((backTo cpos (starEach (e :: es) X.env)).all (fun x => !x.1) && (backToKw cpos (keywordEach [] X.env)).all (fun x => x.1.isSome)
      && decide ((e :: es).length + ([] : List Keyword).length + (if ([] : List Keyword).isEmpty then 0 else 1) < 30)) = true := by rfl)
    (hline : (apos.endLine == cpos.line) = true := by rfl) (hs : starEach (e :: es) X.env = (false, eval e X.env) :: starEach es X.env := by rfl) (hplain : (backTo cpos (starEach es X.env)).any (·.1) = false := by rfl) :
    PE X (.Call (.Attribute o name apos) (e :: es) [] cpos) (tBM X.K T r to t) := by
  intro pins s σ H Q I h
  refine wpAny_Call_method_late hbase hfew hline rfl (thn (ho pins s σ H _ I h) fun v s1 ⟨x, H1, I1, r1, ty, q1⟩ => ?_)
  obtain ⟨h1, h2⟩ := tyV_is I1 r1 ty
  refine ⟨T, id, pa, slot, hty, h1, h2, ?_⟩
  have hA := ha cpos pins s1 σ H1 _ I1 q1
  rw [hs] at hA ⊢
  refine Calls.callWith_builtin (by show (false || (backTo cpos (starEach es X.env)).any (·.1)) = false; rw [hplain] <;> rfl) (Calls.evalArgs_plain ?_)
  exact thn hA fun us s2 ⟨vs, H2, I2, r2, q2⟩ => hm pins s2 σ H2 x vs v us Q I2 r1 r2 q2
end
end L2
namespace L2
open PySem PySem.Spec PyProof.Rows
def MtM (X : Cx) (id : String) (r : V → List V → Hp → VK → Prop) : Prop :=
  ∀ (pins : List (Addr × Obj)) (s : Shared) (σ : St) (H : Hp) (x : V) (xs : List V) (v : Value) (us : List Value) (Q : VK), Inv X pins σ H s → RelV x v → Vals xs us → r x xs H Q →
    wpAny (model X.prog X.w) X.A (call (.builtin id) (v :: us)) (EP X pins σ Q) X.xe s
theorem Vals.one : ∀ {x : V} {us : List Value}, Vals [x] us → ∃ u, us = [u] ∧ RelV x u
  | _, _, .cons r .nil => ⟨_, rfl, r⟩
theorem Vals.two : ∀ {x y : V} {us : List Value}, Vals [x, y] us → ∃ u v, us = [u, v] ∧ RelV x u ∧ RelV y v := by
  intro x y us h
  cases h with
  | cons r h => cases h with
    | cons q h => cases h; exact ⟨_, _, rfl, r, q⟩
theorem Vals.zero : ∀ {us : List Value}, Vals [] us → us = []
  | _, .nil => rfl
theorem Vals.reverse {xs : List V} {us : List Value} (h : Vals xs us) : Vals xs.reverse us.reverse := by
  induction h with
  | nil => exact .nil
  | cons r t ih => rw [List.reverse_cons, List.reverse_cons]; exact Vals.append ih (.cons r .nil)
section
variable {X : Cx} {pins : List (Addr × Obj)} {σ : St} {H : Hp} {s : Shared} {l b : Addr} {xs ys zs : List V}
theorem Inv.lset {its its' : List Value} {n : Nat} {f : Array Value → Array Value} {t' : Nat} (I : Inv X pins σ H s) (hH : H l = some (.lst xs))
    (e : s.heap.get? l = some { cls := .type "list", data := .seq its.toArray n }) (hf : f its.toArray = its'.toArray) (hv : Vals ys its') (hz : ys.length ≤ sizeLine) :
    Inv X pins σ (upd H l (.lst ys)) { s with heap := s.heap.update l (Obj.mapSeq f), toks := t' } := by
  have q := PySem.IsL.update e f
  rw [hf] at q
  refine I.write (x := l) (e := l) (by rw [hH]; exact trivial) (.inl rfl) (fun b' u hb hu => (Heap.get?_update_other s.heap (Obj.mapSeq f) (Ne.symm hb)).trans hu) ⟨_, q⟩ ?_
  exact ⟨hz, its', _, hv, q⟩
theorem Inv.lnew {its : List Value} {t' : Nat} (I : Inv X pins σ H s) (hv : Vals ys its) (hz : ys.length ≤ sizeLine) :
    Inv X pins σ (upd H s.heap.objs.size (.lst ys)) { s with heap := s.heap.push { cls := .type "list", data := .seq its.toArray }, toks := t' } :=
  I.laid (fun _ _ q => Heap.get?_push_of_some _ q) (Nat.le_refl _) ⟨hz, its, 0, hv, Heap.get?_push_size _ rfl⟩
theorem Inv.fresh (I : Inv X pins σ H s) : H s.heap.objs.size = none := I.hok.fresh (Nat.le_refl _)
theorem Inv.lstM (I : Inv X pins σ H s) (hH : H l = some (.lst xs)) : xs.length ≤ sizeLine ∧ ∃ (its : List Value) (n : Nat), Vals xs its ∧ xs.length = its.length ∧ s.heap.get? l = some { cls := .type "list", data := .seq its.toArray n } := by
  obtain ⟨z, its, n, r, e⟩ := I.hok l _ hH
  exact ⟨z, its, n, r, r.length, e⟩
end
section
variable {X : Cx}
def rAppend : V → List V → Hp → VK → Prop := fun x vs H Q => ∃ l xs y, x = .ref l ∧ vs = [y] ∧ H l = some (.lst xs) ∧ xs.length < sizeLine ∧ Q .non (upd H l (.lst (xs ++ [y])))
theorem mt_append : MtM X "list.append" rAppend := by
  intro pins s σ H x vs v us Q I rx rv h
  obtain ⟨l, xs, y, rfl, rfl, hH, hz, q⟩ := h
  cases rx
  obtain ⟨u, rfl, ru⟩ := rv.one
  obtain ⟨z, its, n, r, hl, e⟩ := I.lstM hH
  refine call_meets F.slot_list_append ⟨_, e, rfl⟩ F.entry_list_append (F.args_list_append_2 _ _) (PySem.list_append l its.toArray n u (by rw [List.size_toArray]; omega)) ⟨e, ?_⟩
  refine ⟨.non, _, I.lset (its' := its ++ [u]) hH e (by simp) (r.append (.cons ru .nil)) ?_, rfl, q⟩
  rw [List.length_append, List.length_singleton]
  omega
def rCat : R2 := fun x y H Q => ∃ l b xs zs, x = .ref l ∧ y = .ref b ∧ H l = some (.lst xs) ∧ H b = some (.lst zs) ∧ xs.length + zs.length ≤ sizeLine ∧ ∀ p, H p = none → Q (.ref p) (upd H p (.lst (xs ++ zs)))
theorem op_cat : OpR X (binaryOp .Add) rCat := by
  intro pins s σ H x y v u Q I rx ry h
  obtain ⟨l, b, xs, zs, rfl, rfl, hH, hB, hz, q⟩ := h
  cases rx
  cases ry
  obtain ⟨z, its, n, r, hl, e⟩ := I.lstM hH
  obtain ⟨z2, its2, n2, r2, hl2, e2⟩ := I.lstM hB
  refine PySem.P.add_list e e2 ?_ (by rw [List.size_toArray, List.size_toArray]; omega)
  have ea : its.toArray ++ its2.toArray = (its ++ its2).toArray := by simp
  rw [ea]
  exact ⟨.ref _, _, I.lnew (t' := s.toks) (r.append r2) (by rw [List.length_append]; omega), rfl, q _ I.fresh⟩
end
section
variable {prog : Program} {w : World} {A : Around} {E : Value → Shared → Prop} {s : Shared}
end
section
variable {X : Cx}
end
end L2
namespace Att
open PySem PySem.W PySem.Calls PyProof.Rows
theorem ints_of_wellAll {P : Params} {h : Heap} : ∀ (ns : List Int) (vs : List Value), WellAll P h vs (ns.map WData.int) → IntsAre vs ns := by
  intro ns
  induction ns with
  | nil =>
    intro vs w
    rw [List.map_nil] at w
    cases w
    exact .nil
  | cons n ns ih =>
    intro vs w
    rw [List.map_cons] at w
    cases w with
    | cons a b =>
      cases a
      exact .cons _ _ (ih _ b)
theorem script_of {l : OpenLaw} {n : Nat} (hn : l.most = some n) {P : Params} {h : Heap} {args : List WData} {vals : List Value}
    (hpre : l.row.toRowW.claim.pre args = true) (hwl : WellAll P h vals args) :
    ∃ a vs ns, vals = [Value.ref a] ∧ args = [WData.list (ns.map WData.int)] ∧ h.get? a = some { cls := .type "list", data := .seq vs.toArray } ∧ IntsAre vs ns ∧ ns.length ≤ n := by
  have hsh : WShape.hasAll [] args [.list .int] = true := (pre_splitW hpre).1
  have hc : l.pre.holds [] { args := args } = true := (pre_splitW hpre).2
  obtain ⟨d, r, rfl, h1, h2⟩ := hasAllW_cons hsh
  obtain rfl := hasAllW_nil h2
  obtain ⟨xs, rfl, h3⟩ := hasW_list h1
  obtain ⟨ns, rfl⟩ := items_int h3
  have hlen : ns.length ≤ n := by
    unfold OpenLaw.pre at hc
    have h4 : (WTm.not (.lt (.lit (.int (n : Int))) (.len (.arg 0)))).holds [] { args := [.list (ns.map .int)] } = true := by
      have h4 := (holds_andW hc).1
      rw [hn] at h4
      exact h4
    have h5 := condW_of h4 (w_not (w_lt w_lit (w_len_list (w_arg rfl))))
    rw [List.length_map] at h5
    refine Nat.le_of_not_lt fun q => ?_
    have q' : (n : Int) < ((ns.length : Nat) : Int) := by omega
    first
      | (rw [decide_eq_true q'] at h5; exact absurd h5 (by decide))
      | (simp at h5; omega)
  cases hwl with
  | cons w1 w2 =>
    cases w2
    cases w1 with
    | list ho hall => exact ⟨_, _, ns, rfl, rfl, ho, ints_of_wellAll ns _ hall, hlen⟩
theorem post_true (l : OpenLaw) (args : List WData) : l.row.toRowW.claim.post args (.bool true) args = true :=
  postW_of (r := l.row.toRowW) (X := (true == true))
    (show WShape.has [] (.bool true) .bool = true by first | rfl | decide | simp [WShape.has, WShape.arms, WShape.armsAll])
    (show (WTm.eq .res (.lit (.bool true))).value [] { args := args, res := some (.bool true), after := args } = some (.bool (true == true)) from w_eq_bool (w_res rfl) w_lit) rfl
theorem attach_call {l : OpenLaw} {n : Nat} {q : Program} {loose : List Str} {XP : (Str → Option Value) → Heap → Prop} {YP : World → Heap → Prop} {d : DefRec}
    (hn : l.most = some n) (hdf : d.params.defaults = [])
    (call : ∀ (w : World) (s₀ s₁ : Shared) (mg mb : Str → Option Value) (fa : Addr) (o : Obj) (pm cd doc : Value) (a : Addr) (vs : List Value) (ns : List Int),
      Ground q loose [] XP w s₀ mg mb s₁.heap → YP w s₁.heap →
      s₁.heap.get? fa = some o → o.data = .func (docDef d.name d.params d.body d.scope pm cd doc) → s₁.heap.CodeRec cd d.name → mg d.name = some (.ref fa) →
      s₁.heap.get? a = some { cls := .type "list", data := .seq vs.toArray } → IntsAre vs ns → ns.length ≤ n → s₁.gens = #[] →
      codeAny (model l.prog w) callerA (.call (.ref fa) ⟨[.ref a], []⟩) (fun r s' => r = .ok (.ret (.bool true)) ∧ OldK s₁.heap s'.heap ∧ s'.os = s₁.os ∧ AllBare s'.gens) s₁) :
    WalkO q loose XP YP l.row.toRowW d [] (fun f vs => PySem.call f vs) := by
  intro w s₀ s₁ mg mb G Y fa o pm cd doc dV kV ho hd hcd hD hmg hg args vals as hpre hlay hrd hwl hlo
  obtain rfl : dV = .none := Dflts.none hD hdf
  obtain rfl : kV = .none := Dflts.noKw hD
  obtain ⟨a, vs, ns, rfl, rfl, hobj, hints, hlen⟩ := script_of hn hpre hwl
  refine enter_call (codeAny_mono (call w s₀ s₁ mg mb fa o pm cd doc a vs ns G Y ho (fd_plain hd) hcd hmg hobj hints hlen hg) fun r s' hq => ?_)
  obtain ⟨rfl, h2, h3, h4⟩ := hq
  exact ⟨.inl ⟨.bool true, .bool true, [], rfl, fun _ => rfl, .bool true, post_true l _, fun _ => ⟨List.Pairwise.nil, fun _ hm => (nomatch hm)⟩⟩, h2, h3, h4⟩
section
variable {prog : Program} {w : World} {A : Around} {E : Value → Shared → Prop} {s : Shared} {K : Frag}
end
end Att
namespace L2
open PySem PySem.Spec PyProof.Rows
theorem vals_ints : ∀ {vs : List Value} {ns : List Int}, IntsAre vs ns → Vals (ns.map V.int) vs
  | _, _, .nil => .nil
  | _, _, .cons n t h => .cons ⟨t, rfl⟩ (vals_ints h)
def Only (H : Hp) : Prop := ∀ b, H b = none ∨ ∃ o xs, H b = some (.frz o (.lst xs))
theorem law_call {P : Program} {w : World} {K : PySem.W.Frag} {mg mb : Str → Option Value} {CX : CXT} {k : Nat} {fa a : Addr} {fd : FuncData} {x : Str} {sp : Sp} {s₁ : Shared} {vs : List Value} {ns : List Int}
    (KX : K.In s₁.heap) (hns : s₁.heap.Ns mainGlobals mg) (hb : s₁.heap.Ns builtinsNs mb) (hbb : ∀ x : Str, x ≠ "__name__" → mb x = bootBuiltins x) (hlim : s₁.heap.NoLimit) (hg : s₁.gens = #[])
    (ha : s₁.heap.get? a = some { cls := .type "list", data := .seq vs.toArray }) (hi : IntsAre vs ns) (hl : ns.length ≤ sizeLine) (hr : Room k callerA)
    (F : ∀ base : Heap, K.In base → base.Ns mainGlobals mg → FnOk P w K mg base CX k fa fd [x] sp) (hbind : ∀ (s : Shared) (u : Value), BindsTo s fd ⟨[u], []⟩ [(x, u)])
    (hsp : ∀ H : Hp, Only H → SqL K H a (ns.map V.int) → sp [.ref a] H (fun v _ => v = .bl true) fun _ _ _ => False)
    (hCX : ∀ H e s', CX [] H s₁ (fun _ _ _ => False) e s' → False) :
    codeAny (model P w) callerA (.call (.ref fa) ⟨[.ref a], []⟩) (fun r s' => r = .ok (.ret (.bool true)) ∧ OldK s₁.heap s'.heap ∧ s'.os = s₁.os ∧ AllBare s'.gens) s₁ := by
  have rv := vals_ints hi
  have lenV := hi.length
  have core : ∀ H : Hp, Only H → SqL K H a (ns.map V.int) → HOk P w H s₁.heap → (∀ b, H b ≠ none → b = a) → (H a ≠ none → K.lookup a = none) →
      codeAny (model P w) callerA (.call (.ref fa) ⟨[.ref a], []⟩) (fun r s' => r = .ok (.ret (.bool true)) ∧ OldK s₁.heap s'.heap ∧ s'.os = s₁.os ∧ AllBare s'.gens) s₁ := by
    intro H hO hS hok hA hK
    have base_of : ∀ {b : Addr} {o : Obj}, s₁.heap.get? b = some o → H b = none → (hidT s₁.heap H).get? b = some o := fun e n => hidT_get e n
    have noA : ∀ {b : Addr} {o : Obj} {es : Array DictEntry} {ep : Nat}, s₁.heap.get? b = some o → o.data = .dict es ep → H b = none := fun {b o es ep} e d => by
      cases q : H b with
      | none => rfl
      | some u =>
        have e' : b = a := hA b (by rw [q]; simp)
        subst e'
        rw [ha] at e; cases e
        have d' : Data.seq vs.toArray _ = Data.dict es ep := d
        cases d'
    have nsK : ∀ {b : Addr} {m : Str → Option Value}, s₁.heap.Ns b m → (hidT s₁.heap H).Ns b m := fun {b m} ⟨o, es, ep, e, d, r⟩ => ⟨o, es, ep, base_of e (noA e d), d, r⟩
    have hKb : K.In (hidT s₁.heap H) := fun b o e => base_of (KX b o e) (by
      cases q : H b with
      | none => rfl
      | some u =>
        have e' : b = a := hA b (by rw [q]; simp)
        subst e'
        rw [hK (by rw [q]; simp)] at e; cases e)
    have hM : Mod K mg (hidT s₁.heap H) := ⟨hKb, nsK hns, ⟨mb, nsK hb, hbb⟩, let ⟨mc, h1, h2⟩ := hlim; ⟨mc, nsK h1, h2⟩⟩
    have e0 : Env0 P w K mg (hidT s₁.heap H) callerA [] s₁ H := ⟨rfl, hM, fun b o e => of_hidT e, Nat.le_of_eq (hidT_size _ _), trivial, fun b hb => absurd (show b ∈ ([] : List Addr) from hb) (by simp), hok, .of_eq hg⟩
    refine codeAny_mono ((F _ hKb (nsK hns)).run callerA [] s₁ H ⟨[.ref a], []⟩ [.ref a] [.ref a] _ _ hr e0 (hbind s₁ (.ref a)) (.cons rfl .nil) (hsp H hO hS)) fun r s' h => ?_
    cases r with
    | error e => exact (hCX H e s' h).elim
    | ok fl =>
      cases fl with
      | next => exact False.elim h
      | brk => exact False.elim h
      | cont => exact False.elim h
      | ret u =>
        obtain ⟨v, H', os, bare, un, hok', r', q⟩ := h
        have q' : v = .bl true := q
        subst q'
        obtain rfl : u = Value.bool true := r'
        refine ⟨rfl, OldK.of_keep fun b o e => ?_, os, bare⟩
        cases q : H b with
        | none => exact un.keep b o e q (by intro z; exact absurd (show b ∈ ([] : List Addr) from z) (by simp)) (by simp)
        | some u =>
          rcases hO b with z | ⟨ob, xs, z⟩
          · rw [q] at z; cases z
          · have z2 := un.frzs b ob _ z
            obtain ⟨e1, _⟩ := hok b _ z
            obtain ⟨e2, _⟩ := hok' b _ z2
            rw [e] at e1; cases e1
            exact e2
  cases hk : K.lookup a with
  | some o =>
    have e := KX a o hk
    rw [ha] at e
    cases e
    refine core (fun _ => none) (fun _ => .inl rfl) (.inr ⟨_, vs.toArray, _, hk, rfl, rfl, rfl, by rw [List.size_toArray, lenV]; exact hl, by simpa using rv⟩) (fun b u z => by have z' : (none : Option HO) = some u := z; cases z') (fun b z => absurd rfl z) fun z => absurd rfl z
  | none =>
    refine core (fun b => if b = a then some (.frz { cls := .type "list", data := .seq vs.toArray } (.lst (ns.map V.int))) else none) (fun b => ?_) (.inl (.inr ⟨{ cls := .type "list", data := .seq vs.toArray }, if_pos rfl⟩)) (fun b u z => ?_) (fun b z => ?_) fun _ => hk
    · by_cases hb : b = a
      · exact .inr ⟨_, _, if_pos hb⟩
      · exact .inl (if_neg hb)
    · by_cases hb : b = a
      · have z' := (if_pos hb).symm.trans z
        cases z'
        subst hb
        exact ⟨ha, by rw [List.length_map]; exact hl, vs, _, rv, ha⟩
      · have z' := (if_neg hb).symm.trans z
        cases z'
    · by_cases hb : b = a
      · exact hb
      · exact absurd (if_neg hb) z
end L2
namespace L2
open PySem PySem.Spec PyProof.Rows
theorem walk_of {l : PySem.W.OpenLaw} {n k : Nat} {q : Program} {loose : List Str} {XP : (Str → Option Value) → Heap → Prop} {YP : World → Heap → Prop} {d : DefRec} {K : Params → PySem.W.Frag} {CX : World → CXT} {sp : World → Sp} {x : Str}
    (hn : l.most = some n) (hn2 : n ≤ sizeLine) (hdf : d.params.defaults = []) (hr : Room k callerA)
    (hY : ∀ (w : World) (h : Heap), YP w h → (K w.params).In h)
    (F : ∀ (w : World) (mg : Str → Option Value) (fa : Addr) (h : Heap), (K w.params).In h → h.Ns mainGlobals mg → mg d.name = some (.ref fa) →
      ∃ fd : FuncData, (∀ (s : Shared) (u : Value), BindsTo s fd ⟨[u], []⟩ [(x, u)]) ∧
        ∀ base : Heap, (K w.params).In base → base.Ns mainGlobals mg → FnOk l.prog w (K w.params) mg base (CX w) k fa fd [x] (sp w))
    (hsp : ∀ (w : World) (H : Hp) (a : Addr) (ns : List Int), ns.length ≤ n → Only H → SqL (K w.params) H a (ns.map V.int) → sp w [.ref a] H (fun v _ => v = .bl true) fun _ _ _ => False)
    (hCX : ∀ (w : World) (H : Hp) (s : Shared) (e : Value) (s' : Shared), CX w [] H s (fun _ _ _ => False) e s' → False) :
    PySem.W.WalkO q loose XP YP l.row.toRowW d [] (fun f vs => PySem.call f vs) := by
  refine Att.attach_call hn hdf fun w s₀ s₁ mg mb fa o pm cd doc a vs ns G Y ho hd hcd hmg hobj hints hlen hg => ?_
  have KX := hY w _ Y
  obtain ⟨fd, hb, hF⟩ := F w mg fa _ KX G.T.g hmg
  exact law_call KX G.T.g G.T.b G.T.builtins G.T.nolimit hg hobj hints (Nat.le_trans hlen hn2) hr hF hb (fun H hO hS => hsp w H a ns hlen hO hS) fun H e s' => hCX w H s₁ e s'
end L2
namespace L2
open PySem PySem.Spec PyProof.Rows
def defArgs (s : Stmt) : Arguments := match s with
  | .FunctionDef _ a _ _ _ _ _ _ _ _ => a
  | _ => { posonlyargs := [], args := [], vararg := none, kwonlyargs := [], kw_defaults := [], kwarg := none, defaults := [] }
def defBody (s : Stmt) : List Stmt := match s with
  | .FunctionDef _ _ b _ _ _ _ _ _ _ => b
  | _ => []
def defScope (s : Stmt) : Scope := match s with
  | .FunctionDef _ _ _ _ _ _ sc _ _ _ => sc
  | _ => { kind := .function, names := [], isGenerator := false, isCoroutine := false }
abbrev CX0 : CXT := fun _ _ _ _ _ _ => False
abbrev E0 : XK := fun _ _ _ => False
theorem pass0 {X : Cx} : Passes CX0 X E0 := fun _ _ _ _ _ _ _ h => h.elim
structure Fun (K : PySem.W.Frag) (x qual : Str) (st : Stmt) (f : Addr) (fd : FuncData) : Prop where
  ex : ∃ (oc : Value) (od : Option Addr) (kV doc pm : Value) (an : Option Addr) (cdv ct : Value) (osl : Array (Option Value)),
    fd = PySem.W.fnOf x qual (defArgs st) (defBody st) (defScope st) .none kV doc pm an cdv ct ∧ K.lookup f = some ⟨oc, od, .func fd, osl⟩ ∧ PySem.W.codeIn K cdv qual = true
  kp : PySem.W.keepIn K (.ref f) = true
section
variable {P : Program} {w : World} {K : PySem.W.Frag} {mg : Str → Option Value} {base : Heap}
theorem Fun.ok {x qual : Str} {st : Stmt} {f : Addr} {fd : FuncData} {N ps : List Str} {k : Nat} {sp : Sp} (F : Fun K x qual st f fd) (S : FnScope N ps (defScope st)) (len : ∀ vs H Q E, sp vs H Q E → vs.length = ps.length)
    (hbody : ∀ (cdv : Value) (A : Around) (outer : List Env) (s : Shared) (H : Hp) (vs : List V) (Q : VK) (E : XK), Room k (A.deeper (envOfC qual (defScope st) s.heap.objs.size f cdv)) → sp vs H Q E →
      ∃ t, PSs (cxOf CX0 P w K mg base N qual (defScope st) f cdv A outer s H E).nox (defBody st) t ∧ t { nx := fun _ H' => Q .non H', rt := Q } (start N vs) H) : FnOk P w K mg base CX0 (k + 1) f fd ps sp := by
  obtain ⟨oc, od, kV, doc, pm, an, cdv, ct, osl, rfl, lk, hcd⟩ := F.ex
  refine fn_of lk hcd S len fun A outer s H vs Q E hr hsp => ?_
  obtain ⟨t, h, q⟩ := hbody cdv A outer s H vs Q E hr hsp
  exact ⟨t, h.nox, q⟩
theorem Fun.binds {x qual : Str} {st : Stmt} {f : Addr} {fd : FuncData} {ps : List Str} (F : Fun K x qual st f fd)
    (h : ∀ (kV doc pm : Value) (an : Option Addr) (cdv ct : Value) (us : List Value), us.length = ps.length → bindArgs (PySem.W.fnOf x qual (defArgs st) (defBody st) (defScope st) .none kV doc pm an cdv ct) ⟨us, []⟩ = pure (ps.zip us)) : Binds K fd ps [] := by
  obtain ⟨oc, od, kV, doc, pm, an, cdv, ct, osl, rfl, lk, hcd⟩ := F.ex
  exact .all (h kV doc pm an cdv ct)
theorem fun_mk {x qual : Str} {st : Stmt} {f : Addr} {oc : Value} {od an : Option Addr} {osl : Array (Option Value)} {kV doc pm cdv ct : Value} (l : K.lookup f = some ⟨oc, od, .func (PySem.W.fnOf x qual (defArgs st) (defBody st) (defScope st) .none kV doc pm an cdv ct), osl⟩)
    (c : PySem.W.codeIn K cdv qual = true) (k : PySem.W.keepIn K (.ref f) = true) : Fun K x qual st f (PySem.W.fnOf x qual (defArgs st) (defBody st) (defScope st) .none kV doc pm an cdv ct) := ⟨⟨oc, od, kV, doc, pm, an, cdv, ct, osl, rfl, l, c⟩, k⟩
end
theorem small1000 {n : Nat} (h : n ≤ 1000) : n < sizeLine := Nat.lt_of_le_of_lt h (by decide)
section
variable {X : Cx}
theorem pv (i : Nat) {x : Str} {pos : Pos} (hN : X.N[i]? = some x := by rfl) (hv : Vis X.env.scope x := by first | exact Or.inl rfl | exact Or.inr (Or.inl rfl) | exact Or.inr (Or.inr rfl)) (hd : (x == ("__debug__" : Str)) = false := by decide)
    (hcd : (x == ("__classdict__" : Str)) = false := by decide) : PE X (.Name x pos) (tVar i) := pe_var hN hv hd hcd
end
def Same (H H' : Hp) : Prop := ∀ b o, H b = some o → H' b = some o
theorem Same.refl (H : Hp) : Same H H := fun _ _ h => h
theorem Same.trans {H H1 H2 : Hp} (a : Same H H1) (b : Same H1 H2) : Same H H2 := fun c o h => b c o (a c o h)
theorem Same.free {H H' : Hp} (e : Same H H') {l : Addr} (h : H' l = Option.none) : H l = Option.none := by
  cases q : H l with
  | none => rfl
  | some o =>
    rw [e l o q] at h
    cases h
theorem Same.seq {K : PySem.W.Frag} {H H' : Hp} {a : Addr} {xs : List V} (e : Same H H') (h : SqL K H a xs) : SqL K H' a xs := by
  rcases h with (h | ⟨o, h⟩) | h
  · exact .inl (.inl (e _ _ h))
  · exact .inl (.inr ⟨o, e _ _ h⟩)
  · exact .inr h
end L2
namespace L2
open PySem PySem.Spec PyProof.Rows
section
variable {κ : Type} [DecidableEq κ]
def valV (kvs : List (κ × V)) (k : κ) : Option V := (kvs.find? fun kv => decide (kv.1 = k)).map (·.2)
def putK (kvs : List (κ × V)) (k : κ) (v : V) : List (κ × V) :=
  if (kvs.any fun kv => decide (kv.1 = k)) = true then kvs.map (fun kv => if kv.1 = k then (kv.1, v) else kv) else kvs ++ [(k, v)]
def dropK (kvs : List (κ × V)) (k : κ) : List (κ × V) := kvs.filter fun kv => decide (kv.1 ≠ k)
theorem valV_pos {p : κ × V} {r : List (κ × V)} {k : κ} (e : p.1 = k) : valV (p :: r) k = some p.2 := by simp [valV, List.find?_cons, e]
theorem valV_neg {p : κ × V} {r : List (κ × V)} {k : κ} (e : ¬ p.1 = k) : valV (p :: r) k = valV r k := by simp [valV, List.find?_cons, e]
theorem valV_any (k : κ) : ∀ kvs : List (κ × V), (kvs.any fun kv => decide (kv.1 = k)) = (valV kvs k).isSome
  | [] => rfl
  | p :: r => by
    rw [List.any_cons]
    by_cases e : p.1 = k
    · simp only [valV_pos e, decide_eq_true e, Bool.true_or, Option.isSome_some]
    · rw [valV_neg e, decide_eq_false e, Bool.false_or]; exact valV_any k r
theorem RelO.isSome_eq {o : Option V} {u : Option Value} (r : RelO o u) : o.isSome = u.isSome := by
  cases o with
  | none => cases u with
    | none => rfl
    | some _ => exact (show False from r).elim
  | some _ => cases u with
    | none => exact (show False from r).elim
    | some _ => rfl
theorem RelO.getD {o : Option V} {u : Option Value} {d : V} {d' : Value} (r : RelO o u) (rd : RelV d d') : RelV (o.getD d) (u.getD d') := by
  cases o with
  | none => cases u with
    | none => exact rd
    | some _ => exact (show False from r).elim
  | some _ => cases u with
    | none => exact (show False from r).elim
    | some _ => exact r
theorem KV.val {kvs : List (κ × V)} {vs : List (κ × Value)} (r : KV kvs vs) (k : κ) : RelO (valV kvs k) (valueAt vs k) := by
  unfold KV at r
  induction r with
  | nil => exact True.intro
  | @cons p q ps qs h t ih =>
    obtain ⟨h1, h2⟩ := h
    by_cases e : p.1 = k
    · have e' : q.1 = k := h1.symm.trans e
      have b : valueAt (q :: qs) k = some q.2 := by simp [valueAt, List.find?_cons, e']
      rw [valV_pos e, b]; exact h2
    · have e' : ¬ q.1 = k := fun z => e (h1.trans z)
      have b : valueAt (q :: qs) k = valueAt qs k := by simp [valueAt, List.find?_cons, e']
      rw [valV_neg e, b]; exact ih
theorem KV.any {kvs : List (κ × V)} {vs : List (κ × Value)} (r : KV kvs vs) (k : κ) : (kvs.any fun kv => decide (kv.1 = k)) = vs.any fun kv => decide (kv.1 = k) := by
  unfold KV at r
  induction r with
  | nil => rfl
  | cons h t ih => rw [List.any_cons, List.any_cons, ih, h.1]
theorem KV.repl {kvs : List (κ × V)} {vs : List (κ × Value)} (r : KV kvs vs) (k : κ) {y : V} {u : Value} (ry : RelV y u) :
    KV (kvs.map fun kv => if kv.1 = k then (kv.1, y) else kv) (vs.map fun kv => if kv.1 = k then (kv.1, u) else kv) := by
  unfold KV at r ⊢
  induction r with
  | nil => exact .nil
  | @cons p q ps qs h t ih =>
    rw [List.map_cons, List.map_cons]
    refine .cons ?_ ih
    obtain ⟨h1, h2⟩ := h
    by_cases e : p.1 = k
    · rw [if_pos e, if_pos (h1.symm.trans e)]; exact ⟨h1, ry⟩
    · rw [if_neg e, if_neg (fun z => e (h1.trans z))]; exact ⟨h1, h2⟩
theorem KV.put {kvs : List (κ × V)} {vs : List (κ × Value)} (r : KV kvs vs) (k : κ) {y : V} {u : Value} (ry : RelV y u) : KV (putK kvs k y) (stored vs k u) := by
  unfold putK stored
  rw [r.any k]
  by_cases e : (vs.any fun kv => decide (kv.1 = k)) = true
  · rw [if_pos e, if_pos e]; exact r.repl k ry
  · rw [if_neg e, if_neg e]; exact Paired.snoc r ⟨rfl, ry⟩
theorem KV.drop {kvs : List (κ × V)} {vs : List (κ × Value)} (r : KV kvs vs) (k : κ) : KV (dropK kvs k) (without vs k) := by
  unfold KV at r ⊢
  unfold dropK without
  induction r with
  | nil => exact .nil
  | @cons p q ps qs h t ih =>
    obtain ⟨h1, h2⟩ := h
    rw [List.filter_cons, List.filter_cons]
    by_cases e : p.1 = k
    · have a : ¬ decide (p.1 ≠ k) = true := by simp [e]
      have b : ¬ decide (q.1 ≠ k) = true := by simp [h1.symm.trans e]
      rw [if_neg a, if_neg b]; exact ih
    · have e' : ¬ q.1 = k := fun z => e (h1.trans z)
      have a : decide (p.1 ≠ k) = true := by simp [e]
      have b : decide (q.1 ≠ k) = true := by simp [e']
      rw [if_pos a, if_pos b]; exact .cons ⟨h1, h2⟩ ih
theorem KV.keys {kvs : List (κ × V)} {vs : List (κ × Value)} (r : KV kvs vs) : kvs.map (·.1) = vs.map (·.1) := by
  unfold KV at r
  induction r with
  | nil => rfl
  | cons h t ih => rw [List.map_cons, List.map_cons, ih, h.1]
theorem KV.length {kvs : List (κ × V)} {vs : List (κ × Value)} (r : KV kvs vs) : kvs.length = vs.length := Paired.length r
end
theorem kV_is {P : Program} {w : World} {k : Key} {u : Value} (r : RelV (kV k) u) : (mixKind P w).is k u = true := by
  cases k with
  | inl i => obtain ⟨t, e⟩ := (show ∃ t, u = Value.int i t from r); subst e; exact mixKind_int P w i t
  | inr x => obtain ⟨t, e⟩ := (show ∃ t, u = Value.str x t from r); subst e; exact mixKind_str P w x t
theorem items_are {P : Program} {w : World} : ∀ {ks : List Key} {us : List Value}, Vals (ks.map kV) us → ItemsAre (mixKind P w) ks us
  | [], _, r => by rw [List.map_nil] at r; cases r; exact .nil
  | k :: ks, _, r => by
    rw [List.map_cons] at r
    cases r with
    | cons h t => exact .cons (kV_is h) (items_are t)
abbrev KT (H : Hp) : List (List Key × V) → List (List Key × Addr × Value) → Prop := Paired fun p q => p.1 = q.1 ∧ H q.2.1 = some (.tup (p.1.map kV)) ∧ RelV p.2 q.2.2
theorem KT.val {H : Hp} {kvs : List (List Key × V)} {xs : List (List Key × Addr × Value)} (r : KT H kvs xs) (k : List Key) : RelO (valV kvs k) ((atKey xs k).map (·.2)) := by
  induction r with
  | nil => exact True.intro
  | @cons p q ps qs h t ih =>
    obtain ⟨h1, _, h2⟩ := h
    by_cases e : p.1 = k
    · have e' : q.1 = k := h1.symm.trans e
      have b : atKey (q :: qs) k = some q.2 := by simp [atKey, List.find?_cons, e']
      rw [valV_pos e, b]; exact h2
    · have e' : ¬ q.1 = k := fun z => e (h1.trans z)
      have b : atKey (q :: qs) k = atKey qs k := by simp [atKey, List.find?_cons, e']
      rw [valV_neg e, b]; exact ih
theorem KT.repl {H : Hp} {kvs : List (List Key × V)} {xs : List (List Key × Addr × Value)} (r : KT H kvs xs) (k : List Key) {y : V} {u : Value} (ry : RelV y u) :
    KT H (kvs.map fun kv => if kv.1 = k then (kv.1, y) else kv) (xs.map (putAt k u)) := by
  induction r with
  | nil => exact .nil
  | @cons p q ps qs h t ih =>
    rw [List.map_cons, List.map_cons]
    refine .cons ?_ ih
    obtain ⟨h1, h2, h3⟩ := h
    unfold putAt
    by_cases e : p.1 = k
    · rw [if_pos e, if_pos (h1.symm.trans e)]; exact ⟨h1, h2, ry⟩
    · rw [if_neg e, if_neg (fun z => e (h1.trans z))]; exact ⟨h1, h2, h3⟩
theorem KT.put {H : Hp} {kvs : List (List Key × V)} {xs : List (List Key × Addr × Value)} (r : KT H kvs xs) (k : List Key) {b : Addr} {y : V} {u : Value} (hb : H b = some (.tup (k.map kV))) (ry : RelV y u) :
    KT H (putK kvs k y) (storedH xs k b u) := by
  have e : (kvs.any fun kv => decide (kv.1 = k)) = (atKey xs k).isSome := by
    rw [valV_any, (r.val k).isSome_eq, Option.isSome_map]
  unfold putK storedH
  rw [e]
  by_cases q : (atKey xs k).isSome = true
  · rw [if_pos q, if_pos q]; exact r.repl k ry
  · rw [if_neg q, if_neg q]; exact Paired.snoc r ⟨rfl, hb, ry⟩
theorem KT.keeps {H H' : Hp} {kvs : List (List Key × V)} {xs : List (List Key × Addr × Value)} (r : KT H kvs xs) (ht : ∀ b ys, H b = some (.tup ys) → H' b = some (.tup ys)) : KT H' kvs xs :=
  Paired.mapP r fun _ _ z => ⟨z.1, ht _ _ z.2.1, z.2.2⟩
section
variable {P : Program} {w : World} {H : Hp} {h : Heap} {a : Addr}
theorem rd_of {u : HO} (ok : HOk P w H h) (e : Rd H a u) : ObjOk P w H h a u := e.ok ok
theorem dk_rd {kvs : List (Key × V)} (ok : HOk P w H h) (e : Rd H a (.dK kvs)) : kvs.length ≤ sizeLine ∧ (a == sysModules) = false ∧ ∃ vs, KV kvs vs ∧ h.DictOf (mixKind P w) a vs :=
  show ObjOk P w H h a (.dK kvs) from rd_of ok e
theorem dk_of {kvs : List (Key × V)} (ok : HOk P w H h) (e : H a = some (.dK kvs)) : kvs.length ≤ sizeLine ∧ (a == sysModules) = false ∧ ∃ vs, KV kvs vs ∧ h.DictOf (mixKind P w) a vs := dk_rd ok (.inl e)
theorem key_of {ks : List Key} (ok : HOk P w H h) (e : H a = some (.tup (ks.map kV))) : (tupleKind (mixKind P w)).is h ks a := by
  obtain ⟨_, its, r, o, h1, h2, n, h3⟩ := (show ObjOk P w H h a (.tup (ks.map kV)) from ok a _ e)
  exact ⟨o, its.toArray, n, h1, h2, h3, by simpa using items_are r⟩
theorem dt_rd {kvs : List (List Key × V)} (ok : HOk P w H h) (e : Rd H a (.dT kvs)) : kvs.length ≤ sizeLine ∧ (a == sysModules) = false ∧
    ∃ xs, KT H kvs xs ∧ h.DictOfH (tupleKind (mixKind P w)) a xs := by
  obtain ⟨z, y, xs, r, o, es, ep, h1, h2, h3, h4, h5⟩ := (show ObjOk P w H h a (.dT kvs) from rd_of ok e)
  refine ⟨z, y, xs, r, o, es, ep, h1, h2, h3, h4, fun x hx => ?_, h5⟩
  have all : ∀ {l : List (List Key × V)} {m : List (List Key × Addr × Value)}, KT H l m → ∀ x ∈ m, (tupleKind (mixKind P w)).is h x.1 x.2.1 := by
    intro l m q
    induction q with
    | nil => intro x hx; exact nomatch hx
    | @cons p q ps qs hq t ih =>
      intro x hx
      rcases List.mem_cons.mp hx with e | hx
      · subst e
        exact key_of ok (by rw [← hq.1]; exact hq.2.1)
      · exact ih x hx
  exact all r x hx
end
def DGet (H : Hp) (a : Addr) (y : V) (r : Option V) : Prop :=
  (∃ kvs k, Rd H a (.dK kvs) ∧ y = kV k ∧ r = valV kvs k) ∨ ∃ kvs k b, Rd H a (.dT kvs) ∧ y = .ref b ∧ H b = some (.tup (k.map kV)) ∧ r = valV kvs k
def DPut (H : Hp) (a : Addr) (y v : V) (H' : Hp) : Prop :=
  (∃ kvs k, H a = some (.dK kvs) ∧ y = kV k ∧ kvs.length < sizeLine ∧ H' = upd H a (.dK (putK kvs k v))) ∨
  ∃ kvs k b, H a = some (.dT kvs) ∧ y = .ref b ∧ H b = some (.tup (k.map kV)) ∧ kvs.length < sizeLine ∧ H' = upd H a (.dT (putK kvs k v))
theorem DGet.k {H : Hp} {a : Addr} {kvs : List (Key × V)} {k : Key} (e : H a = some (.dK kvs)) : DGet H a (kV k) (valV kvs k) := .inl ⟨kvs, k, .inl e, rfl, rfl⟩
theorem DGet.t {H : Hp} {a b : Addr} {kvs : List (List Key × V)} {k : List Key} (e : H a = some (.dT kvs)) (eb : H b = some (.tup (k.map kV))) : DGet H a (.ref b) (valV kvs k) := .inr ⟨kvs, k, b, .inl e, rfl, eb, rfl⟩
theorem DPut.k {H : Hp} {a : Addr} {kvs : List (Key × V)} {k : Key} {v : V} (e : H a = some (.dK kvs)) (hl : kvs.length < sizeLine) : DPut H a (kV k) v (upd H a (.dK (putK kvs k v))) := .inl ⟨kvs, k, e, rfl, hl, rfl⟩
theorem DPut.t {H : Hp} {a b : Addr} {kvs : List (List Key × V)} {k : List Key} {v : V} (e : H a = some (.dT kvs)) (eb : H b = some (.tup (k.map kV))) (hl : kvs.length < sizeLine) :
    DPut H a (.ref b) v (upd H a (.dT (putK kvs k v))) := .inr ⟨kvs, k, b, e, rfl, eb, hl, rfl⟩
section
variable {X : Cx} {pins : List (Addr × Obj)} {σ : St} {H : Hp} {s : Shared} {a : Addr} {y v : V} {u r : Value} {o : Option V} {A : Around} {E : Value → Shared → Prop}
theorem Inv.big (I : Inv X pins σ H s) : sysModules < s.heap.objs.size := by
  have h : mainGlobals < s.heap.objs.size := (I.mod.glob.keeps I.bk).lt
  exact Nat.lt_trans (by decide) h
theorem d_notIn {Q : Value → Shared → Prop} (hu : A.units + 1 < cLine) (I : Inv X pins σ H s) (g : DGet H a y o) (ry : RelV y u) (h : ∀ s', Inv X pins σ H s' → Q (.bool (!o.isSome)) s') :
    wpAny (model X.prog X.w) A (compareOp .NotIn u (.ref a)) Q E s := by
  rcases g with ⟨kvs, k, e, ey, l⟩ | ⟨kvs, k, b, e, ey, eb, l⟩
  · subst ey
    obtain ⟨z, hd, vs, rel, dd⟩ := dk_rd I.hok e
    refine wpAny_notIn_of (kV_is ry) hd dd.mapOf ?_
    rw [← (rel.val k).isSome_eq, ← l]
    exact h _ (I.tok _)
  · subst ey
    cases (show u = Value.ref b from ry)
    obtain ⟨z, hd, xs, rel, dd⟩ := dt_rd I.hok e
    refine wpAny_notIn_heap (tupleKind_room_in1 hu) (key_of I.hok eb) hd dd ?_
    have q := (rel.val k).isSome_eq
    rw [Option.isSome_map] at q
    rw [← q, ← l]
    exact h _ (I.tok _)
theorem dk_new {P : Program} {w : World} {H' : Hp} {h' : Heap} {kvs : List (Key × V)} {vs : List (Key × Value)} (z : kvs.length ≤ sizeLine) (hd : (a == sysModules) = false) (rel : KV kvs vs) (dd : h'.DictOf (mixKind P w) a vs) :
    ObjOk P w H' h' a (.dK kvs) := ⟨z, hd, vs, rel, dd⟩
end
section
variable {X : Cx} {pins : List (Addr × Obj)} {σ : St} {H : Hp} {s : Shared} {a : Addr} {kvs : List (Key × V)} {k : Key} {u : Value} {A : Around} {E : Value → Shared → Prop}
end
section
variable {X : Cx} {o i e value : Expr} {pos pos' tpos : Pos} {td ty tv : TE}
end
theorem dk_empty {P : Program} {w : World} {H : Hp} (h : Heap) (hb : sysModules < h.objs.size) : ObjOk P w H (h.push { cls := .type "dict", data := .dict #[] }) h.objs.size (.dK []) :=
  ⟨Nat.zero_le _, beq_eq_false_iff_ne.mpr (Ne.symm (Nat.ne_of_lt hb)), [], .nil, Heap.DictOf.new h⟩
section
variable {X : Cx} {pos : Pos}
end
structure M1 (X : Cx) (o : Expr) (m : Str) (apos : Pos) (e : Expr) (cpos : Pos) : Prop where
  base : attributeBase o m X.env (eval o X.env) = eval o X.env
  few : ((backTo cpos (starEach [e] X.env)).all (fun x => !x.1) && (backToKw cpos (keywordEach [] X.env)).all (fun x => x.1.isSome)
    && decide (([e] : List Expr).length + ([] : List Keyword).length + (if ([] : List Keyword).isEmpty then 0 else 1) < 30)) = true
  line : (apos.endLine == cpos.line) = true
  trees : backTo cpos (starEach [e] X.env) = [(false, eval e X.env)]
structure M2 (X : Cx) (o : Expr) (m : Str) (apos : Pos) (e f : Expr) (cpos : Pos) : Prop where
  base : attributeBase o m X.env (eval o X.env) = eval o X.env
  few : ((backTo cpos (starEach [e, f] X.env)).all (fun x => !x.1) && (backToKw cpos (keywordEach [] X.env)).all (fun x => x.1.isSome)
    && decide (([e, f] : List Expr).length + ([] : List Keyword).length + (if ([] : List Keyword).isEmpty then 0 else 1) < 30)) = true
  line : (apos.endLine == cpos.line) = true
  trees : backTo cpos (starEach [e, f] X.env) = [(false, eval e X.env), (false, eval f X.env)]
section
variable {X : Cx} {pins : List (Addr × Obj)} {σ : St} {H : Hp} {s : Shared} {a : Addr} {y d : V} {u r : Value} {o : Option V} {A : Around} {E : Value → Shared → Prop}
end
section
variable {X : Cx} {o e f : Expr} {apos cpos : Pos} {td ty tx : TE}
end
section
variable {X : Cx} {pins : List (Addr × Obj)} {σ : St} {H : Hp} {s : Shared} {a : Addr} {kvs : List (Key × V)} {A : Around} {E : Value → Shared → Prop}
end
section
variable {X : Cx} {pins : List (Addr × Obj)} {σ : St} {H : Hp} {s : Shared} {a : Addr} {y : V} {u : Value} {A : Around} {E : Value → Shared → Prop}
end
end L2
namespace PySem
def closeL (env : Env) : List (Str × NameKind) → List (Str × Addr) → List (Str × Addr)
  | [], cs => cs
  | (n, k) :: r, cs => if (k == .free) = true then closeL env r ((n, (env.cells.lookup n).getD 0) :: cs) else closeL env r cs
theorem closureFor_eq {scope : Scope} {env : Env} (h : ∀ x ∈ scope.names, x.2 = .free → ∃ c, env.cells.lookup x.1 = some c) : closureFor scope env = pure (closeL env scope.names []) := by
  simp only [closureFor]
  suffices H : ∀ (l : List (Str × NameKind)) (cs : List (Str × Addr)), (∀ x ∈ l, x.2 = .free → ∃ c, env.cells.lookup x.1 = some c) →
      (forIn l cs (fun (x : Str × NameKind) (r : List (Str × Addr)) => if (x.snd == NameKind.free) = true then do let a ← cellOf env x.fst; pure (ForInStep.yield ((x.fst, a) :: r)) else pure (ForInStep.yield r)) : Sem (List (Str × Addr))) = pure (closeL env l cs) by
    rw [H scope.names [] h]; rfl
  intro l
  induction l with
  | nil => intro cs _; rfl
  | cons x l ih =>
    intro cs hx
    obtain ⟨n, k⟩ := x
    have ih' := fun cs => ih cs fun y hy => hx y (List.mem_cons_of_mem _ hy)
    rw [List.forIn_cons]
    by_cases hk : k = .free
    · subst hk
      obtain ⟨c, hc⟩ := hx (n, .free) List.mem_cons_self rfl
      have hcell : cellOf env n = pure c := by unfold cellOf; rw [hc]
      dsimp only
      rw [if_pos (show (NameKind.free == NameKind.free) = true from rfl), hcell]
      have e : closeL env ((n, NameKind.free) :: l) cs = closeL env l ((n, c) :: cs) := by
        show (if (NameKind.free == NameKind.free) = true then _ else _) = _
        rw [if_pos (show (NameKind.free == NameKind.free) = true from rfl)]; show closeL env l ((n, (List.lookup n env.cells).getD 0) :: cs) = _; rw [show List.lookup n env.cells = some c from hc]; rfl
      rw [e, ← ih' ((n, c) :: cs)]
      rfl
    · have hb : (k == NameKind.free) = false := by simpa using hk
      have e : closeL env ((n, k) :: l) cs = closeL env l cs := by
        show (if (k == NameKind.free) = true then _ else _) = _
        rw [hb]; rfl
      rw [e, ← ih' cs]
      dsimp only
      rw [hb, if_neg Bool.false_ne_true]
      rfl
theorem closeL_lookup {env : Env} {x : Str} : ∀ (l : List (Str × NameKind)) (cs : List (Str × Addr)), (∀ y ∈ l, y.2 = .free → ∃ c, env.cells.lookup y.1 = some c) → (∀ y c, cs.lookup y = some c → env.cells.lookup y = some c) →
    ∀ c, (closeL env l cs).lookup x = some c → env.cells.lookup x = some c
  | [], cs, _, hc, c, h => hc x c h
  | (n, k) :: r, cs, hx, hc, c, h => by
    have hr := fun y hy => hx y (List.mem_cons_of_mem _ hy)
    unfold closeL at h
    split at h
    · rename_i hk
      have hk' : k = .free := by simpa using hk
      obtain ⟨d, hd⟩ := hx (n, k) List.mem_cons_self hk'
      refine closeL_lookup r _ hr (fun y c' h' => ?_) c h
      rw [List.lookup_cons] at h'
      cases e : y == n with
      | true =>
        rw [e] at h'
        have e' : y = n := by simpa using e
        subst e'
        have hd' : env.cells.lookup y = some d := hd
        rw [hd'] at h' ⊢
        exact h'
      | false => rw [e] at h'; exact hc y c' h'
    · exact closeL_lookup r cs hr hc c h
theorem closeL_keep {env : Env} {x : Str} : ∀ (l : List (Str × NameKind)) (cs : List (Str × Addr)) (c : Addr), cs.lookup x = some c → ∃ c', (closeL env l cs).lookup x = some c'
  | [], cs, c, h => ⟨c, h⟩
  | (n, k) :: r, cs, c, h => by
    unfold closeL
    split
    · cases e : x == n with
      | true => exact closeL_keep r _ _ (by rw [List.lookup_cons, e])
      | false => exact closeL_keep r _ c (by rw [List.lookup_cons, e]; exact h)
    · exact closeL_keep r cs c h
theorem closeL_has {env : Env} {x : Str} : ∀ (l : List (Str × NameKind)) (cs : List (Str × Addr)), (x, NameKind.free) ∈ l → ∃ c, (closeL env l cs).lookup x = some c
  | [], cs, h => by cases h
  | (n, k) :: r, cs, h => by
    unfold closeL
    rcases List.mem_cons.mp h with e | e
    · cases e
      rw [if_pos (show (NameKind.free == NameKind.free) = true from rfl)]
      exact closeL_keep r _ ((env.cells.lookup x).getD 0) (by rw [List.lookup_cons]; simp)
    · split
      · exact closeL_has r _ e
      · exact closeL_has r _ e
end PySem
namespace PySem
theorem relabel_lookup {env : Env} {x : Str} : ∀ (names : List (Str × NameKind)),
    (names.map fun (n, k) => if (k == NameKind.free && env.scope.kind == .function && env.kindOf n == some .cell) then (n, NameKind.cell) else (n, k)).lookup x =
      (names.lookup x).map fun k => if (k == NameKind.free && env.scope.kind == .function && env.kindOf x == some .cell) = true then NameKind.cell else k
  | [] => rfl
  | (n, k) :: r => by
    have ih := relabel_lookup (env := env) (x := x) r
    show List.lookup x ((if (k == NameKind.free && env.scope.kind == .function && env.kindOf n == some .cell) = true then (n, NameKind.cell) else (n, k)) :: _) = _
    cases hx : x == n with
    | true =>
      have e : x = n := by simpa using hx
      subst e
      by_cases hc : (k == NameKind.free && env.scope.kind == .function && env.kindOf x == some .cell) = true
      · rw [if_pos hc]; simp only [List.lookup_cons, hx, Option.map_some, if_pos hc]
      · rw [if_neg hc]; simp only [List.lookup_cons, hx, Option.map_some, if_neg hc]
    | false =>
      by_cases hc : (k == NameKind.free && env.scope.kind == .function && env.kindOf n == some .cell) = true
      · rw [if_pos hc]; simp only [List.lookup_cons, hx]; exact ih
      · rw [if_neg hc]; simp only [List.lookup_cons, hx]; exact ih
theorem codeAny_compLoop_go {prog : Program} {w : World} {A : Around} {R : Result → Shared → Prop} {s : Shared} {elt target iter : Expr} {ifs : List Expr} {scope : Scope} {pos : Pos} {it acc : Value} {env : Env} (I : Nat → Shared → Prop)
    (turn : ∀ n s, I n s → wpAny (model prog w) A (pyNext it) (fun r s₁ => match r with
      | none => R (.ok .next) s₁
      | some v => wpAny (model prog w) A (letOwnedTupleGo target it v) (fun _ s₁ => wpAny (model prog w) A (assign target env v) (fun _ s₂ =>
          wpAny (model prog w) A (forIn ifs true fun c r => if r = true then do let ok ← isTrue c env (eval c env); pure (ForInStep.yield ok) else pure (ForInStep.yield r)) (fun ok s₃ =>
            if ok = true then wpAny (model prog w) A (eval elt env) (fun x s₄ =>
              wpAny (model prog w) A (call (.builtin "list.append") [acc, x]) (fun _ s₅ => ∃ m, m < n ∧ I m s₅) (notedBy (model prog w) A env fun e s' => R (.error e) s') s₄) (notedBy (model prog w) A env fun e s' => R (.error e) s') s₃
            else ∃ m, m < n ∧ I m s₃) (notedBy (model prog w) A env fun e s' => R (.error e) s') s₂) (notedBy (model prog w) A env fun e s' => R (.error e) s') s₁) (fun _ _ => False) s₁) (fun _ _ => False) s)
    (n : Nat) (h : I n s) :
    codeAny (model prog w) A (.compLoop (.ListComp elt [⟨target, iter, ifs, 0⟩] scope pos) 0 it acc env) R s := by
  have up : ∀ {α : Type} {t : Sem α} {Q : α → Shared → Prop} {E : Value → Shared → Prop} {s : Shared}, wpAny (model prog w) A t Q (fun _ _ => False) s → wpAny (model prog w) A t Q E s := fun h => wpAny_mono h (fun _ _ q => q) fun _ _ f => f.elim
  refine codeAny_loop rfl I (fun n s hI => ?_) n h
  show wpAny _ A ((compTurn (.ListComp elt [⟨target, iter, ifs, 0⟩] scope pos) 0 it acc env).onRaise (fun x => do noteFrame x env; theTreesLotGoes x)) _ _ s
  refine wpAny_noted ?_
  rw [compTurn_list]
  refine wpAny_bind (wpAny_standAt (wpAny_bind (wpAny_mono (turn n s hI) (fun r s₁ h₁ => ?_) fun _ _ f => f.elim)))
  cases r with
  | none => exact wpAny_pure h₁
  | some v =>
    refine wpAny_bind (wpAny_mono h₁ (fun _ s₁ h₁ => ?_) fun _ _ f => f.elim)
    refine wpAny_bind (wpAny_mono h₁ (fun _ s₂ h₂ => wpAny_bind (wpAny_mono h₂ (fun ok s₃ h₃ => ?_) fun _ _ f => f)) fun _ _ f => f)
    cases ok with
    | false => exact wpAny_pure ⟨rfl, h₃⟩
    | true =>
      exact wpAny_bind (wpAny_bind (wpAny_mono h₃ (fun x s₄ h₄ => wpAny_bind (wpAny_mono h₄ (fun _ s₅ h₅ => wpAny_pure (wpAny_pure ⟨rfl, h₅⟩)) fun _ _ f => f)) fun _ _ f => f))
end PySem
namespace L2
open PySem PySem.Spec PyProof.Rows
def capSt (cap : List (Option Nat)) (σ : St) : St := cap.map fun o => o.bind fun j => (σ[j]?).join
def keepsSt : St → St → Prop
  | [], [] => True
  | none :: a, _ :: b => keepsSt a b
  | some x :: a, y :: b => y = some x ∧ keepsSt a b
  | _, _ => False
theorem keepsSt_ok : ∀ {a b : St}, keepsSt a b → a.length = b.length ∧ ∀ (i : Nat) v, a[i]? = some (some v) → b[i]? = some (some v)
  | [], [], _ => ⟨rfl, fun i v h => by simp at h⟩
  | none :: a, y :: b, h => by
    have ih := keepsSt_ok (a := a) (b := b) h
    refine ⟨by simp [ih.1], fun i v e => ?_⟩
    cases i with
    | zero => simp at e
    | succ i => simpa using ih.2 i v (by simpa using e)
  | some x :: a, y :: b, h => by
    obtain ⟨e0, h⟩ := (show y = some x ∧ keepsSt a b from h)
    have ih := keepsSt_ok (a := a) (b := b) h
    refine ⟨by simp [ih.1], fun i v e => ?_⟩
    cases i with
    | zero => rw [e0]; simpa using e
    | succ i => simpa using ih.2 i v (by simpa using e)
  | [], _ :: _, h => False.elim h
  | none :: _, [], h => False.elim h
  | some _ :: _, [], h => False.elim h
theorem keepsSt_refl : ∀ a : St, keepsSt a a
  | [] => True.intro
  | none :: a => keepsSt_refl a
  | some _ :: a => ⟨rfl, keepsSt_refl a⟩
def capB (N : List Str) (so sc : Scope) (N' : List Str) (cap : List (Option Nat)) : Bool :=
  decide (sc.kind = .function) && decide N'.Nodup && decide (cap.length = N'.length) && (sc.names.all fun y => decide (y.2 ≠ .cell)) &&
  (sc.names.all fun y => decide (y.2 = .local → sc.names.lookup y.1 = some .local)) &&
  (sc.names.all fun y => decide (y.2 = .free → so.names.lookup y.1 = some .cell ∨ so.names.lookup y.1 = some .free)) &&
  ((N'.zip cap).all fun y => match y.2 with | none => true | some j => decide (N[j]? = some y.1) && decide (sc.names.lookup y.1 = some .free))
structure CapOk (N : List Str) (so sc : Scope) (N' : List Str) (cap : List (Option Nat)) : Prop where
  kind : sc.kind = .function
  nd : N'.Nodup
  len : cap.length = N'.length
  nocell : ∀ y ∈ sc.names, y.2 ≠ .cell
  nms : ∀ y ∈ sc.names, y.2 = .local → sc.names.lookup y.1 = some .local
  fre : ∀ y ∈ sc.names, y.2 = .free → so.names.lookup y.1 = some .cell ∨ so.names.lookup y.1 = some .free
  cap : ∀ (i : Nat) x j, N'[i]? = some x → cap[i]? = some (some j) → N[j]? = some x ∧ sc.names.lookup x = some .free
theorem capB_ok {N : List Str} {so sc : Scope} {N' : List Str} {cap : List (Option Nat)} (h : capB N so sc N' cap = true) : CapOk N so sc N' cap := by
  unfold capB at h
  simp only [Bool.and_eq_true, decide_eq_true_eq, List.all_eq_true] at h
  obtain ⟨⟨⟨⟨⟨⟨h1, h2⟩, h3⟩, h4⟩, h5⟩, h6⟩, h7⟩ := h
  refine ⟨h1, h2, h3, h4, h5, h6, fun i x j e1 e2 => ?_⟩
  have e3 : (N'.zip cap)[i]? = some (x, some j) := by rw [List.getElem?_zip_eq_some]; exact ⟨e1, e2⟩
  have q := h7 (x, some j) (List.mem_of_getElem? e3)
  simpa using q
end L2
namespace L2
open PySem PySem.Spec PyProof.Rows
structure Lk (fr : List Addr) (ex : Addr → Prop) (h h' : Heap) : Prop where
  keep : ∀ b o, h.get? b = some o → b ∉ fr → ¬ ex b → h'.get? b = some o
  slot : ∀ b o, h.get? b = some o → ¬ ex b → ∃ sl, h'.get? b = some { o with slots := sl }
  size : h.objs.size ≤ h'.objs.size
theorem Lk.refl {fr : List Addr} {ex : Addr → Prop} {h : Heap} : Lk fr ex h h := ⟨fun _ _ q _ _ => q, fun _ o q _ => ⟨o.slots, q⟩, Nat.le_refl _⟩
theorem Lk.trans {fr : List Addr} {ex ex2 : Addr → Prop} {h h1 h2 : Heap} (a : Lk fr ex h h1) (b : Lk fr ex2 h1 h2) (i : ∀ x, ex2 x → ex x ∨ h.objs.size ≤ x) : Lk fr ex h h2 := by
  have n : ∀ {x o}, h.get? x = some o → ¬ ex x → ¬ ex2 x := fun {x o} q n z => by
    rcases i x z with z | z
    · exact n z
    · exact absurd (Heap.lt_size q) (Nat.not_lt.mpr z)
  refine ⟨fun x o q f z => b.keep x o (a.keep x o q f z) f (n q z), fun x o q z => ?_, Nat.le_trans a.size b.size⟩
  obtain ⟨sl, e⟩ := a.slot x o q z
  obtain ⟨sl2, e2⟩ := b.slot x _ e (n q z)
  exact ⟨sl2, e2⟩
theorem Lk.funs {fr : List Addr} {ex : Addr → Prop} {h h' base : Heap} (k : Lk fr ex h h') : ∀ {l : List Env}, (∀ b ∈ frs l, ¬ ex b) → h.FunFrames base l → h'.FunFrames base l
  | [], _, _ => True.intro
  | env :: rest, hx, ⟨hk, ⟨L, o, hf, hn, ho, hd⟩, hr⟩ => by
    have hL : L ∈ frs (env :: rest) := by show L ∈ (env :: rest).filterMap (·.frame); rw [List.filterMap_cons, hf]; exact .head _
    obtain ⟨sl, e⟩ := k.slot L o ho (hx L hL)
    exact ⟨hk, ⟨L, _, hf, hn, e, hd⟩, k.funs (fun b hb => hx b (by show b ∈ (env :: rest).filterMap (·.frame); rw [List.filterMap_cons, hf]; exact .tail _ hb)) hr⟩
def FlyT (e : Addr) (cls : Value) (T : Addr) (fl : Value) (h : Heap) : Prop := ∃ oe vs oT ts, h.get? e = some oe ∧ (oe.cls = cls ∧ oe.dict = none) ∧ oe.data = .fields vs ∧ vs[1]? = some (.ref T) ∧ T ≠ e ∧ h.get? T = some oT ∧ oT.data = .fields ts ∧ ts[3]? = some fl
section
variable {M : Model} {A : Around} {E : Value → Shared → Prop} {s : Shared} {base : Heap} {env : Env} {outer : List Env} {L e T : Addr} {cls fl : Value} {Q : Unit → Shared → Prop}
theorem dict_mapFields (f : Array Value → Array Value) (o : Obj) : (o.mapFields f).dict = o.dict := by
  unfold Obj.mapFields
  split <;> rfl
theorem nf_new {oe : Obj} {vs : Array Value} {head : Value} {hn : Bool} (hfr : A.frames = some (env :: outer)) (hl : s.heap.FunFrames base (env :: outer)) (hf : env.frame = some L) (he : s.heap.get? e = some oe) (hn0 : oe.dict = none) (hd : oe.data = .fields vs) (hz : 1 < vs.size)
    (q : ∀ h' T', Lk (frs (env :: outer)) (· = e) s.heap h' → FlyT e oe.cls T' (rawInt L) h' → s.heap.objs.size ≤ T' → Q () { s with heap := h' }) :
    wpAny M A (do let a ← frameOf env; let pl ← entryPlaceOf L hn; let b ← EntryCells.newEntry head a .none (rawInt L) .none pl; setField (.ref e) 1 b) Q E s := by
  have nf : e ∉ frs (env :: outer) := fun hm => by
    obtain ⟨_, ob, hob, no⟩ := hl.mem hm
    rw [he] at hob
    cases hob
    exact no vs hd
  refine wpAny_bind (wpAny_frameOf_fun hfr hl hf fun h1 k1 => wpAny_bind (wpAny_entryPlaceOf fun pl hpl => ?_))
  unfold EntryCells.newEntry
  unfold newFields
  refine wpAny_bind ?_
  refine wpAny_newObj_type ?_ (hpl.sizeOk5 _ _ _ _ _)
  generalize ht : ([head, Value.ref L, .none, rawInt L, .none] ++ (if pl.isEmpty then List.replicate 6 Value.none else pl)).toArray = ts
  have z3 : ts[3]? = some (rawInt L) := by rw [← ht]; simp
  have e1 : h1.get? e = some oe := (k1.2.1 e nf).trans he
  have lt := Heap.lt_size e1
  have nT : h1.objs.size ≠ e := Nat.ne_of_gt lt
  have e2 := Heap.get?_push_of_some (h := h1) { cls := .type "traceback", dict := none, data := .fields ts } e1
  have d3 := Obj.data_mapFields hd (·.setIfInBounds 1 (Value.ref h1.objs.size))
  have e3 := Heap.get?_update_self (Obj.mapFields (·.setIfInBounds 1 (Value.ref h1.objs.size))) e2 (Obj.isFreed_of_fields d3)
  have t3 := (Heap.get?_update_other (h1.push { cls := .type "traceback", dict := none, data := .fields ts }) (Obj.mapFields (·.setIfInBounds 1 (Value.ref h1.objs.size))) (Ne.symm nT)).trans (Heap.get?_push_size h1 rfl)
  refine wpAny_setField e2 hd hz (q _ h1.objs.size ?_ ⟨_, _, _, _, e3, ⟨Obj.cls_mapFields _ _, (dict_mapFields _ _).trans hn0⟩, d3, by simp [hz], nT, t3, rfl, z3⟩ (Nat.le_of_eq k1.1.symm))
  have kp : ∀ b o, b ≠ e → h1.get? b = some o → ((h1.push { cls := .type "traceback", dict := none, data := .fields ts }).update e (Obj.mapFields (·.setIfInBounds 1 (Value.ref h1.objs.size)))).get? b = some o := fun b o ne hb => by
    rw [Heap.get?_update_other _ _ (Ne.symm ne)]
    exact Heap.get?_push_of_some (h := h1) _ hb
  refine ⟨fun b o hb hx ne => kp b o ne ((k1.2.1 b hx).trans hb), fun b o hb ne => ?_, ?_⟩
  · obtain ⟨sl, q1⟩ := k1.2.2 b o hb
    exact ⟨sl, kp b _ ne q1⟩
  · rw [Heap.size_update, ← k1.1]
    exact Nat.le_of_lt (by rw [size_push']; exact Nat.lt_succ_self _)
theorem mark_ok {x : Value} (hT : FlyT e cls T fl s.heap) (q : ∀ h', (∀ fr, Lk fr (· = T) s.heap h') → FlyT e cls T x h' → Q () { s with heap := h' }) : wpAny M A (setField (.ref T) 3 x) Q E s := by
  obtain ⟨oe, vs, oT, ts, he, hc, hd, h1, nT, hT, dT, h3⟩ := hT
  have z3 := (Array.getElem?_eq_some_iff.mp h3).1
  refine wpAny_setField hT dT z3 (q _ (fun fr => ?_) ?_)
  all_goals have ot : ∀ b, b ≠ T → (s.heap.update T (Obj.mapFields (·.setIfInBounds 3 x))).get? b = s.heap.get? b := fun b hb => Heap.get?_update_other _ _ (Ne.symm hb)
  all_goals have tt := Heap.get?_update_self (Obj.mapFields (·.setIfInBounds 3 x)) hT (Obj.isFreed_of_fields (Obj.data_mapFields dT _))
  · exact ⟨fun b o hb _ n0 => (ot b n0).trans hb, fun b o hb n0 => ⟨o.slots, (ot b n0).trans hb⟩, by rw [Heap.size_update]; exact Nat.le_refl _⟩
  · exact ⟨oe, vs, _, _, (ot e (Ne.symm nT)).trans he, hc, hd, h1, nT, tt, Obj.data_mapFields dT _, by simp [z3]⟩
theorem FlyT.field {Q : Value → Shared → Prop} (h : FlyT e cls T fl s.heap) (q : Q (.ref T) s) : wpAny M A (field (.ref e) 1) Q E s := by
  obtain ⟨_, _, _, _, he, _, hd, h1, _⟩ := h
  exact wpAny_field he hd h1 q
theorem FlyT.mark {Q : Value → Shared → Prop} (h : FlyT e cls T fl s.heap) (q : Q fl s) : wpAny M A (PySem.field (.ref T) 3) Q E s := by
  obtain ⟨_, _, _, _, _, _, _, _, _, hT, dT, h3⟩ := h
  exact wpAny_field hT dT h3 q
theorem sf_ok {fo : Option Addr} (hT : FlyT e cls T fl s.heap) (q : ∀ h', (∀ fr, Lk fr (· = T) s.heap h') → FlyT e cls T (fo.elim .none fun f => rawInt f) h' → Q () { s with heap := h' }) : wpAny M A (setFlight (.ref e) fo) Q E s := by
  unfold setFlight
  refine wpAny_bind (hT.field ?_)
  rw [if_pos (show (Value.ref T != .none) = true by simp)]
  exact mark_ok hT q
theorem nf_first {oe : Obj} {vs : Array Value} (hfr : A.frames = some (env :: outer)) (hl : s.heap.FunFrames base (env :: outer)) (hf : env.frame = some L) (he : s.heap.get? e = some oe) (hn0 : oe.dict = none) (hd : oe.data = .fields vs) (h1 : vs[1]? = some .none)
    (q : ∀ h' T', Lk (frs (env :: outer)) (· = e) s.heap h' → FlyT e oe.cls T' (rawInt L) h' → s.heap.objs.size ≤ T' → Q () { s with heap := h' }) : wpAny M A (noteFrame (.ref e) env) Q E s := by
  unfold noteFrame
  simp only [hf]
  refine wpAny_bind ?_
  refine wpAny_field he hd h1 ?_
  rw [if_neg (by decide)]
  exact nf_new hfr hl hf he hn0 hd (Array.getElem?_eq_some_iff.mp h1).1 q
theorem nf_any (hfr : A.frames = some (env :: outer)) (hl : s.heap.FunFrames base (env :: outer)) (hf : env.frame = some L) (hT : FlyT e cls T fl s.heap)
    (q : ∀ h' T', Lk (frs (env :: outer)) (fun b => b = e ∨ b = T) s.heap h' → FlyT e cls T' (rawInt L) h' → T' = T ∨ s.heap.objs.size ≤ T' → Q () { s with heap := h' }) : wpAny M A (noteFrame (.ref e) env) Q E s := by
  unfold noteFrame
  simp only [hf]
  refine wpAny_bind (hT.field ?_)
  rw [if_pos (show (Value.ref T != .none) = true by simp)]
  refine wpAny_bind (hT.mark ?_)
  by_cases c : (fl == rawInt L) = true
  · rw [if_pos c]
    rw [show fl = rawInt L by simpa using c] at hT
    exact wpAny_pure (q s.heap T .refl hT (.inl rfl))
  · rw [if_neg c]
    refine wpAny_bind (mark_ok hT fun h1 k1 f1 => ?_)
    have hl1 : h1.FunFrames base (env :: outer) := (k1 []).funs (fun b hb z => by
      obtain ⟨_, ob, hob, no⟩ := hl.mem hb
      obtain ⟨_, _, _, ts, _, _, _, _, _, hT', dT, _⟩ := hT
      rw [z, hT'] at hob
      cases hob
      exact no ts dT) hl
    obtain ⟨oe, vs, oT, ts, he, hc, hd, h1', nT, hT', dT, h3⟩ := f1
    refine nf_new (s := { s with heap := h1 }) hfr hl1 hf he hc.2 hd (Array.getElem?_eq_some_iff.mp h1').1 fun h' T' k f z => q h' T' ?_ (hc.1 ▸ f) (.inr (Nat.le_trans (k1 []).size z))
    have k1' : Lk (frs (env :: outer)) (fun b => b = e ∨ b = T) s.heap h1 := ⟨fun b o q f n => (k1 _).keep b o q f fun z => n (.inr z), fun b o q n => (k1 []).slot b o q fun z => n (.inr z), (k1 []).size⟩
    exact k1'.trans k fun x z => .inl (.inl z)
theorem lv_first {oe : Obj} {vs : Array Value} (hfr : A.frames = some (env :: outer)) (hl : s.heap.FunFrames base (env :: outer)) (hf : env.frame = some L) (he : s.heap.get? e = some oe) (hn0 : oe.dict = none) (hd : oe.data = .fields vs) (h1 : vs[1]? = some .none)
    (q : ∀ h' T', Lk (frs (env :: outer)) (· = e) s.heap h' → FlyT e oe.cls T' .none h' → s.heap.objs.size ≤ T' → Q () { s with heap := h' }) : wpAny M A (leaving env (.ref e)) Q E s :=
  wpAny_bind (nf_first hfr hl hf he hn0 hd h1 fun _ T' k f z => sf_ok f fun h2 k2 f2 => q h2 T' (k.trans (k2 _) fun x w => .inr (by rw [w]; exact z)) f2 z)
theorem lv_any (hfr : A.frames = some (env :: outer)) (hl : s.heap.FunFrames base (env :: outer)) (hf : env.frame = some L) (hT : FlyT e cls T fl s.heap)
    (q : ∀ h' T', Lk (frs (env :: outer)) (fun b => b = e ∨ b = T) s.heap h' → FlyT e cls T' .none h' → T' = T ∨ s.heap.objs.size ≤ T' → Q () { s with heap := h' }) : wpAny M A (leaving env (.ref e)) Q E s :=
  wpAny_bind (nf_any hfr hl hf hT fun _ T' k f z => sf_ok f fun h2 k2 f2 => q h2 T' (k.trans (k2 _) fun x w => by
    rw [w]
    rcases z with z | z
    · exact .inl (.inr z)
    · exact .inr z) f2 z)
end
end L2
namespace L2
open PySem PySem.Spec PyProof.Rows
theorem Un.lk {fs fr ex0 : List Addr} {ex : Addr → Prop} {H0 H : Hp} {h0 h h' : Heap} (u : Un fs ex0 H0 H h0 h) (v : Lk fr ex h h') (hf : ∀ b ∈ fr, b ∈ fs ∨ h0.get? b = none) (hx : ∀ b, ex b → b ∈ ex0 ∨ h0.get? b = none) : Un fs ex0 H0 H h0 h' := by
  have nx : ∀ {b o}, h0.get? b = some o → b ∉ ex0 → ¬ ex b := fun {b o} q n z => by
    rcases hx b z with z | z
    · exact n z
    · rw [q] at z; cases z
  refine ⟨fun b o q n hb n0 => ?_, fun b o q n hb n0 => ?_, u.free, fun b o q n0 => ?_, u.tups, u.frzs, u.tbls⟩
  · refine v.keep b o (u.keep b o q n hb n0) (fun z => ?_) (nx q n0)
    rcases hf b z with z | z
    · exact hb z
    · rw [q] at z; cases z
  · obtain ⟨sl, e1⟩ := u.slot b o q n hb n0
    obtain ⟨sl2, e2⟩ := v.slot b _ e1 (nx q n0)
    exact ⟨sl2, e2⟩
  · obtain ⟨o', e1⟩ := u.there b o q n0
    obtain ⟨sl2, e2⟩ := v.slot b _ e1 (nx q n0)
    exact ⟨_, e2⟩
theorem Un.gone {fs ex : List Addr} {H0 H : Hp} {h0 h : Heap} (u : Un fs ex H0 H h0 h) {b : Addr} (n : h.get? b = none) : b ∈ ex ∨ h0.get? b = none := by
  cases q : h0.get? b with
  | none => exact .inr rfl
  | some o =>
    by_cases c : b ∈ ex
    · exact .inl c
    · obtain ⟨o', e⟩ := u.there b o q c; rw [n] at e; cases e
theorem Un.gone0 {fs : List Addr} {H0 H : Hp} {h0 h : Heap} (u : Un fs [] H0 H h0 h) {b : Addr} (n : h.get? b = none) : h0.get? b = none := (u.gone n).resolve_left (by simp)
theorem ObjOk.is {P : Program} {w : World} {H : Hp} {h : Heap} {a : Addr} {o : HO} (x : ObjOk P w H h a o) : ∃ ob, h.get? a = some ob := by
  cases o with
  | lst xs => obtain ⟨_, _, _, _, e⟩ := x; exact ⟨_, e⟩
  | tup xs => obtain ⟨_, _, _, ob, e, _⟩ := x; exact ⟨_, e⟩
  | dK kvs => obtain ⟨_, _, _, _, o, _, _, e, _⟩ := x; exact ⟨_, e⟩
  | dT kvs => obtain ⟨_, _, _, _, o, _, _, e, _⟩ := x; exact ⟨_, e⟩
  | set S n => obtain ⟨o, _, _, _, e, _⟩ := x; exact ⟨_, e⟩
  | ins C dx fs => obtain ⟨_, _, _, e, _⟩ := x; exact ⟨_, e⟩
  | own y => obtain ⟨_, e⟩ := x; exact ⟨_, e⟩
  | xd fs => obtain ⟨_, ⟨_, _, _, e, _⟩, _⟩ := x; exact ⟨_, e⟩
  | rng lo hi => obtain ⟨_, _, _, e⟩ := x; exact ⟨_, e⟩
  | frz ob u => obtain ⟨e, _⟩ := x; exact ⟨_, e⟩
  | tbl ps => exact ⟨_, show h.get? a = some _ from x⟩
  | met f y => exact ⟨_, show h.get? a = some _ from x⟩
  | ext φ => obtain ⟨_, ⟨_, e⟩, _⟩ := x; exact ⟨_, e⟩
theorem HOk.gone {P : Program} {w : World} {H : Hp} {h : Heap} {a : Addr} (x : HOk P w H h) (n : h.get? a = none) : H a = none := by
  cases q : H a with
  | none => rfl
  | some u => obtain ⟨ob, e⟩ := (x a u q).is; rw [n] at e; cases e
theorem HOk.lk {P : Program} {w : World} {fr : List Addr} {ex : Addr → Prop} {H : Hp} {h h' : Heap} (x : HOk P w H h) (l : Lk fr ex h h') (hf : ∀ b ∈ fr, H b = none) (he : ∀ b, ex b → H b = none) : HOk P w H h' := fun a o q =>
  (x a o q).stay (fun b u hb r => by
    have tr : H b ≠ none := by
      rcases hb with rfl | hb
      · rw [q]; simp
      · rw [hb]; simp
    exact l.keep b u r (fun z => tr (hf b z)) fun z => tr (he b z)) (fun _ q => q) fun _ _ q => q
structure Fly (N : Addr → Prop) (H : Hp) (fl : Value) (e : Addr) (cls : Value) (h : Heap) : Prop where
  at_ : ∃ T, FlyT e cls T fl h ∧ N T ∧ H T = none
  old : N e
  free : H e = none
def CXx (P : Program) (w : World) : CXT := fun outer H s E ev s' => ∃ e C H', ev = .ref e ∧ s'.os = s.os ∧ AllBare s'.gens ∧ Un (frs outer) [] H H' s.heap s'.heap ∧ HOk P w H' s'.heap ∧ Fly (fun b => s.heap.get? b = none) H' .none e (.ref C) s'.heap ∧ E (.ref C) none H'
structure TKs (H H' : Hp) : Prop where
  tup : ∀ b xs, H b = some (.tup xs) → H' b = some (.tup xs)
  frz : ∀ b o u, H b = some (.frz o u) → H' b = some (.frz o u)
def since (H : Hp) (E : XK) : XK := fun c d H' => TKs H H' → E c d H'
structure Outs (X : Cx) (E : XK) : Prop where
  xe : ∀ ev s', wpAny (model X.prog X.w) X.A (leaving X.env ev) (fun _ s'' => CXx X.prog X.w X.outer X.H₀ X.s₀ E ev s'') (fun e' s'' => CXx X.prog X.w X.outer X.H₀ X.s₀ E e' s'') s' → X.xe ev s'
  stk : X.stack = X.env :: X.outer
  frm : X.env.frame = some X.env.locals
  ex : X.ex = []
theorem Outs.of {P : Program} {w : World} {K : PySem.W.Frag} {mg : Str → Option Value} {base : Heap} {N : List Str} {qual : Str} {scope : Scope} {f : Addr} {cd : Value} {A : Around} {outer : List Env} {s : Shared} {H : Hp} {E : XK} : Outs (cxOf (CXx P w) P w K mg base N qual scope f cd A outer s H E) E := ⟨fun _ _ h => h, rfl, rfl, rfl⟩
section
variable {X : Cx} {E : XK} {pins : List (Addr × Obj)} {σ : St} {H : Hp} {s : Shared}
theorem Outs.frames (O : Outs X E) (I : Inv X pins σ H s) : X.A.frames = some (X.env :: X.outer) := by rw [← O.stk]; exact I.ok.frames
theorem Outs.sub (O : Outs X E) (I : Inv X pins σ H s) : ∀ b ∈ frs (X.env :: X.outer), b ∈ X.fs ∨ X.s₀.heap.get? b = none := fun b hb => by
  rw [← O.stk] at hb
  rcases List.mem_cons.mp (I.stkSub b hb) with z | z
  · rw [z]; exact .inr (Heap.get?_none_of_le I.ok.above)
  · exact .inl z
theorem Outs.funs (O : Outs X E) (I : Inv X pins σ H s) : s.heap.FunFrames X.base (X.env :: X.outer) := by rw [← O.stk]; exact I.stack
theorem Outs.free (O : Outs X E) (I : Inv X pins σ H s) : ∀ b ∈ frs (X.env :: X.outer), H b = none := by rw [← O.stk]; exact I.stkFree
theorem Outs.base (O : Outs X E) (I : Inv X pins σ H s) : Un X.fs [] X.H₀ H X.s₀.heap s.heap := by have := I.base; rw [O.ex] at this; exact this
theorem Outs.fin (O : Outs X E) (I : Inv X pins σ H s) {e C T : Addr} {ex : Addr → Prop} {h' : Heap} (k : Lk (frs (X.env :: X.outer)) ex s.heap h') (f : FlyT e (.ref C) T .none h') (hx : ∀ b, ex b → X.s₀.heap.get? b = none ∧ H b = none) (he : ex e) (hT : ex T ∨ s.heap.objs.size ≤ T) (q : since X.H₀ E (.ref C) none H) :
    CXx X.prog X.w X.outer X.H₀ X.s₀ E (.ref e) { s with heap := h' } :=
  ⟨e, C, H, rfl, I.os, I.bare, (O.base I).lk k (O.sub I) (fun b hb => .inr (hx b hb).1), I.hok.lk k (O.free I) fun b hb => (hx b hb).2, ⟨⟨T, f, by
    rcases hT with z | z
    · exact hx T z
    · exact ⟨Heap.get?_none_of_le (Nat.le_trans I.sz z), I.hok.fresh z⟩⟩, (hx e he).1, (hx e he).2⟩, q ⟨I.base.tups, I.base.frzs⟩⟩
theorem xe_first (O : Outs X E) (I : Inv X pins σ H s) {h' : Heap} {e C : Addr} {vs : List Value} (hm : Heap.MadeExcOf s.heap h' e (.ref C) vs) (q : since X.H₀ E (.ref C) none H) : X.xe (.ref e) { s with heap := h' } := by
  obtain ⟨t, he, nt, _⟩ := hm.there
  have I2 : Inv X pins σ H { s with heap := h' } := I.kept (t' := s.toks) hm.keeps
  refine O.xe _ _ (lv_first (base := X.base) (O.frames I) (O.funs I2) O.frm he rfl rfl (by simp) fun h2 T l f z => ?_)
  exact O.fin I2 (ex := (· = e)) l f (fun b hb => by rw [hb]; exact ⟨(O.base I).gone0 hm.new, I.hok.gone hm.new⟩) rfl (.inr z) q
theorem passes_x (O : Outs X E) : Passes (CXx X.prog X.w) X (since X.H₀ E) := by
  intro pins σ H s ev s' I ⟨e, C, H', e1, os, bare, un, hok, ⟨⟨T, f, q9, q10⟩, old, fe⟩, q⟩
  subst e1
  have I2 : Inv X pins σ H' s' := I.call' (ch := []) os un hok bare fun _ z => nomatch z
  refine O.xe _ _ (lv_any (base := X.base) (O.frames I) (O.funs I2) O.frm f fun h2 T' l f' z => ?_)
  refine O.fin I2 (ex := fun b => b = e ∨ b = T) l f' (fun b hb => ?_) (.inl rfl) (by
    rcases z with z | z
    · exact .inl (.inr z)
    · exact .inr z) q
  rcases hb with rfl | rfl
  · exact ⟨(O.base I).gone0 old, fe⟩
  · exact ⟨(O.base I).gone0 q9, q10⟩
end
end L2
namespace L2
open PySem PySem.Spec PyProof.Rows
def ExC (X : Cx) (E : XK) (C : Addr) (s : Shared) (H : Hp) (fp : List Addr) (ev : Value) (s' : Shared) : Prop :=
  ∃ e Cl H', ev = .ref e ∧ s'.os = s.os ∧ AllBare s'.gens ∧ Un (frs X.stack) fp H H' s.heap s'.heap ∧ HOk X.prog X.w H' s'.heap ∧ Fly (fun b => b ∈ fp ∨ s.heap.get? b = none) H' .none e (.ref Cl) s'.heap ∧ (∃ m, s'.heap.Ns C m) ∧ H' C = none ∧ C ≠ e ∧ E (.ref Cl) none H'
def CompOut (X : Cx) (EW : XK) (sc : Scope) : Prop := ∀ (pins : List (Addr × Obj)) (σ : St) (H : Hp) (s : Shared) (C : Addr) (fp : List Addr) (use : Option (Value → Sem Unit)) (Fin : Value → Shared → Prop) (acc : Value), Inv X pins σ H s → (∀ b ∈ fp, FpOk X pins H b) → C = s.heap.objs.size →
  ∀ ev s', ExC X EW C s H fp ev s' → notedBy (model X.prog X.w) X.A (compEnvC sc (closeL X.env sc.names []) C X.env) (fun e s'' => compPost (model X.prog X.w) X.A X.xe use Fin acc C (.error e) s'') ev s'
theorem compOut0 {X : Cx} {sc : Scope} : CompOut X (fun _ _ _ => False) sc := by
  rintro pins σ H s C fp use Fin acc _ _ _ ev s' ⟨_, _, _, _, _, _, _, _, _, _, _, _, q⟩
  exact q.elim
end L2
namespace L2
open PySem PySem.Spec PyProof.Rows
def cxC (X : Cx) (EW : XK) (N' : List Str) (sc : Scope) (C : Addr) (s : Shared) (H : Hp) (fp : List Addr) : Cx :=
  { X with N := N', s₀ := s, H₀ := H, env := compEnvC sc (closeL X.env sc.names []) C X.env, outer := X.stack, stack := X.stack, ex := fp, fn := fun _ => false, pn := [], xe := ExC X EW C s H fp }
def PIfs (X : Cx) (ifs : List Expr) (t : TT) : Prop :=
  ∀ (pins : List (Addr × Obj)) (s : Shared) (σ : St) (H : Hp) (Q : Bool → Hp → Prop), Inv X pins σ H s → t σ H Q →
    wpAny (model X.prog X.w) X.A (forIn ifs true fun c r => if r = true then do let ok ← isTrue c X.env (eval c X.env); pure (ForInStep.yield ok) else pure (ForInStep.yield r)) (TP X pins σ Q) X.xe s
def tTT : TT := fun _ H Q => Q true H
theorem pifs_nil {X : Cx} : PIfs X [] tTT := fun _ _ _ H _ I h => wpAny_tests_nil ⟨H, I, h⟩
def LcB (J : It) (cap : List (Option Nat)) (g : TG) (tt : TT) (te : TE) (σ : St) (Q : VK) (D : Addr) (H1 : Hp) : Prop :=
  ∃ W : Nat → Nat → List V → Hp → Prop, (∃ m, W 0 m [] (upd H1 D (.lst []))) ∧ ∀ i m ys H2, W i m ys H2 →
    (J.stop i H2 ∧ Q (.ref D) H2) ∨
    (J.go i H2 ∧ ∃ N : List V → Hp → Prop, (∀ ys' H', N ys' H' → ∃ m', m' < m ∧ W (i + 1) m' ys' H') ∧ ∀ x H', J.yld i H2 x H' →
      g x (capSt cap σ) H' fun σ2 H3 => keepsSt (capSt cap σ) σ2 ∧ tt σ2 H3 fun b H4 => if b = true then te σ2 H4 fun y H5 => ∃ zs, H5 D = some (.lst zs) ∧ zs.length < sizeLine ∧ N (zs ++ [y]) (upd H5 D (.lst (zs ++ [y]))) else N ys H4)
def tLC (wi : TI) (cap : List (Option Nat)) (g : TG) (tt : TT) (te : TE) : TE := fun σ H Q => wi σ H fun J H1 => ∀ D, H1 D = none → LcB J cap g tt te σ Q D H1
structure CFree (X : Cx) (pins : List (Addr × Obj)) (H : Hp) (C : Addr) : Prop where
  free : H C = none
  loc : C ≠ X.env.locals
  old : X.s₀.heap.objs.size ≤ C
  cell : ∀ x c, X.env.cells.lookup x = some c → c ≠ C
  pin : ∀ p ∈ X.pn ++ pins, p.1 ≠ C
section
variable {X : Cx} {pins : List (Addr × Obj)} {σ : St} {H : Hp} {s : Shared} {N' : List Str} {sc : Scope} {cap : List (Option Nat)} {C : Addr} {fp : List Addr} {EW : XK}
theorem lc_free (I : Inv X pins σ H s) (ck : CapOk X.N X.env.scope sc N' cap) : ∀ x ∈ sc.names, x.2 = .free → ∃ c, X.env.cells.lookup x.1 = some c := fun x hx hf =>
  I.ok.has x.1 (ck.fre x hx hf)
theorem lc_look {x : Str} (I : Inv X pins σ H s) (ck : CapOk X.N X.env.scope sc N' cap) {c : Addr} (h : (closeL X.env sc.names []).lookup x = some c) : X.env.cells.lookup x = some c :=
  closeL_lookup sc.names [] (lc_free I ck) (fun y c h => by simp at h) c h
theorem lc_kind (env : Env) (x : Str) : (compEnvC sc (closeL X.env sc.names []) C env).kindOf x = (sc.names.lookup x).map fun k => if (k == NameKind.free && env.scope.kind == .function && env.kindOf x == some .cell) = true then NameKind.cell else k :=
  relabel_lookup sc.names
theorem lookup_mem_snd {l : List (Str × NameKind)} {x : Str} {k : NameKind} (h : l.lookup x = some k) : (x, k) ∈ l := PySem.mem_of_lookup h
theorem lc_ok (I : Inv X pins σ H s) (ck : CapOk X.N X.env.scope sc N' cap) (hf : ∀ b ∈ fp, FpOk X pins H b) (hlt : ∀ b ∈ fp, b < s.heap.objs.size) (hC : C = s.heap.objs.size) : (cxC X EW N' sc C s H fp).Ok := by
  have cl : ∀ {x : Str} {c : Addr}, (closeL X.env sc.names []).lookup x = some c → X.env.cells.lookup x = some c := fun h => lc_look I ck h
  have cne : ∀ {x : Str} {c : Addr}, X.env.cells.lookup x = some c → c < s.heap.objs.size := fun e => by
    obtain ⟨v, q⟩ := I.cell _ _ e
    exact q.lt
  refine ⟨I.ok.mod, ck.kind, I.ok.glob, I.ok.blt, by rw [hC]; exact Nat.le_refl _, fun x y c h1 h2 => I.ok.inj x y c (cl h1) (cl h2), fun x hx => ?_, fun x c h _ => (by cases h), I.ok.hd, I.ok.frames, .inl rfl, fun b hb => ⟨?_, fun x c h => ?_⟩, I.bs, Nat.le_trans I.ok.bsz I.sz, fun b o e hb => ?_, fun b hb hz => ?_, I.stack, I.stkFree⟩
  · have hx' : (sc.names.lookup x).map (fun k => if (k == NameKind.free && X.env.scope.kind == .function && X.env.kindOf x == some .cell) = true then NameKind.cell else k) = some .cell ∨
        (sc.names.lookup x).map (fun k => if (k == NameKind.free && X.env.scope.kind == .function && X.env.kindOf x == some .cell) = true then NameKind.cell else k) = some .free := by
      rw [← lc_kind (X := X) (C := C) X.env x]
      exact hx
    cases e : sc.names.lookup x with
    | none => rw [e] at hx'; rcases hx' with z | z <;> cases z
    | some k =>
      have hm := lookup_mem_snd e
      have hk : k = .free := by
        rw [e] at hx'
        by_cases hk : k = .free
        · exact hk
        · have hb : (k == NameKind.free) = false := by simpa using hk
          simp only [Option.map_some, hb, Bool.false_and, Bool.false_eq_true, if_false, Option.some.injEq] at hx'
          rcases hx' with z | z
          · exact absurd z (ck.nocell _ hm)
          · exact absurd z hk
      subst hk
      exact closeL_has sc.names [] hm
  · show b ≠ C
    rw [hC]
    exact Nat.ne_of_lt (hlt b hb)
  · exact (hf b hb).2.2.2.2.1 x c (cl h)
  · obtain ⟨_, _, _, z, _⟩ := hf b hb
    rcases z with z | z
    · exact I.ok.noex b o e z
    · exact absurd (Nat.lt_of_lt_of_le (Heap.lt_size e) (Nat.le_trans I.ok.bsz z)) (Nat.lt_irrefl _)
  · rcases List.mem_cons.mp (I.stkSub b hz) with z | z
    · exact (hf b hb).2.1 z
    · exact (hf b hb).2.2.1 z
theorem lc_inv {h₁ : Heap} {m : Str → Option Value} {t' : Nat} (I : Inv X pins σ H s) (ck : CapOk X.N X.env.scope sc N' cap) (hf : ∀ b ∈ fp, FpOk X pins H b) (hlt : ∀ b ∈ fp, b < s.heap.objs.size) (hC : C = s.heap.objs.size)
    (hn : h₁.Ns C m) (hk : ∀ b o, s.heap.get? b = some o → h₁.get? b = some o) : Inv (cxC X EW N' sc C s H fp) [] (capSt cap σ) H { s with heap := h₁, toks := t' } := by
  refine ⟨lc_ok I ck hf hlt hC, rfl, I.bare, Un.kept hk, ⟨m, hn, fun i x v e1 e2 e3 => ?_⟩, fun x c h => ?_, ?_, fun x c h => I.freeC x c (lc_look I ck h), fun p hp => absurd (show p ∈ ([] : List (Addr × Obj)) from hp) (by simp), I.hok.kept hk, ?_⟩
  · have e1' : N'[i]? = some x := e1
    unfold capSt at e2
    rw [List.getElem?_map] at e2
    cases ec : cap[i]? with
    | none => rw [ec] at e2; cases e2
    | some o =>
      rw [ec] at e2
      cases o with
      | none => simp at e2
      | some j =>
        have e2' : (σ[j]?).join = some v := by simpa using e2
        have e2'' : σ[j]? = some (some v) := by
          cases q : σ[j]? with
          | none => rw [q] at e2'; cases e2'
          | some w => rw [q] at e2'; rw [show w = some v from e2']
        obtain ⟨a1, a2⟩ := ck.cap i x j e1' ec
        have hfr := ck.fre (x, .free) (lookup_mem_snd a2) rfl
        obtain ⟨m0, _, hl⟩ := I.loc
        obtain ⟨u, ru, lk⟩ := hl j x v a1 e2'' (.inr hfr)
        refine ⟨u, ru, .inr ⟨?_, ?_⟩⟩
        · show (compEnvC sc (closeL X.env sc.names []) C X.env).kindOf x = some .cell ∨ (compEnvC sc (closeL X.env sc.names []) C X.env).kindOf x = some .free
          rw [lc_kind, a2]
          simp only [Option.map_some, beq_self_eq_true, Bool.true_and]
          by_cases hc : (X.env.scope.kind == ScopeKind.function && X.env.kindOf x == some NameKind.cell) = true
          · rw [if_pos hc]; exact .inl rfl
          · rw [if_neg hc]; exact .inr rfl
        · obtain ⟨c', hc'⟩ := closeL_has (env := X.env) sc.names [] (lookup_mem_snd a2)
          have hX := lc_look I ck hc'
          rcases lk with ⟨k, _⟩ | ⟨_, c, ec', z⟩
          · have k' : X.env.scope.names.lookup x = some .local := k
            have hfr' : X.env.scope.names.lookup x = some .cell ∨ X.env.scope.names.lookup x = some .free := hfr
            rw [k'] at hfr'
            rcases hfr' with q | q <;> cases q
          · rw [hX] at ec'
            cases ec'
            obtain ⟨oc, ho, hd⟩ := z
            exact ⟨c', hc', oc, hk _ _ ho, hd⟩
  · obtain ⟨v, oc, ho, hd⟩ := I.cell x c (lc_look I ck h)
    exact ⟨v, oc, hk _ _ ho, hd⟩
  · show H C = none
    rw [hC]
    exact I.hok.fresh (Nat.le_refl _)
  · show (capSt cap σ).length = N'.length
    unfold capSt
    rw [List.length_map]
    exact ck.len
theorem lc_back {s' : Shared} {σ' : St} {H' : Hp} {pins' : List (Addr × Obj)} (I : Inv X pins σ H s) (hf : ∀ b ∈ fp, FpOk X pins H b) (J : Inv (cxC X EW N' sc C s H fp) pins' σ' H' s') : Inv X pins σ H' s' :=
  I.call' (ch := fp) J.os J.base J.hok J.bare fun b hb => ⟨(hf b hb).2.2.2.1, (hf b hb).2.1, (hf b hb).2.2.2.2.1, (hf b hb).2.2.2.2.2⟩
theorem lc_cfree {s' : Shared} {σ' : St} {H' : Hp} {pins' : List (Addr × Obj)} (I : Inv X pins σ H s) (hC : C = s.heap.objs.size) (J : Inv (cxC X EW N' sc C s H fp) pins' σ' H' s') : CFree X pins H' C := by
  refine ⟨J.free, by rw [hC]; exact Nat.ne_of_gt I.lt, by rw [hC]; exact I.sz, fun x c e z => ?_, fun p hp z => ?_⟩
  · obtain ⟨v, q⟩ := I.cell x c e
    exact absurd q.lt (by rw [z, hC]; exact Nat.lt_irrefl _)
  · exact absurd (Heap.lt_size (I.pin p hp).1) (by rw [z, hC]; exact Nat.lt_irrefl _)
theorem CFree.after {h' : Heap} {t' : Nat} (F : CFree X pins H C) (I : Inv X pins σ H s) (k : ∀ b o, b ≠ C → s.heap.get? b = some o → h'.get? b = some o) : Inv X pins σ H { s with heap := h', toks := t' } :=
  I.turned k F.free F.loc (.inr F.old) F.cell F.pin
end
section
variable {X : Cx} {elt tg iter : Expr} {ifs : List Expr} {sc : Scope} {pos : Pos} {wi : TI} {g : TG} {tt : TT} {te : TE} {N' : List Str} {cap : List (Option Nat)} {EW : XK}
theorem lc_core (hc : X.calm = true) (hE : CompOut X EW sc) (ck : CapOk X.N X.env.scope sc N' cap) (hi : PI X tg iter wi)
    (hg : ∀ C s H fp, PG (cxC X EW N' sc C s H fp) tg g) (ht : ∀ C s H fp, PIfs (cxC X EW N' sc C s H fp) ifs tt) (he : ∀ C s H fp, PE (cxC X EW N' sc C s H fp) elt te)
    (hs : ∀ x, foldedSetIterable iter X.env x = pure x) {use : Option (Value → Sem Unit)} {Fin : Value → Shared → Prop} {pos' : Pos}
    {pins : List (Addr × Obj)} {s : Shared} {σ : St} {H : Hp} {Q : VK} (I : Inv X pins σ H s) (h : tLC wi cap g tt te σ H Q)
    (fin : ∀ D s' C m H', Inv X pins σ H' s' → Q (.ref D) H' → s'.heap.Ns C m → CFree X pins H' C → compPost (model X.prog X.w) X.A X.xe use Fin (.ref D) C (.ok .next) s') :
    wpAny (model X.prog X.w) X.A (comprehension (.ListComp elt [⟨tg, iter, ifs, 0⟩] sc pos) sc X.env pos' (newList []) false (eval iter X.env) use) Fin X.xe s := by
  refine wpAny_comprehension_free (use := use) rfl hs (closureFor_eq (lc_free I ck)) ck.kind ck.nms ?_
  refine thn (hi pins s σ H _ I h) fun v s1 h1 => thn h1 fun itv s2 h2 => ?_
  obtain ⟨it, fp, tn, J, H2, e, I2, T, st2, f2, h2⟩ := h2
  subst e
  have hD : H2 s2.heap.objs.size = none := I2.hok.fresh (Nat.le_refl _)
  obtain ⟨W, ⟨m0, w0⟩, turn⟩ := h2 s2.heap.objs.size hD
  refine wpAny_newObj_type ?_
  have I3 : Inv X pins σ (upd H2 s2.heap.objs.size (.lst [])) { s2 with heap := s2.heap.push { cls := .type "list", data := .seq ([] : List Value).toArray } } := I2.lnew (its := []) (ys := []) (t' := s2.toks) .nil (Nat.zero_le _)
  generalize hs3 : ({ s2 with heap := s2.heap.push { cls := .type "list", data := .seq ([] : List Value).toArray } } : Shared) = s3 at I3
  generalize hH3 : upd H2 s2.heap.objs.size (.lst []) = H3 at I3 w0
  have hlt2 : ∀ b ∈ fp, b < s2.heap.objs.size := fun b hb => by
    obtain ⟨o, e, _⟩ := T.obj _ _ st2 b hb
    exact Heap.lt_size e
  have sz3 : s3.heap.objs.size = s2.heap.objs.size + 1 := by rw [← hs3]; exact Heap.size_push _ _
  have hlt3 : ∀ b ∈ fp, b < s3.heap.objs.size := fun b hb => by rw [sz3]; exact Nat.lt_succ_of_lt (hlt2 b hb)
  have f3 : ∀ b ∈ fp, FpOk X pins H3 b := fun b hb => by
    refine ⟨?_, (f2 b hb).2⟩
    rw [← hH3, upd_ne (Nat.ne_of_lt (hlt2 b hb))]
    exact (f2 b hb).1
  have st3 : tn 0 s3.heap := T.keep _ _ _ st2 fun b _ o e => by rw [← hs3]; exact Heap.get?_push_of_some _ e
  refine wpAny_newFunctionEnv ck.nocell (by intro y hy; simp at hy) (fun h₁ hns₁ hsb₁ => ?_) ck.kind
  have hk : ∀ b o, s3.heap.get? b = some o → h₁.get? b = some o := fun b o e => hsb₁.extBut b o (Nat.ne_of_lt (Heap.lt_size e)) (Heap.get?_push_of_some _ e)
  have I4 := lc_inv (EW := EW) (C := s3.heap.objs.size) (t' := s3.toks + ([] : List (Str × Value)).length) I3 ck f3 hlt3 rfl hns₁ hk
  generalize hs4 : ({ s3 with heap := h₁, toks := s3.toks + ([] : List (Str × Value)).length } : Shared) = s4 at I4 ⊢
  have st4 : tn 0 s4.heap := T.keep _ _ _ st3 fun b _ o e => by rw [← hs4]; exact hk b o e
  have stat : ∀ {H' : Hp} {pins' : List (Addr × Obj)}, (∀ p ∈ pins', p.1 ∉ fp) → (∀ b ∈ fp, H' b = none) → ∀ b ∈ fp, FpOk (cxC X EW N' sc s3.heap.objs.size s3 H3 fp) pins' H' b := fun {H' pins'} hp hn b hb =>
    ⟨hn b hb, Nat.ne_of_lt (hlt3 b hb), fun z => by
      rcases List.mem_cons.mp (I3.stkSub b z) with z | z
      · exact (f3 b hb).2.1 z
      · exact (f3 b hb).2.2.1 z, .inl hb, fun x c e => (f3 b hb).2.2.2.2.1 x c (lc_look I3 ck e), fun p hp' z => hp p hp' (by rw [z]; exact hb)⟩
  have hx := hE pins σ H3 s3 s3.heap.objs.size fp use Fin (.ref s2.heap.objs.size) I3 f3 rfl
  have loop : codeAny (model X.prog X.w) X.A (.compLoop (.ListComp elt [⟨tg, iter, ifs, 0⟩] sc pos) 0 (.ref it) (.ref s2.heap.objs.size) (compEnvC sc (closeL X.env sc.names []) s3.heap.objs.size X.env))
      (compPost (model X.prog X.w) X.A X.xe use Fin (.ref s2.heap.objs.size) s3.heap.objs.size) s4 := by
    refine codeAny_compLoop_go (fun n s' => ∃ i ys σ' H', Inv (cxC X EW N' sc s3.heap.objs.size s3 H3 fp) [] σ' H' s' ∧ keepsSt (capSt cap σ) σ' ∧ tn i s'.heap ∧ (∀ b ∈ fp, H' b = none) ∧ W i n ys H') ?_ m0
      ⟨0, [], capSt cap σ, H3, I4, keepsSt_refl _, st4, fun b hb => (f3 b hb).1, w0⟩
    rintro n s5 ⟨i, ys, σ5, H5, I5, k5, st5, fr5, w5⟩
    have kk := keepsSt_ok k5
    have I5 := I5.weak (σ' := capSt cap σ) kk.1 kk.2
    rcases turn i n ys H5 w5 with ⟨stop, q⟩ | ⟨go, N, hN, step⟩
    · refine thn (T.done (cxC X EW N' sc s3.heap.objs.size s3 H3 fp) rfl rfl rfl hc i [] s5 _ H5 _ I5 (stat (fun p hp => by cases hp) fr5) st5 stop) fun r s6 ⟨hr, I6⟩ => ?_
      subst hr
      obtain ⟨m6, n6, _⟩ := I6.loc
      exact fin _ s6 _ m6 H5 (lc_back I3 f3 I6) q n6 (lc_cfree I3 rfl I6)
    · refine thn (T.item (cxC X EW N' sc s3.heap.objs.size s3 H3 fp) rfl rfl rfl hc i [] s5 _ H5 _ I5 (stat (fun p hp => by cases hp) fr5) st5 go) fun r s6 ⟨u, hr, h6⟩ => ?_
      subst hr
      refine thn h6 fun _ s7 ⟨x, H7, I7, r7, y7, st7, fr7⟩ => ?_
      have I7' := I7.pinned (stat (fun p hp => by cases hp) fr7) (T.obj _ _ st7)
      have again : ∀ {σ9 : St} {H9 : Hp} {s9 : Shared} {ys' : List V}, Inv (cxC X EW N' sc s3.heap.objs.size s3 H3 fp) ([] ++ pinsAt fp s7.heap) σ9 H9 s9 → keepsSt (capSt cap σ) σ9 → N ys' H9 →
          ∃ m, m < n ∧ ∃ i ys σ' H', Inv (cxC X EW N' sc s3.heap.objs.size s3 H3 fp) [] σ' H' s9 ∧ keepsSt (capSt cap σ) σ' ∧ tn i s9.heap ∧ (∀ b ∈ fp, H' b = none) ∧ W i m ys H' := fun {σ9 H9 s9 ys'} I9 k9 n9 => by
        obtain ⟨m', hm, w9⟩ := hN ys' H9 n9
        refine ⟨m', hm, i + 1, ys', σ9, H9, I9.unpinned, k9, T.keep _ _ _ st7 fun b hb o e => (I9.pin (b, o) (List.mem_append_right _ (List.mem_append_right _ (mem_pinsAt hb e)))).1, fun b hb => ?_, w9⟩
        obtain ⟨o, e, d⟩ := T.obj _ _ st7 b hb
        exact (I9.pin (b, o) (List.mem_append_right _ (List.mem_append_right _ (mem_pinsAt hb e)))).2.1
      refine wpAny_mono (hg _ _ _ _ _ s7 _ H7 x u _ I7' r7 (step x H7 y7)) (fun _ s8 ⟨σ8, H8, I8, k8, q8⟩ => ?_) hx
      refine wpAny_mono (ht _ _ _ _ _ s8 σ8 H8 _ I8 q8) (fun b s9 ⟨H9, I9, q9⟩ => ?_) hx
      cases b with
      | false =>
        rw [if_neg Bool.false_ne_true] at q9 ⊢
        exact again I9 k8 q9
      | true =>
        rw [if_pos rfl] at q9 ⊢
        refine wpAny_mono (he _ _ _ _ _ s9 σ8 H9 _ I9 q9) (fun y s10 ⟨vy, H10, I10, r10, zs, hacc, hsz, q10⟩ => ?_) hx
        refine wpAny_mono (mt_append (X := cxC X EW N' sc s3.heap.objs.size s3 H3 fp) _ s10 σ8 H10 (.ref s2.heap.objs.size) [vy] (.ref s2.heap.objs.size) [y] (fun _ H' => N (zs ++ [vy]) H') I10 rfl (.cons r10 .nil) ⟨_, zs, vy, rfl, rfl, hacc, hsz, q10⟩) (fun _ s11 ⟨_, H11, I11, _, q11⟩ => ?_) hx
        exact again I11 k8 q11
  exact codeAny_compStart_list loop (T.self _ 0 _ _ _ st4 loop)
theorem pe_lc {N₀ : List Str} {so : Scope} (hc : X.calm = true) (hE : CompOut X EW sc) (hNN : X.N = N₀) (hso : X.env.scope = so) (ck : capB N₀ so sc N' cap = true) (hi : PI X tg iter wi)
    (hg : ∀ C s H fp, PG (cxC X EW N' sc C s H fp) tg g) (ht : ∀ C s H fp, PIfs (cxC X EW N' sc C s H fp) ifs tt) (he : ∀ C s H fp, PE (cxC X EW N' sc C s H fp) elt te)
    (hs : ∀ x, foldedSetIterable iter X.env x = pure x := by intro _; rfl) : PE X (.ListComp elt [⟨tg, iter, ifs, 0⟩] sc pos) (tLC wi cap g tt te) := by
  intro pins s σ H Q I h
  rw [eval_ListComp]
  subst hNN hso
  refine lc_core hc hE (capB_ok ck) hi hg ht he hs (use := none) I h fun D s' C m H' I' q hn F => ?_
  exact ⟨m, hn, fun h' hs' => ⟨.ref D, H', F.after (t' := s'.toks) I' (fun b o hb e => hs'.extBut b o hb e), rfl, q⟩⟩
end
end L2
namespace L2
open PySem PySem.Spec PyProof.Rows
section
variable {X : Cx} {st : Stmt} {rest : List Stmt} {t u : TS} {e : Expr} {te : TE} {tt : TT}
end
end L2
namespace L2
open PySem PySem.Spec PyProof.Rows
mutual
def DV (H : Hp) : PyData → V → Prop
  | .none, x => x = .non
  | .bool b, x => x = .bl b
  | .int i, x => x = .int i
  | .str s, x => x = .str s
  | .list ds, x => ∃ a vs, x = .ref a ∧ H a = some (.lst vs) ∧ DVs H ds vs
  | .tuple ds, x => ∃ a vs, x = .ref a ∧ H a = some (.tup vs) ∧ DVs H ds vs
  | .dict _, _ => False
def DVs (H : Hp) : List PyData → List V → Prop
  | [], vs => vs = []
  | d :: ds, vs => ∃ v r, vs = v :: r ∧ DV H d v ∧ DVs H ds r
end
mutual
theorem DV.reads {P : Program} {w : World} {H : Hp} {h : Heap} (ok : HOk P w H h) : ∀ {d : PyData} {x : V} {u : Value}, DV H d x → RelV x u → ∃ as, Reads h u d as
  | .none, x, u, q, r => by
    unfold DV at q; subst q
    cases (show u = Value.none from r); exact ⟨_, .none⟩
  | .bool b, x, u, q, r => by
    unfold DV at q; subst q
    cases (show u = Value.bool b from r); exact ⟨_, .bool b⟩
  | .int i, x, u, q, r => by
    unfold DV at q; subst q
    obtain ⟨t, e⟩ := (show ∃ t, u = Value.int i t from r); subst e; exact ⟨_, .int i t⟩
  | .str s, x, u, q, r => by
    unfold DV at q; subst q
    obtain ⟨t, e⟩ := (show ∃ t, u = Value.str s t from r); subst e; exact ⟨_, .str s t⟩
  | .list ds, x, u, q, r => by
    unfold DV at q
    obtain ⟨a, vs, e, ha, q⟩ := q
    subst e
    cases (show u = Value.ref a from r)
    obtain ⟨_, its, n, rv, e⟩ := ok a _ ha
    obtain ⟨as, rd⟩ := DVs.reads ok q rv
    exact ⟨_, .list e rfl rfl (by simpa using rd)⟩
  | .tuple ds, x, u, q, r => by
    unfold DV at q
    obtain ⟨a, vs, e, ha, q⟩ := q
    subst e
    cases (show u = Value.ref a from r)
    obtain ⟨_, its, rv, o, e, c, n, d⟩ := ok a _ ha
    obtain ⟨as, rd⟩ := DVs.reads ok q rv
    exact ⟨_, .tuple e c d (by simpa using rd)⟩
  | .dict _, x, u, q, r => by unfold DV at q; exact q.elim
theorem DVs.reads {P : Program} {w : World} {H : Hp} {h : Heap} (ok : HOk P w H h) : ∀ {ds : List PyData} {vs : List V} {us : List Value}, DVs H ds vs → Vals vs us → ∃ as, ReadsAll h us ds as
  | [], vs, us, q, r => by
    unfold DVs at q; subst q
    cases r
    exact ⟨_, .nil⟩
  | d :: ds, vs, us, q, r => by
    unfold DVs at q
    obtain ⟨v, rr, e, q1, q2⟩ := q
    subst e
    cases r with
    | cons r1 r2 =>
      obtain ⟨as, h1⟩ := DV.reads ok q1 r1
      obtain ⟨bs, h2⟩ := DVs.reads ok q2 r2
      exact ⟨_, .cons h1 h2⟩
end
def rEqD : R2 := fun x y H Q => ∃ d e, DV H d x ∧ DV H e y ∧ SeqAt.shaped d = true ∧ SeqAt.shaped e = true ∧ Q (.bl (PyData.eqv d e)) H
def rNeD : R2 := fun x y H Q => ∃ d e, DV H d x ∧ DV H e y ∧ SeqAt.shaped d = true ∧ SeqAt.shaped e = true ∧ Q (.bl (!PyData.eqv d e)) H
section
variable {X : Cx}
theorem op_eqD (hu : X.A.units + 66 < cLine) : OpR X (compareOp .Eq) rEqD := by
  intro pins s σ H x y v u Q I rx ry h
  obtain ⟨d, e, h1, h2, h3, h4, q⟩ := h
  obtain ⟨as, r1⟩ := h1.reads I.hok rx
  obtain ⟨bs, r2⟩ := h2.reads I.hok ry
  exact eq_dataH r1 r2 h3 h4 (by omega) ⟨.bl _, H, I, rfl, q⟩
theorem op_neD (hu : X.A.units + 66 < cLine) : OpR X (compareOp .NotEq) rNeD := by
  intro pins s σ H x y v u Q I rx ry h
  obtain ⟨d, e, h1, h2, h3, h4, q⟩ := h
  obtain ⟨as, r1⟩ := h1.reads I.hok rx
  obtain ⟨bs, r2⟩ := h2.reads I.hok ry
  exact ne_dataH r1 r2 h3 h4 (by omega) ⟨.bl _, H, I, rfl, q⟩
end
end L2
namespace L2
open PySem PySem.Spec PyProof.Rows
abbrev veM : List Value := [.type "ValueError", .type "Exception", .type "BaseException", .type "object"]
theorem exc_in {K : PySem.W.Frag} {C : Addr} (q : PySem.W.excIn K C veM "ValueError.__new__" = true) : ∃ bm N nm qn bs hd sn sub ab col dd k0 k1 k2 k3 k5, K.lookup C = some (excClassObj nm qn C N bs bm hd sn sub ab col dd k0 k1 k2 k3 k5 "ValueError.__new__") ∧
    PySem.W.nsOkIn K N = true ∧ PySem.W.nsIn K N "__init__" = some none ∧ PySem.W.tailIn K veM bm = true := by
  unfold PySem.W.excIn at q
  split at q
  · rename_i dd cd sl ho
    split at q
    · rename_i C2 bm k0 k1 k2 k3 nw k5 hm hs
      simp only [Bool.and_eq_true, Bool.not_eq_true', beq_iff_eq] at q
      obtain ⟨⟨⟨⟨⟨z1, z2⟩, z3⟩, z4⟩, z5⟩, z6⟩ := q
      subst z1 z2
      obtain ⟨nm, bs, mr, ns, qn, hd, sn, sub, ab, col, dl⟩ := cd
      dsimp only at hm z3 z5 z6
      subst hm z3
      have es : sl = #[k0, k1, k2, k3, some (.builtin "ValueError.__new__"), k5] := by
        cases sl with
        | mk l => dsimp only at hs; rw [hs]
      subst es
      exact ⟨bm, ns, nm, qn, bs, hd, sn, sub, ab, col, dd, k0, k1, k2, k3, k5, ho, z5, z6, z4⟩
    · cases q
  · cases q
section
variable {X : Cx} {E : XK}
theorem ps_raise {x : Str} {np cpos pos : Pos} {e0 : Expr} {te : TE} {C : Addr} (O : Outs X E) (hc : X.calm = true) (hg : Gl X x) (hm : X.mg x = some (.ref C)) (hq : PySem.W.excIn X.K C veM "ValueError.__new__" = true) (he : PE X e0 te)
    (hs : starEach [e0] X.env = (false, eval e0 X.env) :: starEach [] X.env := by rfl) (hp : (backTo cpos (starEach [] X.env)).any (·.1) = false := by rfl) (hd : (x == ("__debug__" : Str)) = false := by decide) :
    PS X (.Raise (some (.Call (.Name x np) [e0] [] cpos)) none pos) (fun _ σ H => te σ H fun _ H1 => since X.H₀ E (.ref C) none H1) := by
  intro pins s σ H D I h
  obtain ⟨bm, N, nm, qn, bs, hd', sn, sub, ab, col, dd, k0, k1, k2, k3, k5, hC, z5, z6, z4⟩ := exc_in hq
  have B := I.mod.kin
  have hN : X.base.Ns N (X.base.nsMap N) := .of_isNs (PySem.W.isNs_of_in B z5)
  have hi := PySem.W.nsMap_none_of_in B z5 z6
  have T : OwnTail X.base veM bm := PySem.W.tail_of_in B z4
  refine wpAny_Raise_call_subT (C := C) (nm := nm) (q := qn) (N := N) (bs := bs) (bm := bm) (hdct := hd') (sn := sn) (sub := sub) (ab := ab) (col := col) (dd := dd) (k0 := k0) (k1 := k1) (k2 := k2) (k3 := k3) (k5 := k5) PySem.F.excBase_ValueError (mN := X.base.nsMap N) (T.hasType (by decide)) (I.ok.hd hc)
    (by rw [hs]; show (false || (backTo cpos (starEach [] X.env)).any (·.1)) = false; rw [hp]; rfl) hi (ld_glob I hg hm ⟨rfl, ?_⟩ hd)
  rw [hs]
  refine Calls.evalArgs_plain (Calls.spliced_cons (thn (he pins s σ H _ I h) fun v s2 ⟨y, H2, I2, _, q2⟩ => Calls.spliced_nil ⟨rfl, Nat.le_of_lt (small1000 (Nat.le_of_ble_eq_true rfl)), I2.bk _ _ (B _ _ hC), hN.keeps I2.bk, T.keeps I2.bk, fun h' e hm => xe_first O I2 hm q2⟩))
end
end L2
namespace L2
open PySem PySem.Spec PyProof.Rows
theorem noteFrame_eq {e : Value} {env env' : Env} (h : env.frame = env'.frame) : noteFrame e env = noteFrame e env' := by
  unfold noteFrame PySem.frameOf
  rw [h]
theorem ns_no_fields {h : Heap} {a : Addr} {m : Str → Option Value} {o : Obj} {vs : Array Value} (n : h.Ns a m) (e : h.get? a = some o) (d : o.data = .fields vs) : False := by
  obtain ⟨o', es, ep, e', d', _⟩ := n
  rw [e] at e'
  cases e'
  rw [d] at d'
  cases d'
section
variable {X : Cx} {E : XK}
theorem compOut_x {sc : Scope} (O : Outs X E) : CompOut X (since X.H₀ E) sc := by
  rintro pins σ H s C fp use Fin acc I hfp hC ev s' ⟨e, Cl, H', e1, os, bare, un, hok, ⟨⟨T, f, nT, fT⟩, ne, fe⟩, ⟨m, hm⟩, fC, _, q⟩
  subst e1
  have I2 : Inv X pins σ H' s' := I.call' (ch := fp) os un hok bare fun b hb => ⟨(hfp b hb).2.2.2.1, (hfp b hb).2.1, (hfp b hb).2.2.2.2.1, (hfp b hb).2.2.2.2.2⟩
  have old : ∀ b, b ∈ fp ∨ s.heap.get? b = none → X.s₀.heap.get? b = none := fun b hb => by
    rcases hb with hb | hb
    · rcases (hfp b hb).2.2.2.1 with z | z
      · rw [O.ex] at z; cases z
      · exact Heap.get?_none_of_le z
    · exact (O.base I).gone0 hb
  have oC : X.s₀.heap.get? C = none := Heap.get?_none_of_le (by rw [hC]; exact I.sz)
  have frC : ∀ b ∈ frs (X.env :: X.outer), b ≠ C := fun b hb z => by
    obtain ⟨_, ob, hob, _⟩ := (O.funs I).mem hb
    have := Heap.lt_size hob
    rw [z, hC] at this
    exact Nat.lt_irrefl _ this
  have hx : ∀ b, (b = e ∨ b = T) ∨ b = C → X.s₀.heap.get? b = none ∧ H' b = none := fun b hb => by
    rcases hb with (rfl | rfl) | rfl
    · exact ⟨old _ ne, fe⟩
    · exact ⟨old _ nT, fT⟩
    · exact ⟨oC, fC⟩
  have frx : ∀ {h : Heap}, h.FunFrames X.base (X.env :: X.outer) → ∀ {b : Addr} {o : Obj} {vs : Array Value}, h.get? b = some o → o.data = .fields vs → b ∉ frs (X.env :: X.outer) := fun {h} hl {b o vs} h1 h2 hb => by
    obtain ⟨_, ob, hob, no⟩ := hl.mem hb
    rw [h1] at hob
    cases hob
    exact no vs h2
  obtain ⟨oe, vs, oT, ts, g1, g2, g3, g4, g5, g6, g7, g8⟩ := f
  have eC : e ≠ C := fun z => by rw [z] at g1; exact ns_no_fields hm g1 g3
  have TC : T ≠ C := fun z => by rw [z] at g6; exact ns_no_fields hm g6 g7
  have ef := frx (O.funs I2) g1 g3
  have Tf := frx (O.funs I2) g6 g7
  have hlC : C < s'.heap.objs.size := hm.lt
  unfold notedBy
  rw [noteFrame_eq (env' := X.env) (show (compEnvC sc (closeL X.env sc.names []) C X.env).frame = X.env.frame from rfl)]
  refine nf_any (base := X.base) (O.frames I) (O.funs I2) O.frm ⟨oe, vs, oT, ts, g1, g2, g3, g4, g5, g6, g7, g8⟩ fun h1 T1 k1 f1 z1 => ?_
  have T1C : T1 ≠ C := by
    rcases z1 with z | z
    · rw [z]; exact TC
    · exact fun w => absurd hlC (by rw [← w]; exact Nat.not_lt.mpr z)
  have hm1 : h1.Ns C m := by
    obtain ⟨o, es, ep, q1, q2, q3, q4⟩ := hm
    exact ⟨o, es, ep, k1.keep C o q1 (fun z => frC C z rfl) (fun z => by
      rcases z with z | z
      · exact eC z.symm
      · exact TC z.symm), q2, q3, q4⟩
  have goal : ∀ h2, Heap.SameBut C h1 h2 → ∀ cenv : Env, cenv.locals = C → wpAny (model X.prog X.w) X.A (PySem.passOn "comprehension.variables-let-go" (.ref e) cenv : Sem Value) (fun _ _ => False) X.xe { s' with heap := h2 } := fun h2 sb cenv _ => by
    have f2 : FlyT e (.ref Cl) T1 (rawInt X.env.locals) h2 := by
      obtain ⟨oe, vs, oT, ts, g1, g2, g3, g4, g5, g6, g7, g8⟩ := f1
      exact ⟨oe, vs, oT, ts, (sb.2 e eC).trans g1, g2, g3, g4, g5, (sb.2 T1 T1C).trans g6, g7, g8⟩
    have k2 : Lk (frs (X.env :: X.outer)) (· = C) h1 h2 := ⟨fun b o q _ n => (sb.2 b n).trans q, fun b o q n => ⟨o.slots, (sb.2 b n).trans q⟩, Nat.le_of_eq sb.1.symm⟩
    have k12 : Lk (frs (X.env :: X.outer)) (fun b => (b = e ∨ b = T) ∨ b = C) s'.heap h2 := Lk.trans ⟨fun b o q f n => k1.keep b o q f fun z => n (.inl z), fun b o q n => k1.slot b o q fun z => n (.inl z), k1.size⟩ k2 fun x z => .inl (.inr z)
    unfold PySem.passOn
    refine wpAny_bind (f2.field (s := { s' with heap := h2 }) ?_)
    rw [if_neg (by simp)]
    refine wpAny_bind (sf_ok (s := { s' with heap := h2 }) f2 fun h3 k3 f3 => wpAny_throw ?_)
    have k13 : Lk (frs (X.env :: X.outer)) (fun b => (b = e ∨ b = T) ∨ b = C) s'.heap h3 := k12.trans (k3 _) fun x z => by
      rcases z1 with w | w
      · exact .inl (.inl (.inr (z.trans w)))
      · exact .inr (by rw [z]; exact w)
    have fl3 : h3.FunFrames X.base (X.env :: X.outer) := k13.funs (fun b hb z => by
      rcases z with (z | z) | z
      · exact ef (z ▸ hb)
      · exact Tf (z ▸ hb)
      · exact frC b hb z) (O.funs I2)
    refine O.xe _ _ (lv_any (s := { s' with heap := h3 }) (base := X.base) (O.frames I) fl3 O.frm f3 fun h4 T4 k4 f4 z4 => ?_)
    have T1x : ((T1 = e ∨ T1 = T) ∨ T1 = C) ∨ s'.heap.objs.size ≤ T1 := by
      rcases z1 with w | w
      · exact .inl (.inl (.inr w))
      · exact .inr w
    refine O.fin I2 (ex := fun b => (b = e ∨ b = T) ∨ b = C) (k13.trans k4 fun x z => by
      rcases z with z | z
      · exact .inl (.inl (.inl z))
      · rw [z]; exact T1x) f4 hx (.inl (.inl rfl)) (by
      rcases z4 with z | z
      · rw [z]; exact T1x
      · exact .inr (Nat.le_trans k13.size z)) q
  cases use with
  | none => exact ⟨m, hm1, goal⟩
  | some u => exact ⟨m, hm1, goal⟩
theorem passes_c {N' : List Str} {sc : Scope} {C : Addr} {s : Shared} {H : Hp} {fp : List Addr} : Passes (CXx X.prog X.w) (cxC X E N' sc C s H fp) E := by
  intro pins σ H1 s1 ev s' J ⟨e, Cl, H', e1, os, bare, un, hok, ⟨⟨T, f, q9, q10⟩, old, fe⟩, q⟩
  subst e1
  have J2 : Inv (cxC X E N' sc C s H fp) pins σ H' s' := J.call' (ch := []) os un hok bare fun _ z => nomatch z
  obtain ⟨m, hn, _⟩ := J2.loc
  obtain ⟨m1, hn1, _⟩ := J.loc
  have ad : ∀ b, s1.heap.get? b = none → b ∈ fp ∨ s.heap.get? b = none := fun b hb => J.base.gone hb
  refine ⟨e, Cl, H', rfl, J2.os, bare, J2.base, hok, ⟨⟨T, f, ad _ q9, q10⟩, ad _ old, fe⟩, ⟨m, hn⟩, J2.free, fun z => ?_, q⟩
  obtain ⟨_, _, _, q1, _⟩ := hn1
  have q1' : s1.heap.get? C = _ := q1
  rw [z, old] at q1'
  cases q1'
end
end L2
namespace L2
open PySem PySem.Spec PySem.Calls PyProof.Rows PySem.W
structure ExK (K : Frag) (D : Addr) : Prop where
  cls : (clsIn K D).isSome = true
  ga : findIn K (.ref D) "__getattribute__" = some (some (.builtin "BaseException.__getattribute__"))
  hk : findIn K (.ref D) "__getattr__" = some none
  ha : findIn K (.ref D) "__class__" = some (some (.builtin "object.__class__"))
  hn : specialIn K (.builtin "object.__class__") "__get__" = some (some (.builtin "getset_descriptor.__get__"))
  tk : takesIn K (.builtin "object.__class__") = some true
  hm : mroIn K D (.type "object") = some true
  hb : mroIn K D (.type "BaseException") = some true
section
variable {prog : Program} {w : World} {A : Around} {E : Value → Shared → Prop} {s : Shared} {K : Frag} {x D : Addr} {ox : Obj}
theorem ExK.find (k : ExK K D) : findObj K D none "__class__" = some (.bind (.builtin "getset_descriptor.__get__") (.builtin "object.__class__")) := by
  obtain ⟨cd, hc⟩ := Option.isSome_iff_exists.mp k.cls
  unfold findObj
  rw [hc, Option.bind_some, k.ha, Option.bind_some]
  simp [k.hn, k.tk]
theorem exc_ga_check {v : Value} {Q : Unit → Shared → Prop} (k : ExK K D) (X : K.In s.heap) (I : InstAt s.heap x ox D none) (h : Q () s) : wpAny (model prog w) A (checkBuiltinCall "BaseException.__getattribute__" ⟨[.ref x, v], []⟩) Q E s := by
  obtain ⟨hh, g, d, t, os⟩ := s
  have hk : builtinKind "BaseException.__getattribute__" = some .slot := by decide +kernel
  have hsplit : splitId "BaseException.__getattribute__" = some ("BaseException", "__getattribute__") := by decide +kernel
  have L0 := I.type (M := model prog w)
  have L1 := looks_mroIn (M := model prog w) X k.hb
  have ha := PySem.F.args_bexc_ga (.ref x) v
  simp only [checkBuiltinCall, hk, hsplit]
  unfold isInstance
  repeat lk
  exact h
theorem exc_ga {tk : Tok} {Q : Fin → Shared → Prop} (k : ExK K D) (X : K.In s.heap) (I : InstAt s.heap x ox D none) (h : Q (.done (.ret (.ref D))) s) :
    wpAny (model prog w) A (Builtin.«object.__getattribute__» ⟨[.ref x, .str "__class__" tk], []⟩) Q E s := by
  obtain ⟨hh, g, d, t, os⟩ := s
  have L0 := I.type (M := model prog w)
  have L1 := looks_find (M := model prog w) X I k.find
  unfold Builtin.«object.__getattribute__»
  repeat (first | with_reducible refine wpAny_call ?_ | lk)
  exact class_get (s := ⟨hh, g, d, t, os⟩) X I k.hm (wpAny_pure h)
theorem exc_class {Q : Option Value → Shared → Prop} (k : ExK K D) (X : K.In s.heap) (I : InstAt s.heap x ox D none) (h : Q (some (.ref D)) { s with toks := s.toks + 1 }) : wpAny (model prog w) A (getAttr? (.ref x) "__class__") Q E s := by
  obtain ⟨hh, g, d, t, os⟩ := s
  have L0 := I.type (M := model prog w)
  have L1 := looks_findIn (M := model prog w) X k.ga
  have L2 := looks_findIn (M := model prog w) X k.hk
  unfold getAttr? getAttrBy? getAttrBy
  refine wpAny_bind (wpAny_mkText (wpAny_bind (wpAny_attempt (wpAny_holding (wpAny_bind (L0.at (wpAny_bind (L1.at ?_))))))))
  dsimp only
  rw [if_neg (by rw [show (Value.builtin "BaseException.__getattribute__" == Value.builtin "object.__getattribute__") = false by decide +kernel, Bool.and_false]; exact Bool.false_ne_true)]
  unfold getAttrByItsOwn hookBefore
  rw [if_pos (show onTheHeap (Value.ref D) = true from rfl)]
  refine wpAny_bind (L2.at ?_)
  refine wpAny_bind (wpAny_attempt (wpAny_holding ?_))
  unfold callGetattribute boundAndCalled
  rw [if_neg (by simp)]
  have f3 := PySem.F.excAttr_ValueError.ga.bind (.ref x)
  rw [f3]
  refine wpAny_bind (wpAny_pure (wpAny_call (codeAny_call_builtin PySem.F.excAttr_ValueError.ga.plain PySem.F.entry_bexc_ga (exc_ga_check k X I (exc_ga k X I ?_)))))
  exact handed_on rfl (wpAny_pure h)
theorem kitx_exc (k : ExK K D) : KitX K (.ref x) (.ref D) (fun h => InstAt h x ox D none) where
  ty := fun _ _ _ I => I.type
  it := fun _ _ X _ => by
    obtain ⟨cd, hc⟩ := Option.isSome_iff_exists.mp k.cls
    unfold clsIn at hc
    split at hc
    · rename_i ho
      intro A' Q' E' s' k q
      unfold isType loadHead
      exact wpAny_bind (wpAny_loadPart (k _ _ (X _ _ ho)) (wpAny_pure q))
    · cases hc
  ne := fun h tp dd its n sl X htp => by
    obtain ⟨cd, hc⟩ := Option.isSome_iff_exists.mp k.cls
    refine Bool.eq_false_iff.mpr fun q => ?_
    have e : D = tp := Value.ref.inj (beq_iff_eq.mp q)
    subst e
    unfold clsIn at hc
    split at hc
    · rename_i ho
      have z := (X _ _ ho).symm.trans htp
      cases z
    · cases hc
  ca := fun X I q => exc_class k X I q
end
end L2
namespace L2
open PySem PySem.Spec PyProof.Rows
section
variable {X : Cx} {pins : List (Addr × Obj)} {σ σ' : St} {H : Hp} {s : Shared}
theorem Inv.lk {ex : Addr → Prop} {h' : Heap} {t' : Nat} (I : Inv X pins σ H s) (k : Lk (frs X.stack) ex s.heap h') (hx : ∀ b, ex b → X.s₀.heap.get? b = none ∧ H b = none ∧ (∀ x c, X.env.cells.lookup x = some c → c ≠ b) ∧ ∀ p ∈ X.pn ++ pins, p.1 ≠ b)
    (hl : ∃ m, h'.Ns X.env.locals m ∧ ∀ (i : Nat) (x : Str) (v : V), X.N[i]? = some x → σ'[i]? = some (some v) → Vis X.env.scope x → ∃ u, RelV v u ∧ Look X.env h' m x u) (hn : σ'.length = σ.length) : Inv X pins σ' H { s with heap := h', toks := t' } := by
  refine ⟨I.ok, I.os, I.bare, I.base.lk k (fun b hb => ?_) (fun b hb => .inr (hx b hb).1), hl, fun x c e => ?_, I.free, I.freeC, fun p hp => ?_, I.hok.lk k I.stkFree fun b hb => (hx b hb).2.1, hn.trans I.len⟩
  · rcases List.mem_cons.mp (I.stkSub b hb) with z | z
    · rw [z]; exact .inr (Heap.get?_none_of_le I.ok.above)
    · exact .inl z
  · obtain ⟨v, o, ho, hd⟩ := I.cell x c e
    obtain ⟨sl, e1⟩ := k.slot c o ho fun z => (hx c z).2.2.1 x c e rfl
    exact ⟨v, _, e1, hd⟩
  · obtain ⟨e1, e2, e3, e4, e5⟩ := I.pin p hp
    refine ⟨k.keep _ _ e1 (fun z => ?_) (fun z => (hx _ z).2.2.2 p hp rfl), e2, e3, e4, e5⟩
    rcases List.mem_cons.mp (I.stkSub _ z) with z | z
    · exact e3 z
    · exact e4 z
theorem Inv.lk0 {ex : Addr → Prop} {h' : Heap} (I : Inv X pins σ H s) (k : Lk (frs X.stack) ex s.heap h') (hx : ∀ b, ex b → X.s₀.heap.get? b = none ∧ H b = none ∧ b ≠ X.env.locals ∧ (∀ x c, X.env.cells.lookup x = some c → c ≠ b) ∧ ∀ p ∈ X.pn ++ pins, p.1 ≠ b) : Inv X pins σ H { s with heap := h' } := by
  refine I.lk (t' := s.toks) k (fun b hb => ⟨(hx b hb).1, (hx b hb).2.1, (hx b hb).2.2.2⟩) ?_ rfl
  obtain ⟨m, ⟨o, es, ep, q1, q2, q3, q4⟩, hl⟩ := I.loc
  obtain ⟨sl, e1⟩ := k.slot _ o q1 fun z => (hx _ z).2.2.1 rfl
  refine ⟨m, ⟨_, es, ep, e1, q2, q3, q4⟩, fun i x v h1 h2 h3 => ?_⟩
  obtain ⟨u, ru, lk⟩ := hl i x v h1 h2 h3
  refine ⟨u, ru, ?_⟩
  rcases lk with z | ⟨z1, c, z2, oc, z3, z4⟩
  · exact .inl z
  · obtain ⟨sl, e2⟩ := k.slot c oc z3 fun z => (hx c z).2.2.2.1 x c z2 rfl
    exact .inr ⟨z1, c, z2, _, e2, z4⟩
abbrev Cx.hnd (X : Cx) (e : Addr) (oe : Obj) : Cx := { X with A := X.A.mark (some (.ref e)), calm := false, pn := (e, oe) :: X.pn, xe := fun _ _ => False }
theorem Inv.hnd {e : Addr} {oe : Obj} (I : Inv X pins σ H s) (h1 : s.heap.get? e = some oe) (h2 : H e = none) (h3 : e ≠ X.env.locals) (h4 : e ∉ X.fs) (h5 : ∀ v, oe.data ≠ .cell v) : Inv (X.hnd e oe) pins σ H s :=
  ⟨⟨I.ok.mod, I.ok.kind, I.ok.glob, I.ok.blt, I.ok.above, I.ok.inj, I.ok.has, I.ok.cab, (fun z => nomatch z), I.ok.frames, I.ok.stk, I.ok.exf, I.ok.bs, I.ok.bsz, I.ok.noex, I.ok.exfs, I.ok.funs, I.ok.frf⟩, I.os, I.bare, I.base, I.loc, I.cell, I.free, I.freeC, (fun p hp => by
    rcases List.mem_cons.mp (show p ∈ (e, oe) :: (X.pn ++ pins) from hp) with rfl | hp
    · exact ⟨h1, h2, h3, h4, h5⟩
    · exact I.pin p hp), I.hok, I.len⟩
theorem Inv.unhnd {e : Addr} {oe : Obj} (ok : X.Ok) (I : Inv (X.hnd e oe) pins σ H s) : Inv X pins σ H s := ⟨ok, I.os, I.bare, I.base, I.loc, I.cell, I.free, I.freeC, fun p hp => I.pin p (List.mem_cons_of_mem _ hp), I.hok, I.len⟩
theorem name_goes {M : Model} {A : Around} {E : Value → Shared → Prop} {i : Nat} {n : Str} {pos : Pos} {Q : Unit → Shared → Prop} (I : Inv X pins σ H s) (hN : X.N.Nodup) (hi : X.N[i]? = some n) (hl : X.env.scope.names.lookup n = some .local) (q : ∀ s', Inv X pins (σ.set i none) H s' → Q () s') :
    wpAny M A (do bindName X.env n .none; unbindBehindTheSuite X.env n pos) Q E s := by
  obtain ⟨m, hn, lk⟩ := I.loc
  have hcls : (X.env.scope.kind == .class || (X.env.scope.kind == .module && X.env.locals != X.env.globals)) = false := by rw [I.ok.kind]; rfl
  refine wpAny_nameGoes_keeps hl hn hcls fun h' v hn' hs => q _ ?_
  refine I.lk (ex := (· = X.env.locals)) (t' := s.toks + 1) ⟨fun b o q _ n => (hs.2 b n).trans q, fun b o q n => ⟨o.slots, (hs.2 b n).trans q⟩, Nat.le_of_eq hs.1.symm⟩ (fun b hb => ?_) ⟨_, hn', fun j x v' h1 h2 h3 => ?_⟩ (List.length_set ..)
  · rw [hb]
    exact ⟨Heap.get?_none_of_le I.ok.above, I.free, I.cne, fun p hp => (I.pin p hp).2.2.1⟩
  · by_cases hj : j = i
    · subst hj
      rw [List.getElem?_set_self (by rw [I.len]; exact (List.getElem?_eq_some_iff.mp hi).1)] at h2
      cases h2
    · rw [List.getElem?_set_ne (Ne.symm hj)] at h2
      obtain ⟨u, ru, z⟩ := lk j x v' h1 h2 h3
      refine ⟨u, ru, ?_⟩
      rcases z with ⟨z1, z2⟩ | ⟨z1, c, z2, oc, z3, z4⟩
      · refine .inl ⟨z1, ?_⟩
        show (if x = n then v else m x) = some u
        rw [if_neg fun e => hj (by
          subst e
          obtain ⟨b1, c1⟩ := List.getElem?_eq_some_iff.mp h1
          obtain ⟨b2, c2⟩ := List.getElem?_eq_some_iff.mp hi
          exact (List.getElem_inj hN).mp (c1.trans c2.symm))]
        exact z2
      · exact .inr ⟨z1, c, z2, oc, (hs.2 c (I.cne x c z2)).trans z3, z4⟩
def PX (X : Cx) (e : Expr) (t : XK → TE) : Prop := ∀ (pins : List (Addr × Obj)) (s : Shared) (σ : St) (H : Hp) (Q : VK) (E : XK), Inv X pins σ H s → t E σ H Q →
  wpAny (model X.prog X.w) X.A (eval e X.env) (EP X pins σ Q) (fun ev s' => ∃ H1 s1, Inv X pins σ H1 s1 ∧ CXx X.prog X.w X.stack H1 s1 E ev s') s
end
section
variable {X : Cx} {k : Nat} {f C D : Addr} {fd : FuncData} {ps : List Str} {sp : Sp} {x n : Str} {p pos np hpos tpos : Pos} {e ce : Expr} {es : List Expr} {t : TA}
theorem px_call (F : FnOk X.prog X.w X.K X.mg X.base (CXx X.prog X.w) k f fd ps sp) (hr : Room k X.A) (hg : Gl X x) (hm : X.mg x = some (.ref f)) (hk : PySem.W.keepIn X.K (.ref f) = true) (hb : Binds X.K fd ps [])
    (ha : PA X.nox (e :: es) t) (hdb : (x == ("__debug__" : Str)) = false := by decide) (he : starEach (e :: es) X.env = (false, eval e X.env) :: starEach es X.env := by rfl) (hpl : (backTo pos (starEach es X.env)).any (·.1) = false := by rfl) :
    PX X (.Call (.Name x p) (e :: es) [] pos) (fun E => tCall sp [] E t) := by
  intro pins s σ H Q E I h
  refine wpAny_Call_Name_kw (ld_glob I hg hm ?_ hdb)
  refine PySem.W.callWith_K (h₀ := X.base) I.ok.mod.kin hk (wpAny_mono (ha pos pins s σ H _ (I.wish _) h) (fun us s1 ⟨vs, H1, I1, r, q⟩ => ⟨I1.kIn, ?_⟩) fun _ _ z => False.elim z) he hpl
  have I1 := I1.unwish
  have q : sp (vs ++ []) H1 Q E := q
  rw [List.append_nil] at q
  have hl : us.length = ps.length := by rw [← r.length]; exact F.len _ _ _ _ q
  refine wpAny_call (codeAny_mono (F.run X.A X.stack s1 H1 ⟨us, []⟩ us vs Q E hr I1.env0 (by simpa using hb s1 us I1.kIn (by simpa using hl)) r q) fun r s' hq => ?_)
  cases r with
  | error e => exact ⟨H1, s1, I1, hq⟩
  | ok fl =>
    cases fl with
    | ret u => exact I1.after hq
    | next => exact False.elim hq
    | brk => exact False.elim hq
    | cont => exact False.elim hq
def tTry (C : Addr) (i : Nat) (tc : XK → TE) (th : Addr → TS) : TS := fun D σ H => ∃ E : XK, tc E σ H (fun _ H1 => D.nx σ H1) ∧ ∀ c H', E c none H' → c = .ref C ∧ ∀ e, H' e = none →
  th e { nx := fun σ' H'' => D.nx (σ'.set i none) H'', rt := D.rt, bk := fun σ' H'' => D.bk (σ'.set i none) H'', ct := fun σ' H'' => D.ct (σ'.set i none) H'' } (σ.set i (some (.ref e))) H'
theorem ps_try {b₀ : Stmt} {suite : List Stmt} {i : Nat} {tc : XK → TE} {th : Addr → TS} (hst : X.stack = X.env :: X.outer) (hex : X.ex = []) (hfm : X.env.frame = some X.env.locals) (hb : PX X ce tc) (hg : Gl X x) (hm : X.mg x = some (.ref D)) (hD : PySem.W.exmOne X.K (.ref C) (.ref D) = some true)
    (hN : X.N.Nodup) (hi : X.N[i]? = some n) (hl : X.env.scope.names.lookup n = some .local) (hh : ∀ e oe, oe.cls = .ref C → oe.dict = none → PySem.W.notCls oe = true → PSs (X.hnd e oe) (b₀ :: suite) (th e))
    (hs : swapsWith ce none pos.line X.env = pure false := by rfl) (hd : (x == ("__debug__" : Str)) = false := by decide) :
    PS X (.Try [.Expr ce pos] [.ExceptHandler (some (.Name x np)) (some n) (b₀ :: suite) hpos] [] [] tpos) (tTry C i tc th) := by
  intro pins s σ H D' I ⟨E, hc, hE⟩
  refine wpAny_Try_except (wpAny_execs_cons (wpAny_Expr_any (wpAny_mono (hb pins s σ H _ E I hc) (fun v s1 ⟨y, H1, I1, r1, q1⟩ => wpAny_execs_nil (wpAny_execs_nil ⟨σ, H1, I1, q1⟩)) fun ev s' q => ?_) I.quiet hs))
  obtain ⟨H1, s1, I1, e, C', H', rfl, os, bare, un, hok, ⟨⟨T, f, nT, fT⟩, ne, fe⟩, q⟩ := q
  obtain ⟨hC, hth⟩ := hE _ _ q
  cases hC
  have I2 : Inv X pins σ H' s' := I1.call' (ch := []) os un hok bare fun _ z => nomatch z
  have fr : X.A.frames = some (X.env :: X.outer) := by rw [← hst]; exact I.ok.frames
  have fl : s'.heap.FunFrames X.base (X.env :: X.outer) := by rw [← hst]; exact I2.stack
  have young : ∀ b, s1.heap.get? b = none → H' b = none → X.s₀.heap.get? b = none ∧ H' b = none ∧ b ≠ X.env.locals ∧ (∀ x c, X.env.cells.lookup x = some c → c ≠ b) ∧ ∀ p ∈ X.pn ++ pins, p.1 ≠ b := fun b h1 h2 => by
    refine ⟨?_, h2, fun z => ?_, fun x c hx z => ?_, fun p hp z => ?_⟩
    · cases q0 : X.s₀.heap.get? b with
      | none => rfl
      | some o =>
        obtain ⟨o', e'⟩ := I1.base.there b o q0 (by rw [hex]; exact List.not_mem_nil)
        rw [h1] at e'; cases e'
    · obtain ⟨m, ⟨o, _, _, e', _⟩, _⟩ := I1.loc
      rw [z, e'] at h1; cases h1
    · obtain ⟨v, o, e', _⟩ := I1.cell x c hx
      rw [z, h1] at e'; cases e'
    · have e' := (I1.pin p hp).1
      rw [z, h1] at e'; cases e'
  refine nf_any (base := X.base) fr fl hfm f fun h1 T1 k1 f1 z1 => sf_ok (s := { s' with heap := h1 }) f1 fun h2 k2 f2 => ?_
  have yT : ∀ b, b = e ∨ b = T → X.s₀.heap.get? b = none ∧ H' b = none ∧ b ≠ X.env.locals ∧ (∀ x c, X.env.cells.lookup x = some c → c ≠ b) ∧ ∀ p ∈ X.pn ++ pins, p.1 ≠ b := fun b hb => by
    rcases hb with rfl | rfl
    · exact young _ ne fe
    · exact young _ nT fT
  have tk : ∀ b, b = T1 → (b = e ∨ b = T) ∨ s'.heap.objs.size ≤ b := fun b hb => by
    rw [hb]
    rcases z1 with z | z
    · exact .inl (.inr z)
    · exact .inr z
  have k12 := k1.trans (k2 _) tk
  have I3 : Inv X pins σ H' { s' with heap := h2 } := I2.lk0 (by rw [hst]; exact k12) yT
  have mk : ∀ {h : Heap}, FlyT e (.ref C) T1 .none h → Inv X pins σ H' { s' with heap := h } → ∃ oe, oe.cls = .ref C ∧ oe.dict = none ∧ PySem.W.notCls oe = true ∧ Inv (X.hnd e oe) pins σ H' { s' with heap := h } := fun {h} f I => by
    obtain ⟨oe, vs, _, _, g1, g2, g3, _⟩ := f
    refine ⟨oe, g2.1, g2.2, by unfold PySem.W.notCls; rw [g3], I.hnd g1 fe (young e ne fe).2.2.1 (fun z => ?_) (fun v => by rw [g3]; exact fun z => nomatch z)⟩
    obtain ⟨_, ob, hob, no⟩ := I.funs.mem z
    have hob' : h.get? e = some ob := hob
    rw [g1] at hob'
    cases hob'
    exact no vs g3
  obtain ⟨oe, c1, c2, c3, J3⟩ := mk f2 I3
  refine wpAny_handleBy_cons (codeAny_handlers_test (ld_glob (X := X.hnd e oe) J3 hg hm ?_ hd)) (by intro q; cases q)
  have LT : PySem.W.Looks (model X.prog X.w) h2 (typeOf (.ref e)) (.ref C) := by
    have he := (J3.pin (e, oe) (.head _)).1
    exact c1 ▸ (PySem.W.Looks.ld he).andThen .now
  refine (PySem.W.exm_one I3.kIn LT hD).at ?_
  refine codeAny_handlers_suite_as ?_
  refine sf_ok (s := { s' with heap := h2 }) f2 fun h3 k3 f3 => ?_
  have I4 : Inv X pins σ H' { s' with heap := h3 } := I2.lk0 (by rw [hst]; exact k12.trans (k3 _) tk) yT
  obtain ⟨oe, c1, c2, c3, J4⟩ := mk f3 I4
  refine store_ok (X := X.hnd e oe) J4 hN hi (.inl hl) (v := .ref e) rfl (fun s5 J5 => ?_) (.inr hl)
  refine wpAny_mono (hh e oe c1 c2 c3 pins s5 _ H' _ J5 (hth e fe)) (fun fl s6 q6 => ?_) fun _ _ z => False.elim z
  cases fl with
  | next =>
    obtain ⟨σ6, H6, J6, q⟩ := q6
    exact name_goes (J6.unhnd I.ok) hN hi hl fun s7 I7 => ⟨_, H6, I7, q⟩
  | brk =>
    obtain ⟨σ6, H6, J6, q⟩ := q6
    exact name_goes (J6.unhnd I.ok) hN hi hl fun s7 I7 => ⟨_, H6, I7, q⟩
  | cont =>
    obtain ⟨σ6, H6, J6, q⟩ := q6
    exact name_goes (J6.unhnd I.ok) hN hi hl fun s7 I7 => ⟨_, H6, I7, q⟩
  | ret u =>
    obtain ⟨v, σ6, H6, J6, r6, q⟩ := q6
    exact name_goes (J6.unhnd I.ok) hN hi hl fun s7 I7 => ⟨v, _, H6, I7, r6, q⟩
end
end L2
namespace L3
open PySem PySem.Spec PyProof.Rows L2
inductive Z where
  | non | bl (b : Bool) | int (i : Int) | str (x : Str) | ref (a : Addr) | ty (n : String) | scr (a : Addr) (ns : List Int)
  | tup (ws : List Z)
mutual
def eqZ : Z → Z → Bool
  | .non, .non => true
  | .bl a, .bl b => a == b
  | .int a, .int b => decide (a = b)
  | .str a, .str b => decide (a = b)
  | .ref a, .ref b => decide (a = b)
  | .ty a, .ty b => decide (a = b)
  | .scr a ns, .scr b ms => decide (a = b) && decide (ns = ms)
  | .tup a, .tup b => eqZs a b
  | _, _ => false
def eqZs : List Z → List Z → Bool
  | [], [] => true
  | a :: as, b :: bs => eqZ a b && eqZs as bs
  | _, _ => false
end
mutual
theorem eqZ_iff : ∀ x y : Z, eqZ x y = true ↔ x = y
  | .tup a, y => by
    cases y with
    | tup b => simp only [eqZ, Z.tup.injEq]; exact eqZs_iff a b
    | _ => simp [eqZ]
  | .non, y => by cases y <;> simp [eqZ]
  | .bl _, y => by cases y <;> simp [eqZ]
  | .int _, y => by cases y <;> simp [eqZ]
  | .str _, y => by cases y <;> simp [eqZ]
  | .ref _, y => by cases y <;> simp [eqZ]
  | .ty _, y => by cases y <;> simp [eqZ]
  | .scr _ _, y => by cases y <;> simp [eqZ]
theorem eqZs_iff : ∀ x y : List Z, eqZs x y = true ↔ x = y
  | [], y => by cases y <;> simp [eqZs]
  | a :: as, y => by
    cases y with
    | nil => simp [eqZs]
    | cons b bs => simp only [eqZs, Bool.and_eq_true, List.cons.injEq, eqZ_iff a b, eqZs_iff as bs]
end
instance : DecidableEq Z := fun x y => decidable_of_iff _ (eqZ_iff x y)
section
variable {K : PySem.W.Frag} {H H' H1 H2 : Hp} {a p : Addr} {xs : List V}
def Fz (K : PySem.W.Frag) (H : Hp) (a : Addr) (xs : List V) : Prop :=
  (∃ o, H a = some (.frz o (.lst xs))) ∨ ∃ (o : Obj) (its : Array Value) (n : Nat), K.lookup a = some o ∧ o.cls = .type "list" ∧ o.dict = none ∧ o.data = .seq its n ∧ its.size ≤ sizeLine ∧ Vals xs its.toList
theorem Fz.sq (h : Fz K H a xs) : SqL K H a xs := by
  rcases h with ⟨o, h⟩ | h
  · exact .inl (.inr ⟨o, h⟩)
  · exact .inr h
theorem Fz.of (hO : Only H) (h : SqL K H a xs) : Fz K H a xs := by
  rcases h with (h | h) | h
  · rcases hO a with z | ⟨o, ys, z⟩
    · rw [h] at z; cases z
    · rw [h] at z; cases z
  · exact .inl h
  · exact .inr h
structure TK (K : PySem.W.Frag) (H H' : Hp) : Prop where
  tup : ∀ a xs, H a = some (.tup xs) → H' a = some (.tup xs)
  frz : ∀ a xs, Fz K H a xs → Fz K H' a xs
theorem TK.refl (K : PySem.W.Frag) (H : Hp) : TK K H H := ⟨fun _ _ h => h, fun _ _ h => h⟩
theorem TK.trans (a : TK K H H1) (b : TK K H1 H2) : TK K H H2 := ⟨fun c xs h => b.tup c xs (a.tup c xs h), fun c xs h => b.frz c xs (a.frz c xs h)⟩
theorem TK.upd {o : HO} (h : ∀ xs, H p ≠ some (.tup xs)) (h2 : ∀ o u, H p ≠ some (.frz o u)) : TK K H (L2.upd H p o) := by
  refine ⟨fun c xs e => ?_, fun c xs e => ?_⟩
  · rw [upd_ne (by rintro rfl; exact h _ e)]; exact e
  · rcases e with ⟨o', e⟩ | e
    · exact .inl ⟨o', by rw [upd_ne (by rintro rfl; exact h2 _ _ e)]; exact e⟩
    · exact .inr e
theorem TK.new {o : HO} (h : H p = none) : TK K H (L2.upd H p o) := .upd (fun xs e => by rw [h] at e; cases e) (fun o u e => by rw [h] at e; cases e)
theorem TK.lst {o : HO} (h : H p = some (.lst xs)) : TK K H (L2.upd H p o) := .upd (fun xs e => by rw [h] at e; cases e) (fun o u e => by rw [h] at e; cases e)
theorem TK.dK {o : HO} {kvs : List (Key × V)} (h : H p = some (.dK kvs)) : TK K H (L2.upd H p o) := .upd (fun xs e => by rw [h] at e; cases e) (fun o u e => by rw [h] at e; cases e)
theorem TK.ins {o : HO} {C dx : Addr} {fs : List (Str × V)} (h : H p = some (.ins C dx fs)) : TK K H (L2.upd H p o) := .upd (fun xs e => by rw [h] at e; cases e) (fun o u e => by rw [h] at e; cases e)
end
mutual
def Rep (K : PySem.W.Frag) (H : Hp) : Z → V → Prop
  | .non, v => v = .non
  | .bl b, v => v = .bl b
  | .int i, v => v = .int i
  | .str x, v => v = .str x
  | .ref a, v => v = .ref a
  | .ty n, v => v = .ty n
  | .scr a ns, v => v = .ref a ∧ Fz K H a (ns.map V.int)
  | .tup ws, v => ∃ a vs, v = .ref a ∧ H a = some (.tup vs) ∧ Reps K H ws vs
def Reps (K : PySem.W.Frag) (H : Hp) : List Z → List V → Prop
  | [], vs => vs = []
  | w :: ws, vs => ∃ v r, vs = v :: r ∧ Rep K H w v ∧ Reps K H ws r
end
section
variable {K : PySem.W.Frag} {H H' : Hp}
theorem rep_non {v : V} : Rep K H .non v = (v = .non) := by unfold Rep; rfl
theorem rep_bl {b : Bool} {v : V} : Rep K H (.bl b) v = (v = .bl b) := by unfold Rep; rfl
theorem rep_int {i : Int} {v : V} : Rep K H (.int i) v = (v = .int i) := by unfold Rep; rfl
theorem rep_str {x : Str} {v : V} : Rep K H (.str x) v = (v = .str x) := by unfold Rep; rfl
theorem rep_ref {a : Addr} {v : V} : Rep K H (.ref a) v = (v = .ref a) := by unfold Rep; rfl
theorem rep_ty {n : String} {v : V} : Rep K H (.ty n) v = (v = .ty n) := by unfold Rep; rfl
theorem rep_scr {a : Addr} {ns : List Int} {v : V} : Rep K H (.scr a ns) v = (v = .ref a ∧ Fz K H a (ns.map V.int)) := by unfold Rep; rfl
theorem rep_tup {ws : List Z} {v : V} : Rep K H (.tup ws) v = (∃ a vs, v = .ref a ∧ H a = some (.tup vs) ∧ Reps K H ws vs) := by conv => lhs; unfold Rep
theorem reps_nil {vs : List V} : Reps K H [] vs = (vs = []) := by unfold Reps; rfl
theorem reps_cons {w : Z} {ws : List Z} {vs : List V} : Reps K H (w :: ws) vs = (∃ v r, vs = v :: r ∧ Rep K H w v ∧ Reps K H ws r) := by conv => lhs; unfold Reps
mutual
theorem Rep.mono (t : TK K H H') : ∀ (w : Z) (v : V), Rep K H w v → Rep K H' w v
  | .tup ws, v, h => by
    rw [rep_tup] at h ⊢
    obtain ⟨a, vs, e, h, r⟩ := h
    exact ⟨a, vs, e, t.tup _ _ h, Reps.mono t ws vs r⟩
  | .scr a ns, v, h => by
    rw [rep_scr] at h ⊢
    exact ⟨h.1, t.frz _ _ h.2⟩
  | .non, v, h => by rw [rep_non] at h ⊢; exact h
  | .bl _, v, h => by rw [rep_bl] at h ⊢; exact h
  | .int _, v, h => by rw [rep_int] at h ⊢; exact h
  | .str _, v, h => by rw [rep_str] at h ⊢; exact h
  | .ref _, v, h => by rw [rep_ref] at h ⊢; exact h
  | .ty _, v, h => by rw [rep_ty] at h ⊢; exact h
theorem Reps.mono (t : TK K H H') : ∀ (ws : List Z) (vs : List V), Reps K H ws vs → Reps K H' ws vs
  | [], vs, h => by rw [reps_nil] at h ⊢; exact h
  | w :: ws, vs, h => by
    rw [reps_cons] at h ⊢
    obtain ⟨v, r, e, h1, h2⟩ := h
    exact ⟨v, r, e, Rep.mono t w v h1, Reps.mono t ws r h2⟩
end
theorem Reps.cons {w : Z} {v : V} {ws : List Z} {vs : List V} (a : Rep K H w v) (b : Reps K H ws vs) : Reps K H (w :: ws) (v :: vs) := by rw [reps_cons]; exact ⟨v, vs, rfl, a, b⟩
theorem Reps.nil : Reps K H [] [] := by rw [reps_nil]
theorem Reps.length : ∀ {ws : List Z} {vs : List V}, Reps K H ws vs → ws.length = vs.length
  | [], vs, h => by rw [reps_nil] at h; rw [h]; rfl
  | w :: ws, vs, h => by
    rw [reps_cons] at h
    obtain ⟨v, r, e, _, h2⟩ := h
    rw [e, List.length_cons, List.length_cons, Reps.length h2]
theorem Reps.get : ∀ {ws : List Z} {vs : List V} {i : Nat} {w : Z}, Reps K H ws vs → ws[i]? = some w → ∃ v, vs[i]? = some v ∧ Rep K H w v
  | [], _, _, _, _, e => by simp at e
  | w :: ws, vs, i, x, h, e => by
    rw [reps_cons] at h
    obtain ⟨v, r, rfl, h1, h2⟩ := h
    cases i with
    | zero => simp at e; subst e; exact ⟨v, rfl, h1⟩
    | succ i => simpa using Reps.get (i := i) h2 (by simpa using e)
theorem Reps.tog {ws : List Z} {vs : List V} {i : Nat} {v : V} (h : Reps K H ws vs) (e : vs[i]? = some v) : ∃ w, ws[i]? = some w ∧ Rep K H w v := by
  have hl := h.length
  have hi : i < ws.length := by
    have := (List.getElem?_eq_some_iff.mp e).1
    omega
  obtain ⟨v', e', r⟩ := h.get (List.getElem?_eq_getElem hi)
  rw [e] at e'
  cases e'
  exact ⟨_, List.getElem?_eq_getElem hi, r⟩
theorem Reps.append : ∀ {ws ws' : List Z} {vs vs' : List V}, Reps K H ws vs → Reps K H ws' vs' → Reps K H (ws ++ ws') (vs ++ vs')
  | [], _, vs, _, h, h' => by rw [reps_nil] at h; subst h; exact h'
  | w :: ws, _, vs, _, h, h' => by
    rw [reps_cons] at h
    obtain ⟨v, r, rfl, h1, h2⟩ := h
    exact .cons h1 (Reps.append h2 h')
theorem Reps.drop : ∀ {ws : List Z} {vs : List V} (n : Nat), Reps K H ws vs → Reps K H (ws.drop n) (vs.drop n)
  | [], vs, n, h => by rw [reps_nil] at h; subst h; simpa using Reps.nil
  | w :: ws, vs, 0, h => h
  | w :: ws, vs, n + 1, h => by
    rw [reps_cons] at h
    obtain ⟨v, r, rfl, h1, h2⟩ := h
    exact Reps.drop n h2
theorem Reps.take : ∀ {ws : List Z} {vs : List V} (n : Nat), Reps K H ws vs → Reps K H (ws.take n) (vs.take n)
  | [], vs, n, h => by rw [reps_nil] at h; subst h; simpa using Reps.nil
  | w :: ws, vs, 0, h => by simpa using Reps.nil
  | w :: ws, vs, n + 1, h => by
    rw [reps_cons] at h
    obtain ⟨v, r, rfl, h1, h2⟩ := h
    exact .cons h1 (Reps.take n h2)
theorem Reps.set {w : Z} {v : V} (r : Rep K H w v) : ∀ {ws : List Z} {vs : List V} (i : Nat), Reps K H ws vs → Reps K H (ws.set i w) (vs.set i v)
  | [], vs, i, h => by rw [reps_nil] at h; subst h; simpa using Reps.nil
  | x :: ws, vs, i, h => by
    rw [reps_cons] at h
    obtain ⟨y, s, rfl, h1, h2⟩ := h
    cases i with
    | zero => exact .cons r h2
    | succ i => exact .cons h1 (Reps.set r i h2)
theorem Reps.reverse : ∀ {ws : List Z} {vs : List V}, Reps K H ws vs → Reps K H ws.reverse vs.reverse
  | [], vs, h => by rw [reps_nil] at h; subst h; exact Reps.nil
  | x :: ws, vs, h => by
    rw [reps_cons] at h
    obtain ⟨y, s, rfl, h1, h2⟩ := h
    rw [List.reverse_cons, List.reverse_cons]
    exact (Reps.reverse h2).append (.cons h1 .nil)
theorem ints_reps : ∀ (ns : List Int), Reps K H (ns.map Z.int) (ns.map V.int)
  | [] => Reps.nil
  | n :: ns => .cons (by rw [rep_int]) (ints_reps ns)
theorem Reps.one {w : Z} {vs : List V} (h : Reps K H [w] vs) : ∃ v, vs = [v] ∧ Rep K H w v := by
  rw [reps_cons] at h
  obtain ⟨v, r, rfl, h1, h2⟩ := h
  rw [reps_nil] at h2
  exact ⟨v, by rw [h2], h1⟩
theorem Reps.two {w w' : Z} {vs : List V} (h : Reps K H [w, w'] vs) : ∃ v v', vs = [v, v'] ∧ Rep K H w v ∧ Rep K H w' v' := by
  rw [reps_cons] at h
  obtain ⟨v, r, rfl, h1, h2⟩ := h
  obtain ⟨v', rfl, h3⟩ := h2.one
  exact ⟨v, v', rfl, h1, h3⟩
end
inductive O where
  | lst (ws : List Z)
  | dK (kvs : List (Key × Z))
  | ins (C dx : Addr) (fs : List (Str × Z))
abbrev Hq := Addr → Option O
def put (G : Hq) (a : Addr) (o : O) : Hq := fun b => if b = a then some o else G b
theorem put_same {G : Hq} {a : Addr} {o : O} : put G a o a = some o := by unfold put; rw [if_pos rfl]
theorem put_ne {G : Hq} {a b : Addr} {o : O} (h : b ≠ a) : put G a o b = G b := by unfold put; rw [if_neg h]
theorem put_put {G : Hq} {a : Addr} {o u : O} : put (put G a o) a u = put G a u := by
  funext b; unfold put; split <;> rfl
theorem gne_none {G : Hq} {a b : Addr} {o : O} (h : G a = some o) (h' : G b = none) : a ≠ b := by
  intro e; subst e; rw [h] at h'; cases h'
theorem put_old {G : Hq} {a b : Addr} {o u : O} (h : G b = some u) (n : G a = none) : put G a o b = some u := by rw [put_ne (gne_none h n)]; exact h
def ROb (K : PySem.W.Frag) (H : Hp) (a : Addr) : O → Prop
  | .lst ws => ∃ vs, H a = some (.lst vs) ∧ Reps K H ws vs
  | .dK kvs => ∃ us, H a = some (.dK us) ∧ us.map (·.1) = kvs.map (·.1) ∧ Reps K H (kvs.map (·.2)) (us.map (·.2))
  | .ins C dx fs => ∃ gs, H a = some (.ins C dx gs) ∧ gs.map (·.1) = fs.map (·.1) ∧ Reps K H (fs.map (·.2)) (gs.map (·.2))
def RH (K : PySem.W.Frag) (G : Hq) (H : Hp) : Prop := ∀ a o, G a = some o → ROb K H a o
section
variable {K : PySem.W.Frag} {H H' : Hp} {G : Hq} {a p : Addr} {o : O} {u : HO}
theorem ROb.some (h : ROb K H a o) : ∃ u, H a = some u := by
  cases o with
  | lst ws => obtain ⟨vs, e, _⟩ := h; exact ⟨_, e⟩
  | dK kvs => obtain ⟨vs, e, _⟩ := h; exact ⟨_, e⟩
  | ins C dx fs => obtain ⟨vs, e, _⟩ := h; exact ⟨_, e⟩
theorem ROb.stay (t : TK K H H') (e : H' a = H a) (h : ROb K H a o) : ROb K H' a o := by
  cases o with
  | lst ws => obtain ⟨vs, q, r⟩ := h; exact ⟨vs, e.trans q, r.mono t⟩
  | dK kvs => obtain ⟨vs, q, n, r⟩ := h; exact ⟨vs, e.trans q, n, r.mono t⟩
  | ins C dx fs => obtain ⟨vs, q, n, r⟩ := h; exact ⟨vs, e.trans q, n, r.mono t⟩
theorem RH.out (h : RH K G H) (e : H a = none) : G a = none := by
  cases q : G a with
  | none => rfl
  | some o => obtain ⟨u, z⟩ := (h a o q).some; rw [e] at z; cases z
theorem RH.hid (h : RH K G H) (e : H p = none) : RH K G (upd H p u) := fun b o q =>
  (h b o q).stay (.new e) (upd_ne (by rintro rfl; obtain ⟨u, z⟩ := (h _ o q).some; rw [e] at z; cases z))
theorem RH.set (h : RH K G H) (t : TK K H (upd H p u)) (n : ROb K (upd H p u) p o) : RH K (put G p o) (upd H p u) := fun b o' q => by
  by_cases hb : b = p
  · subst hb; rw [put_same] at q; cases q; exact n
  · rw [put_ne hb] at q
    exact (h b o' q).stay t (upd_ne hb)
end
abbrev S3 := List (Option Z)
abbrev K3 := Z → Hq → Prop
abbrev C3 := S3 → Hq → Prop
abbrev E3 := S3 → Hq → K3 → Prop
abbrev T3 := S3 → Hq → (Bool → Hq → Prop) → Prop
abbrev A3 := S3 → Hq → (List Z → Hq → Prop) → Prop
abbrev X3 := C3 → K3 → C3 → C3 → S3 → Hq → Prop
def ROp (K : PySem.W.Frag) (H : Hp) (ow : Option Z) (ov : Option V) : Prop := ∀ w, ow = some w → ∃ v, ov = some v ∧ Rep K H w v
def RSt (K : PySem.W.Frag) (H : Hp) : S3 → L2.St → Prop := Paired (ROp K H)
section
variable {K : PySem.W.Frag} {H H' : Hp}
theorem RSt.mono (t : TK K H H') : ∀ {σ : S3} {τ : L2.St}, RSt K H σ τ → RSt K H' σ τ
  | _, _, .nil => .nil
  | _, _, .cons r s => .cons (fun w e => let ⟨v, q, h⟩ := r w e; ⟨v, q, h.mono t⟩) (RSt.mono t s)
theorem RSt.get : ∀ {σ : S3} {τ : L2.St} {i : Nat} {w : Z}, RSt K H σ τ → σ[i]? = some (some w) → ∃ v, τ[i]? = some (some v) ∧ Rep K H w v
  | _, _, _, _, .nil, e => by simp at e
  | _, _, 0, w, .cons r _, e => by
    obtain ⟨v, q, h⟩ := r w (by simpa using e)
    exact ⟨v, by rw [q]; rfl, h⟩
  | _, _, i + 1, w, .cons _ s, e => by
    obtain ⟨v, q, h⟩ := RSt.get (i := i) s (by simpa using e)
    exact ⟨v, by simpa using q, h⟩
theorem RSt.set {w : Z} {v : V} (r : Rep K H w v) : ∀ {σ : S3} {τ : L2.St} (i : Nat), RSt K H σ τ → RSt K H (σ.set i (some w)) (τ.set i (some v))
  | _, _, _, .nil => .nil
  | _, _, 0, .cons _ s => .cons (fun _ e => by cases e; exact ⟨v, rfl, r⟩) s
  | _, _, i + 1, .cons q s => .cons q (RSt.set r i s)
theorem RSt.length {σ : S3} {τ : L2.St} (h : RSt K H σ τ) : σ.length = τ.length := Paired.length h
theorem RSt.nones : ∀ n : Nat, RSt K H (List.replicate n none) (List.replicate n none)
  | 0 => .nil
  | n + 1 => .cons (fun _ e => nomatch e) (RSt.nones n)
theorem RSt.app : ∀ {σ σ' : S3} {τ τ' : L2.St}, RSt K H σ τ → RSt K H σ' τ' → RSt K H (σ ++ σ') (τ ++ τ')
  | _, _, _, _, .nil, h => h
  | _, _, _, _, .cons r s, h => .cons r (RSt.app s h)
theorem RSt.ofVals : ∀ {ws : List Z} {vs : List V}, Reps K H ws vs → RSt K H (ws.map some) (vs.map some)
  | [], vs, h => by rw [reps_nil] at h; subst h; exact .nil
  | w :: ws, vs, h => by
    rw [reps_cons] at h
    obtain ⟨v, r, rfl, h1, h2⟩ := h
    exact .cons (fun _ e => by cases e; exact ⟨v, rfl, h1⟩) (RSt.ofVals h2)
end
def start3 (N : List Str) (ws : List Z) : S3 := ws.map some ++ List.replicate (N.length - ws.length) none
theorem RSt.start {K : PySem.W.Frag} {H : Hp} {N : List Str} {ws : List Z} {vs : List V} (h : Reps K H ws vs) : RSt K H (start3 N ws) (L2.start N vs) := by
  unfold start3 L2.start
  rw [h.length]
  exact (RSt.ofVals h).app (RSt.nones _)
def UpV (K : PySem.W.Frag) (H : Hp) (R : K3) (Q : VK) : Prop := ∀ w G v H', R w G → Rep K H' w v → RH K G H' → TK K H H' → Q v H'
def UpB (K : PySem.W.Frag) (H : Hp) (R : Bool → Hq → Prop) (Q : Bool → Hp → Prop) : Prop := ∀ b G H', R b G → RH K G H' → TK K H H' → Q b H'
def UpA (K : PySem.W.Frag) (H : Hp) (R : List Z → Hq → Prop) (Q : List V → Hp → Prop) : Prop := ∀ ws G vs H', R ws G → Reps K H' ws vs → RH K G H' → TK K H H' → Q vs H'
def UpS (K : PySem.W.Frag) (H : Hp) (R : C3) (Q : L2.St → Hp → Prop) : Prop := ∀ σ G τ H', R σ G → RSt K H' σ τ → RH K G H' → TK K H H' → Q τ H'
section
variable {K : PySem.W.Frag} {H H' : Hp}
theorem UpV.mono {R : K3} {Q : VK} (h : UpV K H R Q) (t : TK K H H') : UpV K H' R Q := fun w G v H2 q r g t2 => h w G v H2 q r g (t.trans t2)
theorem UpB.mono {R : Bool → Hq → Prop} {Q : Bool → Hp → Prop} (h : UpB K H R Q) (t : TK K H H') : UpB K H' R Q := fun w G H2 q g t2 => h w G H2 q g (t.trans t2)
theorem UpA.mono {R : List Z → Hq → Prop} {Q : List V → Hp → Prop} (h : UpA K H R Q) (t : TK K H H') : UpA K H' R Q := fun w G v H2 q r g t2 => h w G v H2 q r g (t.trans t2)
theorem UpS.mono {R : C3} {Q : L2.St → Hp → Prop} (h : UpS K H R Q) (t : TK K H H') : UpS K H' R Q := fun w G v H2 q r g t2 => h w G v H2 q r g (t.trans t2)
end
def low (K : PySem.W.Frag) (t : E3) : TE := fun τ H Q => ∃ σ G R, RSt K H σ τ ∧ RH K G H ∧ t σ G R ∧ UpV K H R Q
theorem low.un {K : PySem.W.Frag} {t : E3} {τ : L2.St} {H : Hp} {Q : VK} {C : Prop} (z : low K t τ H Q) (f : ∀ σ G R, (RSt K H σ τ) → (RH K G H) → (t σ G R) → (UpV K H R Q) → C) : C := by obtain ⟨σ, G, R, q0, q1, q2, q3⟩ := z; exact f _ _ _ q0 q1 q2 q3
def lowT (K : PySem.W.Frag) (t : T3) : TT := fun τ H Q => ∃ σ G R, RSt K H σ τ ∧ RH K G H ∧ t σ G R ∧ UpB K H R Q
theorem lowT.un {K : PySem.W.Frag} {t : T3} {τ : L2.St} {H : Hp} {Q : Bool → Hp → Prop} {C : Prop} (z : lowT K t τ H Q) (f : ∀ σ G R, (RSt K H σ τ) → (RH K G H) → (t σ G R) → (UpB K H R Q) → C) : C := by obtain ⟨σ, G, R, q0, q1, q2, q3⟩ := z; exact f _ _ _ q0 q1 q2 q3
def lowA (K : PySem.W.Frag) (t : A3) : TA := fun τ H Q => ∃ σ G R, RSt K H σ τ ∧ RH K G H ∧ t σ G R ∧ UpA K H R Q
theorem lowA.un {K : PySem.W.Frag} {t : A3} {τ : L2.St} {H : Hp} {Q : List V → Hp → Prop} {C : Prop} (z : lowA K t τ H Q) (f : ∀ σ G R, (RSt K H σ τ) → (RH K G H) → (t σ G R) → (UpA K H R Q) → C) : C := by obtain ⟨σ, G, R, q0, q1, q2, q3⟩ := z; exact f _ _ _ q0 q1 q2 q3
def lowS (K : PySem.W.Frag) (t : X3) : TS := fun D τ H => ∃ σ G nx rt bk ct, RSt K H σ τ ∧ RH K G H ∧ t nx rt bk ct σ G ∧ UpS K H nx D.nx ∧ UpV K H rt D.rt ∧ UpS K H bk D.bk ∧ UpS K H ct D.ct
theorem lowS.un {K : PySem.W.Frag} {t : X3} {D : Ends} {τ : L2.St} {H : Hp} {C : Prop} (z : lowS K t D τ H) (f : ∀ σ G nx rt bk ct, (RSt K H σ τ) → (RH K G H) → (t nx rt bk ct σ G) → (UpS K H nx D.nx) → (UpV K H rt D.rt) → (UpS K H bk D.bk) → (UpS K H ct D.ct) → C) : C := by obtain ⟨σ, G, nx, rt, bk, ct, q0, q1, q2, q3, q4, q5, q6⟩ := z; exact f _ _ _ _ _ _ q0 q1 q2 q3 q4 q5 q6
structure QE (X : Cx) (e : Expr) (t : E3) : Prop where
  p : PE X e (low X.K t)
structure QT (X : Cx) (e : Expr) (t : T3) : Prop where
  p : PT X e (lowT X.K t)
structure QW (X : Cx) (e : Expr) (t : T3) : Prop where
  p : PW X e (lowT X.K t)
structure QA (X : Cx) (es : List Expr) (t : A3) : Prop where
  p : PA X es (lowA X.K t)
structure QS (X : Cx) (st : Stmt) (t : X3) : Prop where
  p : PS X st (lowS X.K t)
structure QSs (X : Cx) (st : List Stmt) (t : X3) : Prop where
  p : PSs X st (lowS X.K t)
theorem QW.qt {X : Cx} {e : Expr} {t : T3} (h : QW X e t) : QT X e t := ⟨PW.pt h.p⟩
section
variable {X : Cx} {e : Expr} {es : List Expr} {st : Stmt} {sts : List Stmt}
theorem peImp {t t' : TE} (h : PE X e t') (i : ∀ σ H Q, t σ H Q → t' σ H Q) : PE X e t := fun pins s σ H Q I q => h pins s σ H Q I (i σ H Q q)
theorem ptImp {t t' : TT} (h : PT X e t') (i : ∀ σ H Q, t σ H Q → t' σ H Q) : PT X e t := fun pins s σ H Q I q => h pins s σ H Q I (i σ H Q q)
theorem pwImp {t t' : TT} (h : PW X e t') (i : ∀ σ H Q, t σ H Q → t' σ H Q) : PW X e t := fun w pins s σ H Q I q => h w pins s σ H Q I (i σ H Q q)
theorem paImp {t t' : TA} (h : PA X es t') (i : ∀ σ H Q, t σ H Q → t' σ H Q) : PA X es t := fun pos pins s σ H Q I q => h pos pins s σ H Q I (i σ H Q q)
theorem psImp {t t' : TS} (h : PS X st t') (i : ∀ D σ H, t D σ H → t' D σ H) : PS X st t := fun pins s σ H D I q => h pins s σ H D I (i D σ H q)
theorem pssImp {t t' : TS} (h : PSs X sts t') (i : ∀ D σ H, t D σ H → t' D σ H) : PSs X sts t := fun pins s σ H D I q => h pins s σ H D I (i D σ H q)
end
end L3
namespace L3
open PySem PySem.Spec PyProof.Rows L2
abbrev R3 := Z → Z → Hq → K3 → Prop
def low2 (K : PySem.W.Frag) (r : R3) : R2 := fun x y H Q => ∃ a b G R, Rep K H a x ∧ Rep K H b y ∧ RH K G H ∧ r a b G R ∧ UpV K H R Q
theorem low2.un {K : PySem.W.Frag} {r : R3} {x y : V} {H : Hp} {Q : VK} {C : Prop} (z : low2 K r x y H Q) (f : ∀ a b G R, (Rep K H a x) → (Rep K H b y) → (RH K G H) → (r a b G R) → (UpV K H R Q) → C) : C := by obtain ⟨a, b, G, R, q0, q1, q2, q3, q4⟩ := z; exact f _ _ _ _ q0 q1 q2 q3 q4
def low1 (K : PySem.W.Frag) (r : Z → Hq → K3 → Prop) : V → Hp → VK → Prop := fun x H Q => ∃ a G R, Rep K H a x ∧ RH K G H ∧ r a G R ∧ UpV K H R Q
theorem low1.un {K : PySem.W.Frag} {r : Z → Hq → K3 → Prop} {x : V} {H : Hp} {Q : VK} {C : Prop} (z : low1 K r x H Q) (f : ∀ a G R, (Rep K H a x) → (RH K G H) → (r a G R) → (UpV K H R Q) → C) : C := by obtain ⟨a, G, R, q0, q1, q2, q3⟩ := z; exact f _ _ _ q0 q1 q2 q3
def lowC (K : PySem.W.Frag) (r : List Z → Hq → K3 → Prop) : List V → Hp → VK → Prop := fun xs H Q => ∃ ws G R, Reps K H ws xs ∧ RH K G H ∧ r ws G R ∧ UpV K H R Q
theorem lowC.un {K : PySem.W.Frag} {r : List Z → Hq → K3 → Prop} {xs : List V} {H : Hp} {Q : VK} {C : Prop} (z : lowC K r xs H Q) (f : ∀ ws G R, (Reps K H ws xs) → (RH K G H) → (r ws G R) → (UpV K H R Q) → C) : C := by obtain ⟨ws, G, R, q0, q1, q2, q3⟩ := z; exact f _ _ _ q0 q1 q2 q3
def lowM (K : PySem.W.Frag) (r : Z → List Z → Hq → K3 → Prop) : V → List V → Hp → VK → Prop := fun x xs H Q => ∃ w ws G R, Rep K H w x ∧ Reps K H ws xs ∧ RH K G H ∧ r w ws G R ∧ UpV K H R Q
theorem lowM.un {K : PySem.W.Frag} {r : Z → List Z → Hq → K3 → Prop} {x : V} {xs : List V} {H : Hp} {Q : VK} {C : Prop} (z : lowM K r x xs H Q) (f : ∀ w ws G R, (Rep K H w x) → (Reps K H ws xs) → (RH K G H) → (r w ws G R) → (UpV K H R Q) → C) : C := by obtain ⟨w, ws, G, R, q0, q1, q2, q3, q4⟩ := z; exact f _ _ _ _ q0 q1 q2 q3 q4
def OpQ (X : Cx) (f : Value → Value → Sem Value) (r : R3) : Prop := OpR X f (low2 X.K r)
def UnQ (X : Cx) (f : Value → Sem Value) (r : Z → Hq → K3 → Prop) : Prop := UnR X f (low1 X.K r)
def CallQ (X : Cx) (f : Value) (r : List Z → Hq → K3 → Prop) : Prop := CallR X f (lowC X.K r)
def IxQ (X : Cx) (r : R3) : Prop := IxR X (low2 X.K r)
def MtQ (X : Cx) (id : String) (r : Z → List Z → Hq → K3 → Prop) : Prop := MtR X id (lowM X.K r)
theorem opImp {X : Cx} {f : Value → Value → Sem Value} {r r' : R2} (h : OpR X f r') (i : ∀ x y H Q, r x y H Q → r' x y H Q) : OpR X f r := fun pins s σ H x y v u Q I rx ry q => h pins s σ H x y v u Q I rx ry (i x y H Q q)
theorem unImp {X : Cx} {f : Value → Sem Value} {r r' : V → Hp → VK → Prop} (h : UnR X f r') (i : ∀ x H Q, r x H Q → r' x H Q) : UnR X f r := fun pins s σ H x v Q I rx q => h pins s σ H x v Q I rx (i x H Q q)
theorem callImp {X : Cx} {f : Value} {r r' : List V → Hp → VK → Prop} (h : CallR X f r') (i : ∀ xs H Q, r xs H Q → r' xs H Q) : CallR X f r := fun pins s σ H xs us Q I rx q => h pins s σ H xs us Q I rx (i xs H Q q)
theorem ixImp {X : Cx} {r r' : R2} (h : IxR X r') (i : ∀ x y H Q, r x y H Q → r' x y H Q) : IxR X r := fun a b pins s σ H x y v u Q I rx ry q => h a b pins s σ H x y v u Q I rx ry (i x y H Q q)
theorem mtImp {X : Cx} {id : String} {r r' : V → List V → Hp → VK → Prop} (h : MtR X id r') (i : ∀ x xs H Q, r x xs H Q → r' x xs H Q) : MtR X id r := fun pins s σ H x xs v us Q I rx rs q => h pins s σ H x xs v us Q I rx rs (i x xs H Q q)
def uVar (i : Nat) : E3 := fun σ G R => ∃ w, σ[i]? = some (some w) ∧ R w G
def uC (w : Z) : E3 := fun _ G R => R w G
section
variable {X : Cx} {e a b c : Expr} {pos : Pos} {ta tb tc : E3}
theorem q_var {i : Nat} (h : PE X e (tVar i)) : QE X e (uVar i) := ⟨peImp h fun τ H Q ⟨σ, G, R, hs, hg, ⟨w, e, q⟩, up⟩ => by
  obtain ⟨v, e', r⟩ := hs.get e
  exact ⟨v, e', up w G v H q r hg (.refl _ _)⟩⟩
theorem q_con {v : V} {w : Z} (h : PE X e (tC v)) (hr : ∀ H, Rep X.K H w v) : QE X e (uC w) := ⟨peImp h fun τ H Q hx => hx.un fun σ G R hs hg q up => up w G v H q (hr H) hg (.refl _ _)⟩
theorem q_int {i j pos} : QE X (.Constant (.int i) j pos) (uC (.int i)) := q_con pe_int fun _ => by rw [rep_int]
theorem q_bl {b j pos} : QE X (.Constant (.bool b) j pos) (uC (.bl b)) := q_con pe_bl fun _ => by rw [rep_bl]
theorem q_non {j pos} : QE X (.Constant .none j pos) (uC .non) := q_con pe_non fun _ => by rw [rep_non]
theorem q_str {x j pos} : QE X (.Constant (.str x) j pos) (uC (.str x)) := q_con pe_str fun _ => by rw [rep_str]
theorem q_gint {i : Int} (h : PE X e (tC (.int i))) : QE X e (uC (.int i)) := q_con h fun _ => by rw [rep_int]
theorem q_ty {n : String} (h : PE X e (tC (.ty n))) : QE X e (uC (.ty n)) := q_con h fun _ => by rw [rep_ty]
def uOp (r : R3) (ta tb : E3) : E3 := fun σ G R => ta σ G fun x G1 => tb σ G1 fun y G2 => r x y G2 R
def uUn (r : Z → Hq → K3 → Prop) (ta : E3) : E3 := fun σ G R => ta σ G fun x G1 => r x G1 R
theorem low_op {K : PySem.W.Frag} {r : R3} {τ : L2.St} {H : Hp} {Q : VK} (h : low K (uOp r ta tb) τ H Q) : tOp (low2 K r) (low K ta) (low K tb) τ H Q := by
  obtain ⟨σ, G, R, hs, hg, h, up⟩ := h
  refine ⟨σ, G, _, hs, hg, h, fun w G1 v H1 h1 rv hg1 t1 => ?_⟩
  refine ⟨σ, G1, _, hs.mono t1, hg1, h1, fun w' G2 v' H2 h2 rv' hg2 t2 => ?_⟩
  exact ⟨w, w', G2, R, rv.mono t2, rv', hg2, h2, up.mono (t1.trans t2)⟩
theorem low_un {K : PySem.W.Frag} {r : Z → Hq → K3 → Prop} {τ : L2.St} {H : Hp} {Q : VK} (h : low K (uUn r ta) τ H Q) : tUn (low1 K r) (low K ta) τ H Q := by
  obtain ⟨σ, G, R, hs, hg, h, up⟩ := h
  exact ⟨σ, G, _, hs, hg, h, fun w G1 v H1 h1 rv hg1 t1 => ⟨w, G1, R, rv, hg1, h1, up.mono t1⟩⟩
theorem q_op {op : Operator} {r : R3} (ho : OpQ X (binaryOp op) r) (ha : QE X a ta) (hb : QE X b tb) : QE X (.BinOp a op b pos) (uOp r ta tb) := ⟨peImp (pe_op ho ha.p hb.p) fun _ _ _ => low_op⟩
theorem q_un {op : UnaryOp} {r : Z → Hq → K3 → Prop} (ho : UnQ X (unaryOp op) r) (ha : QE X a ta) : QE X (.UnaryOp op a pos) (uUn r ta) := ⟨peImp (pe_un ho ha.p) fun _ _ _ => low_un⟩
def uTest (t : E3) : T3 := fun σ G R => t σ G fun x G1 => ∃ k, x = .bl k ∧ R k G1
theorem low_test {K : PySem.W.Frag} {τ : L2.St} {H : Hp} {Q : Bool → Hp → Prop} (h : lowT K (uTest ta) τ H Q) : low K ta τ H fun x H' => ∃ k, x = .bl k ∧ Q k H' := by
  obtain ⟨σ, G, R, hs, hg, h, up⟩ := h
  refine ⟨σ, G, _, hs, hg, h, fun w G1 v H1 ⟨k, e, h1⟩ rv hg1 t1 => ?_⟩
  subst e
  rw [rep_bl] at rv
  exact ⟨k, rv, up _ _ _ h1 hg1 t1⟩
theorem q_cmpT {op : CmpOp} {r : R3} (ho : OpQ X (compareOp op) r) (ha : QE X a ta) (hb : QE X b tb) (hm : behindInMarks op b = false) : QT X (.Compare a [op] [b] pos) (uTest (uOp r ta tb)) := ⟨ptImp (pt_cmpR ho ha.p hb.p hm) fun _ _ _ h => low_op (low_test h)⟩
def uChain (r r' : R3) (ta tb tc : E3) : E3 := fun σ G R => ta σ G fun x G1 => tb σ G1 fun y G2 => r x y G2 fun z G3 => ∃ k, z = .bl k ∧ (if k = true then tc σ G3 fun w G4 => r' y w G4 R else R (.bl false) G3)
theorem low_chain {K : PySem.W.Frag} {r r' : R3} {τ : L2.St} {H : Hp} {Q : VK} (h : low K (uChain r r' ta tb tc) τ H Q) : tChain (low2 K r) (low2 K r') (low K ta) (low K tb) (low K tc) τ H Q := by
  obtain ⟨σ, G, R, hs, hg, h, up⟩ := h
  refine ⟨σ, G, _, hs, hg, h, fun w G1 v H1 h1 rv hg1 t1 => ?_⟩
  refine ⟨σ, G1, _, hs.mono t1, hg1, h1, fun w' G2 v' H2 h2 rv' hg2 t2 => ?_⟩
  refine ⟨w, w', G2, _, rv.mono t2, rv', hg2, h2, fun z G3 vz H3 ⟨k, ek, h3⟩ rz hg3 t3 => ?_⟩
  subst ek
  rw [rep_bl] at rz
  refine ⟨k, rz, ?_⟩
  cases k with
  | false => exact up _ _ _ _ (by simpa using h3) (by rw [rep_bl]) hg3 ((t1.trans t2).trans t3)
  | true =>
    rw [if_pos rfl] at h3 ⊢
    refine ⟨σ, G3, _, hs.mono ((t1.trans t2).trans t3), hg3, h3, fun w4 G4 v4 H4 h4 r4 hg4 t4 => ?_⟩
    exact ⟨w', w4, G4, R, rv'.mono (t3.trans t4), r4, hg4, h4, up.mono (((t1.trans t2).trans t3).trans t4)⟩
theorem q_chain {op op' : CmpOp} {r r' : R3} (ho : OpQ X (compareOp op) r) (ho' : OpQ X (compareOp op') r') (ha : QE X a ta) (hb : QE X b tb) (hc : QE X c tc)
    (hm : lastMarks [op, op'] [b, c] = false := by with_unfolding_all rfl) : QE X (.Compare a [op, op'] [b, c] pos) (uChain r r' ta tb tc) := ⟨peImp (pe_chain ho ho' ha.p hb.p hc.p hm) fun _ _ _ => low_chain⟩
def uAnd (t u : T3) : T3 := fun σ G R => t σ G fun c G1 => if c = true then u σ G1 R else R false G1
def uOr (t u : T3) : T3 := fun σ G R => t σ G fun c G1 => if c = true then R true G1 else u σ G1 R
def uNot (t : T3) : T3 := fun σ G R => t σ G fun c G1 => R (!c) G1
variable {t u : T3} {rest : List Expr}
theorem q_and1 (ha : QT X a t) : QW X (.BoolOp .And [a] pos) t := ⟨pw_and1 ha.p⟩
theorem q_or1 (ha : QT X a t) : QW X (.BoolOp .Or [a] pos) t := ⟨pw_or1 ha.p⟩
theorem q_and (ha : QT X a t) (hb : QW X (.BoolOp .And (b :: rest) pos) u) : QW X (.BoolOp .And (a :: b :: rest) pos) (uAnd t u) := ⟨pwImp (pw_and ha.p hb.p) fun τ H Q hx => hx.un fun σ G R hs hg h up => by
  refine ⟨σ, G, _, hs, hg, h, fun k G1 H1 h1 hg1 t1 => ?_⟩
  cases k with
  | false => exact up _ _ _ (by simpa using h1) hg1 t1
  | true => rw [if_pos rfl] at h1 ⊢; exact ⟨σ, G1, R, hs.mono t1, hg1, h1, up.mono t1⟩⟩
theorem q_or (ha : QT X a t) (hb : QW X (.BoolOp .Or (b :: rest) pos) u) : QW X (.BoolOp .Or (a :: b :: rest) pos) (uOr t u) := ⟨pwImp (pw_or ha.p hb.p) fun τ H Q hx => hx.un fun σ G R hs hg h up => by
  refine ⟨σ, G, _, hs, hg, h, fun k G1 H1 h1 hg1 t1 => ?_⟩
  cases k with
  | true => exact up _ _ _ (by simpa using h1) hg1 t1
  | false => rw [if_neg (by decide)] at h1 ⊢; exact ⟨σ, G1, R, hs.mono t1, hg1, h1, up.mono t1⟩⟩
theorem q_notT (ha : QT X a t) : QT X (.UnaryOp .Not a pos) (uNot t) := ⟨ptImp (pt_not ha.p) fun τ H Q hx => hx.un fun σ G R hs hg h up =>
  ⟨σ, G, _, hs, hg, h, fun k G1 H1 h1 hg1 t1 => up _ _ _ h1 hg1 t1⟩⟩
def uAndV (ta tb : E3) : E3 := fun σ G R => ta σ G fun x G1 => ∃ c, x = .bl c ∧ if c = true then tb σ G1 R else R (.bl false) G1
def uOrV (ta tb : E3) : E3 := fun σ G R => ta σ G fun x G1 => ∃ c, x = .bl c ∧ if c = true then R (.bl true) G1 else tb σ G1 R
def uNotV (ta : E3) : E3 := fun σ G R => ta σ G fun x G1 => ∃ c, x = .bl c ∧ R (.bl (!c)) G1
theorem q_one {op} (h : QE X a ta) : QE X (.BoolOp op [a] pos) ta := ⟨pe_one h.p⟩
theorem q_andV (ha : QE X a ta) (hb : QE X (.BoolOp .And (b :: rest) pos) tb) : QE X (.BoolOp .And (a :: b :: rest) pos) (uAndV ta tb) := ⟨peImp (pe_and ha.p hb.p) fun τ H Q hx => hx.un fun σ G R hs hg h up => by
  refine ⟨σ, G, _, hs, hg, h, fun x G1 v H1 ⟨k, ek, h1⟩ rv hg1 t1 => ?_⟩
  subst ek
  rw [rep_bl] at rv
  refine ⟨k, rv, ?_⟩
  cases k with
  | false => exact up _ _ _ _ (by simpa using h1) (by rw [rep_bl]) hg1 t1
  | true => rw [if_pos rfl] at h1 ⊢; exact ⟨σ, G1, R, hs.mono t1, hg1, h1, up.mono t1⟩⟩
theorem q_not (ha : QE X a ta) : QE X (.UnaryOp .Not a pos) (uNotV ta) := ⟨peImp (pe_not ha.p) fun τ H Q hx => hx.un fun σ G R hs hg h up => by
  refine ⟨σ, G, _, hs, hg, h, fun x G1 v H1 ⟨k, ek, h1⟩ rv hg1 t1 => ?_⟩
  subst ek
  rw [rep_bl] at rv
  exact ⟨k, rv, up _ _ _ _ h1 (by rw [rep_bl]) hg1 t1⟩⟩
def uIf (t : T3) (ta tb : E3) : E3 := fun σ G R => t σ G fun c G1 => if c = true then ta σ G1 R else tb σ G1 R
def tru : Z → Hq → (Bool → Hq → Prop) → Prop
  | .non, G, R => R false G
  | .bl b, G, R => R b G
  | .int i, G, R => R (i != 0) G
  | .str y, G, R => y.length ≤ sizeLine ∧ R ((y.length : Int) != 0) G
  | .tup ws, G, R => R (!ws.isEmpty) G
  | .scr _ ns, G, R => R (!ns.isEmpty) G
  | .ref p, G, R => (∃ ws, G p = some (.lst ws) ∧ R (!ws.isEmpty) G) ∨ ∃ kvs, G p = some (.dK kvs) ∧ R (!kvs.isEmpty) G
  | .ty _, _, _ => False
def uTru (ta : E3) : T3 := fun σ G R => ta σ G fun x G1 => tru x G1 R
theorem q_val (ha : QE X a ta) (he : ∀ whole, isTrue a X.env whole = (do let v ← whole; standAt a.pos; holding [v] (truthy v)) := by intro _; rfl) : QT X a (uTest ta) := ⟨ptImp (pt_val ha.p he) fun _ _ _ h => low_test h⟩
end
section
variable {env : Env} {es : List Expr} {pos : Pos}
theorem se_Constant {c k p} : starEach (.Constant c k p :: es) env = (false, eval (.Constant c k p) env) :: starEach es env := rfl
theorem se_Name {x p} : starEach (.Name x p :: es) env = (false, eval (.Name x p) env) :: starEach es env := rfl
theorem se_BinOp {a o b p} : starEach (.BinOp a o b p :: es) env = (false, eval (.BinOp a o b p) env) :: starEach es env := rfl
theorem se_Tuple {a k p} : starEach (.Tuple a k p :: es) env = (false, eval (.Tuple a k p) env) :: starEach es env := rfl
theorem se_Subscript {a b p} : starEach (.Subscript a b p :: es) env = (false, eval (.Subscript a b p) env) :: starEach es env := rfl
theorem se_Call {a b c p} : starEach (.Call a b c p :: es) env = (false, eval (.Call a b c p) env) :: starEach es env := rfl
theorem se_ListComp {a b c p} : starEach (.ListComp a b c p :: es) env = (false, eval (.ListComp a b c p) env) :: starEach es env := rfl
theorem hp_nil : (backTo pos (starEach [] env)).any (·.1) = false := rfl
theorem hp_cons {e : Expr} (h : starEach (e :: es) env = (false, eval e env) :: starEach es env) (r : (backTo pos (starEach es env)).any (·.1) = false) : (backTo pos (starEach (e :: es) env)).any (·.1) = false := by
  rw [h]
  show (false || (backTo pos (starEach es env)).any (·.1)) = false
  rw [r]; rfl
end
section
variable {X : Cx} {e a b : Expr} {es : List Expr} {pos p2 : Pos} {te ta tb : E3} {t : A3}
theorem q_ix {r : R3} (hr : IxQ X r) (ha : QE X a ta) (hb : QE X b tb) (hs : PlainIx b) : QE X (.Subscript a b pos) (uOp r ta tb) := ⟨peImp (pe_ix hr ha.p hb.p hs) fun _ _ _ => low_op⟩
abbrev O3 := S3 → Hq → (Option Int → Hq → Prop) → Prop
def uNoPart : O3 := fun _ G R => R none G
def uPart (t : E3) : O3 := fun σ G R => t σ G fun x G1 => ∃ i, x = .int i ∧ R (some i) G1
def lowO (K : PySem.W.Frag) (t : O3) : TO := fun τ H Q => ∃ σ G R, RSt K H σ τ ∧ RH K G H ∧ t σ G R ∧ ∀ o G' H', R o G' → RH K G' H' → TK K H H' → Q o H'
theorem lowO.un {K : PySem.W.Frag} {t : O3} {τ : L2.St} {H : Hp} {Q : Option Int → Hp → Prop} {C : Prop} (z : lowO K t τ H Q) (f : ∀ σ G R, (RSt K H σ τ) → (RH K G H) → (t σ G R) → (∀ o G' H', R o G' → RH K G' H' → TK K H H' → Q o H') → C) : C := by obtain ⟨σ, G, R, q0, q1, q2, q3⟩ := z; exact f _ _ _ q0 q1 q2 q3
def QO (X : Cx) (e : Option Expr) (t : O3) : Prop := PO X e (lowO X.K t)
theorem q_nopart : QO X none uNoPart := fun pins s τ H Q I ⟨σ, G, R, hs, hg, h, up⟩ => po_none pins s τ H Q I (up _ _ _ h hg (.refl _ _))
theorem q_part (h : QE X e te) : QO X (some e) (uPart te) := fun pins s τ H Q I ⟨σ, G, R, hs, hg, q, up⟩ => po_some h.p pins s τ H Q I ⟨σ, G, _, hs, hg, q, fun w G1 v H1 ⟨i, ei, h1⟩ rv hg1 t1 => by
  subst ei
  rw [rep_int] at rv
  exact ⟨i, rv, up _ _ _ h1 hg1 t1⟩⟩
abbrev L3r := Z → Option Int → Option Int → Hq → K3 → Prop
def lowL (K : PySem.W.Frag) (r : L3r) : V → Option Int → Option Int → Hp → VK → Prop := fun x lo hi H Q => ∃ w G R, Rep K H w x ∧ RH K G H ∧ r w lo hi G R ∧ UpV K H R Q
theorem lowL.un {K : PySem.W.Frag} {r : L3r} {x : V} {lo hi : Option Int} {H : Hp} {Q : VK} {C : Prop} (z : lowL K r x lo hi H Q) (f : ∀ w G R, (Rep K H w x) → (RH K G H) → (r w lo hi G R) → (UpV K H R Q) → C) : C := by obtain ⟨w, G, R, q0, q1, q2, q3⟩ := z; exact f _ _ _ q0 q1 q2 q3
def SlQ (X : Cx) (r : L3r) : Prop := SlR X (lowL X.K r)
theorem slImp {r r' : V → Option Int → Option Int → Hp → VK → Prop} (h : SlR X r') (i : ∀ x lo hi H Q, r x lo hi H Q → r' x lo hi H Q) : SlR X r := fun pins s σ H x v vl vu lo hi sl Q I rx hs pl pu q => h pins s σ H x v vl vu lo hi sl Q I rx hs pl pu (i _ _ _ _ _ q)
def uSl (r : L3r) (te : E3) (tl th : O3) : E3 := fun σ G R => te σ G fun x G1 => tl σ G1 fun l G2 => th σ G2 fun u G3 => r x l u G3 R
theorem q_slice {r : L3r} {lo hi : Option Expr} {tl th : O3} (hr : SlQ X r) (he : QE X e te) (hl : QO X lo tl) (hu : QO X hi th) : QE X (.Subscript e (.Slice lo hi none p2) pos) (uSl r te tl th) := ⟨peImp (pe_slice hr he.p hl hu) fun τ H Q hx => hx.un fun σ G R hs hg h up =>
  ⟨σ, G, _, hs, hg, h, fun w G1 v H1 h1 rv hg1 t1 => ⟨σ, G1, _, hs.mono t1, hg1, h1, fun l G2 H2 h2 hg2 t2 => ⟨σ, G2, _, hs.mono (t1.trans t2), hg2, h2, fun u G3 H3 h3 hg3 t3 =>
    ⟨w, G3, R, rv.mono (t2.trans t3), hg3, h3, up.mono ((t1.trans t2).trans t3)⟩⟩⟩⟩⟩
def uNil : A3 := fun _ G R => R [] G
def uCons (ta : E3) (tr : A3) : A3 := fun σ G R => ta σ G fun x G1 => tr σ G1 fun xs G2 => R (x :: xs) G2
theorem q_nil : QA X [] uNil := ⟨paImp pa_nil fun τ H Q hx => hx.un fun σ G R hs hg h up => up _ _ _ _ h .nil hg (.refl _ _)⟩
theorem q_cons (ha : QE X e te) (hr : QA X es t) (hs : starEach (e :: es) X.env = (false, eval e X.env) :: starEach es X.env := by rfl) : QA X (e :: es) (uCons te t) := ⟨paImp (pa_cons ha.p hr.p hs) fun τ H Q hx => hx.un fun σ G R hs hg h up =>
  ⟨σ, G, _, hs, hg, h, fun w G1 v H1 h1 rv hg1 t1 => ⟨σ, G1, _, hs.mono t1, hg1, h1, fun ws G2 vs H2 h2 rs hg2 t2 => up _ _ _ _ h2 (.cons (rv.mono t2) rs) hg2 (t1.trans t2)⟩⟩⟩
def uTup (t : A3) : E3 := fun σ G R => t σ G fun xs G1 => xs.length ≤ sizeLine ∧ R (.tup xs) G1
def uLst (t : A3) : E3 := fun σ G R => t σ G fun xs G1 => xs.length ≤ sizeLine ∧ ∀ p, G1 p = none → R (.ref p) (put G1 p (.lst xs))
theorem q_tup {x1} (h : QA X es t) : QE X (.Tuple es x1 pos) (uTup t) := ⟨peImp (pe_tup h.p) fun τ H Q hx => hx.un fun σ G R hs hg h up =>
  ⟨σ, G, _, hs, hg, h, fun ws G1 vs H1 ⟨hz, h1⟩ rv hg1 t1 => ⟨by rw [← rv.length]; exact hz, fun p hp => up _ _ _ _ h1 (by rw [rep_tup]; exact ⟨p, vs, rfl, upd_same, rv.mono (.new hp)⟩) (hg1.hid hp) (t1.trans (.new hp))⟩⟩⟩
theorem rob_lst {K : PySem.W.Frag} {H : Hp} {p : Addr} {ws : List Z} {vs : List V} (r : Reps K H ws vs) (t : TK K H (upd H p (.lst vs))) : ROb K (upd H p (.lst vs)) p (.lst ws) := ⟨vs, upd_same, r.mono t⟩
theorem q_lst (h : QA X es t) : QE X (.List es pos) (uLst t) := ⟨peImp (pe_lst h.p) fun τ H Q hx => hx.un fun σ G R hs hg h up =>
  ⟨σ, G, _, hs, hg, h, fun ws G1 vs H1 ⟨hz, h1⟩ rv hg1 t1 => ⟨by rw [← rv.length]; exact hz, fun p hp => up _ _ _ _ (h1 p (hg1.out hp)) (by rw [rep_ref]) (hg1.set (.new hp) (rob_lst rv (.new hp))) (t1.trans (.new hp))⟩⟩⟩
def uCB (r : List Z → Hq → K3 → Prop) (t : A3) : E3 := fun σ G R => t σ G fun ws G1 => r ws G1 R
theorem low_cb {K : PySem.W.Frag} {r : List Z → Hq → K3 → Prop} {τ : L2.St} {H : Hp} {Q : VK} (h : low K (uCB r t) τ H Q) : tCB (lowC K r) (lowA K t) τ H Q := by
  obtain ⟨σ, G, R, hs, hg, h, up⟩ := h
  exact ⟨σ, G, _, hs, hg, h, fun ws G1 vs H1 h1 rs hg1 t1 => ⟨ws, G1, R, rs, hg1, h1, up.mono t1⟩⟩
variable {x : Str} {p : Pos} {id T : String} {r : List Z → Hq → K3 → Prop}
theorem q_callB (hc : CallQ X (.builtin id) r) (hg : Gl X x) (hm : X.mg x = none) (hv : bootBuiltins x = some (.builtin id)) (ha : QA X (e :: es) t) (hn : x ≠ "__name__" := by decide) (hdb : (x == ("__debug__" : Str)) = false := by decide)
    (he : starEach (e :: es) X.env = (false, eval e X.env) :: starEach es X.env := by rfl) (hpl : (backTo pos (starEach es X.env)).any (·.1) = false := by rfl) : QE X (.Call (.Name x p) (e :: es) [] pos) (uCB r t) := ⟨peImp (pe_callB hc hg hm hv ha.p hn hdb he hpl) fun _ _ _ => low_cb⟩
theorem q_callTy (hc : CallQ X (.type T) r) (hg : Gl X x) (hm : X.mg x = none) (hv : bootBuiltins x = some (.type T)) (ha : QA X (e :: es) t) (hn : x ≠ "__name__" := by decide) (hdb : (x == ("__debug__" : Str)) = false := by decide)
    (he : starEach (e :: es) X.env = (false, eval e X.env) :: starEach es X.env := by rfl) (hpl : (backTo pos (starEach es X.env)).any (·.1) = false := by rfl) : QE X (.Call (.Name x p) (e :: es) [] pos) (uCB r t) := ⟨peImp (pe_callTy hc hg hm hv ha.p hn hdb he hpl) fun _ _ _ => low_cb⟩
def tyZ (T : String) (x : Z) (G : Hq) : Prop := match x with
  | .str _ => T = "str"
  | .int _ => T = "int"
  | .ref p => (T = "list" ∧ ∃ ws, G p = some (.lst ws)) ∨ (T = "dict" ∧ ∃ kvs, G p = some (.dK kvs))
  | .scr _ _ => T = "list"
  | _ => False
theorem tyZ_low {K : PySem.W.Frag} {G : Hq} {H : Hp} {w : Z} {v : V} (h : tyZ T w G) (r : Rep K H w v) (hg : RH K G H) : tyV K T v H := by
  cases w with
  | str y => rw [rep_str] at r; subst r; exact h
  | int y => rw [rep_int] at r; subst r; exact h
  | ref q =>
    rw [rep_ref] at r
    subst r
    rcases h with ⟨e, ws, g⟩ | ⟨e, kvs, g⟩
    · obtain ⟨vs, e', _⟩ := hg q _ g; exact .inl ⟨e, vs, SqL.of e'⟩
    · obtain ⟨vs, e', _⟩ := hg q _ g; exact .inr (.inr (.inl ⟨e, .inl ⟨vs, e'⟩⟩))
  | scr q ns => rw [rep_scr] at r; obtain ⟨rfl, f⟩ := r; exact .inl ⟨h, _, f.sq⟩
  | _ => exact False.elim h
def uBM0 (T : String) (r : Z → List Z → Hq → K3 → Prop) (to : E3) : E3 := fun σ G R => to σ G fun x G1 => tyZ T x G1 ∧ r x [] G1 R
def uBM (T : String) (r : Z → List Z → Hq → K3 → Prop) (to : E3) (t : A3) : E3 := fun σ G R => to σ G fun x G1 => tyZ T x G1 ∧ t σ G1 fun xs G2 => r x xs G2 R
variable {o : Expr} {to : E3} {name : Str} {apos cpos : Pos} {rm : Z → List Z → Hq → K3 → Prop}
theorem q_bm0 (pa : PlainAttrs T) (slot : Slot T name id) (hty : typeOf (.builtin id) = pure (.type "method_descriptor")) (hm : MtQ X id rm) (ho : QE X o to)
    (hbase : attributeBase o name X.env (eval o X.env) = eval o X.env := by rfl) (hline : (apos.endLine == cpos.line) = true := by rfl) : QE X (.Call (.Attribute o name apos) [] [] cpos) (uBM0 T rm to) := ⟨peImp (pe_bm0 pa slot hty hm ho.p hbase hline) fun τ H Q hx => hx.un fun σ G R hs hg h up => ⟨σ, G, _, hs, hg, h, fun w G1 v H1 ⟨ty, h1⟩ rv hg1 t1 => ⟨tyZ_low ty rv hg1, w, [], G1, R, rv, .nil, hg1, h1, up.mono t1⟩⟩⟩
theorem q_bm (pa : PlainAttrs T) (slot : Slot T name id) (hty : typeOf (.builtin id) = pure (.type "method_descriptor")) (hm : MtQ X id rm) (ho : QE X o to) (ha : QA X (e :: es) t)
    (hbase : attributeBase o name X.env (eval o X.env) = eval o X.env := by rfl)
    (hfew : ((backTo cpos (starEach (e :: es) X.env)).all (fun x => !x.1) && (backToKw cpos (keywordEach [] X.env)).all (fun x => x.1.isSome)
      && decide ((e :: es).length + ([] : List Keyword).length + (if ([] : List Keyword).isEmpty then 0 else 1) < 30)) = true := by rfl)
    (hline : (apos.endLine == cpos.line) = true := by rfl) (hs : starEach (e :: es) X.env = (false, eval e X.env) :: starEach es X.env := by rfl) (hplain : (backTo cpos (starEach es X.env)).any (·.1) = false := by rfl) :
    QE X (.Call (.Attribute o name apos) (e :: es) [] cpos) (uBM T rm to t) := ⟨peImp (pe_bm pa slot hty hm ho.p ha.p hbase hfew hline hs hplain) fun τ H Q hx => hx.un fun σ G R hs hg h up =>
    ⟨σ, G, _, hs, hg, h, fun w G1 v H1 ⟨ty, h1⟩ rv hg1 t1 => ⟨tyZ_low ty rv hg1, σ, G1, _, hs.mono t1, hg1, h1, fun ws G2 vs H2 h2 rs hg2 t2 => ⟨w, ws, G2, R, rv.mono t2, rs, hg2, h2, up.mono (t1.trans t2)⟩⟩⟩⟩
abbrev P3 := List Z → Hq → K3 → Prop
def lowP (K : PySem.W.Frag) (sp : P3) : Sp := fun vs H Q _ => lowC K sp vs H Q
def uCall (sp : P3) (t : A3) : E3 := fun σ G R => t σ G fun ws G1 => sp ws G1 R
variable {k : Nat} {f : Addr} {fd : FuncData} {ps : List Str} {sp : P3}
theorem q_call (F : FnOk X.prog X.w X.K X.mg X.base CX0 k f fd ps (lowP X.K sp)) (hr : Room k X.A) (hg : Gl X x) (hm : X.mg x = some (.ref f)) (hk : PySem.W.keepIn X.K (.ref f) = true) (hb : Binds X.K fd ps []) (ha : QA X (e :: es) t)
    (hdb : (x == ("__debug__" : Str)) = false := by decide) (he : starEach (e :: es) X.env = (false, eval e X.env) :: starEach es X.env := by rfl) (hpl : (backTo pos (starEach es X.env)).any (·.1) = false := by rfl) :
    QE X (.Call (.Name x p) (e :: es) [] pos) (uCall sp t) := ⟨peImp (pe_call F hr hg hm hk hb .nil pass0 ha.p hdb he hpl) fun τ H Q hx => hx.un fun σ G R hs hg h up => ⟨σ, G, _, hs, hg, h, fun ws G1 vs H1 h1 rs hg1 t1 => ⟨ws, G1, R, by rw [List.append_nil]; exact rs, hg1, h1, up.mono t1⟩⟩⟩
end
end L3
namespace L3
open PySem PySem.Spec PyProof.Rows L2
section
variable {X : Cx} {e c tg : Expr} {st : Stmt} {rest sa sb : List Stmt} {pos : Pos} {te : E3} {t u : X3} {tc : T3}
def uNext : X3 := fun nx _ _ _ σ G => nx σ G
def uSeq (t u : X3) : X3 := fun nx rt bk ct σ G => t (u nx rt bk ct) rt bk ct σ G
theorem z_nil : QSs X [] uNext := ⟨pssImp pss_nil fun D τ H hx => hx.un fun σ G nx rt bk ct hs hg h u1 u2 u3 u4 => u1 _ _ _ _ h hs hg (.refl _ _)⟩
theorem z_cons (h1 : QS X st t) (h2 : QSs X rest u) : QSs X (st :: rest) (uSeq t u) := ⟨pssImp (pss_cons h1.p h2.p) fun D τ H hx => hx.un fun σ G nx rt bk ct hs hg h u1 u2 u3 u4 =>
  ⟨σ, G, _, rt, bk, ct, hs, hg, h, fun σ' G' τ' H' h' hs' hg' t' => ⟨σ', G', nx, rt, bk, ct, hs', hg', h', u1.mono t', u2.mono t', u3.mono t', u4.mono t'⟩, u2, u3, u4⟩⟩
theorem z_one (h1 : QS X st t) : QSs X [st] t := ⟨pss_one h1.p⟩
def uBreak : X3 := fun _ _ bk _ σ G => bk σ G
def uCont : X3 := fun _ _ _ ct σ G => ct σ G
def uDrop (te : E3) : X3 := fun nx _ _ _ σ G => te σ G fun _ G1 => nx σ G1
def uRet (te : E3) : X3 := fun _ rt _ _ σ G => te σ G rt
theorem z_ret (he : QE X e te) : QS X (.Return (some e) pos) (uRet te) := ⟨psImp (ps_ret he.p) fun D τ H hx => hx.un fun σ G nx rt bk ct hs hg h u1 u2 u3 u4 => ⟨σ, G, _, hs, hg, h, u2⟩⟩
def uRetN : X3 := fun _ rt _ _ _ G => rt .non G
def uIfS (c : T3) (t u : X3) : X3 := fun nx rt bk ct σ G => c σ G fun b G1 => if b = true then t nx rt bk ct σ G1 else u nx rt bk ct σ G1
theorem z_if (hc : QT X c tc) (ha : QSs X sa t) (hb : QSs X sb u) : QS X (.If c sa sb pos) (uIfS tc t u) := ⟨psImp (ps_if hc.p ha.p hb.p) fun D τ H hx => hx.un fun σ G nx rt bk ct hs hg h u1 u2 u3 u4 => by
  refine ⟨σ, G, _, hs, hg, h, fun b G1 H1 h1 hg1 t1 => ?_⟩
  cases b with
  | true => rw [if_pos rfl] at h1 ⊢; exact ⟨σ, G1, nx, rt, bk, ct, hs.mono t1, hg1, h1, u1.mono t1, u2.mono t1, u3.mono t1, u4.mono t1⟩
  | false => rw [if_neg (by decide)] at h1 ⊢; exact ⟨σ, G1, nx, rt, bk, ct, hs.mono t1, hg1, h1, u1.mono t1, u2.mono t1, u3.mono t1, u4.mono t1⟩⟩
inductive Pt where
  | nm (i : Nat)
  | tp (is : List Nat)
def gsOf : List Nat → TGs
  | [] => gNil
  | i :: is => gCons (gName i) (gsOf is)
def gP (K : PySem.W.Frag) : Pt → TG
  | .nm i => gName i
  | .tp is => gTup K is.length (gsOf is)
def sets : List Nat → List Z → S3 → S3
  | i :: is, w :: ws, σ => sets is ws (σ.set i (some w))
  | _, _, σ => σ
def bindZ : Pt → Z → S3 → Option S3
  | .nm i, w, σ => some (σ.set i (some w))
  | .tp is, .tup ws, σ => if ws.length = is.length then some (sets is ws σ) else none
  | _, _, _ => none
def Pt.slots : Pt → List Nat
  | .nm i => [i]
  | .tp is => is
def setsV : List Nat → List V → L2.St → L2.St
  | i :: is, w :: ws, σ => setsV is ws (σ.set i (some w))
  | _, _, σ => σ
theorem gsOf_ok {H : Hp} {Q : L2.St → Hp → Prop} : ∀ {is : List Nat} {vs : List V} {τ : L2.St}, vs.length = is.length → Q (setsV is vs τ) H → gsOf is vs τ H Q
  | [], [], _, _, q => ⟨rfl, q⟩
  | i :: is, v :: vs, τ, h, q => ⟨v, vs, rfl, gsOf_ok (is := is) (vs := vs) (by simpa using h) q⟩
  | [], _ :: _, _, h, _ => by simp at h
  | _ :: _, [], _, h, _ => by simp at h
theorem setsV_rep {K : PySem.W.Frag} {H : Hp} : ∀ {is : List Nat} {ws : List Z} {vs : List V} {σ : S3} {τ : L2.St}, Reps K H ws vs → RSt K H σ τ → RSt K H (sets is ws σ) (setsV is vs τ)
  | [], ws, vs, σ, τ, _, h => by unfold sets setsV; exact h
  | i :: is, [], vs, σ, τ, r, h => by rw [reps_nil] at r; subst r; exact h
  | i :: is, w :: ws, vs, σ, τ, r, h => by
    rw [reps_cons] at r
    obtain ⟨v, vs', rfl, r1, r2⟩ := r
    exact setsV_rep (is := is) r2 (h.set r1 i)
theorem setsV_keep : ∀ {is : List Nat} {vs : List V} {τ : L2.St} {j : Nat}, j ∉ is → (setsV is vs τ)[j]? = τ[j]?
  | [], _, _, _, _ => by unfold setsV; rfl
  | i :: is, [], _, _, _ => by unfold setsV; rfl
  | i :: is, v :: vs, τ, j, h => by
    have h1 : j ≠ i := fun z => h (by rw [z]; exact List.mem_cons_self ..)
    have h2 : j ∉ is := fun z => h (List.mem_cons_of_mem _ z)
    show (setsV is vs (τ.set i (some v)))[j]? = τ[j]?
    rw [setsV_keep h2, List.getElem?_set_ne (Ne.symm h1)]
theorem setsV_length : ∀ {is : List Nat} {vs : List V} {τ : L2.St}, (setsV is vs τ).length = τ.length
  | [], _, _ => by unfold setsV; rfl
  | i :: is, [], _ => by unfold setsV; rfl
  | i :: is, v :: vs, τ => by
    show (setsV is vs (τ.set i (some v))).length = τ.length
    rw [setsV_length, List.length_set]
theorem gP_ok {K : PySem.W.Frag} {H : Hp} {pt : Pt} {w : Z} {v : V} {σ σ' : S3} {τ : L2.St} {Q : L2.St → Hp → Prop} (r : Rep K H w v) (hs : RSt K H σ τ) (hb : bindZ pt w σ = some σ')
    (q : ∀ τ', RSt K H σ' τ' → τ'.length = τ.length → (∀ j, j ∉ pt.slots → τ'[j]? = τ[j]?) → Q τ' H) : gP K pt v τ H Q := by
  cases pt with
  | nm i =>
    cases hb
    exact q _ (hs.set r i) (by rw [List.length_set]) fun j hj => by rw [List.getElem?_set_ne]; intro z; exact hj (by rw [z]; exact List.mem_cons_self ..)
  | tp is =>
    cases w with
    | tup ws =>
      rw [rep_tup] at r
      obtain ⟨a, vs, rfl, e, rs⟩ := r
      have hb' : (if ws.length = is.length then some (sets is ws σ) else none) = some σ' := hb
      by_cases hl : ws.length = is.length
      · rw [if_pos hl] at hb'
        cases hb'
        exact ⟨a, vs, rfl, SqT.of e, by rw [← rs.length]; exact hl, gsOf_ok (by rw [← rs.length]; exact hl) (q _ (setsV_rep rs hs) setsV_length fun j hj => setsV_keep hj)⟩
      · rw [if_neg hl] at hb'
        cases hb'
    | _ => cases hb
def QP (X : Cx) (tg : Expr) (pt : Pt) : Prop := PG X tg (gP X.K pt)
def uAsg (te : E3) (pt : Pt) : X3 := fun nx _ _ _ σ G => te σ G fun x G1 => ∃ σ', bindZ pt x σ = some σ' ∧ nx σ' G1
theorem low_asg {D : Ends} {pt : Pt} {K : PySem.W.Frag} {τ : L2.St} {H : Hp} (h : lowS K (uAsg te pt) D τ H) : tAsg (low K te) (gP K pt) D τ H := by
  obtain ⟨σ, G, nx, rt, bk, ct, hs, hg, h, u1, u2, u3, u4⟩ := h
  exact ⟨σ, G, _, hs, hg, h, fun w G1 v H1 ⟨σ', hb, h1⟩ rv hg1 t1 => gP_ok rv (hs.mono t1) hb fun τ' hs' _ _ => u1 _ _ _ _ h1 hs' hg1 t1⟩
theorem z_set {i : Nat} {x : Str} {pos' : Pos} (hN : X.N.Nodup) (hi : X.N[i]? = some x) (hx : Loc X.env.scope x) (he : QE X e te) (hs : swapsWith e (some (.Name x pos')) pos.line X.env = pure false := by rfl) (hf : X.fn x = true ∨ X.env.scope.names.lookup x = some .local := by first | exact .inl rfl | exact .inr rfl | assumption) :
    QS X (.Assign [.Name x pos'] e pos) (uAsg te (.nm i)) := ⟨psImp (ps_set hN hi hx he.p hs hf) fun _ _ _ => low_asg (pt := .nm i)⟩
abbrev Z3 := Z → Z → Z → Hq → (Hq → Prop) → Prop
def lowZ (K : PySem.W.Frag) (r : Z3) : TSet := fun o i v H Q => ∃ a b w G R, Rep K H a o ∧ Rep K H b i ∧ Rep K H w v ∧ RH K G H ∧ r a b w G R ∧ ∀ G' H', R G' → RH K G' H' → TK K H H' → Q H'
theorem lowZ.un {K : PySem.W.Frag} {r : Z3} {o i v : V} {H : Hp} {Q : Hp → Prop} {C : Prop} (z : lowZ K r o i v H Q) (f : ∀ a b w G R, (Rep K H a o) → (Rep K H b i) → (Rep K H w v) → (RH K G H) → (r a b w G R) → (∀ G' H', R G' → RH K G' H' → TK K H H' → Q H') → C) : C := by obtain ⟨a, b, w, G, R, q0, q1, q2, q3, q4, q5⟩ := z; exact f _ _ _ _ _ q0 q1 q2 q3 q4 q5
def uPut (te to ti : E3) (r : Z3) : X3 := fun nx _ _ _ σ G => te σ G fun w G1 => to σ G1 fun o G2 => ti σ G2 fun i G3 => r o i w G3 fun G4 => nx σ G4
def uAug (i : Nat) (te : E3) (r : R3) : X3 := fun nx _ _ _ σ G => ∃ x, σ[i]? = some (some x) ∧ te σ G fun y G1 => r x y G1 fun z G2 => nx (σ.set i (some z)) G2
end
abbrev I3 := S3 → Hq → (List Z → (Hq → Prop) → Hq → Prop) → Prop
def LowIt (K : PySem.W.Frag) (ws : List Z) (ok : Hq → Prop) (J : It) (H0 : Hp) : Prop := ∀ i G H, RH K G H → TK K H0 H → ok G → i ≤ ws.length →
  (i = ws.length → J.stop i H) ∧ ∀ w, ws[i]? = some w → J.go i H ∧ ∀ x H', J.yld i H x H' → Rep K H' w x ∧ RH K G H' ∧ TK K H H'
def lowI (K : PySem.W.Frag) (wi : I3) : TI := fun τ H R2 => ∃ σ G R, RSt K H σ τ ∧ RH K G H ∧ wi σ G R ∧ ∀ ws ok G' J H', R ws ok G' → LowIt K ws ok J H' → RH K G' H' → TK K H H' → R2 J H'
theorem lowI.un {K : PySem.W.Frag} {wi : I3} {τ : L2.St} {H : Hp} {R2 : It → Hp → Prop} {C : Prop} (z : lowI K wi τ H R2) (f : ∀ σ G R, (RSt K H σ τ) → (RH K G H) → (wi σ G R) → (∀ ws ok G' J H', R ws ok G' → LowIt K ws ok J H' → RH K G' H' → TK K H H' → R2 J H') → C) : C := by obtain ⟨σ, G, R, q0, q1, q2, q3⟩ := z; exact f _ _ _ q0 q1 q2 q3
def QI (X : Cx) (tg iter : Expr) (wi : I3) : Prop := PI X tg iter (lowI X.K wi)
theorem piImp {X : Cx} {tg iter : Expr} {wi wi' : TI} (h : PI X tg iter wi') (i : ∀ σ H R, wi σ H R → wi' σ H R) : PI X tg iter wi := fun pins s σ H R I q => h pins s σ H R I (i σ H R q)
def FORB (ws : List Z) (ok : Hq → Prop) (pt : Pt) (tb : X3) (nx : C3) (rt : K3) (σ : S3) (G1 : Hq) : Prop := ∃ I : Nat → S3 → Hq → Prop, I 0 σ G1 ∧ (∀ i σ G, i ≤ ws.length → I i σ G → ok G) ∧
  (∀ i x σ G, ws[i]? = some x → I i σ G → ∃ σ', bindZ pt x σ = some σ' ∧ tb (I (i + 1)) rt nx (I (i + 1)) σ' G) ∧ ∀ σ G, I ws.length σ G → nx σ G
def uFor (wi : I3) (pt : Pt) (tb : X3) : X3 := fun nx rt _ _ σ G => wi σ G fun ws ok G1 => FORB ws ok pt tb nx rt σ G1
theorem for_by {ws : List Z} {ok : Hq → Prop} {pt : Pt} {tb : X3} {nx : C3} {rt : K3} {σ : S3} {G : Hq} (I : Nat → S3 → Hq → Prop) (h0 : I 0 σ G) (hok : ∀ i σ G, i ≤ ws.length → I i σ G → ok G)
    (step : ∀ i x σ G, ws[i]? = some x → I i σ G → ∃ σ', bindZ pt x σ = some σ' ∧ tb (I (i + 1)) rt nx (I (i + 1)) σ' G) (fin : ∀ σ G, I ws.length σ G → nx σ G) : FORB ws ok pt tb nx rt σ G := ⟨I, h0, hok, step, fin⟩
theorem z_for {X : Cx} {tg iter : Expr} {sb : List Stmt} {t : X3} {wi : I3} {pt : Pt} {pos : Pos} (hp : PassesOwn (model X.prog X.w) X.A X.env X.xe) (hc : X.calm = true) (hi : QI X tg iter wi) (hg : QP X tg pt) (hb : QSs X sb t)
    (hs : ∀ x, foldedSetIterable iter X.env x = pure x := by intro _; rfl) : QS X (.For tg iter sb [] pos) (uFor wi pt t) := ⟨psImp (ps_for hp hc hi hg hb.p hs) fun D τ H hx => hx.un fun σ G nx rt bk ct hs hg h u1 u2 u3 u4 => by
  refine ⟨σ, G, _, hs, hg, h, ?_⟩
  rintro ws ok G1 J H1 ⟨I, i0, hok, step, fin⟩ hJ hg1 t1
  refine ⟨fun i m τ' H' => m = ws.length - i ∧ i ≤ ws.length ∧ ∃ σ' G', RSt X.K H' σ' τ' ∧ RH X.K G' H' ∧ TK X.K H1 H' ∧ I i σ' G', ⟨ws.length, by simp, Nat.zero_le _, σ, G1, hs.mono t1, hg1, .refl _ _, i0⟩, ?_⟩
  rintro i m τ2 H2 ⟨rfl, hle, σ2, G2, hs2, hg2, t2, i2⟩
  have hJ2 := hJ i G2 H2 hg2 t2 (hok i σ2 G2 hle i2) hle
  by_cases hlt : i < ws.length
  · obtain ⟨go, yl⟩ := hJ2.2 _ (List.getElem?_eq_getElem hlt)
    refine .inr ⟨go, fun τ' H' => i + 1 ≤ ws.length ∧ ∃ σ' G', RSt X.K H' σ' τ' ∧ RH X.K G' H' ∧ TK X.K H1 H' ∧ I (i + 1) σ' G', fun σ' H' q => ⟨ws.length - (i + 1), by omega, rfl, q.1, q.2⟩, fun x H3 y3 => ?_⟩
    obtain ⟨rx, hg3, t3⟩ := yl x H3 y3
    obtain ⟨σ', hb', h3⟩ := step i _ σ2 G2 (List.getElem?_eq_getElem hlt) i2
    refine gP_ok rx (hs2.mono t3) hb' fun τ' hs' _ _ => ⟨σ', G2, _, rt, nx, _, hs', hg3, h3, ?_, u2.mono ((t1.trans t2).trans t3), u1.mono ((t1.trans t2).trans t3), ?_⟩
    · exact fun σ4 G4 τ4 H4 h4 hs4 hg4 t4 => ⟨hlt, σ4, G4, hs4, hg4, (t2.trans t3).trans t4, h4⟩
    · exact fun σ4 G4 τ4 H4 h4 hs4 hg4 t4 => ⟨hlt, σ4, G4, hs4, hg4, (t2.trans t3).trans t4, h4⟩
  · have e : i = ws.length := by omega
    subst e
    exact .inl ⟨hJ2.1 rfl, u1 _ _ _ _ (fin σ2 G2 i2) hs2 hg2 (t1.trans t2)⟩⟩
section
variable {X : Cx} {tg l : Expr} {tl : E3}
def wkL (x : Z) (G : Hq) (R : List Z → (Hq → Prop) → Hq → Prop) : Prop := match x with
  | .ref a => ∃ ws, G a = some (.lst ws) ∧ R ws (fun G => G a = some (.lst ws)) G
  | .scr _ ns => R (ns.map Z.int) (fun _ => True) G
  | _ => False
def iL (tl : E3) : I3 := fun σ G R => tl σ G fun x G1 => wkL x G1 R
theorem lowIt_list {K : PySem.W.Frag} {a : Addr} {ws : List Z} {H : Hp} : LowIt K ws (fun G => G a = some (.lst ws)) (Itl K a) H := fun i G H hg t ok hi => by
  obtain ⟨vs, e, rs⟩ := hg a _ ok
  refine ⟨fun h => ⟨vs, SqL.of e, by rw [← rs.length, h]; exact Nat.le_refl _⟩, fun w hw => ?_⟩
  obtain ⟨v, ev, rv⟩ := rs.get hw
  refine ⟨⟨vs, v, SqL.of e, ev⟩, ?_⟩
  rintro x H' ⟨rfl, y⟩
  have := y vs (SqL.of e)
  rw [ev] at this
  cases this
  exact ⟨rv, hg, .refl _ _⟩
theorem lowIt_scr {K : PySem.W.Frag} {a : Addr} {ns : List Int} {H0 : Hp} (f : Fz K H0 a (ns.map V.int)) : LowIt K (ns.map Z.int) (fun _ => True) (Itl K a) H0 := fun i G H hg t ok hi => by
  have fs := (t.frz _ _ f).sq
  have rs : Reps K H (ns.map Z.int) (ns.map V.int) := ints_reps ns
  refine ⟨fun h => ⟨_, fs, by rw [← rs.length, h]; exact Nat.le_refl _⟩, fun w hw => ?_⟩
  obtain ⟨v, ev, rv⟩ := rs.get hw
  refine ⟨⟨_, v, fs, ev⟩, ?_⟩
  rintro x H' ⟨rfl, y⟩
  have := y _ fs
  rw [ev] at this
  cases this
  exact ⟨rv, hg, .refl _ _⟩
theorem it_list (hl : QE X l tl) : QI X tg l (iL tl) := piImp (pi_list hl.p) fun τ H R2 hx => hx.un fun σ G R hs hg h up => by
  refine ⟨σ, G, _, hs, hg, h, fun w G1 v H1 h1 rv hg1 t1 => ?_⟩
  cases w with
  | ref a =>
    rw [rep_ref] at rv
    obtain ⟨ws, e, h1⟩ := h1
    obtain ⟨vs, e', _⟩ := hg1 a _ e
    exact ⟨a, rv, ⟨vs, SqL.of e'⟩, up _ _ _ _ _ h1 lowIt_list hg1 t1⟩
  | scr a ns =>
    rw [rep_scr] at rv
    exact ⟨a, rv.1, ⟨_, rv.2.sq⟩, up _ _ _ _ _ h1 (lowIt_scr rv.2) hg1 t1⟩
  | _ => exact False.elim h1
def wkT (x : Z) (G : Hq) (R : List Z → (Hq → Prop) → Hq → Prop) : Prop := match x with
  | .tup ws => R ws (fun _ => True) G
  | _ => False
def iT (tl : E3) : I3 := fun σ G R => tl σ G fun x G1 => wkT x G1 R
def rng (lo : Int) : Nat → List Z
  | 0 => []
  | n + 1 => .int lo :: rng (lo + 1) n
theorem rng_length : ∀ (lo : Int) (n : Nat), (rng lo n).length = n
  | _, 0 => rfl
  | lo, n + 1 => by rw [rng, List.length_cons, rng_length]
theorem rng_get : ∀ {lo : Int} {n i : Nat} {w : Z}, (rng lo n)[i]? = some w → i < n ∧ w = .int (lo + i)
  | _, 0, _, _, h => by simp [rng] at h
  | lo, n + 1, 0, w, h => by simp [rng] at h; exact ⟨by omega, by rw [← h]; simp⟩
  | lo, n + 1, i + 1, w, h => by
    have := rng_get (lo := lo + 1) (n := n) (i := i) (w := w) (by simpa [rng] using h)
    refine ⟨by omega, ?_⟩
    rw [this.2]
    congr 1
    omega
theorem lowIt_rng {K : PySem.W.Frag} {lo : Int} {n : Nat} {H0 : Hp} : LowIt K (rng lo n) (fun _ => True) (Itr lo n) H0 := fun i G H hg t ok hi => by
  rw [rng_length]
  refine ⟨fun h => by rw [h]; exact Nat.le_refl _, fun w hw => ?_⟩
  obtain ⟨h1, h2⟩ := rng_get hw
  refine ⟨h1, ?_⟩
  rintro x H' ⟨rfl, rfl⟩
  exact ⟨by rw [h2, rep_int], hg, .refl _ _⟩
variable {t : A3}
def iR1 (t : A3) : I3 := fun σ G R => t σ G fun ws G1 => ∃ j : Int, ws = [.int j] ∧ -(2 ^ 62) ≤ j ∧ j < 2 ^ 62 ∧ R (rng 0 j.toNat) (fun _ => True) G1
def iR2 (t : A3) : I3 := fun σ G R => t σ G fun ws G1 => ∃ i j : Int, ws = [.int i, .int j] ∧ (-(2 ^ 62) ≤ i ∧ i < 2 ^ 62 ∧ -(2 ^ 62) ≤ j ∧ j < 2 ^ 62) ∧ R (rng i (j - i).toNat) (fun _ => True) G1
theorem it_range1 {wi : Expr} (h : PI X tg wi (iRng1 (lowA X.K t))) : QI X tg wi (iR1 t) := piImp h fun τ H R2 hx => hx.un fun σ G R hs hg h up => by
  refine ⟨σ, G, _, hs, hg, h, fun ws G1 vs H1 ⟨j, e, a, b, h1⟩ rv hg1 t1 => ?_⟩
  subst e
  obtain ⟨v, rfl, r⟩ := rv.one
  rw [rep_int] at r
  subst r
  exact ⟨j, rfl, a, b, up _ _ _ _ _ h1 lowIt_rng hg1 t1⟩
end
section
variable {X : Cx} {tg a b : Expr} {p pos : Pos} {t : A3}
theorem it_rangeA1 (hg : Gl X "range") (hm : X.mg "range" = none) (ha : QA X [a] t) (hs : starEach [a] X.env = [(false, eval a X.env)] := by rfl) : QI X tg (.Call (.Name "range" p) [a] [] pos) (iR1 t) := it_range1 (pi_range1 hg hm ha.p hs)
end
def cap3 (cap : List (Option Nat)) (σ : S3) : S3 := cap.map fun o => o.bind fun j => (σ[j]?).join
theorem cap_rep {K : PySem.W.Frag} {H : Hp} {σ : S3} {τ : L2.St} (h : RSt K H σ τ) : ∀ cap : List (Option Nat), RSt K H (cap3 cap σ) (capSt cap τ)
  | [] => .nil
  | none :: cap => .cons (fun _ e => nomatch e) (cap_rep h cap)
  | some j :: cap => .cons (fun w e => by
      have e' : (σ[j]?).join = some w := e
      have e2 : σ[j]? = some (some w) := by
        cases q : σ[j]? with
        | none => rw [q] at e'; cases e'
        | some o => rw [q] at e'; cases o with
          | none => cases e'
          | some z => cases e'; rfl
      obtain ⟨v, ev, r⟩ := h.get e2
      exact ⟨v, by show (τ[j]?).join = some v; rw [ev]; rfl, r⟩) (cap_rep h cap)
theorem keepsSt_of : ∀ {a b : L2.St}, b.length = a.length → (∀ (i : Nat) v, a[i]? = some (some v) → b[i]? = some (some v)) → keepsSt a b
  | [], [], _, _ => True.intro
  | none :: a, _ :: b, h, k => keepsSt_of (a := a) (b := b) (by simpa using h) fun i v e => by simpa using k (i + 1) v (by simpa using e)
  | some x :: a, y :: b, h, k => ⟨by simpa using k 0 x rfl, keepsSt_of (a := a) (b := b) (by simpa using h) fun i v e => by simpa using k (i + 1) v (by simpa using e)⟩
  | [], _ :: _, h, _ => by simp at h
  | _ :: _, [], h, _ => by simp at h
def LCB (ws : List Z) (ok : Hq → Prop) (cap : List (Option Nat)) (pt : Pt) (tt : T3) (te : E3) (σ : S3) (R : K3) (D : Addr) (G1 : Hq) : Prop := ∃ I : Nat → List Z → Hq → Prop, I 0 [] (put G1 D (.lst [])) ∧ (∀ i ys G, i ≤ ws.length → I i ys G → ok G) ∧
  (∀ i x ys G, ws[i]? = some x → I i ys G → ∃ σ', bindZ pt x (cap3 cap σ) = some σ' ∧ tt σ' G fun b G4 => if b = true then te σ' G4 fun y G5 => G5 D = some (.lst ys) ∧ ys.length < sizeLine ∧ I (i + 1) (ys ++ [y]) (put G5 D (.lst (ys ++ [y]))) else I (i + 1) ys G4) ∧
  ∀ ys G, I ws.length ys G → R (.ref D) G
def uLC (wi : I3) (cap : List (Option Nat)) (pt : Pt) (tt : T3) (te : E3) : E3 := fun σ G R => wi σ G fun ws ok G1 => ∀ D, G1 D = none → LCB ws ok cap pt tt te σ R D G1
theorem lc_by {ws : List Z} {ok : Hq → Prop} {cap : List (Option Nat)} {pt : Pt} {tt : T3} {te : E3} {σ : S3} {R : K3} {D : Addr} {G1 : Hq} (I : Nat → List Z → Hq → Prop) (h0 : I 0 [] (put G1 D (.lst []))) (hok : ∀ i ys G, i ≤ ws.length → I i ys G → ok G)
    (step : ∀ i x ys G, ws[i]? = some x → I i ys G → ∃ σ', bindZ pt x (cap3 cap σ) = some σ' ∧ tt σ' G fun b G4 => if b = true then te σ' G4 fun y G5 => G5 D = some (.lst ys) ∧ ys.length < sizeLine ∧ I (i + 1) (ys ++ [y]) (put G5 D (.lst (ys ++ [y]))) else I (i + 1) ys G4)
    (fin : ∀ ys G, I ws.length ys G → R (.ref D) G) : LCB ws ok cap pt tt te σ R D G1 := ⟨I, h0, hok, step, fin⟩
def QIfs (X : Cx) (ifs : List Expr) (t : T3) : Prop := PIfs X ifs (lowT X.K t)
def uTT : T3 := fun _ G R => R true G
theorem ifs_nil {X : Cx} : QIfs X [] uTT := fun pins s τ H Q I ⟨σ, G, R, hs, hg, h, up⟩ => pifs_nil pins s τ H Q I (up _ _ _ h hg (.refl _ _))
theorem slot_ok {cap : List (Option Nat)} {pt : Pt} (hc : (pt.slots.all fun j => decide (cap[j]? = some none)) = true) {τ : L2.St} {i : Nat} {v : V} (h : (capSt cap τ)[i]? = some (some v)) : i ∉ pt.slots := fun hm => by
  have q := of_decide_eq_true ((List.all_eq_true.mp hc) i hm)
  unfold capSt at h
  rw [List.getElem?_map, q] at h
  cases h
theorem low_lc {K : PySem.W.Frag} {wi : I3} {cap : List (Option Nat)} {pt : Pt} {tt : T3} {te : E3} (hc : (pt.slots.all fun j => decide (cap[j]? = some none)) = true) {τ : L2.St} {H : Hp} {Q : VK} (h : low K (uLC wi cap pt tt te) τ H Q) :
    tLC (lowI K wi) cap (gP K pt) (lowT K tt) (low K te) τ H Q := by
  obtain ⟨σ, G, R, hs, hg, h, up⟩ := h
  refine ⟨σ, G, _, hs, hg, h, fun ws ok G1 J H1 h1 hJ hg1 t1 D hD => ?_⟩
  obtain ⟨I, i0, hok, step, fin⟩ := h1 D (hg1.out hD)
  refine ⟨fun i m _ H' => m = ws.length - i ∧ i ≤ ws.length ∧ ∃ ys G', RH K G' H' ∧ TK K H1 H' ∧ I i ys G', ⟨ws.length, by simp, Nat.zero_le _, [], _, hg1.set (o := .lst []) (.new hD) ⟨[], upd_same, .nil⟩, .new hD, i0⟩, ?_⟩
  rintro i m vs H2 ⟨rfl, hle, ys, G2, hg2, t2, i2⟩
  have hJ2 := hJ i G2 H2 hg2 t2 (hok i ys G2 hle i2) hle
  by_cases hlt : i < ws.length
  · obtain ⟨go, yl⟩ := hJ2.2 _ (List.getElem?_eq_getElem hlt)
    refine .inr ⟨go, fun _ H' => i + 1 ≤ ws.length ∧ ∃ ys G', RH K G' H' ∧ TK K H1 H' ∧ I (i + 1) ys G', fun vs' H' q => ⟨ws.length - (i + 1), by omega, rfl, q.1, q.2⟩, fun x H3 y3 => ?_⟩
    obtain ⟨rx, hg3, t3⟩ := yl x H3 y3
    obtain ⟨σ', hb', h3⟩ := step i _ ys G2 (List.getElem?_eq_getElem hlt) i2
    refine gP_ok rx (cap_rep (hs.mono ((t1.trans t2).trans t3)) cap) hb' fun τ' hs' hl' hk' => ⟨keepsSt_of hl' fun j v ej => by rw [hk' j (slot_ok hc ej)]; exact ej, ?_⟩
    refine ⟨σ', G2, _, hs', hg3, h3, fun b G4 H4 h4 hg4 t4 => ?_⟩
    cases b with
    | false =>
      rw [if_neg (by decide)] at h4 ⊢
      exact ⟨hlt, ys, G4, hg4, (t2.trans t3).trans t4, h4⟩
    | true =>
      rw [if_pos rfl] at h4 ⊢
      refine ⟨σ', G4, _, hs'.mono t4, hg4, h4, fun y G5 v5 H5 ⟨hD5, hsz, h5⟩ r5 hg5 t5 => ?_⟩
      obtain ⟨vs5, e5, rs5⟩ := hg5 D _ hD5
      refine ⟨vs5, e5, by rw [← rs5.length]; exact hsz, hlt, _, _, hg5.set (.lst e5) (rob_lst (rs5.append (.cons r5 .nil)) (.lst e5)), ?_, h5⟩
      exact (((t2.trans t3).trans t4).trans t5).trans (.lst e5)
  · have e : i = ws.length := by omega
    subst e
    exact .inl ⟨hJ2.1 rfl, up _ _ _ _ (fin ys G2 i2) (by rw [rep_ref]) hg2 (t1.trans t2)⟩
section
variable {X : Cx} {N' : List Str} {sc : Scope} {cap : List (Option Nat)} {tg iter elt : Expr} {ifs : List Expr} {wi : I3} {pt : Pt} {tt : T3} {te : E3} {pos : Pos}
theorem q_lc {N₀ : List Str} {so : Scope} (hc : X.calm = true) (hNN : X.N = N₀) (hso : X.env.scope = so) (ck : capB N₀ so sc N' cap = true) (hp : (pt.slots.all fun j => decide (cap[j]? = some none)) = true) (hi : QI X tg iter wi)
    (hg : ∀ C s H fp, QP (cxC X E0 N' sc C s H fp) tg pt) (ht : ∀ C s H fp, QIfs (cxC X E0 N' sc C s H fp) ifs tt) (he : ∀ C s H fp, QE (cxC X E0 N' sc C s H fp) elt te)
    (hs : ∀ x, foldedSetIterable iter X.env x = pure x := by intro _; rfl) : QE X (.ListComp elt [⟨tg, iter, ifs, 0⟩] sc pos) (uLC wi cap pt tt te) := ⟨peImp (pe_lc (g := gP X.K pt) (tt := lowT X.K tt) (te := low X.K te) hc compOut0 hNN hso ck hi hg ht (fun C s H fp => (he C s H fp).p) hs) fun _ _ _ => low_lc hp⟩
end
section
variable {P : Program} {w : World} {K : PySem.W.Frag} {mg : Str → Option Value} {base : Heap}
theorem fn3 {x qual : Str} {st : Stmt} {f : Addr} {fd : FuncData} {N ps : List Str} {k : Nat} {sp : P3} (F : Fun K x qual st f fd) (S : FnScope N ps (defScope st)) (len : ∀ ws G R, sp ws G R → ws.length = ps.length)
    (hbody : ∀ (cdv : Value) (A : Around) (outer : List Env) (s : Shared) (H : Hp) (E : XK) (ws : List Z) (G : Hq) (R : K3), Room k (A.deeper (envOfC qual (defScope st) s.heap.objs.size f cdv)) → sp ws G R →
      ∃ t, QSs (cxOf CX0 P w K mg base N qual (defScope st) f cdv A outer s H E).nox (defBody st) t ∧ t (fun _ G' => R .non G') R (fun _ _ => False) (fun _ _ => False) (start3 N ws) G) : FnOk P w K mg base CX0 (k + 1) f fd ps (lowP K sp) := by
  refine F.ok S (fun vs H Q E ⟨ws, G, R, rs, hg, h, up⟩ => by rw [← rs.length]; exact len _ _ _ h) ?_
  rintro cdv A outer s H vs Q E hr ⟨ws, G, R, rs, hg, h, up⟩
  obtain ⟨t, ht, hq⟩ := hbody cdv A outer s H E ws G R hr h
  exact ⟨_, ht.p, start3 N ws, G, _, R, _, _, .start rs, hg, hq, fun σ' G' τ' H' h' hs' hg' t' => up _ _ _ _ h' (by rw [rep_non]) hg' t', up, fun _ _ _ _ h _ _ _ => h.elim, fun _ _ _ _ h _ _ _ => h.elim⟩
end
end L3
namespace L3
open PySem PySem.Spec PyProof.Rows L2
section
variable {X : Cx}
def zAdd : R3 := fun x y G R => match x, y with
  | .int i, .int j => R (.int (i + j)) G
  | .str a, .str b => a.length + b.length ≤ sizeLine ∧ R (.str (a ++ b)) G
  | .tup xs, .tup ys => xs ≠ [] ∧ xs.length + ys.length ≤ sizeLine ∧ R (.tup (xs ++ ys)) G
  | .ref p, .ref q => ∃ xs ys, G p = some (.lst xs) ∧ G q = some (.lst ys) ∧ xs.length + ys.length ≤ sizeLine ∧ ∀ t, G t = none → R (.ref t) (put G t (.lst (xs ++ ys)))
  | _, _ => False
theorem o_add : OpQ X (binaryOp .Add) zAdd := opImp (op_add.or (op_add_str.or (op_catT.or op_cat))) fun x y H Q hx => hx.un fun a b G R ra rb hg h up => by
  cases a with
  | int i =>
    cases b with
    | int j => rw [rep_int] at ra rb; exact .inl ⟨_, _, ra, rb, up _ _ _ _ h (by rw [rep_int]) hg (.refl _ _)⟩
    | _ => exact False.elim h
  | str i =>
    cases b with
    | str j => rw [rep_str] at ra rb; exact .inr (.inl ⟨_, _, ra, rb, h.1, up _ _ _ _ h.2 (by rw [rep_str]) hg (.refl _ _)⟩)
    | _ => exact False.elim h
  | tup us =>
    cases b with
    | tup ws =>
      rw [rep_tup] at ra rb
      obtain ⟨p, xs, rfl, e1, r1⟩ := ra
      obtain ⟨q, ys, rfl, e2, r2⟩ := rb
      obtain ⟨h0, hz, h⟩ := h
      refine .inr (.inr (.inl ⟨p, q, xs, ys, rfl, rfl, SqT.of e1, SqT.of e2, fun z => ?_, by rw [← r1.length, ← r2.length]; exact hz, fun z => ?_, fun z t ht => ?_⟩))
      · subst z
        exact h0 (List.length_eq_zero_iff.mp r1.length)
      · subst z
        have e : ws = [] := List.length_eq_zero_iff.mp r2.length
        subst e
        rw [List.append_nil] at h
        exact up _ _ _ _ h (by rw [rep_tup]; exact ⟨p, xs, rfl, e1, r1⟩) hg (.refl _ _)
      · exact up _ _ _ _ h (by rw [rep_tup]; exact ⟨t, xs ++ ys, rfl, upd_same, Reps.mono (.new ht) _ _ (r1.append r2)⟩) (hg.hid ht) (.new ht)
    | _ => exact False.elim h
  | ref p =>
    cases b with
    | ref q =>
      rw [rep_ref] at ra rb
      subst ra rb
      obtain ⟨xs, ys, e1, e2, hz, h⟩ := h
      obtain ⟨vs, e1', r1⟩ := hg _ _ e1
      obtain ⟨us, e2', r2⟩ := hg _ _ e2
      exact .inr (.inr (.inr ⟨_, _, vs, us, rfl, rfl, e1', e2', by rw [← r1.length, ← r2.length]; exact hz, fun t ht => up _ _ _ _ (h t (hg.out ht)) (by rw [rep_ref]) (hg.set (.new ht) (rob_lst (r1.append r2) (.new ht))) (.new ht)⟩))
    | _ => exact False.elim h
  | _ => exact False.elim h
def zI (C : Int → Int → Prop) (g : Int → Int → Z) : R3 := fun x y G R => match x, y with
  | .int i, .int j => C i j ∧ R (g i j) G
  | _, _ => False
def zI0 (g : Int → Int → Z) : R3 := fun x y G R => match x, y with
  | .int i, .int j => R (g i j) G
  | _, _ => False
theorem oI {f : Value → Value → Sem Value} {C : Int → Int → Prop} {g : Int → Int → Int} (h : OpR X f (rI C fun i j => .int (g i j))) : OpQ X f (zI C fun i j => .int (g i j)) := opImp h fun x y H Q hx => hx.un fun a b G R ra rb hg h up => by
  cases a <;> cases b <;> first
    | exact False.elim h
    | (rw [rep_int] at ra rb; exact ⟨_, _, ra, rb, h.1, up _ _ _ _ h.2 (by rw [rep_int]) hg (.refl _ _)⟩)
theorem oI0 {f : Value → Value → Sem Value} {g : Int → Int → Int} (h : OpR X f (rI0 fun i j => .int (g i j))) : OpQ X f (zI0 fun i j => .int (g i j)) := opImp h fun x y H Q hx => hx.un fun a b G R ra rb hg h up => by
  cases a <;> cases b <;> first
    | exact False.elim h
    | (rw [rep_int] at ra rb; exact ⟨_, _, ra, rb, up _ _ _ _ h (by rw [rep_int]) hg (.refl _ _)⟩)
theorem o_sub : OpQ X (binaryOp .Sub) (zI0 fun i j => .int (i - j)) := oI0 op_sub
theorem o_mul : OpQ X (binaryOp .Mult) (zI CMul fun i j => .int (i * j)) := oI op_mul
theorem o_mod : OpQ X (binaryOp .Mod) (zI (fun _ j => 0 < j) fun i j => .int (i % j)) := oI op_mod
def zNeg : Z → Hq → K3 → Prop := fun x G R => match x with
  | .int i => R (.int (-i)) G
  | _ => False
theorem o_neg : UnQ X (unaryOp .USub) zNeg := unImp un_neg fun x H Q hx => hx.un fun a G R ra hg h up => by
  cases a <;> first
    | exact False.elim h
    | (rw [rep_int] at ra; exact ⟨_, ra, up _ _ _ _ h (by rw [rep_int]) hg (.refl _ _)⟩)
theorem op_le_str : OpR X (compareOp .LtE) (fun x y H Q => ∃ i j, x = .str i ∧ y = .str j ∧ Q (.bl (!decide (j.cps.toList < i.cps.toList))) H) := by
  intro pins s σ H x y v u Q I rx ry h
  obtain ⟨i, j, rfl, rfl, q⟩ := h
  obtain ⟨t, rfl⟩ := rx
  obtain ⟨t', rfl⟩ := ry
  exact PySem.P.le_str (fin_bl I q rfl)
theorem op_gt_str : OpR X (compareOp .Gt) (fun x y H Q => ∃ i j, x = .str i ∧ y = .str j ∧ Q (.bl (decide (j.cps.toList < i.cps.toList))) H) := by
  intro pins s σ H x y v u Q I rx ry h
  obtain ⟨i, j, rfl, rfl, q⟩ := h
  obtain ⟨t, rfl⟩ := rx
  obtain ⟨t', rfl⟩ := ry
  exact PySem.P.gt_str (fin_bl I q rfl)
def zC (f : Int → Int → Bool) (g : Str → Str → Bool) : R3 := fun x y G R => match x, y with
  | .int i, .int j => R (.bl (f i j)) G
  | .str i, .str j => R (.bl (g i j)) G
  | _, _ => False
theorem oC {op : CmpOp} {f : Int → Int → Bool} {g : Str → Str → Bool} (h : OpR X (compareOp op) (rI0 fun i j => .bl (f i j))) (h' : OpR X (compareOp op) (fun x y H Q => ∃ i j, x = .str i ∧ y = .str j ∧ Q (.bl (g i j)) H)) :
    OpQ X (compareOp op) (zC f g) := opImp (h.or h') fun x y H Q hx => hx.un fun a b G R ra rb hg h up => by
  cases a <;> cases b <;> first
    | exact False.elim h
    | (rw [rep_int] at ra rb; exact .inl ⟨_, _, ra, rb, up _ _ _ _ h (by rw [rep_bl]) hg (.refl _ _)⟩)
    | (rw [rep_str] at ra rb; exact .inr ⟨_, _, ra, rb, up _ _ _ _ h (by rw [rep_bl]) hg (.refl _ _)⟩)
abbrev ltS (x y : Str) : Bool := decide (x.cps.toList < y.cps.toList)
theorem o_le : OpQ X (compareOp .LtE) (zC (fun i j => decide (i ≤ j)) fun x y => !ltS y x) := oC op_le op_le_str
theorem o_gt : OpQ X (compareOp .Gt) (zC (fun i j => decide (j < i)) fun x y => ltS y x) := oC op_gt op_gt_str
def zIs (neg : Bool) : R3 := fun x y G R => match y with
  | .non => R (.bl (if neg then !decide (x = .non) else decide (x = .non))) G
  | .bl b => match x with
    | .bl a => neg = false ∧ R (.bl (a == b)) G
    | _ => False
  | _ => False
end
mutual
def dZ : Z → PyData
  | .bl b => .bool b
  | .int i => .int i
  | .str x => .str x
  | .tup ws => .tuple (dZs ws)
  | _ => .none
def dZs : List Z → List PyData
  | [] => []
  | w :: ws => dZ w :: dZs ws
end
def flat : Nat → Z → Bool
  | _, .non => true
  | _, .int _ => true
  | _, .str x => PyData.strOk x
  | n + 1, .tup ws => ws.all (flat n)
  | _, _ => false
theorem dZ_lay : ∀ (n : Nat) (d : Z), flat n d = true → (dZ d).canLay0 = true ∧ (dZ d).depth ≤ n := by
  have all : ∀ (n : Nat), (∀ d, flat n d = true → (dZ d).canLay0 = true ∧ (dZ d).depth ≤ n) → ∀ ds : List Z, (∀ d ∈ ds, flat n d = true) → PyData.canLayAll0 (dZs ds) = true ∧ PyData.depthAll (dZs ds) ≤ n := by
    intro n ih ds
    induction ds with
    | nil => intro _; simp [dZs, PyData.canLayAll0, PyData.depthAll]
    | cons d ds hi =>
      intro h
      have h1 := ih d (h d (.head _))
      have h2 := hi fun e he => h e (.tail _ he)
      simp only [dZs, PyData.canLayAll0, PyData.depthAll, h1.1, h2.1, Bool.and_self, true_and]
      have a1 := h1.2
      have a2 := h2.2
      omega
  intro n
  induction n with
  | zero =>
    intro d h
    cases d <;> simp_all [flat, dZ, PyData.canLay0, PyData.depth]
  | succ n ih =>
    intro d h
    cases d with
    | non => simp [dZ, PyData.canLay0, PyData.depth]
    | int i => simp [dZ, PyData.canLay0, PyData.depth]
    | str x => simp [flat] at h; simp [dZ, PyData.canLay0, PyData.depth, h]
    | tup ds =>
      have q := all n ih ds (by simpa [flat] using h)
      have q2 := q.2
      simp only [dZ, PyData.canLay0, PyData.depth, q.1, true_and]
      omega
    | _ => simp [flat] at h
theorem dZs_lay (n : Nat) (ds : List Z) (h : ds.all (flat n) = true) : PyData.canLayAll0 (dZs ds) = true ∧ PyData.depthAll (dZs ds) ≤ n := by
  have q := dZ_lay (n + 1) (.tup ds) (by simpa [flat] using h)
  simp only [dZ, PyData.canLay0, PyData.depth] at q
  exact ⟨q.1, by omega⟩
theorem dZ_eqv : ∀ (n : Nat) (d e : Z) (k : Nat), flat n d = true → flat k e = true → (PyData.eqv (dZ d) (dZ e) = true ↔ d = e) := by
  have all : ∀ (n : Nat), (∀ d e k, flat n d = true → flat k e = true → (PyData.eqv (dZ d) (dZ e) = true ↔ d = e)) → ∀ (k : Nat) (ds es : List Z), (∀ d ∈ ds, flat n d = true) → (∀ d ∈ es, flat k d = true) →
      (PyData.eqvAll (dZs ds) (dZs es) = true ↔ ds = es) := by
    intro n ih k ds
    induction ds with
    | nil => intro es _ _; cases es <;> simp [dZs, PyData.eqvAll]
    | cons d ds hi =>
      intro es h1 h2
      cases es with
      | nil => simp [dZs, PyData.eqvAll]
      | cons e es =>
        have q1 := ih d e k (h1 d (.head _)) (h2 e (.head _))
        have q2 := hi es (fun x hx => h1 x (.tail _ hx)) fun x hx => h2 x (.tail _ hx)
        simp only [dZs, PyData.eqvAll, Bool.and_eq_true, q1, q2, List.cons.injEq]
  intro n
  induction n with
  | zero =>
    intro d e k h1 h2
    cases d <;> cases e <;> simp_all [flat, dZ, PyData.eqv]
  | succ n ih =>
    intro d e k h1 h2
    cases d with
    | tup ds =>
      cases e with
      | tup es =>
        cases k with
        | zero => simp [flat] at h2
        | succ k =>
          simp only [dZ, PyData.eqv, Z.tup.injEq]
          exact all n ih k ds es (by simpa [flat] using h1) (by simpa [flat] using h2)
      | _ => simp_all [flat, dZ, PyData.eqv]
    | _ => cases e <;> simp_all [flat, dZ, PyData.eqv]
theorem dZs_eqv (n k : Nat) (ds es : List Z) (h : ds.all (flat n) = true) (h' : es.all (flat k) = true) : PyData.eqvAll (dZs ds) (dZs es) = true ↔ ds = es := by
  have q := dZ_eqv (n + 1) (.tup ds) (.tup es) (k + 1) (by simpa [flat] using h) (by simpa [flat] using h')
  simpa only [dZ, PyData.eqv, Z.tup.injEq] using q
section
variable {K : PySem.W.Frag} {H : Hp}
theorem dv_of : ∀ (n : Nat) (w : Z) (v : V), flat n w = true → Rep K H w v → DV H (dZ w) v := by
  have all : ∀ (n : Nat), (∀ w v, flat n w = true → Rep K H w v → DV H (dZ w) v) → ∀ (ws : List Z) (vs : List V), (∀ d ∈ ws, flat n d = true) → Reps K H ws vs → DVs H (dZs ws) vs := by
    intro n ih ws
    induction ws with
    | nil => intro vs _ r; rw [reps_nil] at r; simp only [dZs]; unfold DVs; exact r
    | cons w ws hi =>
      intro vs h r
      rw [reps_cons] at r
      obtain ⟨v, r', e, r1, r2⟩ := r
      simp only [dZs]
      unfold DVs
      exact ⟨v, r', e, ih w v (h w (.head _)) r1, hi r' (fun d hd => h d (.tail _ hd)) r2⟩
  intro n
  induction n with
  | zero =>
    intro w v h r
    cases w with
    | non => rw [rep_non] at r; simp only [dZ]; unfold DV; exact r
    | int i => rw [rep_int] at r; simp only [dZ]; unfold DV; exact r
    | str x => rw [rep_str] at r; simp only [dZ]; unfold DV; exact r
    | _ => simp [flat] at h
  | succ n ih =>
    intro w v h r
    cases w with
    | non => rw [rep_non] at r; simp only [dZ]; unfold DV; exact r
    | int i => rw [rep_int] at r; simp only [dZ]; unfold DV; exact r
    | str x => rw [rep_str] at r; simp only [dZ]; unfold DV; exact r
    | tup ws =>
      rw [rep_tup] at r
      obtain ⟨a, vs, e, ea, rs⟩ := r
      simp only [dZ]
      unfold DV
      exact ⟨a, vs, e, ea, all n ih ws vs (by simpa [flat] using h) rs⟩
    | _ => simp [flat] at h
theorem dvs_of (n : Nat) : ∀ (ws : List Z) (vs : List V), ws.all (flat n) = true → Reps K H ws vs → DVs H (dZs ws) vs
  | [], vs, _, r => by rw [reps_nil] at r; simp only [dZs]; unfold DVs; exact r
  | w :: ws, vs, h, r => by
    rw [reps_cons] at r
    obtain ⟨v, r', e, r1, r2⟩ := r
    rw [List.all_cons, Bool.and_eq_true] at h
    simp only [dZs]
    unfold DVs
    exact ⟨v, r', e, dv_of n w v h.1 r1, dvs_of n ws r' h.2 r2⟩
end
theorem shaped_flat {n : Nat} {w : Z} (h : flat n w = true) (hn : n ≤ 64) : SeqAt.shaped (dZ w) = true := by
  have q := dZ_lay n w h
  unfold SeqAt.shaped
  rw [q.1, Bool.true_and]
  exact decide_eq_true (by omega)
theorem shaped_list {n : Nat} {ws : List Z} (h : ws.all (flat n) = true) (hn : n ≤ 63) : SeqAt.shaped (.list (dZs ws)) = true := by
  have q := dZs_lay n ws h
  unfold SeqAt.shaped
  simp only [PyData.canLay0, PyData.depth, q.1, Bool.true_and]
  exact decide_eq_true (by omega)
theorem beq_dec {a : Bool} {p : Prop} [Decidable p] (h : a = true ↔ p) : a = decide p := by
  cases a with
  | true => exact (decide_eq_true (h.mp rfl)).symm
  | false => exact (decide_eq_false fun q => by cases h.mpr q).symm
theorem decide_congr {p q : Prop} [Decidable p] [Decidable q] (h : p = q) : decide p = decide q := by
  by_cases k : q
  · rw [decide_eq_true k, decide_eq_true (h ▸ k)]
  · rw [decide_eq_false k, decide_eq_false (h ▸ k)]
def zEq (f : Bool → Bool) : R3 := fun x y G R => match x, y with
  | .bl a, .bl b => R (.bl (f (a == b))) G
  | .int a, .int b => R (.bl (f (decide (a = b)))) G
  | .str a, .str b => R (.bl (f (decide (a = b)))) G
  | .ref p, .ref q => ∃ xs ys, G p = some (.lst xs) ∧ G q = some (.lst ys) ∧ xs.all (flat 8) = true ∧ ys.all (flat 8) = true ∧ R (.bl (f (decide (xs = ys)))) G
  | x, y => flat 8 x = true ∧ flat 8 y = true ∧ R (.bl (f (decide (x = y)))) G
section
variable {X : Cx}
theorem low_eq {f : Bool → Bool} {K : PySem.W.Frag} {x y : V} {H : Hp} {Q : VK} (h : low2 K (zEq f) x y H Q) :
    (scal x y = true ∧ Q (.bl (f (decide (x = y)))) H) ∨ ∃ d e, DV H d x ∧ DV H e y ∧ SeqAt.shaped d = true ∧ SeqAt.shaped e = true ∧ Q (.bl (f (PyData.eqv d e))) H := by
  obtain ⟨a, b, G, R, ra, rb, hg, h, up⟩ := h
  have flt : flat 8 a = true ∧ flat 8 b = true ∧ R (.bl (f (decide (a = b)))) G → ∃ d e, DV H d x ∧ DV H e y ∧ SeqAt.shaped d = true ∧ SeqAt.shaped e = true ∧ Q (.bl (f (PyData.eqv d e))) H := fun ⟨h1, h2, h3⟩ => by
    refine ⟨dZ a, dZ b, dv_of 8 _ _ h1 ra, dv_of 8 _ _ h2 rb, shaped_flat h1 (by decide), shaped_flat h2 (by decide), ?_⟩
    rw [beq_dec (dZ_eqv 8 a b 8 h1 h2)]
    exact up _ _ _ _ h3 (by rw [rep_bl]) hg (.refl _ _)
  cases a <;> cases b <;> first
    | exact .inr (flt h)
    | (rw [rep_bl] at ra rb; subst ra rb; exact .inl ⟨rfl, by rw [dec_bl]; exact up _ _ _ _ h (by rw [rep_bl]) hg (.refl _ _)⟩)
    | (rw [rep_int] at ra rb; subst ra rb; exact .inl ⟨rfl, by rw [decide_congr (V.int.injEq _ _)]; exact up _ _ _ _ h (by rw [rep_bl]) hg (.refl _ _)⟩)
    | (rw [rep_str] at ra rb; subst ra rb; exact .inl ⟨rfl, by rw [decide_congr (V.str.injEq _ _)]; exact up _ _ _ _ h (by rw [rep_bl]) hg (.refl _ _)⟩)
    | (rw [rep_ref] at ra rb
       subst ra rb
       obtain ⟨xs, ys, e1, e2, f1, f2, h⟩ := h
       obtain ⟨vs, e1', r1⟩ := hg _ _ e1
       obtain ⟨us, e2', r2⟩ := hg _ _ e2
       refine .inr ⟨.list (dZs xs), .list (dZs ys), ?_, ?_, shaped_list f1 (by decide), shaped_list f2 (by decide), ?_⟩
       · unfold DV; exact ⟨_, vs, rfl, e1', dvs_of 8 _ _ f1 r1⟩
       · unfold DV; exact ⟨_, us, rfl, e2', dvs_of 8 _ _ f2 r2⟩
       · simp only [PyData.eqv]
         rw [beq_dec (dZs_eqv 8 8 xs ys f1 f2)]
         exact up _ _ _ _ h (by rw [rep_bl]) hg (.refl _ _))
theorem o_eq (hu : X.A.units + 66 < cLine) : OpQ X (compareOp .Eq) (zEq id) := opImp (op_eq.or (op_eqD hu)) fun x y H Q h => low_eq h
theorem o_ne (hu : X.A.units + 66 < cLine) : OpQ X (compareOp .NotEq) (zEq not) := opImp (op_ne.or (op_neD hu)) fun x y H Q h => low_eq h
def zIn (f : Bool → Bool) : R3 := fun x y G R => match x, y with
  | .str a, .str b => R (.bl (f (!(Builtin.Str.occurrences b a 0 b.length 1).isEmpty))) G
  | x, .ref q => ∃ ws, G q = some (.lst ws) ∧ flat 8 x = true ∧ ws.all (flat 8) = true ∧ R (.bl (f (decide (x ∈ ws)))) G
  | x, .tup ws => flat 8 x = true ∧ ws.all (flat 8) = true ∧ R (.bl (f (decide (x ∈ ws)))) G
  | _, _ => False
end
end L3
namespace L2
open PySem PySem.Spec PyProof.Rows
def Its (x : Str) : It := ⟨fun i _ => i < x.cps.size, fun i H v H' => H' = H ∧ ∃ c, x.cps[i]? = some c ∧ v = .str ⟨#[c]⟩, fun i _ => i = x.cps.size⟩
theorem turn_str {P : Program} {w : World} {K : PySem.W.Frag} {tg : Expr} {it : Addr} {ty : String} {x : Str} {t : Tok}
    (hty : ["enumerate", "zip", "dict_itemiterator", "dict_reverseitemiterator", "odict_iterator", "itertools.zip_longest", "itertools.pairwise"].contains ty = false)
    (W : ∀ A' : Around, A'.handled = none → Walks P w A' it [it] [it] x.cps.size (SignAt x) (fun i h => h.IsStrIter it ty x t i))
    (hself : ∀ (A : Around) (i : Nat) (s : Shared) (Q : Value → Shared → Prop) (E : Value → Shared → Prop), s.heap.IsStrIter it ty x t i → Q (.ref it) s → wpAny (model P w) A (pyIter (.ref it)) Q E s) :
    Turn P w K tg (Its x) [it] it (fun i h => h.IsStrIter it ty x t i) where
  mem := by simp
  obj := fun i h st b hb => by
    have e : b = it := by simpa using hb
    subst e
    obtain ⟨o, e, c, d⟩ := st
    exact ⟨o, e, fun v z => by rw [d] at z; cases z⟩
  keep := fun i h h' st k => let ⟨o, e, r⟩ := st; ⟨o, k it (by simp) o e, r⟩
  item := by
    intro X hP hw hK hc i pins s σ H E I hf st hg
    subst hP hw hK
    obtain ⟨f0, f1, f2, f3, f4, f5⟩ := hf it (by simp)
    refine (W X.A (I.ok.hd hc)).item i s _ _ hg st fun v h' tk ⟨c, u, hx, e⟩ st' k => ?_
    subst e
    have I1 : Inv X pins σ H { s with heap := h', toks := tk } := I.turned (t' := tk) (fun b o hb e => k b o (by simpa using hb) e) f0 f1 f3 f4 f5
    obtain ⟨o, e, cl, d⟩ := id st'
    exact ⟨_, rfl, go_of (s := { s with heap := h', toks := tk }) e cl d hty ⟨.str ⟨#[c]⟩, H, I1, ⟨_, rfl⟩, ⟨rfl, c, hx, rfl⟩, st', fun b hb => (hf b hb).1⟩⟩
  done := by
    intro X hP hw hK hc i pins s σ H E I hf st hg
    subst hP hw hK
    obtain ⟨f0, f1, f2, f3, f4, f5⟩ := hf it (by simp)
    have hg' : i = x.cps.size := hg
    subst hg'
    exact (W X.A (I.ok.hd hc)).done s _ _ st fun h' tk k => ⟨rfl, I.turned (t' := tk) (fun b o hb e => k b o (by simpa using hb) e) f0 f1 f3 f4 f5⟩
  self := hself
def iStr (tl : TE) : TI := fun σ H R => tl σ H fun v H1 => ∃ x, v = .str x ∧ R (Its x) H1
theorem pi_str {X : Cx} {tg l : Expr} {tl : TE} (hl : PE X l tl) : PI X tg l (iStr tl) := by
  intro pins s σ H R I h
  refine thn (hl pins s σ H _ I h) fun v s1 ⟨x, H1, I1, r1, q1⟩ => ?_
  obtain ⟨y, e, q⟩ := q1
  subst e
  obtain ⟨t, rfl⟩ := r1
  have fp : ∀ (o : Obj), ∀ b ∈ [s1.heap.objs.size], FpOk X pins H1 b := fun o b hb => by
    have e : b = s1.heap.objs.size := by simpa using hb
    subst e
    exact I1.fpOk (Nat.le_refl _) (I1.hok.fresh (Nat.le_refl _))
  cases ha : y.cps.all (· < 128)
  · refine wpAny_pyIter_wide ha ?_
    exact ⟨s1.heap.objs.size, [s1.heap.objs.size], _, _, H1, rfl, I1.kept (t' := s1.toks) (fun b o e => Heap.get?_push_of_some _ e), turn_str (by decide) (fun A' hA => Walks.strWide hA _ y t) (fun _ _ _ _ _ st h => wpAny_pyIter_striter_wide st h),
      ⟨_, Heap.get?_push_size _ rfl, rfl, rfl⟩, fp default, q⟩
  · refine wpAny_pyIter_ascii ha ?_
    exact ⟨s1.heap.objs.size, [s1.heap.objs.size], _, _, H1, rfl, I1.kept (t' := s1.toks) (fun b o e => Heap.get?_push_of_some _ e), turn_str (by decide) (fun A' hA => Walks.strAscii hA _ y t) (fun _ _ _ _ _ st h => wpAny_pyIter_striter_ascii st h),
      ⟨_, Heap.get?_push_size _ rfl, rfl, rfl⟩, fp default, q⟩
theorem Vals.tog : ∀ {xs : List V} {us : List Value} {i : Nat} {u : Value}, Vals xs us → us[i]? = some u → ∃ x, xs[i]? = some x ∧ RelV x u
  | _, _, _, _, .nil, e => by simp at e
  | _, _, 0, _, .cons r _, e => by simp at e; subst e; exact ⟨_, rfl, r⟩
  | _, _, i + 1, u, .cons _ t, e => by
    obtain ⟨x, h1, h2⟩ := Vals.tog (i := i) (u := u) t (by simpa using e)
    exact ⟨x, by simpa using h1, h2⟩
theorem strsAre_of : ∀ {ys : List Str} {us : List Value}, Vals (ys.map V.str) us → StrsAre us ys
  | [], us, r => by rw [List.map_nil] at r; cases r; exact .nil
  | y :: ys, us, r => by
    rw [List.map_cons] at r
    cases r with
    | cons r1 r2 =>
      obtain ⟨t, e⟩ := r1
      subst e
      exact .cons y t (strsAre_of r2)
theorem all_range (bs : List Bool) : (List.range bs.length).all (fun i => bs.getD i false) = bs.all id := by
  rw [Bool.eq_iff_iff]
  simp only [List.all_eq_true, List.mem_range, id]
  constructor
  · intro h b hb
    obtain ⟨i, hi, e⟩ := List.getElem_of_mem hb
    have := h i hi
    rw [List.getD_eq_getElem?_getD, List.getElem?_eq_getElem hi] at this
    rw [← e]; exact this
  · intro h i hi
    rw [List.getD_eq_getElem?_getD, List.getElem?_eq_getElem hi]
    exact h _ (List.getElem_mem hi)
section
variable {X : Cx}
theorem call_allB (hc : X.calm = true) : CallR X (.builtin "all") (fun xs H Q => ∃ (p : Addr) (bs : List Bool), xs = [.ref p] ∧ SqL X.K H p (bs.map V.bl) ∧ Q (.bl (bs.all id)) H) := by
  intro pins s σ H xs us Q I r h
  obtain ⟨p, bs, rfl, hq, q⟩ := h
  obtain ⟨u, rfl, r1⟩ := vals1 r
  cases r1
  obtain ⟨its, rv, pl, _⟩ := I.list hq
  have hp : p < s.heap.objs.size := by obtain ⟨o, _, e, _⟩ := pl; exact Heap.lt_size e
  refine call_all_walk (wpAny_pyIter_list pl.isList ?_)
  have hh : X.A.in1.handled = none := I.ok.hd hc
  have il : (s.heap.push { cls := .type "list_iterator", data := .fields #[.ref p, rawInt 0] }).IsList p its.toArray := by
    obtain ⟨o, e, c⟩ := pl.isList
    exact ⟨o, Heap.get?_push_of_some _ e, c⟩
  refine ⟨_, _, _, _, _, _, fun i => bs.getD i false, rfl, Walks.list hh s.heap.objs.size p (Nat.ne_of_lt hp) its.toArray, ⟨⟨_, Heap.get?_push_size _ rfl, rfl, rfl⟩, il⟩, ?_, ?_⟩
  · intro i v s' Q' E' hv hQ
    obtain ⟨x, hx, rx⟩ := Vals.tog rv (by simpa using hv)
    rw [List.getElem?_map] at hx
    cases hb : bs[i]? with
    | none => rw [hb] at hx; cases hx
    | some b =>
      rw [hb] at hx
      cases hx
      cases rx
      refine wpAny_truthy_bool ?_
      have : bs.getD i false = b := by rw [List.getD_eq_getElem?_getD, hb]; rfl
      dsimp only at hQ
      rw [this] at hQ
      exact hQ
  · intro h' tk k
    have e : (List.range its.toArray.size).all (fun i => bs.getD i false) = bs.all id := by
      have hl : its.toArray.size = bs.length := by rw [List.size_toArray, ← rv.length, List.length_map]
      rw [hl]
      exact all_range bs
    rw [e]
    exact ⟨.bl _, H, I.kept (t' := tk) (fun b o eb => k b o (by simpa using Nat.ne_of_lt (Heap.lt_size eb)) (Heap.get?_push_of_some _ eb)), rfl, q⟩
theorem mt_join : MtR X "str.join" (fun x vs H Q => ∃ (z : Str) (p : Addr) (ys : List Str), x = .str z ∧ vs = [.ref p] ∧ SqL X.K H p (ys.map V.str) ∧ (ys.map (·.length)).sum + ys.length * z.length ≤ 16777216 ∧ Q (.str (Txt.join z ys)) H) := by
  intro pins s σ H x xs v us Q I rx rs h
  obtain ⟨z, p, ys, rfl, rfl, hq, hz, q⟩ := h
  obtain ⟨t, rfl⟩ := rx
  obtain ⟨u, rfl, r1⟩ := vals1 rs
  cases r1
  obtain ⟨its, rv, pl, _⟩ := I.list hq
  exact join_list pl.isList (by simpa using strsAre_of rv) hz fun t' k => ⟨.str _, H, I.tok k, ⟨_, rfl⟩, q⟩
def rSlS : V → Option Int → Option Int → Hp → VK → Prop := fun x lo hi H Q => ∃ z, x = .str z ∧ z.length ≤ sizeLine ∧ Q (.str (Txt.slice z lo hi)) H
theorem sl_str : SlR X rSlS := by
  intro pins s σ H x v vl vu lo hi sl Q I rx hs pl pu h
  obtain ⟨z, rfl, hz, q⟩ := h
  obtain ⟨t, rfl⟩ := rx
  obtain ⟨o, e, c, d⟩ := hs
  have fin : ∀ lo hi, Q (.str (Txt.slice z lo hi)) H → (Txt.slice z lo hi).length ≤ sizeLine ∧ ∀ t' k, EP X pins σ Q (.str (Txt.slice z lo hi) t') { s with toks := k } := fun lo hi q =>
    ⟨Nat.le_trans (Txt.slice_le z _ _) hz, fun t' k => ⟨.str _, H, I.tok k, ⟨_, rfl⟩, q⟩⟩
  cases pl with
  | none =>
    cases pu with
    | none => exact ⟨"str", _, F.slot_str_getitem.lookup, typeIs_str _ _ _, wpAny_getItem_str_slice (l := none) (u := none) (st := none) ⟨o, e, c, d⟩ rfl (post_val_or_str (fin _ _ q))⟩
    | int j u => exact ⟨"str", _, F.slot_str_getitem.lookup, typeIs_str _ _ _, wpAny_getItem_str_slice (l := none) (u := some (j, u)) (st := none) ⟨o, e, c, d⟩ rfl (post_val_or_str (fin _ _ q))⟩
  | int i v =>
    cases pu with
    | none => exact ⟨"str", _, F.slot_str_getitem.lookup, typeIs_str _ _ _, wpAny_getItem_str_slice (l := some (i, v)) (u := none) (st := none) ⟨o, e, c, d⟩ rfl (post_val_or_str (fin _ _ q))⟩
    | int j u => exact ⟨"str", _, F.slot_str_getitem.lookup, typeIs_str _ _ _, wpAny_getItem_str_slice (l := some (i, v)) (u := some (j, u)) (st := none) ⟨o, e, c, d⟩ rfl (post_val_or_str (fin _ _ q))⟩
end
end L2
namespace L3
open PySem PySem.Spec PyProof.Rows L2
section
variable {X : Cx}
def zIx : R3 := fun x y G R => match x, y with
  | .ref p, .int i => ∃ ws w, G p = some (.lst ws) ∧ atI ws i = some w ∧ R w G
  | .scr _ ns, .int i => ∃ n, atI ns i = some n ∧ R (.int n) G
  | .tup ws, .int i => ∃ w, atI ws i = some w ∧ R w G
  | .str z, .int i => ∃ c, z.length ≤ sizeLine ∧ atI z.cps.toList i = some c ∧ R (.str ⟨#[c]⟩) G
  | _, _ => False
theorem atI_rep {K : PySem.W.Frag} {H : Hp} {ws : List Z} {vs : List V} {i : Int} {w : Z} (r : Reps K H ws vs) (h : atI ws i = some w) : ∃ v, atI vs i = some v ∧ Rep K H w v := by
  unfold atI at h ⊢
  rw [← r.length]
  cases e : ixN ws.length i with
  | none => rw [e] at h; cases h
  | some j =>
    rw [e] at h
    exact r.get h
theorem atI_map {α β : Type} {f : α → β} {xs : List α} {i : Int} {x : α} (h : atI xs i = some x) : atI (xs.map f) i = some (f x) := by
  unfold atI at h ⊢
  rw [List.length_map]
  cases e : ixN xs.length i with
  | none => rw [e] at h; cases h
  | some j =>
    rw [e] at h
    have h' : xs[j]? = some x := h
    show (xs.map f)[j]? = some (f x)
    rw [List.getElem?_map, h']; rfl
theorem x_ix : IxQ X zIx := ixImp ix_seq fun x y H Q hx => hx.un fun a b G R ra rb hg h up => by
  cases a <;> cases b <;> first
    | exact False.elim h
    | (rw [rep_ref] at ra
       rw [rep_int] at rb
       obtain ⟨ws, w, e, hw, h⟩ := h
       obtain ⟨vs, e', rs⟩ := hg _ _ e
       obtain ⟨v, hv, rv⟩ := atI_rep rs hw
       exact .inl ⟨_, _, _, v, ra, rb, SqL.of e', hv, up _ _ _ _ h rv hg (.refl _ _)⟩)
    | (rw [rep_scr] at ra
       rw [rep_int] at rb
       obtain ⟨n, hn, h⟩ := h
       exact .inl ⟨_, _, _, _, ra.1, rb, ra.2.sq, atI_map hn, up _ _ _ _ h (by rw [rep_int]) hg (.refl _ _)⟩)
    | (rw [rep_tup] at ra
       rw [rep_int] at rb
       obtain ⟨p, vs, e, e', rs⟩ := ra
       obtain ⟨w, hw, h⟩ := h
       obtain ⟨v, hv, rv⟩ := atI_rep rs hw
       exact .inr (.inl ⟨p, vs, _, v, e, rb, SqT.of e', hv, up _ _ _ _ h rv hg (.refl _ _)⟩))
    | (rw [rep_str] at ra
       rw [rep_int] at rb
       obtain ⟨c, hz, hc, h⟩ := h
       exact .inr (.inr ⟨_, _, c, ra, rb, hz, hc, up _ _ _ _ h (by rw [rep_str]) hg (.refl _ _)⟩))
def cutZ {α : Type} (xs : List α) (lo hi : Option Int) : List α := (xs.drop (HT.sIx xs.length 0 lo)).take (HT.sIx xs.length xs.length hi - HT.sIx xs.length 0 lo)
theorem cutV_eq (xs : List V) (lo hi : Option Int) : cutV xs lo hi = cutZ xs lo hi := rfl
theorem Reps.cut {K : PySem.W.Frag} {H : Hp} {ws : List Z} {vs : List V} (r : Reps K H ws vs) (lo hi : Option Int) : Reps K H (cutZ ws lo hi) (cutV vs lo hi) := by
  unfold cutZ cutV
  rw [← r.length]
  exact (r.drop _).take _
theorem cutZ_map {α β : Type} (f : α → β) (xs : List α) (lo hi : Option Int) : cutZ (xs.map f) lo hi = (cutZ xs lo hi).map f := by
  unfold cutZ
  rw [List.length_map, List.map_take, List.map_drop]
def zSl : L3r := fun x lo hi G R => match x with
  | .ref p => ∃ ws, G p = some (.lst ws) ∧ ∀ t, G t = none → R (.ref t) (put G t (.lst (cutZ ws lo hi)))
  | .scr _ ns => ∀ t, G t = none → R (.ref t) (put G t (.lst ((cutZ ns lo hi).map Z.int)))
  | .tup ws => ¬ (HT.sIx ws.length 0 lo = 0 ∧ HT.sIx ws.length ws.length hi = ws.length) ∧ R (.tup (cutZ ws lo hi)) G
  | .str z => z.length ≤ sizeLine ∧ R (.str (Txt.slice z lo hi)) G
  | _ => False
theorem x_sl : SlQ X zSl := slImp (sl_list.or (sl_tup.or sl_str)) fun x lo hi H Q hx => hx.un fun a G R ra hg h up => by
  cases a with
  | ref p =>
    rw [rep_ref] at ra
    obtain ⟨ws, e, h⟩ := h
    obtain ⟨vs, e', rs⟩ := hg _ _ e
    exact .inl ⟨p, vs, ra, SqL.of e', fun t ht => up _ _ _ _ (h t (hg.out ht)) (by rw [rep_ref]) (hg.set (.new ht) (rob_lst (rs.cut lo hi) (.new ht))) (.new ht)⟩
  | scr p ns =>
    rw [rep_scr] at ra
    refine .inl ⟨p, _, ra.1, ra.2.sq, fun t ht => ?_⟩
    rw [cutV_eq, cutZ_map]
    exact up _ _ _ _ (h t (hg.out ht)) (by rw [rep_ref]) (hg.set (.new ht) (rob_lst (ints_reps _) (.new ht))) (.new ht)
  | tup ws =>
    rw [rep_tup] at ra
    obtain ⟨p, vs, e, e', rs⟩ := ra
    exact .inr (.inl ⟨p, vs, e, SqT.of e', by rw [← rs.length]; exact h.1, fun t ht => up _ _ _ _ h.2 (by rw [rep_tup]; exact ⟨t, _, rfl, upd_same, (rs.cut lo hi).mono (.new ht)⟩) (hg.hid ht) (.new ht)⟩)
  | str z =>
    rw [rep_str] at ra
    exact .inr (.inr ⟨z, ra, h.1, up _ _ _ _ h.2 (by rw [rep_str]) hg (.refl _ _)⟩)
  | _ => exact False.elim h
def zLen : List Z → Hq → K3 → Prop := fun xs G R => match xs with
  | [.str z] => z.length ≤ sizeLine ∧ R (.int z.length) G
  | [.ref p] => ∃ ws, G p = some (.lst ws) ∧ R (.int ws.length) G
  | [.tup ws] => R (.int ws.length) G
  | [.scr _ ns] => R (.int ns.length) G
  | _ => False
theorem b_len : CallQ X (.builtin "len") zLen := callImp call_len fun xs H Q hx => hx.un fun ws G R rs hg h up => by
  match ws, h with
  | [.str z], h =>
    obtain ⟨v, rfl, r⟩ := rs.one
    rw [rep_str] at r
    exact ⟨v, z.length, rfl, by rw [r]; exact ⟨h.1, rfl⟩, up _ _ _ _ h.2 (by rw [rep_int]) hg (.refl _ _)⟩
  | [.ref p], h =>
    obtain ⟨v, rfl, r⟩ := rs.one
    rw [rep_ref] at r
    obtain ⟨ys, e, h⟩ := h
    obtain ⟨vs, e', rs'⟩ := hg _ _ e
    exact ⟨v, ys.length, rfl, by rw [r]; exact .inl ⟨vs, SqL.of e', rs'.length⟩, up _ _ _ _ h (by rw [rep_int]) hg (.refl _ _)⟩
  | [.tup ys], h =>
    obtain ⟨v, rfl, r⟩ := rs.one
    rw [rep_tup] at r
    obtain ⟨p, vs, e, e', rs'⟩ := r
    exact ⟨v, ys.length, rfl, by rw [e]; exact .inr ⟨vs, SqT.of e', rs'.length⟩, up _ _ _ _ h (by rw [rep_int]) hg (.refl _ _)⟩
  | [.scr p ns], h =>
    obtain ⟨v, rfl, r⟩ := rs.one
    rw [rep_scr] at r
    exact ⟨v, ns.length, rfl, by rw [r.1]; exact .inl ⟨_, r.2.sq, (List.length_map ..).symm⟩, up _ _ _ _ h (by rw [rep_int]) hg (.refl _ _)⟩
def zMM (f : Int → Int → Int) : List Z → Hq → K3 → Prop := fun xs G R => match xs with
  | [.int i, .int j] => R (.int (f i j)) G
  | _ => False
theorem bMM {id : String} {f : Int → Int → Int} (hf : CallR X (.builtin id) (fun xs H Q => ∃ i j, xs = [.int i, .int j] ∧ Q (.int (f i j)) H)) : CallQ X (.builtin id) (zMM f) := callImp hf fun xs H Q hx => hx.un fun ws G R rs hg h up => by
  match ws, h with
  | [.int i, .int j], h =>
    obtain ⟨v, v', rfl, r, r'⟩ := rs.two
    rw [rep_int] at r r'
    exact ⟨i, j, by rw [r, r'], up _ _ _ _ h (by rw [rep_int]) hg (.refl _ _)⟩
theorem b_max (hc : X.calm = true) : CallQ X (.builtin "max") (zMM fun i j => if j > i then j else i) := bMM (call_max2 hc)
def zAll : List Z → Hq → K3 → Prop := fun xs G R => match xs with
  | [.ref p] => ∃ bs : List Bool, G p = some (.lst (bs.map Z.bl)) ∧ R (.bl (bs.all id)) G
  | _ => False
theorem reps_bls {K : PySem.W.Frag} {H : Hp} : ∀ {bs : List Bool} {vs : List V}, Reps K H (bs.map Z.bl) vs → vs = bs.map V.bl
  | [], vs, h => by rw [List.map_nil, reps_nil] at h; subst h; rfl
  | n :: ns, vs, h => by
    rw [List.map_cons, reps_cons] at h
    obtain ⟨v, r, rfl, h1, h2⟩ := h
    rw [rep_bl] at h1
    rw [h1, reps_bls h2]; rfl
theorem reps_strs {K : PySem.W.Frag} {H : Hp} : ∀ {bs : List Str} {vs : List V}, Reps K H (bs.map Z.str) vs → vs = bs.map V.str
  | [], vs, h => by rw [List.map_nil, reps_nil] at h; subst h; rfl
  | n :: ns, vs, h => by
    rw [List.map_cons, reps_cons] at h
    obtain ⟨v, r, rfl, h1, h2⟩ := h
    rw [rep_str] at h1
    rw [h1, reps_strs h2]; rfl
theorem b_all (hc : X.calm = true) : CallQ X (.builtin "all") zAll := callImp (call_allB hc) fun xs H Q hx => hx.un fun ws G R rs hg h up => by
  match ws, h with
  | [.ref p], h =>
    obtain ⟨v, rfl, r⟩ := rs.one
    rw [rep_ref] at r
    obtain ⟨bs, e, h⟩ := h
    obtain ⟨vs, e', rs'⟩ := hg _ _ e
    have := reps_bls rs'
    subst this
    exact ⟨p, bs, by rw [r], SqL.of e', up _ _ _ _ h (by rw [rep_bl]) hg (.refl _ _)⟩
def zJoin : Z → List Z → Hq → K3 → Prop := fun x xs G R => match x, xs with
  | .str z, [.ref p] => ∃ ys : List Str, G p = some (.lst (ys.map Z.str)) ∧ (ys.map (·.length)).sum + ys.length * z.length ≤ 16777216 ∧ R (.str (Txt.join z ys)) G
  | _, _ => False
theorem m_join : MtQ X "str.join" zJoin := mtImp mt_join fun x xs H Q hx => hx.un fun w ws G R rw' rs hg h up => by
  match w, ws, h with
  | .str z, [.ref p], h =>
    rw [rep_str] at rw'
    obtain ⟨v, rfl, r⟩ := rs.one
    rw [rep_ref] at r
    obtain ⟨ys, e, hz, h⟩ := h
    obtain ⟨vs, e', rs'⟩ := hg _ _ e
    have := reps_strs rs'
    subst this
    exact ⟨z, p, ys, rw', by rw [r], SqL.of e', hz, up _ _ _ _ h (by rw [rep_str]) hg (.refl _ _)⟩
def uDNew : E3 := fun _ G R => ∀ p, G p = none → R (.ref p) (put G p (.dK []))
def signs (x : Str) : List Z := x.cps.toList.map fun c => .str ⟨#[c]⟩
def wkS (x : Z) (G : Hq) (R : List Z → (Hq → Prop) → Hq → Prop) : Prop := match x with
  | .str z => R (signs z) (fun _ => True) G
  | _ => False
def iS (tl : E3) : I3 := fun σ G R => tl σ G fun x G1 => wkS x G1 R
theorem lowIt_str {K : PySem.W.Frag} {x : Str} {H0 : Hp} : LowIt K (signs x) (fun _ => True) (Its x) H0 := fun i G H hg t ok hi => by
  have hl : (signs x).length = x.cps.size := by unfold signs; rw [List.length_map, Array.length_toList]
  refine ⟨fun h => by rw [h, hl]; rfl, fun w hw => ?_⟩
  unfold signs at hw
  rw [List.getElem?_map] at hw
  cases hc : x.cps.toList[i]? with
  | none => rw [hc] at hw; cases hw
  | some c =>
    rw [hc] at hw
    cases hw
    have hc' : x.cps[i]? = some c := by simpa using hc
    refine ⟨(Array.getElem?_eq_some_iff.mp hc').1, ?_⟩
    rintro v H' ⟨rfl, c2, h2, rfl⟩
    rw [hc'] at h2
    cases h2
    exact ⟨by rw [rep_str], hg, .refl _ _⟩
theorem it_str {tg l : Expr} {tl : E3} (hl : QE X l tl) : QI X tg l (iS tl) := piImp (pi_str hl.p) fun τ H R2 hx => hx.un fun σ G R hs hg h up => by
  refine ⟨σ, G, _, hs, hg, h, fun w G1 v H1 h1 rv hg1 t1 => ?_⟩
  cases w with
  | str x =>
    rw [rep_str] at rv
    exact ⟨x, rv, up _ _ _ _ _ h1 lowIt_str hg1 t1⟩
  | _ => exact False.elim h1
end
end L3
namespace L3
open PySem PySem.Spec PyProof.Rows L2
section
variable {σ : S3} {G : Hq} {R : K3} {Rb : Bool → Hq → Prop} {Ra : List Z → Hq → Prop} {nx bk ct : C3} {rt : K3} {t u : X3} {te ta tb tc to ti : E3} {c d : T3} {al : A3} {r r' : R3} {w x y : Z} {i : Nat}
theorem i_var (e : σ[i]? = some (some w)) (h : R w G) : uVar i σ G R := ⟨w, e, h⟩
theorem i_c (h : R w G) : uC w σ G R := h
theorem i_op (h : ta σ G fun x G1 => tb σ G1 fun y G2 => r x y G2 R) : uOp r ta tb σ G R := h
theorem i_un {r : Z → Hq → K3 → Prop} (h : ta σ G fun x G1 => r x G1 R) : uUn r ta σ G R := h
theorem i_test (h : ta σ G fun x G1 => ∃ k, x = .bl k ∧ Rb k G1) : uTest ta σ G Rb := h
theorem i_chain (h : ta σ G fun x G1 => tb σ G1 fun y G2 => r x y G2 fun z G3 => ∃ k, z = .bl k ∧ (if k = true then tc σ G3 fun w G4 => r' y w G4 R else R (.bl false) G3)) : uChain r r' ta tb tc σ G R := h
theorem i_and (h : c σ G fun k G1 => if k = true then d σ G1 Rb else Rb false G1) : uAnd c d σ G Rb := h
theorem i_or (h : c σ G fun k G1 => if k = true then Rb true G1 else d σ G1 Rb) : uOr c d σ G Rb := h
theorem i_not (h : c σ G fun k G1 => Rb (!k) G1) : uNot c σ G Rb := h
theorem i_andV (h : ta σ G fun x G1 => ∃ c, x = .bl c ∧ if c = true then tb σ G1 R else R (.bl false) G1) : uAndV ta tb σ G R := h
theorem i_orV (h : ta σ G fun x G1 => ∃ c, x = .bl c ∧ if c = true then R (.bl true) G1 else tb σ G1 R) : uOrV ta tb σ G R := h
theorem i_notV (h : ta σ G fun x G1 => ∃ c, x = .bl c ∧ R (.bl (!c)) G1) : uNotV ta σ G R := h
theorem i_if (h : c σ G fun k G1 => if k = true then ta σ G1 R else tb σ G1 R) : uIf c ta tb σ G R := h
theorem i_tru (h : ta σ G fun x G1 => tru x G1 Rb) : uTru ta σ G Rb := h
theorem i_truI {n : Int} (h : Rb (n != 0) G) : tru (.int n) G Rb := h
theorem i_truB {b : Bool} (h : Rb b G) : tru (.bl b) G Rb := h
theorem i_sl {r : L3r} {tl th : O3} (h : te σ G fun x G1 => tl σ G1 fun l G2 => th σ G2 fun u G3 => r x l u G3 R) : uSl r te tl th σ G R := h
theorem i_nopart {Ro : Option Int → Hq → Prop} (h : Ro none G) : uNoPart σ G Ro := h
theorem i_part {Ro : Option Int → Hq → Prop} (h : te σ G fun x G1 => ∃ i, x = .int i ∧ Ro (some i) G1) : uPart te σ G Ro := h
theorem i_nil (h : Ra [] G) : uNil σ G Ra := h
theorem i_cons (h : ta σ G fun x G1 => al σ G1 fun xs G2 => Ra (x :: xs) G2) : uCons ta al σ G Ra := h
theorem i_tup (h : al σ G fun xs G1 => xs.length ≤ sizeLine ∧ R (.tup xs) G1) : uTup al σ G R := h
theorem i_lst (h : al σ G fun xs G1 => xs.length ≤ sizeLine ∧ ∀ p, G1 p = none → R (.ref p) (put G1 p (.lst xs))) : uLst al σ G R := h
theorem i_cb {r : List Z → Hq → K3 → Prop} (h : al σ G fun ws G1 => r ws G1 R) : uCB r al σ G R := h
theorem i_bm0 {T : String} {r : Z → List Z → Hq → K3 → Prop} (h : to σ G fun x G1 => tyZ T x G1 ∧ r x [] G1 R) : uBM0 T r to σ G R := h
theorem i_bm {T : String} {r : Z → List Z → Hq → K3 → Prop} (h : to σ G fun x G1 => tyZ T x G1 ∧ al σ G1 fun xs G2 => r x xs G2 R) : uBM T r to al σ G R := h
theorem i_call {sp : P3} (h : al σ G fun ws G1 => sp ws G1 R) : uCall sp al σ G R := h
theorem i_next (h : nx σ G) : uNext nx rt bk ct σ G := h
theorem i_seq (h : t (u nx rt bk ct) rt bk ct σ G) : uSeq t u nx rt bk ct σ G := h
theorem i_drop (h : te σ G fun _ G1 => nx σ G1) : uDrop te nx rt bk ct σ G := h
theorem i_ret (h : te σ G rt) : uRet te nx rt bk ct σ G := h
theorem i_retN (h : rt .non G) : uRetN nx rt bk ct σ G := h
theorem i_ifS (h : c σ G fun b G1 => if b = true then t nx rt bk ct σ G1 else u nx rt bk ct σ G1) : uIfS c t u nx rt bk ct σ G := h
theorem i_asg {pt : Pt} (h : te σ G fun x G1 => ∃ σ', bindZ pt x σ = some σ' ∧ nx σ' G1) : uAsg te pt nx rt bk ct σ G := h
theorem i_put {r : Z3} (h : te σ G fun w G1 => to σ G1 fun o G2 => ti σ G2 fun i G3 => r o i w G3 fun G4 => nx σ G4) : uPut te to ti r nx rt bk ct σ G := h
theorem i_aug (e : σ[i]? = some (some x)) (h : te σ G fun y G1 => r x y G1 fun z G2 => nx (σ.set i (some z)) G2) : uAug i te r nx rt bk ct σ G := ⟨x, e, h⟩
theorem i_break (h : bk σ G) : uBreak nx rt bk ct σ G := h
theorem i_cont (h : ct σ G) : uCont nx rt bk ct σ G := h
theorem i_addI {a b : Int} (h : R (.int (a + b)) G) : zAdd (.int a) (.int b) G R := h
theorem i_addS {a b : Str} (z : a.length + b.length ≤ sizeLine) (h : R (.str (a ++ b)) G) : zAdd (.str a) (.str b) G R := ⟨z, h⟩
theorem i_addL {p q : Addr} {xs ys : List Z} (e : G p = some (.lst xs)) (e' : G q = some (.lst ys)) (z : xs.length + ys.length ≤ sizeLine) (h : ∀ t, G t = none → R (.ref t) (put G t (.lst (xs ++ ys)))) : zAdd (.ref p) (.ref q) G R := ⟨xs, ys, e, e', z, h⟩
theorem i_I {C : Int → Int → Prop} {g : Int → Int → Z} {a b : Int} (k : C a b) (h : R (g a b) G) : zI C g (.int a) (.int b) G R := ⟨k, h⟩
theorem i_I0 {g : Int → Int → Z} {a b : Int} (h : R (g a b) G) : zI0 g (.int a) (.int b) G R := h
theorem i_neg {a : Int} (h : R (.int (-a)) G) : zNeg (.int a) G R := h
theorem i_CI {f : Int → Int → Bool} {g : Str → Str → Bool} {a b : Int} (h : R (.bl (f a b)) G) : zC f g (.int a) (.int b) G R := h
theorem i_CS {f : Int → Int → Bool} {g : Str → Str → Bool} {a b : Str} (h : R (.bl (g a b)) G) : zC f g (.str a) (.str b) G R := h
theorem i_isN (h : R (.bl (decide (x = .non))) G) : zIs false x .non G R := h
theorem i_isB {a b : Bool} (h : R (.bl (a == b)) G) : zIs false (.bl a) (.bl b) G R := ⟨rfl, h⟩
theorem i_notN (h : R (.bl (!decide (x = .non))) G) : zIs true x .non G R := h
theorem i_eqB {f : Bool → Bool} {a b : Bool} (h : R (.bl (f (a == b))) G) : zEq f (.bl a) (.bl b) G R := h
theorem i_eqI {f : Bool → Bool} {a b : Int} (h : R (.bl (f (decide (a = b)))) G) : zEq f (.int a) (.int b) G R := h
theorem i_eqS {f : Bool → Bool} {a b : Str} (h : R (.bl (f (decide (a = b)))) G) : zEq f (.str a) (.str b) G R := h
theorem i_eqL {f : Bool → Bool} {p q : Addr} {xs ys : List Z} (e : G p = some (.lst xs)) (e' : G q = some (.lst ys)) (f1 : xs.all (flat 8) = true) (f2 : ys.all (flat 8) = true) (h : R (.bl (f (decide (xs = ys)))) G) : zEq f (.ref p) (.ref q) G R := ⟨xs, ys, e, e', f1, f2, h⟩
theorem i_ixL {p : Addr} {ws : List Z} {k : Int} (e : G p = some (.lst ws)) (a : atI ws k = some w) (h : R w G) : zIx (.ref p) (.int k) G R := ⟨ws, w, e, a, h⟩
theorem i_ixT {ws : List Z} {k : Int} (a : atI ws k = some w) (h : R w G) : zIx (.tup ws) (.int k) G R := ⟨w, a, h⟩
theorem i_ixS {z : Str} {k : Int} {ch : Nat} (l : z.length ≤ sizeLine) (a : atI z.cps.toList k = some ch) (h : R (.str ⟨#[ch]⟩) G) : zIx (.str z) (.int k) G R := ⟨ch, l, a, h⟩
theorem i_slS {z : Str} {lo hi : Option Int} (l : z.length ≤ sizeLine) (h : R (.str (Txt.slice z lo hi)) G) : zSl (.str z) lo hi G R := ⟨l, h⟩
theorem i_slL {p : Addr} {ws : List Z} {lo hi : Option Int} (e : G p = some (.lst ws)) (h : ∀ t, G t = none → R (.ref t) (put G t (.lst (cutZ ws lo hi)))) : zSl (.ref p) lo hi G R := ⟨ws, e, h⟩
theorem i_slC {p : Addr} {ns : List Int} {lo hi : Option Int} (h : ∀ t, G t = none → R (.ref t) (put G t (.lst ((cutZ ns lo hi).map Z.int)))) : zSl (.scr p ns) lo hi G R := h
theorem i_dnew (h : ∀ p, G p = none → R (.ref p) (put G p (.dK []))) : uDNew σ G R := h
theorem i_lenS {z : Str} (l : z.length ≤ sizeLine) (h : R (.int z.length) G) : zLen [.str z] G R := ⟨l, h⟩
theorem i_lenL {p : Addr} {ws : List Z} (e : G p = some (.lst ws)) (h : R (.int ws.length) G) : zLen [.ref p] G R := ⟨ws, e, h⟩
theorem i_lenT {ws : List Z} (h : R (.int ws.length) G) : zLen [.tup ws] G R := h
theorem i_lenC {p : Addr} {ns : List Int} (h : R (.int ns.length) G) : zLen [.scr p ns] G R := h
theorem i_mm {f : Int → Int → Int} {a b : Int} (h : R (.int (f a b)) G) : zMM f [.int a, .int b] G R := h
theorem i_all {p : Addr} {bs : List Bool} (e : G p = some (.lst (bs.map Z.bl))) (h : R (.bl (bs.all id)) G) : zAll [.ref p] G R := ⟨bs, e, h⟩
theorem i_join {z : Str} {p : Addr} {ys : List Str} (e : G p = some (.lst (ys.map Z.str))) (l : (ys.map (·.length)).sum + ys.length * z.length ≤ 16777216) (h : R (.str (Txt.join z ys)) G) : zJoin (.str z) [.ref p] G R := ⟨ys, e, l, h⟩
theorem i_tyS {z : Str} {P : Prop} (h : P) : tyZ "str" (.str z) G ∧ P := ⟨rfl, h⟩
theorem i_nm {j : Nat} (h : nx (σ.set j (some w)) G) : ∃ σ', bindZ (.nm j) w σ = some σ' ∧ nx σ' G := ⟨_, rfl, h⟩
theorem i_inS {f : Bool → Bool} {a b : Str} (h : R (.bl (f (!(Builtin.Str.occurrences b a 0 b.length 1).isEmpty))) G) : zIn f (.str a) (.str b) G R := h
theorem i_forE {wi : I3} {pt : Pt} {tb : X3} (h : wi σ G fun ws ok G1 => FORB ws ok pt tb nx rt σ G1) : uFor wi pt tb nx rt bk ct σ G := h
theorem i_lcE {wi : I3} {cap : List (Option Nat)} {pt : Pt} {tt : T3} (h : wi σ G fun ws ok G1 => ∀ D, G1 D = none → LCB ws ok cap pt tt te σ R D G1) : uLC wi cap pt tt te σ G R := h
variable {Ri : List Z → (Hq → Prop) → Hq → Prop}
theorem i_iL (h : te σ G fun x G1 => wkL x G1 Ri) : iL te σ G Ri := h
theorem i_iT (h : te σ G fun x G1 => wkT x G1 Ri) : iT te σ G Ri := h
theorem i_iS (h : te σ G fun x G1 => wkS x G1 Ri) : iS te σ G Ri := h
theorem i_iR1 (h : al σ G fun ws G1 => ∃ j : Int, ws = [.int j] ∧ -(2 ^ 62) ≤ j ∧ j < 2 ^ 62 ∧ Ri (rng 0 j.toNat) (fun _ => True) G1) : iR1 al σ G Ri := h
theorem i_iR2 (h : al σ G fun ws G1 => ∃ i j : Int, ws = [.int i, .int j] ∧ (-(2 ^ 62) ≤ i ∧ i < 2 ^ 62 ∧ -(2 ^ 62) ≤ j ∧ j < 2 ^ 62) ∧ Ri (rng i (j - i).toNat) (fun _ => True) G1) : iR2 al σ G Ri := h
theorem i_wkL {p : Addr} {ws : List Z} (e : G p = some (.lst ws)) (h : Ri ws (fun G => G p = some (.lst ws)) G) : wkL (.ref p) G Ri := ⟨ws, e, h⟩
theorem i_wkC {p : Addr} {ns : List Int} (h : Ri (ns.map Z.int) (fun _ => True) G) : wkL (.scr p ns) G Ri := h
theorem i_wkT {ws : List Z} (h : Ri ws (fun _ => True) G) : wkT (.tup ws) G Ri := h
theorem i_wkS {z : Str} (h : Ri (signs z) (fun _ => True) G) : wkS (.str z) G Ri := h
theorem i_tt (h : Rb true G) : uTT σ G Rb := h
end
theorem ifD {p A B : Prop} [Decidable p] (h1 : p → A) (h2 : ¬ p → B) : if decide p = true then A else B := by
  by_cases c : p
  · rw [if_pos (decide_eq_true c)]; exact h1 c
  · rw [if_neg (fun z => c (of_decide_eq_true z))]; exact h2 c
theorem ifT {A B : Prop} (h : A) : if true = true then A else B := by rw [if_pos rfl]; exact h
theorem ifF {A B : Prop} (h : B) : if false = true then A else B := by rw [if_neg (by decide)]; exact h
theorem ifNN {A B : Prop} (h : A) : if decide (Z.non = Z.non) = true then A else B := by rw [if_pos (decide_eq_true rfl)]; exact h
theorem ifNI {A B : Prop} {i : Int} (h : B) : if decide (Z.int i = Z.non) = true then A else B := by rw [if_neg (by simp)]; exact h
theorem ifNS {A B : Prop} {i : Str} (h : B) : if decide (Z.str i = Z.non) = true then A else B := by rw [if_neg (by simp)]; exact h
theorem ifNU {A B : Prop} {i : List Z} (h : B) : if decide (Z.tup i = Z.non) = true then A else B := by rw [if_neg (by simp)]; exact h
theorem ifMN {A B : Prop} (h : B) : if (!decide (Z.non = Z.non)) = true then A else B := by rw [if_neg (by simp)]; exact h
theorem ifMI {A B : Prop} {i : Int} (h : A) : if (!decide (Z.int i = Z.non)) = true then A else B := by rw [if_pos (by simp)]; exact h
theorem ifMS {A B : Prop} {i : Str} (h : A) : if (!decide (Z.str i = Z.non)) = true then A else B := by rw [if_pos (by simp)]; exact h
theorem ifMU {A B : Prop} {i : List Z} (h : A) : if (!decide (Z.tup i = Z.non)) = true then A else B := by rw [if_pos (by simp)]; exact h
theorem at0 {α : Type} {a : α} {r : List α} : atI (a :: r) 0 = some a := atI_nat (j := 0) rfl
theorem at1 {α : Type} {a b : α} {r : List α} : atI (a :: b :: r) 1 = some b := atI_nat (j := 1) rfl
theorem at2 {α : Type} {a b c : α} {r : List α} : atI (a :: b :: c :: r) 2 = some c := atI_nat (j := 2) rfl
def Sm (G G' : Hq) : Prop := ∀ b o, G b = some o → G' b = some o
theorem Sm.refl (G : Hq) : Sm G G := fun _ _ h => h
theorem Sm.trans {G G1 G2 : Hq} (a : Sm G G1) (b : Sm G1 G2) : Sm G G2 := fun c o h => b c o (a c o h)
theorem Sm.get {G G' : Hq} {b : Addr} {o : O} (s : Sm G G') (h : G b = some o) : G' b = some o := s b o h
theorem Sm.new {G : Hq} {p : Addr} {o : O} (h : G p = none) : Sm G (put G p o) := fun _ _ e => put_old e h
theorem Sm.free {G G' : Hq} (s : Sm G G') {p : Addr} (h : G' p = none) : G p = none := by
  cases e : G p with
  | none => rfl
  | some o => rw [s p o e] at h; cases h
def Kq (r : Addr) (G G' : Hq) : Prop := ∀ b o, G b = some o → b ≠ r → G' b = some o
theorem Kq.refl (r : Addr) (G : Hq) : Kq r G G := fun _ _ h _ => h
theorem Kq.trans {r : Addr} {G G1 G2 : Hq} (a : Kq r G G1) (b : Kq r G1 G2) : Kq r G G2 := fun c o h n => b c o (a c o h n) n
theorem Kq.new {r p : Addr} {G : Hq} {o : O} (h : G p = none) : Kq r G (put G p o) := fun _ _ e _ => put_old e h
theorem Kq.at {r : Addr} {G : Hq} {o : O} : Kq r G (put G r o) := fun _ _ e n => by rw [put_ne n]; exact e
theorem Sm.put {G G' : Hq} {p : Addr} {o : O} (s : Sm G G') (h : G p = none) : Sm G (put G' p o) := fun b u e => by rw [put_ne (gne_none e h)]; exact s b u e
end L3
set_option maxHeartbeats 4000000
namespace Tim
open PySem PyProof.Rows
abbrev KF := Keyed → Int
def Kk (κ : KF) (xs : Array Keyed) (i : Nat) : Int := match xs[i]? with
  | some p => κ p
  | none => 0
section
variable {κ : KF} {xs ys : Array Keyed} {i j : Nat} {p : Keyed}
theorem Kk_at (h : xs[i]? = some p) : Kk κ xs i = κ p := by unfold Kk; rw [h]
end
def LtOk (M : Model) (A : Around) (E : Value → Shared → Prop) (s : Shared) (κ : KF) (k0 : SortKind) (a₀ : Array Keyed) : Prop :=
  ∀ x y, x ∈ a₀.toList → y ∈ a₀.toList → ∀ (st : SortSt) (Q : Option Bool → SortSt → Prop), kindOf st = k0 → Q (some (decide (κ x < κ y))) st → wpS M A E s (lt' x y) Q st
structure TB (k0 : SortKind) (a₀ : Array Keyed) (st : SortSt) : Prop where
  pm : (arrOf st).Perm a₀
  kd : kindOf st = k0
  fl : failedOf st = none
theorem TB.sz {k0 : SortKind} {a₀ : Array Keyed} {st : SortSt} (h : TB k0 a₀ st) : (arrOf st).size = a₀.size := h.pm.size_eq
theorem TB.mem {k0 : SortKind} {a₀ : Array Keyed} {st : SortSt} (h : TB k0 a₀ st) {i : Nat} {p : Keyed} (e : (arrOf st)[i]? = some p) : p ∈ a₀.toList := by
  have hm : p ∈ (arrOf st).toList := by rw [Array.mem_toList_iff]; exact Array.mem_of_getElem? e
  exact (Array.perm_iff_toList_perm.mp h.pm).mem_iff.mp hm
theorem TB.arr {k0 : SortKind} {a₀ : Array Keyed} {st : SortSt} (h : TB k0 a₀ st) {xs : Array Keyed} (hp : xs.Perm (arrOf st)) : TB k0 a₀ (setArr st xs) := ⟨hp.trans h.pm, h.kd, h.fl⟩
section
variable {M : Model} {A : Around} {E : Value → Shared → Prop} {s : Shared} {κ : KF} {k0 : SortKind} {a₀ : Array Keyed} {st : SortSt}
end
section
variable {M : Model} {A : Around} {E : Value → Shared → Prop} {s : Shared} {κ : KF} {k0 : SortKind} {a₀ : Array Keyed} {st : SortSt}
end
end Tim
namespace Tim
open PySem PyProof.Rows
section
variable {κ : KF} {A B o : List Keyed} {i j : Nat} {p : Keyed}
abbrev Srt (κ : KF) (l : List Keyed) : Prop := l.Pairwise fun x y => κ x ≤ κ y
structure MW (κ : KF) (A B o : List Keyed) (i j : Nat) : Prop where
  ia : i ≤ A.length
  jb : j ≤ B.length
  pm : (o ++ (A.drop i ++ B.drop j)).Perm (A ++ B)
  so : Srt κ o
  ba : ∀ x ∈ o, ∀ y ∈ A.drop i, κ x ≤ κ y
  bb : ∀ x ∈ o, ∀ y ∈ B.drop j, κ x ≤ κ y
theorem MW.size (W : MW κ A B o i j) : o.length = i + j := by
  have := W.pm.length_eq
  have h1 := W.ia
  have h2 := W.jb
  simp only [List.length_append, List.length_drop] at this
  omega
theorem take_snoc {l : List Keyed} {n k : Nat} (h : l[n + k]? = some p) : (l.drop n).take (k + 1) = (l.drop n).take k ++ [p] := by
  rw [List.take_add_one, List.getElem?_drop, h]; rfl
def Mgd (κ : KF) (A B r : List Keyed) : Prop := r.Perm (A ++ B) ∧ Srt κ r
end
end Tim
namespace Tim
open PySem PyProof.Rows
abbrev T1 := Option (Array Keyed) × Array Keyed × Nat × Nat × Nat × Nat
abbrev T2 := Option (Array Keyed) × Array Keyed × Nat × Nat × Nat × Nat × Nat
end Tim
namespace Tim
open PySem PyProof.Rows
structure SG (st st' : SortSt) : Prop where
  kd : kindOf st' = kindOf st
  ar : arrOf st' = arrOf st
  pe : pendingOf st' = pendingOf st
  fl : failedOf st' = failedOf st
theorem SG.refl (st : SortSt) : SG st st := ⟨rfl, rfl, rfl, rfl⟩
theorem SG.trans {x y z : SortSt} (p : SG x y) (q : SG y z) : SG x z := ⟨q.kd.trans p.kd, q.ar.trans p.ar, q.pe.trans p.pe, q.fl.trans p.fl⟩
section
variable {κ : KF} {a b o : Array Keyed} {i j : Nat}
theorem kk_list (h : i < a.size) : Kk κ a i = κ a[i] := Kk_at (getElem?_pos ..)
end
structure MC (M : Model) (A : Around) (E : Value → Shared → Prop) (s : Shared) (κ : KF) (k0 : SortKind) (a₀ a b : Array Keyed) : Prop where
  L : LtOk M A E s κ k0 a₀
  ha : ∀ p ∈ a.toList, p ∈ a₀.toList
  hb : ∀ p ∈ b.toList, p ∈ a₀.toList
  sa : Srt κ a.toList
  sb : Srt κ b.toList
  h0 : 0 < a.size
  h1 : 0 < b.size
  hf : ∀ y ∈ a.toList, Kk κ b 0 ≤ κ y
  hl : ∀ z, a.toList[a.toList.length - 1]? = some z → ∀ y ∈ b.toList, κ y ≤ κ z
structure Rdy (κ : KF) (a b o : Array Keyed) (i j : Nat) : Prop where
  w : MW κ a.toList b.toList o.toList i j
  hi : i + 1 < a.size
  hj : j < b.size
section
variable {M : Model} {A : Around} {E : Value → Shared → Prop} {s : Shared} {κ : KF} {k0 : SortKind} {a₀ a b o : Array Keyed} {st : SortSt} {i j g ac bc : Nat}
theorem len_a (a : Array Keyed) : a.toList.length = a.size := by simp
structure G2 (st : SortSt) (κ : KF) (a b : Array Keyed) (n : Nat) (Q : ForInStep T2 → SortSt → Prop) : Prop where
  dn : ∀ r c st', SG st st' → Mgd κ a.toList b.toList r.toList → Q (.done (some r, c)) st'
  br : ∀ o' i' j' x y z st', SG st st' → Rdy κ a b o' i' j' → n < i' + j' → Q (.done (none, o', i', j', x, y, z)) st'
  go : ∀ o' i' j' x y z st', SG st st' → Rdy κ a b o' i' j' → n < i' + j' → Q (.yield (none, o', i', j', x, y, z)) st'
theorem kk_at {q : Nat} {z : Keyed} (h : a.toList[q]? = some z) : Kk κ a q = κ z := Kk_at (by rw [← Array.getElem?_toList]; exact h)
end
end Tim
namespace Tim
open PySem PyProof.Rows
abbrev H1 := Option (Array Keyed) × Nat × Nat × Array Keyed × Nat × Nat
abbrev H2 := Option (Array Keyed) × Nat × Nat × Array Keyed × Nat × Nat × Nat
end Tim
namespace Tim
open PySem PyProof.Rows
section
variable {κ : KF} {A B o : List Keyed} {u v : Nat} {p : Keyed}
structure MH (κ : KF) (A B o : List Keyed) (u v : Nat) : Prop where
  ia : u ≤ A.length
  jb : v ≤ B.length
  pm : (A.take u ++ B.take v ++ o.reverse).Perm (A ++ B)
  so : Srt κ o.reverse
  ba : ∀ x ∈ o, ∀ y ∈ A.take u, κ y ≤ κ x
  bb : ∀ x ∈ o, ∀ y ∈ B.take v, κ y ≤ κ x
end
section
variable {κ : KF} {a b o : Array Keyed} {u v : Nat}
end
structure RdH (κ : KF) (a b o : Array Keyed) (u v : Nat) : Prop where
  w : MH κ a.toList b.toList o.toList u v
  hu : 1 ≤ u
  hv : 2 ≤ v
section
variable {M : Model} {A : Around} {E : Value → Shared → Prop} {s : Shared} {κ : KF} {k0 : SortKind} {a₀ a b o : Array Keyed} {st : SortSt} {u v g ac bc : Nat}
theorem RdH.vb (R : RdH κ a b o u v) : v ≤ b.size := by have := R.w.jb; rwa [len_a] at this
theorem MC.first (C : MC M A E s κ k0 a₀ a b) : ∀ z, b.toList[0]? = some z → ∀ y ∈ a.toList, κ z ≤ κ y := fun z hz y hy => by
  have := C.hf y hy
  rwa [kk_at hz] at this
structure HG (st : SortSt) (κ : KF) (a b : Array Keyed) (n : Nat) (Q : ForInStep H2 → SortSt → Prop) : Prop where
  dn : ∀ r c st', SG st st' → Mgd κ a.toList b.toList r.toList → Q (.done (some r, c)) st'
  br : ∀ o' u' v' x y z st', SG st st' → RdH κ a b o' u' v' → u' + v' < n → Q (.done (none, u', v', o', x, y, z)) st'
  go : ∀ o' u' v' x y z st', SG st st' → RdH κ a b o' u' v' → u' + v' < n → Q (.yield (none, u', v', o', x, y, z)) st'
end
end Tim
namespace Tim
open PySem PyProof.Rows
def SR (κ : KF) (xs : Array Keyed) (lo n : Nat) : Prop := ∀ i j, i ≤ j → j < n → Kk κ xs (lo + i) ≤ Kk κ xs (lo + j)
def NR (κ : KF) (xs : Array Keyed) (lo n : Nat) : Prop := ∀ i j, i ≤ j → j < n → Kk κ xs (lo + j) ≤ Kk κ xs (lo + i)
structure Ar (st st' : SortSt) (lo : Nat) : Prop where
  pm : (arrOf st').Perm (arrOf st)
  pre : ∀ i, i < lo → (arrOf st')[i]? = (arrOf st)[i]?
  kd : kindOf st' = kindOf st
  pe : pendingOf st' = pendingOf st
  fl : failedOf st' = failedOf st
section
variable {M : Model} {A : Around} {E : Value → Shared → Prop} {s : Shared} {κ : KF} {k0 : SortKind} {a₀ : Array Keyed} {st st' : SortSt} {lo : Nat}
theorem Ar.refl (st : SortSt) (lo : Nat) : Ar st st lo := ⟨Array.Perm.refl _, fun _ _ => rfl, rfl, rfl, rfl⟩
theorem Ar.trans {x y z : SortSt} (p : Ar x y lo) (q : Ar y z lo) : Ar x z lo := ⟨q.pm.trans p.pm, fun i h => (q.pre i h).trans (p.pre i h), q.kd.trans p.kd, q.pe.trans p.pe, q.fl.trans p.fl⟩
theorem Ar.tb (q : Ar st st' lo) (B : TB k0 a₀ st) : TB k0 a₀ st' := ⟨q.pm.trans B.pm, q.kd.trans B.kd, q.fl.trans B.fl⟩
end
end Tim
namespace Tim
open PySem PyProof.Rows
section
variable {M : Model} {A : Around} {E : Value → Shared → Prop} {s : Shared} {κ : KF} {k0 : SortKind} {a₀ : Array Keyed} {st : SortSt} {lo nr : Nat}
theorem SR.one {xs : Array Keyed} : SR κ xs lo 1 := fun i j h1 h2 => by
  have : i = j := by omega
  rw [this]; exact Int.le_refl _
theorem SR.snoc {xs : Array Keyed} {n : Nat} (h : SR κ xs lo n) (h1 : 1 ≤ n) (c : Kk κ xs (lo + n - 1) ≤ Kk κ xs (lo + n)) : SR κ xs lo (n + 1) := fun i j hij hj => by
  by_cases hjn : j < n
  · exact h i j hij hjn
  · have e : j = n := by omega
    subst e
    by_cases e2 : i = j
    · rw [e2]; exact Int.le_refl _
    · refine Int.le_trans (h i (j - 1) (by omega) (by omega)) ?_
      rw [show lo + (j - 1) = lo + j - 1 by omega]; exact c
theorem NR.snoc {xs : Array Keyed} {n : Nat} (h : NR κ xs lo n) (h1 : 1 ≤ n) (c : Kk κ xs (lo + n) ≤ Kk κ xs (lo + n - 1)) : NR κ xs lo (n + 1) := fun i j hij hj => by
  by_cases hjn : j < n
  · exact h i j hij hjn
  · have e : j = n := by omega
    subst e
    by_cases e2 : i = j
    · rw [e2]; exact Int.le_refl _
    · refine Int.le_trans ?_ (h i (j - 1) (by omega) (by omega))
      rw [show lo + (j - 1) = lo + j - 1 by omega]; exact c
theorem NR.congr {xs ys : Array Keyed} {n : Nat} (h : NR κ xs lo n) (e : ∀ k, Kk κ ys k = Kk κ xs k) : NR κ ys lo n := fun i j h1 h2 => by rw [e, e]; exact h i j h1 h2
end
end Tim
namespace Tim
open PySem PyProof.Rows
section
variable {M : Model} {A : Around} {E : Value → Shared → Prop} {s : Shared} {κ : KF} {k0 : SortKind} {a₀ : Array Keyed} {st : SortSt}
end
end Tim
namespace Tim
open PySem PyProof.Rows
def pr (p : Nat × Nat × Nat) : Nat × Nat := (p.1, p.2.1)
def offs : Nat → List (List Keyed) → List (Nat × Nat)
  | _, [] => []
  | o, R :: Rs => (o, R.length) :: offs (o + R.length) Rs
theorem offs_append : ∀ (o : Nat) (U V : List (List Keyed)), offs o (U ++ V) = offs o U ++ offs (o + U.flatten.length) V
  | o, [], V => by simp [offs]
  | o, R :: U, V => by
    rw [List.cons_append, offs, offs, offs_append, List.cons_append, List.flatten_cons, List.length_append, Nat.add_assoc]
def Runs (κ : KF) (st : SortSt) (lo : Nat) (rest : List Keyed) : Prop := ∃ Rs : List (List Keyed), (arrOf st).toList = Rs.flatten ++ rest ∧ (∀ R ∈ Rs, Srt κ R ∧ R ≠ []) ∧ Rs.flatten.length = lo ∧ (pendingOf st).toList.map pr = offs 0 Rs
section
variable {M : Model} {A : Around} {E : Value → Shared → Prop} {s : Shared} {κ : KF} {k0 : SortKind} {a₀ : Array Keyed} {st : SortSt}
theorem Runs.ar {st' : SortSt} {lo n : Nat} {rest : List Keyed} (R : Runs κ st lo rest) (q : Ar st st' lo) (hs : SR κ (arrOf st') lo n) (hn : lo + n ≤ (arrOf st').size) (h1 : 1 ≤ n) : ∃ X rest', Srt κ X ∧ X.length = n ∧ Runs κ st' lo (X ++ rest') := by
  obtain ⟨Rs, e1, e2, e3, e4⟩ := R
  have hsz : (arrOf st').size = (arrOf st).size := q.pm.size_eq
  have htake : (arrOf st').toList.take lo = Rs.flatten := by
    refine List.ext_getElem? fun i => ?_
    by_cases hi : i < lo
    · rw [List.getElem?_take, if_pos hi, Array.getElem?_toList, q.pre i hi, ← Array.getElem?_toList, e1, List.getElem?_append_left (by omega)]
    · rw [List.getElem?_eq_none (by rw [List.length_take]; omega), List.getElem?_eq_none (by omega)]
  refine ⟨((arrOf st').toList.drop lo).take n, ((arrOf st').toList.drop lo).drop n, ?_, by rw [List.length_take, List.length_drop, len_a]; omega, Rs, ?_, e2, e3, by rw [q.pe]; exact e4⟩
  · refine List.pairwise_iff_getElem.mpr fun i j hi hj hij => ?_
    rw [List.length_take, List.length_drop, len_a] at hi hj
    have := hs i j (by omega) (by omega)
    rw [kk_list (show lo + i < (arrOf st').size by omega), kk_list (show lo + j < (arrOf st').size by omega)] at this
    simpa using this
  · rw [List.take_append_drop, ← htake, List.take_append_drop]
theorem Runs.push {st' : SortSt} {lo n : Nat} {X rest : List Keyed} (R : Runs κ st lo (X ++ rest)) (sX : Srt κ X) (hX : X.length = n) (h1 : 1 ≤ n) (ha : arrOf st' = arrOf st) (hp : (pendingOf st').toList.map pr = (pendingOf st).toList.map pr ++ [(lo, n)]) : Runs κ st' (lo + n) rest := by
  obtain ⟨Rs, e1, e2, e3, e4⟩ := R
  refine ⟨Rs ++ [X], by rw [ha, e1]; simp, fun R hR => ?_, by simp [e3, hX], ?_⟩
  · rcases List.mem_append.mp hR with hR | hR
    · exact e2 R hR
    · rw [List.mem_singleton.mp hR]; exact ⟨sX, fun z => by rw [z] at hX; simp at hX; omega⟩
  · rw [hp, e4, offs_append, Nat.zero_add, e3]
    simp [offs, hX]
end
end Tim
namespace Tim
open PySem PyProof.Rows
section
variable {prog : Program} {w : World} {A : Around} {E : Value → Shared → Prop} {s : Shared} {a₀ : Array Keyed}
end
end Tim
namespace SetW
open PySem
def Up (xs : Array Nat) : Prop := xs.toList.Pairwise (· < ·)
structure TOk (led : Bool) (t : SetTable) : Prop where
  up : Up t.place
  dm : t.dummies = #[]
  ld : t.led = led
end SetW
namespace SetW
open PySem PyProof.Rows
def byT (w : World) : Bool := w.params.followText "set-order"
structure SO (prog : Program) (w : World) (h : Heap) (a : Addr) (es : Array (Int × Value)) (ep : Nat) (t : SetTable) (ms : List Int) : Prop where
  at_ : ∃ o, h.get? a = some o ∧ o.ExactSet ∧ o.data = .set es ep t
  el : ElemsOf (intKind prog w) es.toList
  nums : IntsAre (es.toList.map (·.2)) ms
  sc : es.size < scanBound
  fit : t.fits es.size = true
  ok : TOk (!byT w) t
def SI (prog : Program) (w : World) (h : Heap) (a : Addr) (ms : List Int) : Prop := ∃ es ep t, SO prog w h a es ep t ms
section
variable {prog : Program} {w : World} {A : Around} {E : Value → Shared → Prop} {s : Shared} {a : Addr} {es : Array (Int × Value)} {ep : Nat} {t : SetTable} {ms : List Int} {k : Int} {u : Tok}
theorem SO.mem (S : SO prog w s.heap a es ep t ms) : (∃ e ∈ es.toList, (intKind prog w).is k e.2 = true) ↔ k ∈ ms := by
  have hn := S.nums.nums
  constructor
  · rintro ⟨e, he, hk⟩
    rw [← hn]
    obtain ⟨n, tk, en⟩ := S.nums.all e.2 (List.mem_map_of_mem (f := (·.2)) he)
    rw [en] at hk
    have : k = n := by
      have := hk
      simp [intKind, Value.isInt] at this
      exact this.symm
    exact List.mem_map.mpr ⟨e.2, List.mem_map_of_mem (f := (·.2)) he, by rw [en, this]; rfl⟩
  · intro hk
    rw [← hn, List.map_map] at hk
    obtain ⟨e, he, e2⟩ := List.mem_map.mp hk
    obtain ⟨n, tk, en⟩ := S.nums.all e.2 (List.mem_map_of_mem (f := (·.2)) he)
    refine ⟨e, he, ?_⟩
    simp only [Function.comp] at e2
    rw [en] at e2 ⊢
    have : n = k := e2
    rw [this]
    exact intKind_is _ _ _ _
theorem SO.stored {o : Obj} {es' : Array (Int × Value)} {t' : SetTable} {ms' : List Int} {h : Heap} (ho : h.get? a = some o) (hx : o.ExactSet) (hd : o.data = .set es ep t) (hel : ElemsOf (intKind prog w) es'.toList) (hi : IntsAre (es'.toList.map (·.2)) ms') (hs : es'.size < scanBound) (hf : t'.fits es'.size = true) (hk : TOk (!byT w) t') :
    (h.update a (Obj.putSet es' t')).get? a = some { o with data := .set es' (ep + 1) t' } ∧ SO prog w (h.update a (Obj.putSet es' t')) a es' (ep + 1) t' ms' := by
  have hg : (h.update a (Obj.putSet es' t')).get? a = some { o with data := .set es' (ep + 1) t' } := by
    have q := Heap.get?_update_self (Obj.putSet es' t') ho (by rw [putSet_of es' t' hd]; rfl)
    rw [putSet_of es' t' hd] at q
    exact q
  exact ⟨hg, ⟨⟨_, hg, hx, rfl⟩, hel, hi, hs, hf, hk⟩⟩
theorem TOk.plain {led : Bool} {t : SetTable} {b : Bool} (h : TOk led t) : TOk led ({ t with plain := b } : SetTable) := ⟨h.up, h.dm, h.ld⟩
end
end SetW
namespace SetW
open PySem PyProof.Rows
theorem SI.at {prog : Program} {w : World} {h h' : Heap} {a : Addr} {ms : List Int} (S : SI prog w h a ms) (k : ∀ o, h.get? a = some o → h'.get? a = some o) : SI prog w h' a ms := by
  obtain ⟨es, ep, t, ⟨o, g, x, d⟩, h1, h2, h3, h4, h5⟩ := S
  exact ⟨es, ep, t, ⟨o, k o g, x, d⟩, h1, h2, h3, h4, h5⟩
def Met (val : Nat → Int) (i : Nat) (ms : List Int) : Prop := ms.Nodup ∧ ms.length ≤ i ∧ ∀ x, x ∈ ms ↔ ∃ j, j < i ∧ val j = x
theorem Met.step {val : Nat → Int} {i : Nat} {ms ms' : List Int} (h : Met val i ms) (p : ms'.Perm (if val i ∈ ms then ms else ms ++ [val i])) : Met val (i + 1) ms' := by
  obtain ⟨h1, h2, h3⟩ := h
  have key : ∀ x, (∃ j, j < i + 1 ∧ val j = x) ↔ (∃ j, j < i ∧ val j = x) ∨ x = val i := fun x => by
    constructor
    · rintro ⟨j, hj, e⟩
      by_cases c : j = i
      · right; rw [← e, c]
      · left; exact ⟨j, by omega, e⟩
    · rintro (⟨j, hj, e⟩ | e)
      · exact ⟨j, by omega, e⟩
      · exact ⟨i, by omega, e.symm⟩
  by_cases c : val i ∈ ms
  · rw [if_pos c] at p
    refine ⟨p.nodup_iff.mpr h1, by rw [p.length_eq]; omega, fun x => ?_⟩
    rw [p.mem_iff, key, h3]
    exact ⟨.inl, fun z => z.elim id fun e => (h3 x).mp (e ▸ c)⟩
  · rw [if_neg c] at p
    refine ⟨p.nodup_iff.mpr ?_, by rw [p.length_eq]; simp; exact h2, fun x => ?_⟩
    · rw [List.nodup_append]
      exact ⟨h1, by simp, fun x hx y hy => by rw [List.mem_singleton.mp hy]; rintro rfl; exact c hx⟩
    · rw [p.mem_iff, key, List.mem_append, h3, List.mem_singleton]
section
variable {prog : Program} {w : World} {A : Around} {R : Result → Shared → Prop} {I : Addr} {fp wr : List Addr} {G : Array GenState → Array GenState → Prop} {n : Nat} {P : Nat → Value → Prop} {St : Nat → Shared → Prop}
end
section
variable {prog : Program} {w : World} {A : Around} {E : Value → Shared → Prop} {s : Shared}
abbrev freshSet (w : World) : Obj := { cls := .type "set", dict := none, data := .set #[] 0 (.fresh 0 0 (!byT w)) }
theorem SI.fresh {h : Heap} {a : Addr} (g : h.get? a = some (freshSet w)) : SI prog w h a [] :=
  ⟨#[], 0, .fresh 0 0 (!byT w), ⟨_, g, ⟨rfl, rfl, rfl⟩, rfl⟩, fun e he => by simp at he, .nil, by decide, rfl, ⟨.nil, rfl, rfl⟩⟩
end
end SetW
namespace SetW
open PySem PyProof.Rows
def SetIt (h : Heap) (it a : Addr) (first : Value) (i n ep : Nat) : Prop := ∃ o, h.get? it = some o ∧ o.cls = .type "set_iterator" ∧ o.data = .fields #[first, .int i 0, .ref a, .int n 0, .int ep 0]
theorem SetIt.ty {s : Shared} {it a : Addr} {f : Value} {i n ep : Nat} (x : SetIt s.heap it a f i n ep) : s.TypeIs (.ref it) "set_iterator" := let ⟨o, g, c, _⟩ := x; ⟨o, g, c⟩
theorem SetIt.at {h h' : Heap} {it a : Addr} {f : Value} {i n ep : Nat} (x : SetIt h it a f i n ep) (e : ∀ o, h.get? it = some o → h'.get? it = some o) : SetIt h' it a f i n ep := let ⟨o, g, r⟩ := x; ⟨o, e _ g, r⟩
section
variable {prog : Program} {w : World} {A : Around} {E : Value → Shared → Prop} {s : Shared} {it a : Addr} {f : Value} {i n ep : Nat} {o : Obj} {es : Array (Int × Value)} {t : SetTable}
end
end SetW
namespace SetW
open PySem PyProof.Rows
section
variable {prog : Program} {w : World} {A : Around} {E : Value → Shared → Prop} {s : Shared} {it a : Addr} {f : Value} {i n ep k : Nat} {o : Obj} {es : Array (Int × Value)} {t : SetTable} {ms : List Int}
end
end SetW
namespace SetW
open PySem PyProof.Rows
theorem SO.at {prog : Program} {w : World} {h h' : Heap} {a : Addr} {es : Array (Int × Value)} {ep : Nat} {t : SetTable} {ms : List Int} (S : SO prog w h a es ep t ms) (k : ∀ o, h.get? a = some o → h'.get? a = some o) : SO prog w h' a es ep t ms := by
  obtain ⟨⟨o, g, x, d⟩, h1, h2, h3, h4, h5⟩ := S
  exact ⟨⟨o, k o g, x, d⟩, h1, h2, h3, h4, h5⟩
section
variable {prog : Program} {w : World} {A : Around} {E : Value → Shared → Prop} {s : Shared} {it a T : Addr} {f : Value} {i n ep k : Nat} {o : Obj} {es : Array (Int × Value)} {t : SetTable} {ms : List Int} {ps : List Nat}
end
end SetW
namespace SetW
open PySem PyProof.Rows
section
variable {prog : Program} {w : World} {A : Around} {E : Value → Shared → Prop} {s : Shared} {it a T : Addr} {f : Value} {i n ep k : Nat} {o : Obj} {es : Array (Int × Value)} {t : SetTable} {ms : List Int} {ps : List Nat}
def PlacesAt (h : Heap) (T : Addr) (ps : List Nat) : Prop := ∃ o c, h.get? T = some o ∧ o.data = .seq (ps.map fun (i : Nat) => rawInt i).toArray c
theorem PlacesAt.at {h h' : Heap} (x : PlacesAt h T ps) (k : ∀ o, h.get? T = some o → h'.get? T = some o) : PlacesAt h' T ps := let ⟨o, c, g, d⟩ := x; ⟨o, c, k _ g, d⟩
end
end SetW
namespace SetW
open PySem PyProof.Rows
section
variable {prog : Program} {w : World} {A : Around} {E : Value → Shared → Prop} {s : Shared} {it a T : Addr} {f : Value} {i n ep k : Nat} {o : Obj} {es : Array (Int × Value)} {t : SetTable} {ms : List Int} {ps : List Nat}
theorem SO.ty (S : SO prog w s.heap a es ep t ms) : s.TypeIs (.ref a) "set" := let ⟨o, g, x, _⟩ := S.at_; ⟨o, g, x.1⟩
theorem SO.len (S : SO prog w s.heap a es ep t ms) : es.size = ms.length := by
  have q := congrArg List.length S.nums.nums
  simpa using q
end
end SetW
namespace SetW
open PySem PyProof.Rows
section
variable {prog : Program} {w : World} {A : Around} {E : Value → Shared → Prop} {s : Shared} {a : Addr} {ms : List Int}
end
end SetW
namespace L2
open PySem PySem.Spec PyProof.Rows
section
variable {P : Program} {w : World} {A : Around} {E : Value → Shared → Prop} {s : Shared}
end
section
variable {X : Cx}
end
end L2
namespace L2
open PySem PySem.Spec PyProof.Rows
structure Zs where
  it : Addr
  tp : Bool
  l : Addr
def Zs.At (z : Zs) (k : Nat) (h : Heap) : Prop := if z.tp = true then h.IsTupleIter z.it z.l k else h.IsListIter z.it z.l k
def Zs.Has (z : Zs) (h : Heap) (xs : Array Value) : Prop := if z.tp = true then h.IsTuple z.l xs else h.IsList z.l xs
theorem Zs.At.keep {z : Zs} {k : Nat} {h h' : Heap} (a : z.At k h) (q : ∀ o, h.get? z.it = some o → h'.get? z.it = some o) : z.At k h' := by
  unfold Zs.At at a ⊢
  split
  · next e => rw [if_pos e] at a; exact a.at q
  · next e => rw [if_neg e] at a; exact a.at q
theorem Zs.Has.keep {z : Zs} {h h' : Heap} {xs : Array Value} (a : z.Has h xs) (q : ∀ o, h.get? z.l = some o → h'.get? z.l = some o) : z.Has h' xs := by
  unfold Zs.Has at a ⊢
  split
  · next e => rw [if_pos e] at a; exact let ⟨o, ho, r⟩ := a; ⟨o, q o ho, r⟩
  · next e => rw [if_neg e] at a; exact let ⟨o, ho, r⟩ := a; ⟨o, q o ho, r⟩
theorem Zs.At.obj {z : Zs} {k : Nat} {h : Heap} (a : z.At k h) : ∃ o, h.get? z.it = some o ∧ ∀ v, o.data ≠ .cell v := by
  unfold Zs.At at a
  split at a <;> (obtain ⟨o, e, _, d⟩ := a; exact ⟨o, e, fun v q => by rw [d] at q; cases q⟩)
section
variable {P : Program} {w : World} {A : Around} {E : Value → Shared → Prop} {s : Shared}
theorem nx_tup {it t : Addr} {i : Nat} {xs : Array Value} {x : Value} {Q : Value → Shared → Prop} (ti : s.heap.IsTupleIter it t i) (th : s.heap.IsTuple t xs) (hx : xs[i]? = some x)
    (q : ∀ g, g.IsTupleIter it t (i + 1) → Heap.SameBut it s.heap g → Q x { s with heap := g }) : wpAny (model P w) A (Builtin.SmallTypes.nextOf (.ref it)) Q E s := by
  obtain ⟨o, o1, o2, o3⟩ := id ti
  obtain ⟨u, u1, _, n, u3⟩ := th
  unfold Builtin.SmallTypes.nextOf
  refine wpAny_bind (wpAny_callSpecial?_slot (name := Str.ofString "__next__") ti.typeIs PySem.F.slot_tuple_iterator_next
    (wpAny_call_entry PySem.F.slot_tuple_iterator_next ti.typeIs PySem.F.entry_tuple_iterator_next ?_ (PySem.F.args_tuple_iterator_next_1 _)))
  show wpAny (model P w) _ (field (.ref it) 0 >>= _) _ _ s
  refine wpAny_bind (wpAny_field o1 o3 (x := .ref t) rfl ?_)
  show wpAny (model P w) _ (if (Value.ref t == Value.none) = true then _ else _) _ _ s
  rw [if_neg (show ¬ (Value.ref t == Value.none) = true from Bool.false_ne_true)]
  show wpAny (model P w) _ (field (.ref it) 1 >>= _) _ _ s
  refine wpAny_bind (wpAny_field o1 o3 (x := .int i 0) rfl ?_)
  show wpAny (model P w) _ (seqItems? (.ref t) >>= _) _ _ s
  refine wpAny_bind (wpAny_seqItems u1 u3 ?_)
  simp only [Int.toNat_natCast, hx]
  refine wpAny_bind (wpAny_setField o1 o3 (by simp) (wpAny_pure ⟨x, rfl, wpAny_pure (q _ ?_ (Heap.SameBut.update ..))⟩))
  exact ⟨_, Heap.get?_update_self _ o1 (Obj.isFreed_of_fields (Obj.data_mapFields o3 _)), (Obj.cls_mapFields ..).trans o2, by rw [Obj.data_mapFields o3]; simp [rawInt]⟩
theorem nx_tupEnd {it t : Addr} {i : Nat} {xs : Array Value} {Q : Value → Shared → Prop} (hh : A.handled = none) (ti : s.heap.IsTupleIter it t i) (th : s.heap.IsTuple t xs) (hx : xs[i]? = none)
    (q : ∀ g e, Heap.ExtBut it s.heap g → (∃ o, g.get? e = some o ∧ o.cls = .type "StopIteration") → E (.ref e) { s with heap := g }) : wpAny (model P w) A (Builtin.SmallTypes.nextOf (.ref it)) Q E s := by
  obtain ⟨o, o1, o2, o3⟩ := id ti
  obtain ⟨u, u1, _, n, u3⟩ := th
  unfold Builtin.SmallTypes.nextOf
  refine wpAny_bind (wpAny_callSpecial?_slot (name := Str.ofString "__next__") ti.typeIs PySem.F.slot_tuple_iterator_next
    (wpAny_call_entry PySem.F.slot_tuple_iterator_next ti.typeIs PySem.F.entry_tuple_iterator_next ?_ (PySem.F.args_tuple_iterator_next_1 _)))
  show wpAny (model P w) _ (field (.ref it) 0 >>= _) _ _ s
  refine wpAny_bind (wpAny_field o1 o3 (x := .ref t) rfl ?_)
  show wpAny (model P w) _ (if (Value.ref t == Value.none) = true then _ else _) _ _ s
  rw [if_neg (show ¬ (Value.ref t == Value.none) = true from Bool.false_ne_true)]
  show wpAny (model P w) _ (field (.ref it) 1 >>= _) _ _ s
  refine wpAny_bind (wpAny_field o1 o3 (x := .int i 0) rfl ?_)
  show wpAny (model P w) _ (seqItems? (.ref t) >>= _) _ _ s
  refine wpAny_bind (wpAny_seqItems u1 u3 ?_)
  simp only [Int.toNat_natCast, hx]
  refine wpAny_bind (wpAny_rule (wpAny_bind (wpAny_setField o1 o3 (by simp) ?_)))
  show wpAny (model P w) _ (newExc (.type "StopIteration") [] >>= _) _ _ _
  refine wpAny_bind ?_
  simp only [newExc, newTuple]
  refine wpAny_bind (wpAny_newObj_type ?_ (by size_fits))
  refine wpAny_bind (m := firstArgMember _ _) (wpAny_of_eq (a := Value.none) (by first | rfl | (simp only [firstArgMember]; rfl)) ?_)
  refine wpAny_newObj_type ?_ (by size_fits)
  simp only [raiseNew]
  refine wpAny_bind (wpAny_handled ?_)
  first | rw [show A.in1.handled = none from hh] | rw [hh]
  refine wpAny_bind (wpAny_pure (wpAny_throw ?_))
  exact q _ _ (((Heap.SameBut.update ..).extBut.push _).push _) ⟨_, Heap.get?_push_size _ rfl, rfl⟩
theorem nx_item {z : Zs} {i : Nat} {xs : Array Value} {x : Value} {Q : Value → Shared → Prop} (a : z.At i s.heap) (b : z.Has s.heap xs) (hx : xs[i]? = some x)
    (q : ∀ g, z.At (i + 1) g → Heap.SameBut z.it s.heap g → Q x { s with heap := g }) : wpAny (model P w) A (Builtin.SmallTypes.nextOf (.ref z.it)) Q E s := by
  obtain ⟨it, tp, l⟩ := z
  cases tp with
  | true => exact nx_tup a b hx q
  | false => exact wpAny_nextOf_list_item a b hx q
theorem nx_end {z : Zs} {i : Nat} {xs : Array Value} {Q : Value → Shared → Prop} (hh : A.handled = none) (a : z.At i s.heap) (b : z.Has s.heap xs) (hx : xs[i]? = none)
    (q : ∀ g e, Heap.ExtBut z.it s.heap g → (∃ o, g.get? e = some o ∧ o.cls = .type "StopIteration") → E (.ref e) { s with heap := g }) : wpAny (model P w) A (Builtin.SmallTypes.nextOf (.ref z.it)) Q E s := by
  obtain ⟨it, tp, l⟩ := z
  cases tp with
  | true => exact nx_tupEnd hh a b hx q
  | false => exact wpAny_nextOf_list_end hh a b hx q
end
end L2
namespace L2
open PySem PySem.Spec PyProof.Rows
abbrev IsTu (h : Heap) (T : Addr) (xs : Array Value) : Prop := h.get? T = some { cls := .type "tuple", data := .seq xs }
structure ZAp (z TI TO : Addr) (zs : List Zs) : Prop where
  nd : (zs.map (·.it)).Nodup
  a1 : TI ≠ z
  a2 : TO ≠ z
  a3 : TI ≠ TO
  its : ∀ y ∈ zs, y.it ≠ z ∧ y.it ≠ TI ∧ y.it ≠ TO
  ls : ∀ y ∈ zs, y.l ≠ z ∧ y.l ≠ TO ∧ ∀ x ∈ zs, y.l ≠ x.it
section
variable {P : Program} {w : World} {A : Around} {E : Value → Shared → Prop} {s : Shared}
theorem zip_nx {z TI TO : Addr} {zs : List Zs} {k : Nat} {olds : List Value} {arr : Zs → Array Value} {Q : Value → Shared → Prop} (hh : A.handled = none) (D : ZAp z TI TO zs) (hne : zs ≠ []) (hsm : zs.length ≤ 1000)
    (hz : IsZip s.heap z TI TO .none) (hI : IsTu s.heap TI (zs.map fun y => Value.ref y.it).toArray) (hO : IsTu s.heap TO olds.toArray) (hol : olds.length = zs.length)
    (hat : ∀ y ∈ zs, y.At k s.heap) (hhas : ∀ y ∈ zs, y.Has s.heap (arr y))
    (hQ : ∀ (g : Heap) (T : Addr) (vs : List Value), vs.length = zs.length → (∀ (i : Nat) y, zs[i]? = some y → ∃ v, vs[i]? = some v ∧ (arr y)[k]? = some v) → T = s.heap.objs.size → IsZip g z TI TO (rawInt T) → IsTu g TI (zs.map fun y => Value.ref y.it).toArray → IsTu g TO vs.toArray → IsTu g T vs.toArray →
      (∀ y ∈ zs, y.At (k + 1) g) → (∀ c o, c ≠ z → c ≠ TO → (∀ y ∈ zs, c ≠ y.it) → s.heap.get? c = some o → g.get? c = some o) → Q (.ref T) { s with heap := g })
    (hE : (∃ y ∈ zs, (arr y)[k]? = none) → ∀ g e, (∀ c o, c ≠ z → c ≠ TO → (∀ y ∈ zs, c ≠ y.it) → s.heap.get? c = some o → g.get? c = some o) → (∃ o, g.get? e = some o ∧ o.cls = .type "StopIteration") → E (.ref e) { s with heap := g }) :
    wpAny (model P w) A (Builtin.«zip.__next__» ⟨[.ref z], []⟩) (fun fin s' => ∃ v, fin = .done (.ret v) ∧ Q v s') E s := by
  show wpAny (model P w) _ (field (.ref z) 2 >>= _) _ _ _
  refine wpAny_bind (wpAny_field hz rfl (x := .bool false) rfl ?_)
  show wpAny (model P w) _ (field (.ref z) 3 >>= _) _ _ _
  refine wpAny_bind (wpAny_field hz rfl (x := .ref TI) rfl ?_)
  refine wpAny_bind (wpAny_seqItems hI rfl ?_)
  have he : (zs.map fun y => Value.ref y.it).toArray.isEmpty = false := by
    cases zs with
    | nil => exact absurd rfl hne
    | cons _ _ => rfl
  dsimp only
  rw [he]
  show wpAny (model P w) _ (Builtin.SmallTypes.ownedTupleIsFree (.ref z) >>= _) _ _ _
  refine wpAny_bind ?_
  unfold Builtin.SmallTypes.ownedTupleIsFree
  refine wpAny_bind (wpAny_field hz rfl (x := .none) rfl (wpAny_pure ?_))
  simp only [if_true]
  refine wpAny_bind (wpAny_rule (wpAny_bind (wpAny_field hz rfl (x := .ref TO) rfl ?_)))
  refine wpAny_bind (wpAny_setField_rec hz (by simp) fun g1 z1 b1 => ?_)
  replace z1 : IsZip g1 z TI TO .ellipsis := z1
  refine wpAny_bind ?_
  refine wpAny_forIn_list _ (fun rest b s' => b.1 = none ∧ ∃ (dn td : List Zs) (vs os : List Value) (g : Heap), zs = dn ++ td ∧ rest = (td.map fun y => Value.ref y.it).zipIdx dn.length ∧ vs.length = dn.length ∧ os.length = td.length ∧ s' = { s with heap := g } ∧
    (∀ (i : Nat) y, dn[i]? = some y → ∃ v, vs[i]? = some v ∧ (arr y)[k]? = some v) ∧ IsZip g z TI TO .ellipsis ∧ IsTu g TO (vs ++ os).toArray ∧ (∀ y ∈ dn, y.At (k + 1) g) ∧ (∀ y ∈ td, y.At k g) ∧ g.objs.size = s.heap.objs.size ∧
    (∀ c o, c ≠ z → c ≠ TO → (∀ y ∈ zs, c ≠ y.it) → s.heap.get? c = some o → g.get? c = some o)) _ ?_ ?_ _ _ ?_
  · rintro x rest b s' ⟨hb, dn, td, vs, os, g, e1, e2, e3, e4, rfl, ev, zg, og, ad, at', sg, kg⟩
    cases td with
    | nil => simp at e2
    | cons y td =>
      cases os with
      | nil => simp at e4
      | cons o os =>
      rw [List.map_cons, List.zipIdx_cons] at e2
      cases e2
      have hy : y ∈ zs := by rw [e1]; simp
      have hyl : ∀ o, s.heap.get? y.l = some o → g.get? y.l = some o := fun o q => kg _ o (D.ls y hy).1 (D.ls y hy).2.1 (D.ls y hy).2.2 q
      dsimp only
      refine wpAny_bind (wpAny_onRaise ?_)
      show wpAny (model P w) _ (Builtin.SmallTypes.nextOf (.ref y.it) >>= _) _ _ _
      cases hx : (arr y)[k]? with
      | none =>
        refine wpAny_bind (nx_end (z := y) hh (at' y (.head _)) ((hhas y hy).keep hyl) hx fun g2 e x2 he => ?_)
        obtain ⟨oe, he1, he2⟩ := he
        have z2 : IsZip g2 z TI TO .ellipsis := x2 _ _ (D.its y hy).1.symm zg
        have hez : e ≠ z := fun q => by subst q; rw [z2] at he1; cases he1; simp at he2
        exact wpAny_setField_rec z2 (by simp) fun g3 _ b3 => hE ⟨y, hy, hx⟩ g3 e (fun c u c1 c2 c3 q => b3.extBut _ _ c1 (x2 _ _ (c3 y hy) (kg c u c1 c2 c3 q))) ⟨oe, b3.extBut _ _ hez he1, he2⟩
      | some v =>
        refine wpAny_bind (nx_item (z := y) (at' y (.head _)) ((hhas y hy).keep hyl) hx fun g2 a2 b2 => wpAny_pure ?_)
        have o2 : IsTu g2 TO (vs ++ o :: os).toArray := b2.extBut _ _ (D.its y hy).2.2.symm og
        refine wpAny_bind (wpAny_seqItems o2 rfl ?_)
        have hlen : (vs ++ o :: os).length = zs.length := by rw [e1]; simp [e3]; simpa using e4
        refine wpAny_bind (wpAny_updateSeq o2 rfl ?_ (by rw [List.size_toArray, hlen, sizeLine_eq]; omega) (by rw [Array.size_setIfInBounds, List.size_toArray, hlen, sizeLine_eq]; omega))
        refine wpAny_bind (wpAny_letGo (wpAny_pure ?_))
        have nd : (dn.map (·.it) ++ y.it :: td.map (·.it)).Nodup := by have := D.nd; rw [e1] at this; simpa using this
        have b3 : Heap.SameBut TO g2 (g2.update TO (Obj.mapSeq (·.setIfInBounds dn.length v))) := Heap.SameBut.update ..
        have o3 : IsTu (g2.update TO (Obj.mapSeq (·.setIfInBounds dn.length v))) TO ((vs ++ [v]) ++ os).toArray := by
          show Heap.get? _ _ = _
          rw [Heap.get?_update_self _ o2 rfl]
          have : (vs ++ o :: os).set vs.length v = (vs ++ [v]) ++ os := by simp
          simp [Obj.mapSeq, ← e3]
        refine ⟨rfl, dn ++ [y], td, vs ++ [v], os, _, by rw [e1]; simp, by simp, by simp [e3], by simpa using e4, rfl, ?_, b3.extBut _ _ D.a2.symm (b2.extBut _ _ (D.its y hy).1.symm zg), o3, ?_, ?_, by rw [b3.1, b2.1, sg], ?_⟩
        · intro i x hi
          by_cases hlt : i < dn.length
          · rw [List.getElem?_append_left hlt] at hi
            obtain ⟨v', q1, q2⟩ := ev i x hi
            exact ⟨v', by rw [List.getElem?_append_left (by omega)]; exact q1, q2⟩
          · rw [List.getElem?_append_right (by omega)] at hi
            have h0 : i - dn.length = 0 := by
              have := (List.getElem?_eq_some_iff.mp hi).1
              simp at this; omega
            rw [h0] at hi
            simp at hi
            subst hi
            exact ⟨v, by rw [List.getElem?_append_right (by omega), show i - vs.length = 0 by omega]; rfl, hx⟩
        · intro x hx'
          rcases List.mem_append.mp hx' with hx' | hx'
          · have hxz : x ∈ zs := by rw [e1]; simp [hx']
            refine (ad x hx').keep fun u q => b3.extBut _ _ (D.its x hxz).2.2 (b2.extBut _ _ (fun z => ?_) q)
            rw [List.nodup_append] at nd
            exact nd.2.2 x.it (List.mem_map_of_mem hx') y.it (by simp) z
          · rw [List.mem_singleton.mp hx']
            exact a2.keep fun u q => b3.extBut _ _ (D.its y hy).2.2 q
        · intro x hx'
          have hxz : x ∈ zs := by rw [e1]; simp [hx']
          refine (at' x (.tail _ hx')).keep fun u q => b3.extBut _ _ (D.its x hxz).2.2 (b2.extBut _ _ (fun z => ?_) q)
          rw [List.nodup_append] at nd
          exact (List.nodup_cons.mp nd.2.1).1 (by rw [← z]; exact List.mem_map_of_mem hx')
        · intro c u c1 c2 c3 q
          exact b3.extBut _ _ c2 (b2.extBut _ _ (c3 y hy) (kg c u c1 c2 c3 q))
  · rintro b s' ⟨hb, dn, td, vs, os, g, e1, e2, e3, e4, rfl, ev, zg, og, ad, at', sg, kg⟩
    have htd : td = [] := by
      cases td with
      | nil => rfl
      | cons _ _ => simp at e2
    subst htd
    have hos : os = [] := by simpa using e4
    subst hos
    rw [List.append_nil] at e1 og
    subst e1
    obtain ⟨b1, b2⟩ := b
    subst hb
    dsimp only
    refine wpAny_bind (wpAny_seqItems og rfl ?_)
    refine wpAny_bind (wpAny_newTuple ?_ (by show vs.toArray.toList.length ≤ sizeLine; simp only [e3, sizeLine_eq]; omega))
    show wpAny (model P w) _ (Builtin.SmallTypes.ownedTupleHandOut (.ref z) (.ref g.objs.size) >>= _) _ _ _
    refine wpAny_bind ?_
    unfold Builtin.SmallTypes.ownedTupleHandOut
    have hzl := Heap.lt_size zg
    have z2 : IsZip (g.push { cls := .type "tuple", data := .seq vs.toArray.toList.toArray }) z TI TO .ellipsis := Heap.get?_push_of_some _ zg
    refine wpAny_bind (wpAny_setField_rec z2 (by simp) fun g3 z3 b3 => ?_)
    replace z3 : IsZip g3 z TI TO (rawInt g.objs.size) := z3
    refine wpAny_setField_rec z3 (by simp) fun g4 z4 b4 => ?_
    replace z4 : IsZip g4 z TI TO (rawInt g.objs.size) := z4
    have up : ∀ c o, c ≠ z → g.get? c = some o → g4.get? c = some o := fun c o c1 q => b4.extBut _ _ c1 (b3.extBut _ _ c1 (Heap.get?_push_of_some _ q))
    have t4 : IsTu g4 g.objs.size vs.toArray := b4.extBut _ _ (Nat.ne_of_gt hzl) (b3.extBut _ _ (Nat.ne_of_gt hzl) (by simpa using Heap.get?_push_size _ rfl))
    refine wpAny_pure ⟨_, rfl, ?_⟩
    refine hQ g4 g.objs.size vs e3 ev sg z4 (up _ _ D.a1 (kg _ _ D.a1 D.a3 (fun y hy => (D.its y hy).2.1.symm) hI)) (up _ _ D.a2 og) t4 (fun y hy => (ad y hy).keep fun o q => up _ o (D.its y hy).1 q) fun c o c1 c2 c3 q => up c o c1 (kg c o c1 c2 c3 q)
  · refine ⟨rfl, [], zs, [], olds, g1, rfl, by simp, rfl, hol, rfl, fun i y q => by simp at q, z1, by simpa using b1.extBut _ _ D.a2 hO, fun y q => by simp at q, fun y hy => (hat y hy).keep fun o q => b1.extBut _ _ (D.its y hy).1 q, b1.1, fun c o c1 _ _ q => b1.extBut _ _ c1 q⟩
end
end L2
namespace L2
open PySem PySem.Spec PyProof.Rows
section
variable {X : Cx} {pins : List (Addr × Obj)} {σ : St} {H : Hp} {s : Shared} {h' : Heap}
theorem Inv.turnedN {t' : Nat} {ch : List Addr} (I : Inv X pins σ H s) (hf : ∀ b ∈ ch, FpOk X pins H b) (k : ∀ b o, b ∉ ch → s.heap.get? b = some o → h'.get? b = some o) : Inv X pins σ H { s with heap := h', toks := t' } := by
  have nit : ∀ b u, H b = some u → b ∉ ch := fun b u e z => by rw [(hf b z).1] at e; cases e
  refine I.step (g' := s.gens) (d' := s.drawn) (ch := ch) (fun b hb => ?_) (fun b o _ _ hc e _ => k b o hc e) (fun b o _ _ hc e _ => ⟨o.slots, k b o hc e⟩) (fun _ _ _ _ n => n)
    (fun b o hc e => ⟨o, k b o hc e⟩) (fun _ _ e => e) (fun _ _ _ e => e) (fun b ps e => ⟨#[], by rw [e]; simp⟩) (fun m hm => ?_) (fun b u e => ?_) I.bare
  · obtain ⟨_, f1, _, f3, f4, f5⟩ := hf b hb
    exact ⟨f3, f1, f4, f5⟩
  · obtain ⟨o, es, ep, ho, r⟩ := hm
    exact ⟨o, es, ep, k _ o (fun z => (hf _ z).2.1 rfl) ho, r⟩
  · refine (I.hok b u e).stay (fun c v hc q => k c v ?_ q) (fun _ q => q) fun _ _ q => q
    rcases hc with z | z
    · rw [z]; exact nit b u e
    · exact nit c _ z
theorem Inv.turnedT {t' : Nat} {ch : List Addr} {T : Addr} {vs : List V} {us : List Value} (I : Inv X pins σ H s) (hf : ∀ b ∈ ch, FpOk X pins H b) (k : ∀ b o, b ∉ ch → s.heap.get? b = some o → h'.get? b = some o)
    (hT : s.heap.objs.size ≤ T) (r : Vals vs us) (hz : vs.length ≤ sizeLine) (ht : IsTup h' T us.toArray) : Inv X pins σ (upd H T (.tup vs)) { s with heap := h', toks := t' } := by
  have nit : ∀ b u, H b = some u → b ∉ ch := fun b u e z => by rw [(hf b z).1] at e; cases e
  have hn : H T = none := I.hok.fresh hT
  have nT : ∀ b o, s.heap.get? b = some o → b ≠ T := fun b o e => Nat.ne_of_lt (Nat.lt_of_lt_of_le (Heap.lt_size e) hT)
  refine I.step (g' := s.gens) (d' := s.drawn) (ch := ch) (fun b hb => ?_) (fun b o _ _ hc e _ => k b o hc e) (fun b o _ _ hc e _ => ⟨o.slots, k b o hc e⟩) (fun b o _ e n => by rw [upd_ne (nT b o e)]; exact n)
    (fun b o hc e => ⟨o, k b o hc e⟩) (fun b xs e => by rw [upd_ne (ne_of_none e hn)]; exact e) (fun b _ _ e => by rw [upd_ne (ne_of_none e hn)]; exact e) (fun b ps e => ⟨#[], by rw [upd_ne (ne_of_none e hn), e]; simp⟩) (fun m hm => ?_) (fun b u e => ?_) I.bare
  · obtain ⟨_, f1, _, f3, f4, f5⟩ := hf b hb
    exact ⟨f3, f1, f4, f5⟩
  · obtain ⟨o, es, ep, ho, r⟩ := hm
    exact ⟨o, es, ep, k _ o (fun z => (hf _ z).2.1 rfl) ho, r⟩
  · by_cases hb : b = T
    · subst hb
      rw [upd_same] at e
      cases e
      exact ⟨hz, us, r, ht⟩
    · rw [upd_ne hb] at e
      refine (I.hok b u e).stay (fun c v hc q => k c v ?_ q) (fun c q => by rw [upd_ne (ne_of_none q hn)]; exact q) fun c xs q => by rw [upd_ne (ne_of_none q hn)]; exact q
      rcases hc with z | z
      · rw [z]; exact nit b u e
      · exact nit c _ z
end
def SrcV (K : PySem.W.Frag) (H : Hp) (y : Zs) (xs : List V) : Prop := if y.tp = true then SqT K H y.l xs else SqL K H y.l xs
theorem SrcV.has {X : Cx} {pins : List (Addr × Obj)} {σ : St} {H : Hp} {s : Shared} {y : Zs} {xs : List V} (I : Inv X pins σ H s) (h : SrcV X.K H y xs) : ∃ its : List Value, Vals xs its ∧ y.Has s.heap its.toArray := by
  unfold SrcV at h
  unfold Zs.Has
  split at h
  · next e => obtain ⟨its, r, p, _⟩ := I.tuple h; exact ⟨its, r, by rw [if_pos e]; exact p⟩
  · next e => obtain ⟨its, r, p, _⟩ := I.list h; exact ⟨its, r, by rw [if_neg e]; exact p.isList⟩
theorem SrcV.inj {X : Cx} {pins : List (Addr × Obj)} {σ : St} {H : Hp} {s : Shared} {y : Zs} {xs xs' : List V} (I : Inv X pins σ H s) (h : SrcV X.K H y xs) (h' : SrcV X.K H y xs') : xs = xs' := by
  unfold SrcV at h h'
  split at h
  · next e => rw [if_pos e] at h'; exact I.tuple_inj h h'
  · next e => rw [if_neg e] at h'; exact I.list_inj h h'
def Itz (K : PySem.W.Frag) (zs : List Zs) : It :=
  ⟨fun i H => ∀ y ∈ zs, ∃ xs x, SrcV K H y xs ∧ xs[i]? = some x,
   fun i H x H' => ∃ T vs, H T = none ∧ x = .ref T ∧ H' = upd H T (.tup vs) ∧ vs.length = zs.length ∧ ∀ (j : Nat) y xs, zs[j]? = some y → SrcV K H y xs → ∃ v, vs[j]? = some v ∧ xs[i]? = some v,
   fun i H => (∀ y ∈ zs, ∃ xs, SrcV K H y xs) ∧ ∃ y ∈ zs, ∃ xs, SrcV K H y xs ∧ xs.length ≤ i⟩
def TnZ (z TI TO : Addr) (zs : List Zs) (i : Nat) (h : Heap) : Prop := IsZip h z TI TO .none ∧ IsTu h TI (zs.map fun y => Value.ref y.it).toArray ∧ (∃ olds : List Value, olds.length = zs.length ∧ IsTu h TO olds.toArray) ∧ ∀ y ∈ zs, y.At i h
theorem Vals.of_get : ∀ {vs : List V} {us : List Value}, vs.length = us.length → (∀ (i : Nat) v u, vs[i]? = some v → us[i]? = some u → RelV v u) → Vals vs us
  | [], [], _, _ => .nil
  | [], _ :: _, h, _ => by simp at h
  | _ :: _, [], h, _ => by simp at h
  | v :: vs, u :: us, h, q => .cons (q 0 v u rfl rfl) (Vals.of_get (by simpa using h) fun i v u e1 e2 => q (i + 1) v u (by simpa using e1) (by simpa using e2))
theorem turn_zip {P : Program} {w : World} {K : PySem.W.Frag} {elts : List Expr} {x1} {pos : Pos} {z TI TO : Addr} {zs : List Zs} (D : ∀ (X : Cx) pins σ H s, X.K = K → Inv X pins σ H s → (∀ b ∈ z :: TI :: TO :: zs.map (·.it), H b = none) → (∀ y ∈ zs, ∃ xs, SrcV K H y xs) → ZAp z TI TO zs) (hne : zs ≠ []) (hsm : zs.length ≤ 1000) :
    Turn P w K (.Tuple elts x1 pos) (Itz K zs) (z :: TI :: TO :: zs.map (·.it)) z (TnZ z TI TO zs) where
  mem := by simp
  obj := fun i h ⟨t1, t2, ⟨olds, _, t3⟩, t4⟩ b hb => by
    rcases List.mem_cons.mp hb with rfl | hb
    · exact ⟨_, t1, fun v q => by have q' : Data.fields _ = Data.cell v := q; cases q'⟩
    rcases List.mem_cons.mp hb with rfl | hb
    · exact ⟨_, t2, fun v q => by have q' : Data.seq _ _ = Data.cell v := q; cases q'⟩
    rcases List.mem_cons.mp hb with rfl | hb
    · exact ⟨_, t3, fun v q => by have q' : Data.seq _ _ = Data.cell v := q; cases q'⟩
    obtain ⟨y, hy, rfl⟩ := List.mem_map.mp hb
    exact (t4 y hy).obj
  keep := fun i h h' ⟨t1, t2, ⟨olds, t0, t3⟩, t4⟩ k => ⟨k z (by simp) _ t1, k TI (by simp) _ t2, ⟨olds, t0, k TO (by simp) _ t3⟩, fun y hy => (t4 y hy).keep fun o q => k y.it (by simp; exact .inr (.inr (.inr ⟨y, hy, rfl⟩))) o q⟩
  item := by
    intro X hP hw hK hc i pins s σ H E I hf st hg
    subst hP hw hK
    obtain ⟨t1, t2, ⟨olds, t0, t3⟩, t4⟩ := st
    have Da := D X pins σ H s rfl I (fun b hb => (hf b hb).1) fun y hy => let ⟨xs, _, q, _⟩ := hg y hy; ⟨xs, q⟩
    have ex : ∀ y : Zs, ∃ its : List Value, y ∈ zs → ∃ xs, SrcV X.K H y xs ∧ Vals xs its ∧ y.Has s.heap its.toArray ∧ ∃ x, xs[i]? = some x := fun y => by
      by_cases hy : y ∈ zs
      · obtain ⟨xs, x, q1, q2⟩ := hg y hy
        obtain ⟨its, r, p⟩ := q1.has I
        exact ⟨its, fun _ => ⟨xs, q1, r, p, x, q2⟩⟩
      · exact ⟨[], fun q => absurd q hy⟩
    obtain ⟨arr, harr⟩ := Classical.axiomOfChoice ex
    have hT : s.TypeIs (.ref z) "zip" := ⟨_, t1, rfl⟩
    unfold pyNext
    refine wpAny_bind (wpAny_attempt (wpAny_callSpecial?_slot (name := Str.ofString "__next__") hT PySem.F.slot_zip_next (wpAny_call_entry PySem.F.slot_zip_next hT PySem.F.entry_zip_next ?_ (PySem.F.args_zip_next_1 _))))
    refine zip_nx (arr := fun y => (arr y).toArray) (k := i) (I.ok.hd hc) Da hne hsm t1 t2 t3 t0 t4 (fun y hy => let ⟨_, _, _, p, _⟩ := harr y hy; p) ?_ ?_
    · intro g T us hl hv hT' z2 ti2 to2 tt2 at2 kp
      refine wpAny_pure ⟨_, rfl, ?_⟩
      refine wpAny_letOwnedTupleGo_zip (s := { s with heap := g }) z2 fun g3 z3 b3 => ?_
      have zl := Heap.lt_size t1
      have hTz : T ≠ z := by rw [hT']; exact Nat.ne_of_gt zl
      have k3 : ∀ b o, b ∉ z :: TI :: TO :: zs.map (·.it) → s.heap.get? b = some o → g3.get? b = some o := fun b o hb q => by
        simp only [List.mem_cons, not_or] at hb
        exact b3.extBut _ _ hb.1 (kp b o hb.1 hb.2.2.1 (fun y hy e => hb.2.2.2 (by rw [e]; exact List.mem_map_of_mem hy)) q)
      have exv : ∀ j : Nat, ∃ v : V, ∀ y xs, zs[j]? = some y → SrcV X.K H y xs → xs[i]? = some v := fun j => by
        cases hj : zs[j]? with
        | none => exact ⟨.non, fun y xs e => nomatch e⟩
        | some y =>
          obtain ⟨xs, q1, _, _, x, q2⟩ := harr y (List.mem_of_getElem? hj)
          exact ⟨x, fun y' xs' e q => by cases e; rw [q.inj I q1]; exact q2⟩
      obtain ⟨val, hval⟩ := Classical.axiomOfChoice exv
      have hlv : ((List.range zs.length).map val).length = zs.length := by rw [List.length_map, List.length_range]
      have gv : ∀ (j : Nat) y, zs[j]? = some y → ((List.range zs.length).map val)[j]? = some (val j) := fun j y e => by
        rw [List.getElem?_map, List.getElem?_range (List.getElem?_eq_some_iff.mp e).1]; rfl
      have rv : Vals ((List.range zs.length).map val) us := Vals.of_get (by rw [hlv, hl]) fun j v u e1 e2 => by
        have hj : j < zs.length := by rw [← hl]; exact (List.getElem?_eq_some_iff.mp e2).1
        have hz' := List.getElem?_eq_getElem hj
        rw [gv j _ hz'] at e1
        cases e1
        obtain ⟨xs, q1, q2, _, _⟩ := harr _ (List.getElem_mem hj)
        have q3 := hval j _ xs hz' q1
        obtain ⟨u', e3, e4⟩ := hv j _ hz'
        rw [e2] at e3
        cases e3
        obtain ⟨u2, e5, e6⟩ := q2.get q3
        have e4' : (arr zs[j])[i]? = some u := by simpa using e4
        rw [e5] at e4'
        cases e4'
        exact e6
      have tt3 : IsTup g3 T us.toArray := ⟨_, b3.extBut _ _ hTz tt2, rfl, _, rfl⟩
      refine ⟨.ref T, _, I.turnedT (t' := s.toks) hf k3 (by rw [hT']; exact Nat.le_refl _) rv (by rw [hlv]; exact Nat.le_of_lt (small1000 hsm)) tt3, rfl, ⟨T, _, I.hok.fresh (by rw [hT']; exact Nat.le_refl _), rfl, rfl, hlv, fun j y xs e q => ⟨_, gv j y e, hval j y xs e q⟩⟩, ⟨z3, b3.extBut _ _ Da.a1 ti2, ⟨us, hl, b3.extBut _ _ Da.a2 to2⟩, fun y hy => (at2 y hy).keep fun o q => b3.extBut _ _ (Da.its y hy).1 q⟩, fun b hb => ?_⟩
      have hbo : ∃ o, s.heap.get? b = some o := by
        rcases List.mem_cons.mp hb with rfl | hb
        · exact ⟨_, t1⟩
        rcases List.mem_cons.mp hb with rfl | hb
        · exact ⟨_, t2⟩
        rcases List.mem_cons.mp hb with rfl | hb
        · exact ⟨_, t3⟩
        obtain ⟨y, hy, rfl⟩ := List.mem_map.mp hb
        obtain ⟨o, q, _⟩ := (t4 y hy).obj
        exact ⟨o, q⟩
      obtain ⟨o, q⟩ := hbo
      rw [upd_ne (by rw [hT']; exact Nat.ne_of_lt (Heap.lt_size q))]
      exact (hf b hb).1
    · rintro ⟨y, hy, q⟩
      obtain ⟨xs, _, r, _, x, q2⟩ := harr y hy
      obtain ⟨u, e, _⟩ := r.get q2
      have q' : (arr y)[i]? = none := by simpa using q
      rw [e] at q'
      cases q'
  done := by
    intro X hP hw hK hc i pins s σ H E I hf st hg
    subst hP hw hK
    obtain ⟨t1, t2, ⟨olds, t0, t3⟩, t4⟩ := st
    obtain ⟨hall, y0, hy0, xs0, hx0, hl0⟩ := hg
    have Da := D X pins σ H s rfl I (fun b hb => (hf b hb).1) hall
    have ex : ∀ y : Zs, ∃ its : List Value, y ∈ zs → ∃ xs, SrcV X.K H y xs ∧ Vals xs its ∧ y.Has s.heap its.toArray := fun y => by
      by_cases hy : y ∈ zs
      · obtain ⟨xs, q1⟩ := hall y hy
        obtain ⟨its, r, p⟩ := q1.has I
        exact ⟨its, fun _ => ⟨xs, q1, r, p⟩⟩
      · exact ⟨[], fun q => absurd q hy⟩
    obtain ⟨arr, harr⟩ := Classical.axiomOfChoice ex
    have hT : s.TypeIs (.ref z) "zip" := ⟨_, t1, rfl⟩
    unfold pyNext
    refine wpAny_bind (wpAny_attempt (wpAny_callSpecial?_slot (name := Str.ofString "__next__") hT PySem.F.slot_zip_next (wpAny_call_entry PySem.F.slot_zip_next hT PySem.F.entry_zip_next ?_ (PySem.F.args_zip_next_1 _))))
    refine zip_nx (arr := fun y => (arr y).toArray) (k := i) (I.ok.hd hc) Da hne hsm t1 t2 t3 t0 t4 (fun y hy => let ⟨_, _, _, p⟩ := harr y hy; p) ?_ ?_
    · intro g T us hl hv _ _ _ _ _ _ _
      exfalso
      obtain ⟨j, hj⟩ := List.getElem?_of_mem hy0
      obtain ⟨v, _, e⟩ := hv j y0 hj
      obtain ⟨xs, q1, r, _⟩ := harr y0 hy0
      have e' : (arr y0)[i]? = some v := by simpa using e
      have := (List.getElem?_eq_some_iff.mp e').1
      rw [← r.length, q1.inj I hx0] at this
      omega
    · rintro _ g e kp ⟨o, ho, hcl⟩
      refine wpAny_bind (wpAny_isInstance (T := "StopIteration") (b := true) (s := { s with heap := g }) ⟨o, ho, hcl⟩ isSubtype_stop ?_)
      refine wpAny_pure ⟨rfl, I.turnedN (t' := s.toks) hf fun b o hb q => ?_⟩
      simp only [List.mem_cons, not_or] at hb
      exact kp b o hb.1 hb.2.2.1 (fun y hy e => hb.2.2.2 (by rw [e]; exact List.mem_map_of_mem hy)) q
  self := fun _ _ _ _ _ st h => wpAny_pyIter_zip st.1 h
end L2
namespace L2
open PySem PySem.Spec PyProof.Rows
def mkZs (b : Nat) : List (Bool × Addr) → List Zs
  | [] => []
  | p :: r => ⟨b, p.1, p.2⟩ :: mkZs (b + 1) r
theorem mkZs_length : ∀ (b : Nat) (l : List (Bool × Addr)), (mkZs b l).length = l.length
  | _, [] => rfl
  | b, _ :: r => by simp [mkZs, mkZs_length (b + 1) r]
theorem mkZs_append : ∀ (b : Nat) (l r : List (Bool × Addr)), mkZs b (l ++ r) = mkZs b l ++ mkZs (b + l.length) r
  | _, [], _ => by simp [mkZs]
  | b, p :: l, r => by
    have := mkZs_append (b + 1) l r
    simp [mkZs, this]
    congr 1
    omega
theorem mkZs_mem : ∀ {b : Nat} {l : List (Bool × Addr)} {y : Zs}, y ∈ mkZs b l → @LE.le Nat _ b y.it ∧ @LT.lt Nat _ y.it (b + l.length) ∧ (y.tp, y.l) ∈ l
  | _, [], _, h => by simp [mkZs] at h
  | b, p :: l, y, h => by
    rcases List.mem_cons.mp h with rfl | h
    · simp
    · obtain ⟨h1, h2, h3⟩ := mkZs_mem h
      exact ⟨by omega, by rw [List.length_cons, ← Nat.add_assoc, Nat.add_right_comm]; exact h2, .tail _ h3⟩
theorem mkZs_nodup : ∀ (b : Nat) (l : List (Bool × Addr)), ((mkZs b l).map (·.it)).Nodup
  | _, [] => by simp [mkZs]
  | b, p :: l => by
    show (b :: (mkZs (b + 1) l).map (·.it)).Nodup
    refine List.nodup_cons.mpr ⟨fun h => ?_, mkZs_nodup (b + 1) l⟩
    obtain ⟨y, hy, e⟩ := List.mem_map.mp h
    have := (mkZs_mem hy).1
    omega
def HasS (p : Bool × Addr) (h : Heap) : Prop := ∃ xs, Zs.Has ⟨0, p.1, p.2⟩ h xs
theorem meets_zipN (srcs : List (Bool × Addr)) (hsm : srcs.length ≤ 1000) :
    Meets (Builtin.«zip.__new__» ⟨.type "zip" :: srcs.map (fun p => Value.ref p.2), []⟩) (fun _ R s => (∀ p ∈ srcs, HasS p s.heap) ∧ ∀ (g : Heap), (∀ b o, s.heap.get? b = some o → g.get? b = some o) →
      g.objs.size = s.heap.objs.size + srcs.length + 3 → TnZ (s.heap.objs.size + srcs.length + 2) (s.heap.objs.size + srcs.length) (s.heap.objs.size + srcs.length + 1) (mkZs s.heap.objs.size srcs) 0 g → R (.ok (.ret (.ref (s.heap.objs.size + srcs.length + 2)))) { s with heap := g }) :=
  .of_wp fun prog w A R s h => by
    obtain ⟨hs, h⟩ := h
    unfold Builtin.«zip.__new__»
    have hnc : Builtin.SmallTypes.newClass "zip" ⟨.type "zip" :: srcs.map (fun p => Value.ref p.2), []⟩ = pure (.type "zip", srcs.map (fun p => Value.ref p.2)) := by
      unfold Builtin.SmallTypes.newClass
      simp only [isType, sub_zip, pure_bind, Bool.not_true, Bool.false_eq_true, if_false]
    refine wpAny_bind (wpAny_of_eq hnc ?_)
    dsimp only
    rw [if_neg (by simp)]
    refine wpAny_bind ?_
    unfold Builtin.SmallTypes.iterAll
    refine wpAny_bind ?_
    refine wpAny_forIn_list _ (fun rest its s' => ∃ (dn td : List (Bool × Addr)) (g : Heap), srcs = dn ++ td ∧ rest = td.map (fun p => Value.ref p.2) ∧ its = ((mkZs s.heap.objs.size dn).map fun y => Value.ref y.it).toArray ∧ s' = { s with heap := g } ∧ g.objs.size = s.heap.objs.size + dn.length ∧
      (∀ b o, s.heap.get? b = some o → g.get? b = some o) ∧ ∀ y ∈ mkZs s.heap.objs.size dn, y.At 0 g) _ ?_ ?_ _ _ ?_
    · rintro x rest its s' ⟨dn, td, g, e1, e2, rfl, rfl, sz, kp, at'⟩
      cases td with
      | nil => simp at e2
      | cons p td =>
        rw [List.map_cons] at e2
        cases e2
        obtain ⟨tp, l⟩ := p
        obtain ⟨xs, hx⟩ := hs (tp, l) (by rw [e1]; simp)
        refine wpAny_bind (wpAny_holding ?_)
        have fin : ∀ oI : Obj, Zs.At ⟨g.objs.size, tp, l⟩ 0 (g.push oI) → ∃ (dn' td' : List (Bool × Addr)) (g' : Heap), srcs = dn' ++ td' ∧ td.map (fun p => Value.ref p.2) = td'.map (fun p => Value.ref p.2) ∧ (((mkZs s.heap.objs.size dn).map fun y => Value.ref y.it).toArray.push (.ref g.objs.size)) = ((mkZs s.heap.objs.size dn').map fun y => Value.ref y.it).toArray ∧
            ({ s with heap := g.push oI } : Shared) = { s with heap := g' } ∧ g'.objs.size = s.heap.objs.size + dn'.length ∧ (∀ b o, s.heap.get? b = some o → g'.get? b = some o) ∧ ∀ y ∈ mkZs s.heap.objs.size dn', y.At 0 g' := fun oI ha => by
          refine ⟨dn ++ [(tp, l)], td, g.push oI, by rw [e1]; simp, rfl, ?_, rfl, by rw [Heap.size_push, sz]; simp; omega, fun b o q => Heap.get?_push_of_some _ (kp b o q), fun y hy => ?_⟩
          · rw [mkZs_append]
            simp [mkZs, sz]
          · rw [mkZs_append] at hy
            rcases List.mem_append.mp hy with hy | hy
            · exact (at' y hy).keep fun o q => Heap.get?_push_of_some _ q
            · simp [mkZs] at hy
              subst hy
              rw [← sz]
              exact ha
        cases tp with
        | true =>
          have hx' : g.IsTuple l xs := let ⟨o, ho, r⟩ := (show s.heap.IsTuple l xs from hx); ⟨o, kp _ _ ho, r⟩
          exact wpAny_pyIter_tuple (s := { s with heap := g }) hx' (wpAny_pure (fin _ ⟨_, Heap.get?_push_size _ rfl, rfl, rfl⟩))
        | false =>
          have hx' : g.IsList l xs := let ⟨o, ho, r⟩ := (show s.heap.IsList l xs from hx); ⟨o, kp _ _ ho, r⟩
          exact wpAny_pyIter_list (s := { s with heap := g }) hx' (wpAny_pure (fin _ ⟨_, Heap.get?_push_size _ rfl, rfl, rfl⟩))
    · rintro its s' ⟨dn, td, g, e1, e2, rfl, rfl, sz, kp, at'⟩
      have htd : td = [] := by
        cases td with
        | nil => rfl
        | cons _ _ => simp at e2
      subst htd
      rw [List.append_nil] at e1
      subst e1
      refine wpAny_pure ?_
      refine wpAny_bind (wpAny_newTuple ?_ (by show ((mkZs s.heap.objs.size srcs).map fun y => Value.ref y.it).toArray.toList.length ≤ sizeLine; simp [mkZs_length]; exact Nat.le_of_lt (small1000 hsm)))
      refine wpAny_bind (wpAny_newTuple ?_ (by rw [List.length_map]; show ((mkZs s.heap.objs.size srcs).map fun y => Value.ref y.it).toArray.toList.length ≤ sizeLine; simp [mkZs_length]; exact Nat.le_of_lt (small1000 hsm)))
      refine wpAny_bind ?_
      unfold Builtin.SmallTypes.newRecord
      refine wpAny_newObj_type ?_ (by simp [sizeOk, Builtin.SmallTypes.ownedTupleFields, sizeLine_eq])
      have gen : ∀ (o1 o2 o3 : Obj), o1 = { cls := .type "tuple", data := .seq ((mkZs s.heap.objs.size srcs).map fun y => Value.ref y.it).toArray } → o2 = { cls := .type "tuple", data := .seq (((mkZs s.heap.objs.size srcs).map fun _ => Value.none)).toArray } →
          o3 = { cls := .type "zip", data := .fields #[.none, .bool false, .bool false, .ref g.objs.size, .ref (g.push o1).objs.size] } → R (.ok (.ret (.ref ((g.push o1).push o2).objs.size))) { s with heap := ((g.push o1).push o2).push o3 } := fun o1 o2 o3 h1 h2 h3 => by
        have s1 : (g.push o1).objs.size = s.heap.objs.size + srcs.length + 1 := by rw [Heap.size_push, sz]
        have s2 : ((g.push o1).push o2).objs.size = s.heap.objs.size + srcs.length + 2 := by rw [Heap.size_push, s1]
        have g1 : (((g.push o1).push o2).push o3).get? g.objs.size = some o1 := Heap.get?_push_of_some _ (Heap.get?_push_of_some _ (Heap.get?_push_size _ (by rw [h1]; rfl)))
        have g2 : (((g.push o1).push o2).push o3).get? (g.push o1).objs.size = some o2 := Heap.get?_push_of_some _ (Heap.get?_push_size _ (by rw [h2]; rfl))
        have g3 : (((g.push o1).push o2).push o3).get? ((g.push o1).push o2).objs.size = some o3 := Heap.get?_push_size _ (by rw [h3]; rfl)
        have up : ∀ b o, g.get? b = some o → (((g.push o1).push o2).push o3).get? b = some o := fun b o q => Heap.get?_push_of_some _ (Heap.get?_push_of_some _ (Heap.get?_push_of_some _ q))
        rw [s1] at g2 h3
        rw [s2] at g3 ⊢
        rw [sz] at g1 h3
        refine h _ (fun b o q => up b o (kp b o q)) (by rw [Heap.size_push, s2]) ⟨g3.trans (congrArg some h3), g1.trans (congrArg some h1), ⟨(mkZs s.heap.objs.size srcs).map fun _ => Value.none, by rw [List.length_map], g2.trans (congrArg some h2)⟩, fun y hy => (at' y hy).keep fun o q => up _ o q⟩
      exact wpAny_pure ⟨_, rfl, gen _ _ _ (by simp) (by simp) rfl⟩
    · exact ⟨[], srcs, s.heap, rfl, rfl, by simp [mkZs], rfl, rfl, fun _ _ q => q, fun y hy => by simp [mkZs] at hy⟩
def zipOkN (us : List Value) : Prop := checkTypeCall "zip" ⟨us, []⟩ = pure () ∧ checkBuiltinCall "zip.__new__" ⟨.type "zip" :: us, []⟩ = pure () ∧ ∀ o, argsOk "object.__init__" ⟨o :: us, []⟩
theorem zipOk2 (a b : Value) : zipOkN [a, b] := ⟨PySem.F.typeCall_zip_2 a b, PySem.F.newCall_zip_2 a b, fun o => PySem.F.args_object_init_3 o a b⟩
theorem call_zipN {P : Program} {w : World} {A : Around} {E : Value → Shared → Prop} {s : Shared} {srcs : List (Bool × Addr)} {Q : Value → Shared → Prop} (hk : zipOkN (srcs.map fun p => Value.ref p.2)) (hsm : srcs.length ≤ 1000) (hs : ∀ p ∈ srcs, HasS p s.heap)
    (h : ∀ g : Heap, (∀ b o, s.heap.get? b = some o → g.get? b = some o) → TnZ (s.heap.objs.size + srcs.length + 2) (s.heap.objs.size + srcs.length) (s.heap.objs.size + srcs.length + 1) (mkZs s.heap.objs.size srcs) 0 g → Q (.ref (s.heap.objs.size + srcs.length + 2)) { s with heap := g }) :
    wpAny (model P w) A (call (.type "zip") (srcs.map fun p => Value.ref p.2)) Q E s :=
  callType_new PySem.F.called_zip (by decide) hk.1 hk.2.1 hk.2.2 PySem.F.entry_zip_new (meets_zipN srcs hsm) ⟨hs, fun g kp _ tn => ⟨⟨_, tn.1, rfl⟩, h g kp tn⟩⟩
def SrcP (K : PySem.W.Frag) (H : Hp) (p : Bool × Addr) (xs : List V) : Prop := if p.1 = true then SqT K H p.2 xs else SqL K H p.2 xs
def ItzP (K : PySem.W.Frag) (ps : List (Bool × Addr)) : It :=
  ⟨fun i H => ∀ y ∈ ps, ∃ xs x, SrcP K H y xs ∧ xs[i]? = some x,
   fun i H x H' => ∃ T vs, H T = none ∧ x = .ref T ∧ H' = upd H T (.tup vs) ∧ vs.length = ps.length ∧ ∀ (j : Nat) y xs, ps[j]? = some y → SrcP K H y xs → ∃ v, vs[j]? = some v ∧ xs[i]? = some v,
   fun i H => (∀ y ∈ ps, ∃ xs, SrcP K H y xs) ∧ ∃ y ∈ ps, ∃ xs, SrcP K H y xs ∧ xs.length ≤ i⟩
theorem mkZs_map : ∀ (b : Nat) (l : List (Bool × Addr)), (mkZs b l).map (fun y => (y.tp, y.l)) = l
  | _, [] => rfl
  | b, p :: r => by simp [mkZs, mkZs_map (b + 1) r]
theorem mkZs_tog {b : Nat} {l : List (Bool × Addr)} {j : Nat} {p : Bool × Addr} (h : l[j]? = some p) : ∃ y, (mkZs b l)[j]? = some y ∧ (y.tp, y.l) = p := by
  have := congrArg (·[j]?) (mkZs_map b l)
  simp only [List.getElem?_map, h] at this
  cases e : (mkZs b l)[j]? with
  | none => rw [e] at this; cases this
  | some y => rw [e] at this; exact ⟨y, rfl, by simpa using this⟩
theorem Turn.imp {P : Program} {w : World} {K : PySem.W.Frag} {tg : Expr} {J J' : It} {fp : List Addr} {it : Addr} {tn : Nat → Heap → Prop} (t : Turn P w K tg J fp it tn) (g : ∀ i H, J'.go i H → J.go i H) (y : ∀ i H x H', J'.go i H → J.yld i H x H' → J'.yld i H x H') (s : ∀ i H, J'.stop i H → J.stop i H) : Turn P w K tg J' fp it tn where
  mem := t.mem
  obj := t.obj
  keep := t.keep
  item := fun X h1 h2 h3 h4 i pins s σ H E I hf st hg => wpAny_mono (t.item X h1 h2 h3 h4 i pins s σ H E I hf st (g i H hg)) (fun r s1 ⟨u, e, q⟩ => ⟨u, e, wpAny_mono q (fun _ s2 ⟨x, H', a, b, c, d, e⟩ => ⟨x, H', a, b, y i H x H' hg c, d, e⟩) fun _ _ z => z⟩) fun _ _ z => z
  done := fun X h1 h2 h3 h4 i pins s' σ H E I hf st hg => t.done X h1 h2 h3 h4 i pins s' σ H E I hf st (s i H hg)
  self := t.self
theorem ne_nat {a b : Addr} (h : @Ne Nat a b) : a ≠ b := h
def iZipV (K : PySem.W.Frag) (n : Nat) (ta : TA) : TI := fun σ H R => ta σ H fun vs H1 => ∃ ps : List (Bool × Addr), vs = ps.map (fun p => V.ref p.2) ∧ ps ≠ [] ∧ ps.length = n ∧ (∀ p ∈ ps, ∃ xs, SrcP K H1 p xs) ∧ R (ItzP K ps) H1
theorem relRefs : ∀ {ps : List (Bool × Addr)} {us : List Value}, Vals (ps.map fun p => V.ref p.2) us → us = ps.map fun p => Value.ref p.2
  | [], us, r => by rw [List.map_nil] at r; cases r; rfl
  | p :: ps, us, r => by
    rw [List.map_cons] at r
    cases r with
    | cons r1 r2 => rw [relRefs r2, show _ = Value.ref p.2 from r1]; rfl
theorem pi_zip {X : Cx} {elts es : List Expr} {e : Expr} {x1} {tpos p pos : Pos} {ta : TA} (hg : Gl X "zip") (hm : X.mg "zip" = none) {n : Nat} (hok : ∀ us : List Value, us.length = n → zipOkN us) (hn : n ≤ 1000) (ha : PA X (e :: es) ta)
    (he : starEach (e :: es) X.env = (false, eval e X.env) :: starEach es X.env := by rfl) (hpl : (backTo pos (starEach es X.env)).any (·.1) = false := by rfl) : PI X (.Tuple elts x1 tpos) (.Call (.Name "zip" p) (e :: es) [] pos) (iZipV X.K n ta) := by
  intro pins s σ H R I h
  refine Call_ (ld_blt I hg hm (show bootBuiltins "zip" = some (.type "zip") by decide +kernel) (PyProof.Rows.callWith_type1 (thn (ha pos pins s σ H _ I h) fun us s1 ⟨vs, H1, I1, r1, q1⟩ => ?_) he hpl))
  obtain ⟨ps, rfl, hne, hl, hsrc, q⟩ := q1
  have hsm : ps.length ≤ 1000 := by omega
  have e := relRefs r1
  subst e
  have hnz : mkZs s1.heap.objs.size ps ≠ [] := fun z => hne (List.length_eq_zero_iff.mp (by rw [← mkZs_length s1.heap.objs.size ps, z]; rfl))
  refine call_zipN (hok _ (by rw [List.length_map, hl])) hsm (fun p hp => ?_) fun g kp tn => ?_
  · obtain ⟨xs, hx⟩ := hsrc p hp
    obtain ⟨its, _, h⟩ := SrcV.has (y := ⟨0, p.1, p.2⟩) I1 hx
    exact ⟨_, h⟩
  · refine wpAny_pyIter_zip (s := { s1 with heap := g }) tn.1 ?_
    have I2 : Inv X pins σ H1 { s1 with heap := g } := I1.kept (t' := s1.toks) kp
    refine ⟨_, _, _, _, H1, rfl, I2, (turn_zip (K := X.K) (zs := mkZs s1.heap.objs.size ps) ?_ hnz (by rw [mkZs_length]; exact hsm)).imp ?_ ?_ ?_, tn, fun b hb => ?_, q⟩
    · intro X' pins' σ' H' s' hK I' hfp hall
      have hl' : ∀ y ∈ mkZs s1.heap.objs.size ps, ∀ b, H' b = none → b ∈ (s1.heap.objs.size + ps.length + 2) :: (s1.heap.objs.size + ps.length + 1) :: (mkZs s1.heap.objs.size ps).map (·.it) → y.l ≠ b := by
        intro y hy b hb hm z
        obtain ⟨hb1, hb2, hb3⟩ := mkZs_mem hy
        obtain ⟨xs, hx⟩ := hsrc _ hb3
        obtain ⟨its, _, hh⟩ := SrcV.has (y := y) I1 hx
        have : @LT.lt Nat _ y.l s1.heap.objs.size := by
          unfold Zs.Has at hh
          split at hh <;> (obtain ⟨o, ho, _⟩ := hh; exact Heap.lt_size ho)
        rcases List.mem_cons.mp hm with e | hm
        · exact absurd (z.trans e) (ne_nat (by omega))
        rcases List.mem_cons.mp hm with e | hm
        · exact absurd (z.trans e) (ne_nat (by omega))
        obtain ⟨x, hx, e⟩ := List.mem_map.mp hm
        have := (mkZs_mem hx).1
        exact absurd (z.trans e.symm) (ne_nat (by omega))
      refine ⟨mkZs_nodup _ _, ne_nat (by omega), ne_nat (by omega), ne_nat (by omega), fun y hy => ?_, fun y hy => ?_⟩
      · have := mkZs_mem hy
        exact ⟨ne_nat (by omega), ne_nat (by omega), ne_nat (by omega)⟩
      · exact ⟨hl' y hy _ (hfp _ (by simp)) (by simp), hl' y hy _ (hfp _ (by simp)) (by simp), fun x hx => hl' y hy _ (hfp _ (by simp; exact .inr (.inr (.inr ⟨x, hx, rfl⟩)))) (by simp; exact .inr (.inr ⟨x, hx, rfl⟩))⟩
    · intro i H' hgo y hy
      exact hgo (y.tp, y.l) (mkZs_mem hy).2.2
    · rintro i H' x H2 _ ⟨T, vs, a1, a2, a3, a4, a5⟩
      refine ⟨T, vs, a1, a2, a3, by rw [a4, mkZs_length], fun j p xs hp hx => ?_⟩
      obtain ⟨y, hy, e⟩ := mkZs_tog (b := s1.heap.objs.size) hp
      subst e
      exact a5 j y xs hy hx
    · rintro i H' ⟨a1, p, hp, xs, hx, hl⟩
      obtain ⟨j, hj⟩ := List.getElem?_of_mem hp
      obtain ⟨y, hy, e⟩ := mkZs_tog (b := s1.heap.objs.size) hj
      subst e
      exact ⟨fun y hy => a1 (y.tp, y.l) (mkZs_mem hy).2.2, y, List.mem_of_getElem? hy, xs, hx, hl⟩
    · have hb' : @LE.le Nat _ s1.heap.objs.size b := by
        rcases List.mem_cons.mp hb with rfl | hb
        · omega
        rcases List.mem_cons.mp hb with rfl | hb
        · omega
        rcases List.mem_cons.mp hb with rfl | hb
        · omega
        obtain ⟨x, hx, rfl⟩ := List.mem_map.mp hb
        exact (mkZs_mem hx).1
      exact I1.fpOk hb' (I1.hok.fresh hb')
end L2
namespace L2
open PySem PySem.Spec PyProof.Rows
def cnt3 (lo hi c : Int) : Nat := if lo < hi then ((hi - lo - 1) / c + 1).toNat else 0
end L2
namespace L2
open PySem PySem.Spec PyProof.Rows
section
variable {X : Cx}
def findS (x y : Str) : Int := match Builtin.Str.occurrences x y 0 x.length 1 with
  | i :: _ => (i : Int)
  | [] => -1
theorem mt_find : MtR X "str.find" (fun x vs H Q => ∃ (z y : Str), x = .str z ∧ vs = [.str y] ∧ Q (.int (findS z y)) H) := by
  intro pins s σ H x xs v us Q I rx rs h
  obtain ⟨z, y, rfl, rfl, q⟩ := h
  obtain ⟨t, rfl⟩ := rx
  obtain ⟨u, rfl, r1⟩ := vals1 rs
  obtain ⟨t', rfl⟩ := r1
  exact call_gives PySem.F.slot_str_find (typeIs_str _ _ _) PySem.F.entry_str_find (PySem.F.args_str_find_2 _ _) (gives_str_find z y t t') ⟨.int _, H, I.tok _, ⟨_, rfl⟩, q⟩
end
end L2
namespace L3
open PySem PySem.Spec PyProof.Rows L2
section
variable {X : Cx}
def zFind : Z → List Z → Hq → K3 → Prop := fun x xs G R => match x, xs with
  | .str z, [.str y] => R (.int (findS z y)) G
  | _, _ => False
theorem m_find : MtQ X "str.find" zFind := mtImp mt_find fun x xs H Q hx => hx.un fun w ws G R rw' rs hg h up => by
  match w, ws, h with
  | .str z, [.str y], h =>
    rw [rep_str] at rw'
    obtain ⟨v, rfl, r⟩ := rs.one
    rw [rep_str] at r
    exact ⟨z, y, rw', by rw [r], up _ _ _ _ h (by rw [rep_int]) hg (.refl _ _)⟩
theorem i_find {G : Hq} {R : K3} {z y : Str} (h : R (.int (findS z y)) G) : zFind (.str z) [.str y] G R := h
def putZ (kvs : List (Key × Z)) (k : Key) (v : Z) : List (Key × Z) :=
  if (kvs.any fun kv => decide (kv.1 = k)) = true then kvs.map (fun kv => if kv.1 = k then (kv.1, v) else kv) else kvs ++ [(k, v)]
def keyZ : Z → Option Key
  | .int i => some (.inl i)
  | .str x => some (.inr x)
  | _ => none
theorem keyZ_rep {K : PySem.W.Frag} {H : Hp} {i : Z} {v : V} {k : Key} (h : keyZ i = some k) (r : Rep K H i v) : v = kV k := by
  cases i with
  | int j => rw [rep_int] at r; cases h; exact r
  | str j => rw [rep_str] at r; cases h; exact r
  | _ => cases h
variable {tg : Expr} {t : A3}
def iRev (t : A3) : I3 := fun σ G R => t σ G fun ws G1 => ∃ a xs, ws = [.ref a] ∧ G1 a = some (.lst xs) ∧ R xs.reverse (fun G => G a = some (.lst xs)) G1
def rng3 (lo c : Int) (n : Nat) : List Z := (List.range n).map fun i : Nat => .int (lo + (i : Int) * c)
def iR3 (t : A3) : I3 := fun σ G R => t σ G fun ws G1 => ∃ i j c : Int, ws = [.int i, .int j, .int c] ∧ (-(2 ^ 60) ≤ i ∧ i < 2 ^ 60 ∧ -(2 ^ 60) ≤ j ∧ j < 2 ^ 60 ∧ 0 < c ∧ c < 2 ^ 60) ∧ R (rng3 i c (cnt3 i j c)) (fun _ => True) G1
def srcZ (G : Hq) : Z → Option (List Z)
  | .ref a => match G a with
    | some (.lst ws) => some ws
    | _ => none
  | .tup ws => some ws
  | _ => none
def zipZ : List (List Z) → List Z
  | [] => []
  | [xs] => xs.map fun x => .tup [x]
  | xs :: rest => List.zipWith (fun x r => match r with | .tup ws => .tup (x :: ws) | r => r) xs (zipZ rest)
def iZip (n : Nat) (t : A3) : I3 := fun σ G R => t σ G fun ws G1 => ∃ xss : List (List Z), ws.map (srcZ G1) = xss.map some ∧ xss ≠ [] ∧ ws.length = n ∧ R (zipZ xss) (fun G => ws.map (srcZ G) = xss.map some) G1
theorem zipZ_get : ∀ (xss : List (List Z)), xss ≠ [] → ∀ (i : Nat) (w : Z), (zipZ xss)[i]? = some w ↔ ∃ vs : List Z, w = .tup vs ∧ xss.map (·[i]?) = vs.map some
  | [], h, _, _ => absurd rfl h
  | [xs], _, i, w => by
    simp only [zipZ, List.getElem?_map, List.map_cons, List.map_nil]
    constructor
    · intro h
      cases e : xs[i]? with
      | none => rw [e] at h; cases h
      | some x => rw [e] at h; cases h; exact ⟨[x], rfl, rfl⟩
    · rintro ⟨vs, rfl, h⟩
      match vs, h with
      | [v], h => rw [List.map_cons, List.map_nil] at h; injection h with h _; rw [h]; rfl
      | [], h => cases h
      | _ :: _ :: _, h => simp at h
  | xs :: ys :: rest, _, i, w => by
    have ih := zipZ_get (ys :: rest) (by simp)
    show (List.zipWith _ xs (zipZ (ys :: rest)))[i]? = some w ↔ _
    rw [List.getElem?_zipWith]
    constructor
    · intro h
      cases e1 : xs[i]? with
      | none => rw [e1] at h; cases h
      | some x =>
        cases e2 : (zipZ (ys :: rest))[i]? with
        | none => rw [e1, e2] at h; cases h
        | some r =>
          rw [e1, e2] at h
          obtain ⟨vs, rfl, hv⟩ := (ih i r).mp e2
          cases h
          exact ⟨x :: vs, rfl, by rw [List.map_cons, hv, e1]; rfl⟩
    · rintro ⟨vs, rfl, h⟩
      match vs, h with
      | [], h => simp at h
      | v :: vs, h =>
        rw [List.map_cons, List.map_cons] at h
        injection h with h1 h2
        have := (ih i (.tup vs)).mpr ⟨vs, rfl, h2⟩
        rw [h1, this]
theorem srcZ_low {K : PySem.W.Frag} {G : Hq} {H : Hp} {w : Z} {v : V} {ws : List Z} (h : srcZ G w = some ws) (r : Rep K H w v) (hg : RH K G H) : ∃ p : Bool × Addr, v = .ref p.2 ∧ (p.1 = true ↔ ∃ us, w = .tup us) ∧ ∃ vs, SrcP K H p vs ∧ Reps K H ws vs := by
  cases w with
  | ref a =>
    rw [rep_ref] at r
    cases q : G a with
    | none => simp [srcZ, q] at h
    | some o =>
      cases o with
      | lst us =>
        simp [srcZ, q] at h
        subst h
        obtain ⟨vs, e', rs⟩ := hg _ _ q
        exact ⟨(false, a), r, by simp, vs, by unfold SrcP; rw [if_neg (by simp)]; exact SqL.of e', rs⟩
      | _ => simp [srcZ, q] at h
  | tup us =>
    rw [rep_tup] at r
    obtain ⟨a, vs, rfl, e, rs⟩ := r
    cases h
    exact ⟨(true, a), rfl, by simp, vs, by unfold SrcP; rw [if_pos rfl]; exact SqT.of e, rs⟩
  | _ => cases h
theorem get_map_some {α : Type} {β : Type} {f : α → Option β} : ∀ {l : List α} {m : List β} {j : Nat} {x : α}, l.map f = m.map some → l[j]? = some x → ∃ y, m[j]? = some y ∧ f x = some y
  | [], _, _, _, _, e => by simp at e
  | a :: l, [], _, _, h, _ => by simp at h
  | a :: l, b :: m, j, x, h, e => by
    rw [List.map_cons, List.map_cons] at h
    injection h with h1 h2
    cases j with
    | zero => simp at e; subst e; exact ⟨b, rfl, h1⟩
    | succ j => simpa using get_map_some (j := j) h2 (by simpa using e)
theorem zok2 (us : List Value) (h : us.length = 2) : zipOkN us := by
  cases us with
  | nil => cases h
  | cons a us => cases us with
    | nil => cases h
    | cons b us => cases us with
      | nil => exact zipOk2 a b
      | cons c us => cases h
theorem i_iRev {σ : S3} {G : Hq} {Ri : List Z → (Hq → Prop) → Hq → Prop} (h : t σ G fun ws G1 => ∃ a xs, ws = [.ref a] ∧ G1 a = some (.lst xs) ∧ Ri xs.reverse (fun G => G a = some (.lst xs)) G1) : iRev t σ G Ri := h
theorem i_iR3 {σ : S3} {G : Hq} {Ri : List Z → (Hq → Prop) → Hq → Prop} (h : t σ G fun ws G1 => ∃ i j c : Int, ws = [.int i, .int j, .int c] ∧ (-(2 ^ 60) ≤ i ∧ i < 2 ^ 60 ∧ -(2 ^ 60) ≤ j ∧ j < 2 ^ 60 ∧ 0 < c ∧ c < 2 ^ 60) ∧ Ri (rng3 i c (cnt3 i j c)) (fun _ => True) G1) : iR3 t σ G Ri := h
theorem i_iZip {n : Nat} {σ : S3} {G : Hq} {Ri : List Z → (Hq → Prop) → Hq → Prop} (h : t σ G fun ws G1 => ∃ xss : List (List Z), ws.map (srcZ G1) = xss.map some ∧ xss ≠ [] ∧ ws.length = n ∧ Ri (zipZ xss) (fun G => ws.map (srcZ G) = xss.map some) G1) : iZip n t σ G Ri := h
end
end L3
namespace L3
open PySem PySem.Spec PyProof.Rows L2
def putQ (f : Str) (y : Z) : List (Str × Z) → List (Str × Z)
  | [] => [(f, y)]
  | (g, x) :: r => if g = f then (g, y) :: r else (g, x) :: putQ f y r
section
variable {K : PySem.W.Frag} {H : Hp}
end
section
variable {X : Cx} {C f : Addr} {fd : FuncData} {ps : List Str} {sp : P3} {k : Nat} {a m x : Str} {p pos pos' tpos apos : Pos} {e o value : Expr} {es : List Expr} {te to : E3} {t : A3}
def uFld (C : Addr) (te : E3) (a : Str) : E3 := fun σ G R => te σ G fun x G1 => ∃ q dx fs v, x = .ref q ∧ G1 q = some (.ins C dx fs) ∧ fs.lookup a = some v ∧ R v G1
def uFldSet (C : Addr) (to te : E3) (a : Str) : X3 := fun nx _ _ _ σ G => te σ G fun y G1 => to σ G1 fun x G2 => ∃ q dx fs, x = .ref q ∧ G2 q = some (.ins C dx fs) ∧ fs.length < 1000 ∧ nx σ (put G2 q (.ins C dx (putQ a y fs)))
def uFldAug (C : Addr) (to te : E3) (r : R3) (a : Str) : X3 := fun nx _ _ _ σ G => to σ G fun x G1 => ∃ q dx fs v, x = .ref q ∧ G1 q = some (.ins C dx fs) ∧ fs.lookup a = some v ∧ te σ G1 fun y G2 => r v y G2 fun z G3 => ∃ dx' fs', G3 q = some (.ins C dx' fs') ∧ fs'.length < 1000 ∧ nx σ (put G3 q (.ins C dx' (putQ a z fs')))
def uMeth (C : Addr) (m : Str) (sp : P3) (to : E3) (t : A3) : E3 := fun σ G R => to σ G fun x G1 => ∃ q dx fs, x = .ref q ∧ G1 q = some (.ins C dx fs) ∧ fs.lookup m = none ∧ t σ G1 fun ws G2 => sp (.ref q :: ws) G2 R
def uMake (C : Addr) (sp : P3) (t : A3) : E3 := fun σ G R => t σ G fun ws G1 => ∀ q dx, G1 q = none → sp (.ref q :: ws) (put G1 q (.ins C dx [])) fun v G2 => v = .non ∧ R (.ref q) G2
variable {σ : S3} {G : Hq} {R : K3} {nx bk ct : C3} {rt : K3} {q dx : Addr} {fs : List (Str × Z)} {v : Z} {Ra : List Z → Hq → Prop}
theorem i_fldE (h : te σ G fun x G1 => ∃ q dx fs v, x = .ref q ∧ G1 q = some (.ins C dx fs) ∧ fs.lookup a = some v ∧ R v G1) : uFld C te a σ G R := h
theorem i_fset (h : te σ G fun y G1 => to σ G1 fun x G2 => ∃ q dx fs, x = .ref q ∧ G2 q = some (.ins C dx fs) ∧ fs.length < 1000 ∧ nx σ (put G2 q (.ins C dx (putQ a y fs)))) : uFldSet C to te a nx rt bk ct σ G := h
theorem i_methE (h : to σ G fun x G1 => ∃ q dx fs, x = .ref q ∧ G1 q = some (.ins C dx fs) ∧ fs.lookup m = none ∧ t σ G1 fun ws G2 => sp (.ref q :: ws) G2 R) : uMeth C m sp to t σ G R := h
theorem i_makeE (h : t σ G fun ws G1 => ∀ q dx, G1 q = none → sp (.ref q :: ws) (put G1 q (.ins C dx [])) fun v G2 => v = .non ∧ R (.ref q) G2) : uMake C sp t σ G R := h
theorem i_faug {r : R3} (h : to σ G fun x G1 => ∃ q dx fs v, x = .ref q ∧ G1 q = some (.ins C dx fs) ∧ fs.lookup a = some v ∧ te σ G1 fun y G2 => r v y G2 fun z G3 => ∃ dx' fs', G3 q = some (.ins C dx' fs') ∧ fs'.length < 1000 ∧ nx σ (put G3 q (.ins C dx' (putQ a z fs')))) : uFldAug C to te r a nx rt bk ct σ G := h
end
end L3
namespace L2
open PySem PySem.Spec PyProof.Rows
section
variable {X : Cx} {pins : List (Addr × Obj)} {σ : St} {H : Hp} {s : Shared} {a : Addr} {kvs : List (Key × V)} {k : Key} {d : V} {u r : Value} {A : Around} {E : Value → Shared → Prop}
end
section
variable {X : Cx}
theorem ix_dict : IxR X (fun x y H Q => ∃ a kvs k v, x = .ref a ∧ y = kV k ∧ H a = some (.dK kvs) ∧ valV kvs k = some v ∧ Q v H) := by
  intro value slice pins s σ H x y v u Q I rx ry ⟨a, kvs, k, w, ex, ey, e, l, q⟩ hs
  subst ex ey
  cases rx
  obtain ⟨z, hd, vs, rel, dd⟩ := dk_of I.hok e
  obtain ⟨w', hw, rw'⟩ := RelO.some_of (v := w) (o := valueAt vs k) (by rw [← l]; exact rel.val k)
  exact subscriptTail_builtinR (x := w') dd.typeIs PySem.F.slot_dict_getitem.lookup (wpAny_getItem_of (Q := fun r s' => r = w' ∧ EP X pins σ Q r s') (kV_is ry) dd.mapOf hw ⟨rfl, w, H, I.tok _, rw', q⟩) hs
theorem op_dNotIn (hu : X.A.units + 66 < cLine) : OpR X (compareOp .NotIn) (fun x y H Q => ∃ a o, y = .ref a ∧ DGet H a x o ∧ Q (.bl (!o.isSome)) H) := by
  intro pins s σ H x y u v Q I rx ry ⟨a, o, ey, g, q⟩
  subst ey
  cases ry
  exact d_notIn (by omega) I g rx fun s' I' => ⟨.bl (!o.isSome), H, I', rfl, q⟩
end
end L2
namespace L3
open PySem PySem.Spec PyProof.Rows L2
def valZ (kvs : List (Key × Z)) (k : Key) : Option Z := (kvs.find? fun kv => decide (kv.1 = k)).map (·.2)
theorem valZ_rep {K : PySem.W.Frag} {H : Hp} {k : Key} : ∀ {kvs : List (Key × Z)} {us : List (Key × V)}, us.map (·.1) = kvs.map (·.1) → Reps K H (kvs.map (·.2)) (us.map (·.2)) → (valZ kvs k = none → valV us k = none) ∧ ∀ z, valZ kvs k = some z → ∃ v, valV us k = some v ∧ Rep K H z v
  | [], [], _, _ => ⟨fun _ => rfl, fun _ h => by cases h⟩
  | [], _ :: _, h, _ => by simp at h
  | _ :: _, [], h, _ => by simp at h
  | (c, x) :: fs, (c', v) :: gs, h, r => by
    simp only [List.map_cons, List.cons.injEq] at h
    obtain ⟨rfl, h⟩ := h
    simp only [List.map_cons] at r
    rw [reps_cons] at r
    obtain ⟨v', r', e, r1, r2⟩ := r
    obtain ⟨rfl, rfl⟩ := List.cons.inj e
    have ih := valZ_rep (k := k) h r2
    unfold valZ valV
    rw [List.find?_cons, List.find?_cons]
    cases q : decide (c' = k) with
    | true =>
      refine ⟨fun e => ?_, fun z e => ?_⟩
      · cases e
      · cases e; exact ⟨v, rfl, r1⟩
    | false => exact ih
section
variable {X : Cx}
def zDIx : R3 := fun x y G R => match x with
  | .ref p => ∃ kvs k z, G p = some (.dK kvs) ∧ keyZ y = some k ∧ valZ kvs k = some z ∧ R z G
  | _ => False
theorem x_dix : IxQ X zDIx := ixImp ix_dict fun x y H Q hx => hx.un fun a b G R ra rb hg h up => by
  cases a with
  | ref p =>
    rw [rep_ref] at ra
    obtain ⟨kvs, k, z, e, hk, hz, h⟩ := h
    obtain ⟨us, e', hn, rr⟩ := hg _ _ e
    obtain ⟨u', e1, e2⟩ := (valZ_rep hn rr).2 z hz
    exact ⟨p, us, k, u', ra, keyZ_rep hk rb, e', e1, up _ _ _ _ h e2 hg (.refl _ _)⟩
  | _ => exact False.elim h
theorem i_dix {p : Addr} {kvs : List (Key × Z)} {k : Key} {y w : Z} {G : Hq} {R : K3} (e : G p = some (.dK kvs)) (a : keyZ y = some k) (v : valZ kvs k = some w) (h : R w G) : zDIx (.ref p) y G R := ⟨kvs, k, w, e, a, v, h⟩
end
end L3
namespace L3
open PySem PySem.Spec PyProof.Rows L2
def uPairs : List (E3 × E3) → S3 → Hq → (List (Z × Z) → Hq → Prop) → Prop
  | [], _, G, R => R [] G
  | (tk, tv) :: r, σ, G, R => tk σ G fun x G1 => tv σ G1 fun y G2 => uPairs r σ G2 fun ps G3 => R ((x, y) :: ps) G3
def keysOf : List (Z × Z) → Option (List (Key × Z))
  | [] => some []
  | (x, y) :: r => match keyZ x, keysOf r with
    | some k, some kvs => some ((k, y) :: kvs)
    | _, _ => none
def mergeZ (kvs more : List (Key × Z)) : List (Key × Z) := more.foldl (fun acc kv => putZ acc kv.1 kv.2) kvs
def PReps (K : PySem.W.Frag) (H : Hp) : List (Z × Z) → List (V × V) → Prop := Paired fun p q => Rep K H p.1 q.1 ∧ Rep K H p.2 q.2
theorem PReps.mono {K : PySem.W.Frag} {H H' : Hp} (t : TK K H H') : ∀ {ps : List (Z × Z)} {vs : List (V × V)}, PReps K H ps vs → PReps K H' ps vs
  | _, _, .nil => .nil
  | _, _, .cons r s => .cons ⟨r.1.mono t, r.2.mono t⟩ (PReps.mono t s)
section
variable {X : Cx}
def uDisp (trs : List (E3 × E3)) : E3 := fun σ G R => ∀ p, G p = none → uPairs trs σ (put G p (.dK [])) fun ps G2 => G2 p = some (.dK []) ∧ ∃ kvs, keysOf ps = some kvs ∧ kvs.length ≤ 15 ∧ R (.ref p) (put G2 p (.dK (mergeZ [] kvs)))
theorem i_disp {trs : List (E3 × E3)} {σ : S3} {G : Hq} {R : K3} (h : ∀ p, G p = none → uPairs trs σ (put G p (.dK [])) fun ps G2 => G2 p = some (.dK []) ∧ ∃ kvs, keysOf ps = some kvs ∧ kvs.length ≤ 15 ∧ R (.ref p) (put G2 p (.dK (mergeZ [] kvs)))) : uDisp trs σ G R := h
theorem i_pnil {σ : S3} {G : Hq} {R : List (Z × Z) → Hq → Prop} (h : R [] G) : uPairs [] σ G R := h
theorem i_pcons {tk tv : E3} {r : List (E3 × E3)} {σ : S3} {G : Hq} {R : List (Z × Z) → Hq → Prop} (h : tk σ G fun x G1 => tv σ G1 fun y G2 => uPairs r σ G2 fun ps G3 => R ((x, y) :: ps) G3) : uPairs ((tk, tv) :: r) σ G R := h
def zDIn (f : Bool → Bool) : R3 := fun x y G R => match y with
  | .ref p => ∃ kvs k, G p = some (.dK kvs) ∧ keyZ x = some k ∧ R (.bl (f (valZ kvs k).isSome)) G
  | _ => False
theorem val_same {K : PySem.W.Frag} {H : Hp} {k : Key} {kvs : List (Key × Z)} {us : List (Key × V)} (hn : us.map (·.1) = kvs.map (·.1)) (rr : Reps K H (kvs.map (·.2)) (us.map (·.2))) : (valV us k).isSome = (valZ kvs k).isSome := by
  cases hz : valZ kvs k with
  | none => rw [(valZ_rep hn rr).1 hz]; rfl
  | some z => obtain ⟨u, e1, _⟩ := (valZ_rep hn rr).2 z hz; rw [e1]; rfl
theorem o_dNotIn (hu : X.A.units + 66 < cLine) : OpQ X (compareOp .NotIn) (zDIn not) := opImp (op_dNotIn hu) fun x y H Q hx => hx.un fun a b G R ra rb hg h up => by
  cases b with
  | ref p =>
    rw [rep_ref] at rb
    obtain ⟨kvs, k, e, hk, h⟩ := h
    obtain ⟨us, e', hn, rr⟩ := hg _ _ e
    exact ⟨p, valV us k, rb, by rw [keyZ_rep hk ra]; exact DGet.k e', up _ _ _ _ h (by rw [rep_bl, val_same hn rr]) hg (.refl _ _)⟩
  | _ => exact False.elim h
end
end L3
namespace L3
theorem ln0 {α : Type} {C : List α → Prop} (h : C []) : ∀ us : List α, us.length = 0 → C us
  | [], _ => h
theorem lnS {α : Type} {C : List α → Prop} {n : Nat} (h : ∀ a, ∀ us : List α, us.length = n → C (a :: us)) : ∀ us : List α, us.length = n + 1 → C us
  | a :: us, e => h a us (Nat.succ.inj e)
end L3
namespace L2
open PySem PySem.Spec PyProof.Rows
section
variable {X : Cx}
end
end L2
namespace L3
open PySem PySem.Spec PyProof.Rows L2
section
variable {X : Cx} {e : Expr} {es : List Expr} {t : A3} {x y : Str} {p p2 pos pos2 : Pos}
def uSS (t : A3) : E3 := fun σ G R => t σ G fun ws G1 => ∃ (p : Addr) (ns : List Int), ws = [.ref p] ∧ G1 p = some (.lst (ns.map Z.int)) ∧ ns.length ≤ 1000 ∧
  ∀ (t : Addr) (ks : List Int), G1 t = none → ks.Pairwise (· < ·) → (∀ x, x ∈ ks ↔ x ∈ ns) → ks.length ≤ ns.length → R (.ref t) (put G1 t (.lst (ks.map Z.int)))
end
end L3
namespace L3
open PySem PySem.Spec PyProof.Rows L2
inductive Refs (G : Hq) : List Z → List (List Z) → Prop
  | nil : Refs G [] []
  | cons {a : Addr} {ws : List Z} {xs : List Z} {xss : List (List Z)} : G a = some (.lst xs) → xs.all (flat 8) = true → Refs G ws xss → Refs G (.ref a :: ws) (xs :: xss)
section
variable {X : Cx}
end
end L3
namespace L2
open PySem PySem.Spec PyProof.Rows
section
variable {X : Cx}
theorem call_strOf : CallR X (.type "str") (fun xs H Q => (∃ i : Int, xs = [.int i] ∧ i.natAbs.log2 < 1920 ∧ Q (.str (Str.ofString (toString i))) H) ∨ ∃ x, xs = [.str x] ∧ Q (.str x) H) := by
  intro pins s σ H xs us Q I r h
  rcases h with ⟨i, rfl, hi, q⟩ | ⟨x, rfl, q⟩
  · obtain ⟨u, rfl, rx⟩ := vals1 r
    obtain ⟨t, rfl⟩ := rx
    exact PySem.P.str_of_int hi ⟨.str _, H, I.tok _, ⟨_, rfl⟩, q⟩
  · obtain ⟨u, rfl, rx⟩ := vals1 r
    obtain ⟨t, rfl⟩ := rx
    exact PySem.P.str_of_str ⟨.str _, H, I, ⟨_, rfl⟩, q⟩
theorem call_intOf : CallR X (.type "int") (fun xs H Q => ∃ (x : Str) (n : Int), xs = [.str x] ∧ intText? x = some n ∧ x.length ≤ 640 ∧ Q (.int n) H) := by
  intro pins s σ H xs us Q I r h
  obtain ⟨x, n, rfl, hn, hl, q⟩ := h
  obtain ⟨u, rfl, rx⟩ := vals1 r
  obtain ⟨t, rfl⟩ := rx
  exact PySem.W.KIN.call_text hn hl ⟨.int n, H, I.tok _, ⟨_, rfl⟩, q⟩
theorem vals_strs : ∀ (l : List (Str × Tok)), Vals ((l.map (·.1)).map V.str) (strValues l)
  | [] => .nil
  | p :: l => .cons ⟨p.2, rfl⟩ (vals_strs l)
theorem sw_len (x : Str) : (Builtin.Str.spaceWords x (x.length + 1)).length ≤ x.length + 1 := Nat.le_trans (StrLaws.len_le_wsum _) (StrLaws.sw_weight x).1
theorem pb_len (x y : Str) : (Builtin.Str.partsBetween x (Builtin.Str.occurrences x y 0 x.length (x.length + 1)) y.length).length ≤ x.length + 2 := by
  have := StrLaws.occ_length_le x y 0 x.length (x.length + 1)
  rw [length_partsBetween]
  omega
theorem split_end {pins : List (Addr × Obj)} {s : Shared} {σ : St} {H : Hp} {ws : List Str} {Q : VK} (I : Inv X pins σ H s) (hz : ws.length ≤ sizeLine) (q : ∀ l, H l = none → Q (.ref l) (upd H l (.lst (ws.map V.str)))) (l : List (Str × Tok)) (k : Nat) (e : l.map (·.1) = ws) :
    EP X pins σ Q (.ref s.heap.objs.size) { s with toks := k, heap := s.heap.push { cls := .type "list", data := .seq (strValues l).toArray } } := by
  subst e
  exact ⟨.ref s.heap.objs.size, _, I.laid (a := s.heap.objs.size) (o := .lst ((l.map (·.1)).map V.str)) (t' := k) (fun b o e => Heap.get?_push_of_some _ e) (Nat.le_refl _) ⟨by rw [List.length_map]; exact hz, strValues l, _, vals_strs l, Heap.get?_push_size _ rfl⟩, rfl, q _ (I.hok.fresh (Nat.le_refl _))⟩
theorem mt_split0 : MtR X "str.split" (fun x vs H Q => ∃ (z : Str) (ws : List Str), x = .str z ∧ vs = [] ∧ Txt.words z = ws ∧ z.length ≤ 100000 ∧ ws.length ≤ 100000 ∧ ∀ l, H l = none → Q (.ref l) (upd H l (.lst (ws.map V.str)))) := by
  intro pins s σ H x vs v us Q I rx rv ⟨z, ws, ex, ev, hw, hz, hl, q⟩
  subst ex ev
  obtain ⟨t, rfl⟩ := rx
  cases rv
  have le : 200000 ≤ sizeLine := by decide
  have hsz : z.length ≤ sizeLine := by omega
  have hs2 : (Builtin.Str.spaceWords z (z.length + 1)).length ≤ sizeLine := by have := sw_len z; omega
  have fin := split_end I (show ws.length ≤ sizeLine by omega) q
  refine call_meets (E := X.xe) PySem.F.slot_str_split (typeIs_str _ _ _) PySem.F.entry_str_split (PySem.F.args_str_split_1 _) (meets_str_split_space z t hsz hs2) ?_
  by_cases c : (Builtin.Str.spaceWords z (z.length + 1) == [(0, z.length)]) = true
  · rw [if_pos c]
    exact fin [(z, t)] s.toks (by rw [← hw]; exact (if_pos c).symm)
  · rw [if_neg c]
    show wants _ _ _ _
    rw [strsFrom_eq]
    exact fin _ _ (by rw [numbered_texts, ← hw]; exact (if_neg c).symm)
theorem mt_split1 : MtR X "str.split" (fun x vs H Q => ∃ (z y : Str) (ws : List Str), x = .str z ∧ vs = [.str y] ∧ (y.length == 0) = false ∧ Txt.split z y = ws ∧ z.length ≤ 100000 ∧ ws.length ≤ 100000 ∧ ∀ l, H l = none → Q (.ref l) (upd H l (.lst (ws.map V.str)))) := by
  intro pins s σ H x vs v us Q I rx rv ⟨z, y, ws, ex, ev, hy, hw, hz, hl, q⟩
  subst ex ev
  obtain ⟨t, rfl⟩ := rx
  obtain ⟨u, rfl, r1⟩ := vals1 rv
  obtain ⟨t', rfl⟩ := r1
  have le : 200000 ≤ sizeLine := by decide
  have hsz : z.length ≤ sizeLine := by omega
  have hs2 : (Builtin.Str.partsBetween z (Builtin.Str.occurrences z y 0 z.length (z.length + 1)) y.length).length ≤ sizeLine := by have := pb_len z y; omega
  have fin := split_end I (show ws.length ≤ sizeLine by omega) q
  by_cases c1 : (decide (z.length < y.length) || decide (Builtin.Str.strKind z < Builtin.Str.strKind y)) = true
  · exact call_meets PySem.F.slot_str_split (typeIs_str _ _ _) PySem.F.entry_str_split (PySem.F.args_str_split_2 _ _) (meets_str_split_cannot_occur z y t t' c1) (fin [(z, t)] s.toks (by rw [← hw]; exact (if_pos c1).symm))
  · have c1' := Bool.eq_false_iff.mpr c1
    by_cases c2 : (Builtin.Str.occurrences z y 0 z.length (z.length + 1)).isEmpty = true
    · exact call_meets PySem.F.slot_str_split (typeIs_str _ _ _) PySem.F.entry_str_split (PySem.F.args_str_split_2 _ _) (meets_str_split_not_found z y t t' c1' hy c2) (fin [(z, t)] s.toks (by rw [← hw]; exact ((if_neg c1).trans (if_pos c2)).symm))
    · refine call_meets (E := X.xe) PySem.F.slot_str_split (typeIs_str _ _ _) PySem.F.entry_str_split (PySem.F.args_str_split_2 _ _) (meets_str_split_sep z y t t' c1' hy (Bool.eq_false_iff.mpr c2) hsz hs2) ?_
      show wants _ _ _ { s with toks := _, heap := s.heap.push { cls := .type "list", data := .seq (strsFrom s.toks (Builtin.Str.partsBetween z (Builtin.Str.occurrences z y 0 z.length (z.length + 1)) y.length)).toArray } }
      rw [strsFrom_eq]
      exact fin _ _ (by rw [numbered_texts, ← hw]; exact ((if_neg c1).trans (if_neg c2)).symm)
def KD (X : Cx) (a : Addr) (kvs : List (Key × V)) : Prop := kvs.length ≤ sizeLine ∧ (a == sysModules) = false ∧ ∃ vs, KV kvs vs ∧ ∀ h : Heap, X.K.In h → h.DictOf (mixKind X.prog X.w) a vs
theorem call_dictK : CallR X (.type "dict") (fun xs H Q => ∃ a kvs, xs = [.ref a] ∧ KD X a kvs ∧ ∀ l, H l = none → Q (.ref l) (upd H l (.dK kvs))) := by
  intro pins s σ H xs us Q I r h
  obtain ⟨a, kvs, rfl, ⟨hz, hm, vs, rel, hd⟩, q⟩ := h
  obtain ⟨u, rfl, rx⟩ := vals1 r
  cases rx
  refine kt_call_dict hm (hd s.heap I.kIn) (by rw [← rel.length]; exact hz) fun h' dd sb => ?_
  refine ⟨.ref s.heap.objs.size, _, I.laid (a := s.heap.objs.size) (o := .dK kvs) (t' := s.toks) (fun b o e => ?_) (Nat.le_refl _) (dk_new hz ?_ rel dd), rfl, q _ (I.hok.fresh (Nat.le_refl _))⟩
  · rw [sb.2 b (Nat.ne_of_lt (Heap.lt_size e))]
    exact Heap.get?_push_of_some _ e
  · exact (dk_empty (P := X.prog) (w := X.w) (H := fun _ => none) s.heap I.big).2.1
theorem mt_dgetK {a0 : Addr} {kvs : List (Key × V)} (hD : KD X a0 kvs) : MtR X "dict.get" (fun x vs H Q => ∃ k, x = .ref a0 ∧ vs = [kV k] ∧ Q ((valV kvs k).getD .non) H) := by
  intro pins s σ H x vs v us Q I rx rv ⟨k, ex, ev, q⟩
  subst ex ev
  cases rx
  obtain ⟨u, rfl, ru⟩ := vals1 rv
  obtain ⟨hz, hm, vs, rel, hd⟩ := hD
  have dd := hd s.heap I.kIn
  exact call_meetsIn PySem.F.slot_dict_get dd.typeIs PySem.F.entry_dict_get (PySem.F.args_dict_get_2 _ _) (meets_dict_get (mixKind X.prog X.w) a0 (kV_is ru) hm) ⟨_, dd.mapOf, ⟨(valV kvs k).getD .non, H, I.tok _, (rel.val k).getD (show RelV .non .none from rfl), q⟩⟩
def tGetK (kvs : List (Key × V)) (t : TA) : TE := fun σ H Q => t σ H fun vs H2 => ∃ k, vs = [kV k] ∧ Q ((valV kvs k).getD .non) H2
theorem pe_getK {e : Expr} {t : TA} {x : Str} {p apos cpos : Pos} {a0 : Addr} {kvs : List (Key × V)} (hg : Gl X x) (hmg : X.mg x = some (.ref a0)) (hD : KD X a0 kvs) (ha : PA X [e] t)
    (hdb : (x == ("__debug__" : Str)) = false := by decide)
    (hbase : attributeBase (.Name x p) "get" X.env (eval (.Name x p) X.env) = eval (.Name x p) X.env := by rfl)
    (hfew : ((backTo cpos (starEach [e] X.env)).all (fun x => !x.1) && (backToKw cpos (keywordEach [] X.env)).all (fun x => x.1.isSome)
      && decide ([e].length + ([] : List Keyword).length + (if ([] : List Keyword).isEmpty then 0 else 1) < 30)) = true := by rfl)
    (hline : (apos.endLine == cpos.line) = true := by rfl) (hs : starEach [e] X.env = (false, eval e X.env) :: starEach [] X.env := by rfl) (hplain : (backTo cpos (starEach [] X.env)).any (·.1) = false := by rfl) :
    PE X (.Call (.Attribute (.Name x p) "get" apos) [e] [] cpos) (tGetK kvs t) := by
  intro pins s σ H Q I h
  refine wpAny_Call_method_late hbase hfew hline rfl (thn (pe_glob hg hmg (show RelV (.ref a0) (.ref a0) from rfl) hdb pins s σ H (fun x H1 => x = .ref a0 ∧ H1 = H) I ⟨rfl, rfl⟩) fun v s1 ⟨y, H1, I1, r1, e1, e2⟩ => ?_)
  subst e1 e2
  cases r1
  obtain ⟨o, _, _, eo, ex, _⟩ := hD.2.2.choose_spec.2 s1.heap I1.kIn
  refine ⟨"dict", "dict.get", PySem.F.plainAttrs_dict, PySem.F.slot_dict_get, PySem.F.type_dict_get, ⟨o, eo, ex.1⟩, fun b e2 => by cases e2; exact ⟨o, eo, ex.2.1⟩, ?_⟩
  have hA := ha cpos pins s1 σ H1 _ I1 h
  rw [hs] at hA ⊢
  refine Calls.callWith_builtin (by show (false || (backTo cpos (starEach [] X.env)).any (·.1)) = false; rw [hplain] <;> rfl) (Calls.evalArgs_plain ?_)
  exact thn hA fun us s2 ⟨vs, H2, I2, r2, k, ek, q2⟩ => mt_dgetK hD pins s2 σ H2 (.ref a0) vs (.ref a0) us Q I2 rfl r2 ⟨k, rfl, ek, q2⟩
end
end L2
namespace L3
open PySem PySem.Spec PyProof.Rows L2
section
variable {X : Cx}
theorem q_gref {a : Addr} {e : Expr} (h : PE X e (tC (.ref a))) : QE X e (uC (.ref a)) := q_con h fun _ => by rw [rep_ref]
theorem pe_globR {x : Str} {a : Addr} {pos : Pos} (hg : Gl X x) (hm : X.mg x = some (.ref a)) (hd : (x == ("__debug__" : Str)) = false := by decide) : PE X (.Name x pos) (tC (.ref a)) := pe_glob hg hm rfl hd
theorem strs_reps {K : PySem.W.Frag} {H : Hp} : ∀ (ns : List Str), Reps K H (ns.map Z.str) (ns.map V.str)
  | [] => Reps.nil
  | n :: ns => .cons (by rw [rep_str]) (strs_reps ns)
def zStr : List Z → Hq → K3 → Prop := fun xs G R => match xs with
  | [.int i] => i.natAbs.log2 < 1920 ∧ R (.str (Str.ofString (toString i))) G
  | [.str x] => R (.str x) G
  | _ => False
theorem b_str : CallQ X (.type "str") zStr := callImp call_strOf fun xs H Q hx => hx.un fun ws G R rs hg h up => by
  match ws, h with
  | [.int i], h =>
    obtain ⟨v, rfl, r⟩ := rs.one
    rw [rep_int] at r
    exact .inl ⟨i, by rw [r], h.1, up _ _ _ _ h.2 (by rw [rep_str]) hg (.refl _ _)⟩
  | [.str x], h =>
    obtain ⟨v, rfl, r⟩ := rs.one
    rw [rep_str] at r
    exact .inr ⟨x, by rw [r], up _ _ _ _ h (by rw [rep_str]) hg (.refl _ _)⟩
def zIntT : List Z → Hq → K3 → Prop := fun xs G R => match xs with
  | [.str x] => ∃ n, intText? x = some n ∧ x.length ≤ 640 ∧ R (.int n) G
  | _ => False
theorem b_int : CallQ X (.type "int") zIntT := callImp call_intOf fun xs H Q hx => hx.un fun ws G R rs hg h up => by
  match ws, h with
  | [.str x], h =>
    obtain ⟨v, rfl, r⟩ := rs.one
    rw [rep_str] at r
    obtain ⟨n, h1, h2, h⟩ := h
    exact ⟨x, n, by rw [r], h1, h2, up _ _ _ _ h (by rw [rep_int]) hg (.refl _ _)⟩
def zTuple : List Z → Hq → K3 → Prop := fun xs G R => match xs with
  | [.ref p] => ∃ ws, G p = some (.lst ws) ∧ R (.tup ws) G
  | _ => False
theorem b_tuple : CallQ X (.type "tuple") zTuple := callImp call_tuple_of fun xs H Q hx => hx.un fun ws G R rs hg h up => by
  match ws, h with
  | [.ref p], h =>
    obtain ⟨v, rfl, r⟩ := rs.one
    rw [rep_ref] at r
    obtain ⟨ys, e, h⟩ := h
    obtain ⟨vs, e', rs'⟩ := hg _ _ e
    exact ⟨p, vs, by rw [r], .inl ⟨SqL.of e', fun t ht => up _ _ _ _ h (by rw [rep_tup]; exact ⟨t, vs, rfl, upd_same, rs'.mono (.new ht)⟩) (hg.hid ht) (.new ht)⟩⟩
def zSplit0 : Z → List Z → Hq → K3 → Prop := fun x xs G R => match x, xs with
  | .str z, [] => ∃ ws : List Str, Txt.words z = ws ∧ z.length ≤ 100000 ∧ ws.length ≤ 100000 ∧ ∀ t, G t = none → R (.ref t) (put G t (.lst (ws.map Z.str)))
  | _, _ => False
theorem m_split0 : MtQ X "str.split" zSplit0 := mtImp mt_split0 fun x xs H Q hx => hx.un fun w ws G R rw' rs hg h up => by
  match w, ws, h with
  | .str z, [], h =>
    rw [rep_str] at rw'
    rw [reps_nil] at rs
    obtain ⟨ys, e, h1, h2, h⟩ := h
    exact ⟨z, ys, rw', rs, e, h1, h2, fun t ht => up _ _ _ _ (h t (hg.out ht)) (by rw [rep_ref]) (hg.set (.new ht) (rob_lst (strs_reps ys) (.new ht))) (.new ht)⟩
def zSplit1 : Z → List Z → Hq → K3 → Prop := fun x xs G R => match x, xs with
  | .str z, [.str y] => ∃ ws : List Str, (y.length == 0) = false ∧ Txt.split z y = ws ∧ z.length ≤ 100000 ∧ ws.length ≤ 100000 ∧ ∀ t, G t = none → R (.ref t) (put G t (.lst (ws.map Z.str)))
  | _, _ => False
theorem m_split1 : MtQ X "str.split" zSplit1 := mtImp mt_split1 fun x xs H Q hx => hx.un fun w ws G R rw' rs hg h up => by
  match w, ws, h with
  | .str z, [.str y], h =>
    rw [rep_str] at rw'
    obtain ⟨v, rfl, r⟩ := rs.one
    rw [rep_str] at r
    obtain ⟨ys, h0, e, h1, h2, h⟩ := h
    exact ⟨z, y, ys, rw', by rw [r], h0, e, h1, h2, fun t ht => up _ _ _ _ (h t (hg.out ht)) (by rw [rep_ref]) (hg.set (.new ht) (rob_lst (strs_reps ys) (.new ht))) (.new ht)⟩
def zV : Z → V
  | .str x => .str x
  | .ref a => .ref a
  | .int i => .int i
  | _ => .non
def simpZ : Z → Bool
  | .str _ => true
  | .ref _ => true
  | .int _ => true
  | _ => false
theorem rep_zV {K : PySem.W.Frag} {H : Hp} : ∀ {z : Z}, simpZ z = true → Rep K H z (zV z)
  | .str _, _ => by rw [rep_str]; rfl
  | .ref _, _ => by rw [rep_ref]; rfl
  | .int _, _ => by rw [rep_int]; rfl
  | .non, h => by cases h
  | .bl _, h => by cases h
  | .ty _, h => by cases h
  | .scr _ _, h => by cases h
  | .tup _, h => by cases h
def KDZ (X : Cx) (a : Addr) (kvs : List (Key × Z)) : Prop := (∀ kv ∈ kvs, simpZ kv.2 = true) ∧ KD X a (kvs.map fun kv => (kv.1, zV kv.2))
theorem reps_zV {K : PySem.W.Frag} {H : Hp} : ∀ {kvs : List (Key × Z)}, (∀ kv ∈ kvs, simpZ kv.2 = true) → Reps K H (kvs.map (·.2)) ((kvs.map fun kv => (kv.1, zV kv.2)).map (·.2))
  | [], _ => Reps.nil
  | p :: ps, h => .cons (rep_zV (h p (.head _))) (reps_zV fun q hq => h q (.tail _ hq))
theorem keys_zV (kvs : List (Key × Z)) : (kvs.map fun kv => (kv.1, zV kv.2)).map (·.1) = kvs.map (·.1) := by rw [List.map_map]; rfl
def zDictK (a0 : Addr) (kvs : List (Key × Z)) : List Z → Hq → K3 → Prop := fun xs G R => match xs with
  | [.ref p] => p = a0 ∧ ∀ t, G t = none → R (.ref t) (put G t (.dK kvs))
  | _ => False
theorem b_dictK {a0 : Addr} {kvs : List (Key × Z)} (hD : KDZ X a0 kvs) : CallQ X (.type "dict") (zDictK a0 kvs) := callImp call_dictK fun xs H Q hx => hx.un fun ws G R rs hg h up => by
  match ws, h with
  | [.ref p], h =>
    obtain ⟨v, rfl, r⟩ := rs.one
    rw [rep_ref] at r
    obtain ⟨e0, h2⟩ := h
    subst e0
    exact ⟨p, _, by rw [r], hD.2, fun t ht => up _ _ _ _ (h2 t (hg.out ht)) (by rw [rep_ref]) (hg.set (o := .dK kvs) (.new ht) ⟨_, upd_same, keys_zV kvs, (reps_zV hD.1).mono (.new ht)⟩) (.new ht)⟩
def uGetK (kvs : List (Key × Z)) (t : A3) : E3 := fun σ G R => t σ G fun ws G1 => ∃ y k, ws = [y] ∧ keyZ y = some k ∧ R ((valZ kvs k).getD .non) G1
theorem q_getK {e : Expr} {t : A3} {x : Str} {p apos cpos : Pos} {a0 : Addr} {kvs : List (Key × Z)} (hg : Gl X x) (hmg : X.mg x = some (.ref a0)) (hD : KDZ X a0 kvs) (ha : QA X [e] t) (hdb : (x == ("__debug__" : Str)) = false := by decide)
    (hbase : attributeBase (.Name x p) "get" X.env (eval (.Name x p) X.env) = eval (.Name x p) X.env := by rfl)
    (hfew : ((backTo cpos (starEach [e] X.env)).all (fun x => !x.1) && (backToKw cpos (keywordEach [] X.env)).all (fun x => x.1.isSome)
      && decide ([e].length + ([] : List Keyword).length + (if ([] : List Keyword).isEmpty then 0 else 1) < 30)) = true := by rfl)
    (hline : (apos.endLine == cpos.line) = true := by rfl) (hs : starEach [e] X.env = (false, eval e X.env) :: starEach [] X.env := by rfl) (hplain : (backTo cpos (starEach [] X.env)).any (·.1) = false := by rfl) :
    QE X (.Call (.Attribute (.Name x p) "get" apos) [e] [] cpos) (uGetK kvs t) := ⟨peImp (pe_getK hg hmg hD.2 ha.p hdb hbase hfew hline hs hplain) fun τ H Q hx => hx.un fun σ G R hs hg h up =>
    ⟨σ, G, _, hs, hg, h, fun ws G1 vs H1 ⟨y, k, e1, hk, h1⟩ rv hg1 t1 => by
      subst e1
      obtain ⟨v, rfl, r1⟩ := rv.one
      refine ⟨k, by rw [keyZ_rep hk r1], ?_⟩
      have vz := valZ_rep (k := k) (keys_zV kvs) (reps_zV (K := X.K) (H := H1) hD.1)
      cases hz : valZ kvs k with
      | none =>
        rw [hz] at h1
        rw [vz.1 hz]
        exact up _ _ _ _ h1 (by rw [show (none : Option Z).getD .non = .non from rfl, rep_non]; rfl) hg1 t1
      | some z =>
        rw [hz] at h1
        obtain ⟨u, e1, e2⟩ := vz.2 z hz
        rw [e1]
        exact up _ _ _ _ h1 e2 hg1 t1⟩⟩
def KTup (K : PySem.W.Frag) (a : Addr) (ss : List Str) : Prop := ∃ (o : Obj) (its : Array Value) (n : Nat), K.lookup a = some o ∧ o.cls = .type "tuple" ∧ o.data = .seq its n ∧ its.size ≤ sizeLine ∧ Vals (ss.map V.str) its.toList
theorem KTup.sq {K : PySem.W.Frag} {H : Hp} {a : Addr} {ss : List Str} (h : KTup K a ss) : SqT K H a (ss.map V.str) := .inr h
def zLenK (tt : List (Addr × List Str)) : List Z → Hq → K3 → Prop := fun xs G R => match xs with
  | [.ref p] => ∃ ss, tt.lookup p = some ss ∧ R (.int ss.length) G
  | _ => False
theorem b_lenK {tt : List (Addr × List Str)} (htt : ∀ a ss, tt.lookup a = some ss → KTup X.K a ss) : CallQ X (.builtin "len") (zLenK tt) := callImp call_len_seq fun xs H Q hx => hx.un fun ws G R rs hg h up => by
  match ws, h with
  | [.ref p], h =>
    obtain ⟨v, rfl, r⟩ := rs.one
    rw [rep_ref] at r
    obtain ⟨ss, e, h⟩ := h
    exact ⟨p, _, by rw [r], .inr (htt p ss e).sq, by rw [List.length_map]; exact up _ _ _ _ h (by rw [rep_int]) hg (.refl _ _)⟩
def srcK (tt : List (Addr × List Str)) : Z → Option (List Z)
  | .ref a => (tt.lookup a).map fun ss => ss.map Z.str
  | _ => none
def srcT (tt : List (Addr × List Str)) (G : Hq) (w : Bool × Z) : Option (List Z) := if w.1 = true then srcK tt w.2 else srcZ G w.2
def isT (w : Bool × Z) : Bool := w.1 || (match w.2 with | .tup _ => true | _ => false)
def iZipT (tt : List (Addr × List Str)) (bs : List Bool) (n : Nat) (t : A3) : I3 := fun σ G R => t σ G fun ws G1 => ∃ xss : List (List Z), (bs.zip ws).map (srcT tt G1) = xss.map some ∧ xss ≠ [] ∧ ws.length = n ∧ bs.length = n ∧ R (zipZ xss) (fun G => (bs.zip ws).map (srcT tt G) = xss.map some) G1
variable {t : A3}
theorem srcT_low {K : PySem.W.Frag} {tt : List (Addr × List Str)} (htt : ∀ a ss, tt.lookup a = some ss → KTup K a ss) {G : Hq} {H : Hp} {w : Bool × Z} {v : V} {ws : List Z} (h : srcT tt G w = some ws) (r : Rep K H w.2 v) (hg : RH K G H) : ∃ p : Bool × Addr, v = .ref p.2 ∧ (p.1 = true ↔ isT w = true) ∧ ∃ vs, SrcP K H p vs ∧ Reps K H ws vs := by
  obtain ⟨b, w⟩ := w
  cases b with
  | true =>
    have h : srcK tt w = some ws := h
    cases w with
    | ref a =>
      rw [rep_ref] at r
      have h : ((tt.lookup a).map fun ss => ss.map Z.str) = some ws := h
      cases q0 : tt.lookup a with
      | none => rw [q0] at h; cases h
      | some ss =>
        rw [q0] at h
        cases h
        exact ⟨(true, a), r, by simp [isT], ss.map V.str, by unfold SrcP; rw [if_pos rfl]; exact (htt a ss q0).sq, strs_reps ss⟩
    | _ => cases h
  | false =>
    have h : srcZ G w = some ws := h
    obtain ⟨p, e, hp, vs, h1, h2⟩ := srcZ_low h r hg
    refine ⟨p, e, hp.trans ?_, vs, h1, h2⟩
    cases w <;> simp [isT]
theorem srcsT_low {K : PySem.W.Frag} {tt : List (Addr × List Str)} (htt : ∀ a ss, tt.lookup a = some ss → KTup K a ss) {G : Hq} {H : Hp} (hg : RH K G H) : ∀ {ws : List (Bool × Z)} {vs : List V} {xss : List (List Z)}, ws.map (srcT tt G) = xss.map some → Reps K H (ws.map (·.2)) vs → ∃ ps : List (Bool × Addr), vs = ps.map (fun p => V.ref p.2) ∧ ps.length = ws.length ∧
    (∀ (j : Nat) (p : Bool × Addr) (w : Bool × Z), ps[j]? = some p → ws[j]? = some w → (p.1 = true ↔ isT w = true)) ∧ ∀ p ∈ ps, ∃ us, SrcP K H p us
  | [], vs, xss, _, r => by rw [List.map_nil, reps_nil] at r; subst r; exact ⟨[], rfl, rfl, fun j p w e => by simp at e, fun p h => by simp at h⟩
  | w :: ws, vs, [], h, _ => by simp at h
  | w :: ws, vs, xs :: xss, h, r => by
    rw [List.map_cons, List.map_cons] at h
    injection h with h1 h2
    rw [List.map_cons, reps_cons] at r
    obtain ⟨v, vs', rfl, r1, r2⟩ := r
    obtain ⟨p, rfl, hp, us, hs, _⟩ := srcT_low htt h1 r1 hg
    obtain ⟨ps, rfl, hl, hk, ha⟩ := srcsT_low htt hg h2 r2
    refine ⟨p :: ps, rfl, by simp [hl], fun j p' w' e1 e2 => ?_, fun p' h => ?_⟩
    · cases j with
      | zero => simp at e1 e2; subst e1 e2; exact hp
      | succ j => exact hk j p' w' (by simpa using e1) (by simpa using e2)
    · rcases List.mem_cons.mp h with rfl | h
      · exact ⟨us, hs⟩
      · exact ha p' h
theorem srcT_later {K : PySem.W.Frag} {tt : List (Addr × List Str)} (htt : ∀ a ss, tt.lookup a = some ss → KTup K a ss) {G : Hq} {H0 H : Hp} {p : Bool × Addr} {w : Bool × Z} {ws : List Z} (h : srcT tt G w = some ws) (r : Rep K H0 w.2 (.ref p.2)) (hp : p.1 = true ↔ isT w = true) (t : TK K H0 H) (hg : RH K G H) : ∃ vs, SrcP K H p vs ∧ Reps K H ws vs := by
  obtain ⟨q, e, hq, vs, h1, h2⟩ := srcT_low htt h (r.mono t) hg
  have e2 : p = q := by
    obtain ⟨a, b⟩ := p
    obtain ⟨c, d⟩ := q
    cases e
    have : a = c := by rw [Bool.eq_iff_iff]; exact hp.trans hq.symm
    rw [this]
  subst e2
  exact ⟨vs, h1, h2⟩
theorem lowItT_zip {K : PySem.W.Frag} {tt : List (Addr × List Str)} (htt : ∀ a ss, tt.lookup a = some ss → KTup K a ss) {ws : List (Bool × Z)} {vs : List V} {xss : List (List Z)} {ps : List (Bool × Addr)} {H0 : Hp} (hne : xss ≠ []) (hv : vs = ps.map fun p => V.ref p.2) (hl : ps.length = ws.length) (rs : Reps K H0 (ws.map (·.2)) vs) (hk : ∀ (j : Nat) (p : Bool × Addr) (w : Bool × Z), ps[j]? = some p → ws[j]? = some w → (p.1 = true ↔ isT w = true)) :
    LowIt K (zipZ xss) (fun G => ws.map (srcT tt G) = xss.map some) (ItzP K ps) H0 := fun i G H hg t ok hi => by
  have hlx : xss.length = ws.length := by rw [← List.length_map (f := srcT tt G) (as := ws), ok, List.length_map]
  have src : ∀ (j : Nat) (p : Bool × Addr), ps[j]? = some p → ∃ xs us, xss[j]? = some xs ∧ SrcP K H p us ∧ Reps K H xs us := fun j p e => by
    have hj : j < ws.length := by rw [← hl]; exact (List.getElem?_eq_some_iff.mp e).1
    have ew := List.getElem?_eq_getElem hj
    obtain ⟨xs, h1, h2⟩ := get_map_some ok ew
    obtain ⟨v, h3, h4⟩ := rs.get (show (ws.map (·.2))[j]? = some (ws[j].2) by rw [List.getElem?_map, ew]; rfl)
    rw [hv, List.getElem?_map, e] at h3
    cases h3
    obtain ⟨us, h5, h6⟩ := srcT_later htt h2 h4 (hk j p _ e ew) t hg
    exact ⟨xs, us, h1, h5, h6⟩
  refine ⟨fun h => ⟨fun p hp => ?_, ?_⟩, fun w hw => ?_⟩
  · obtain ⟨j, hj⟩ := List.getElem?_of_mem hp
    obtain ⟨xs, us, _, h1, _⟩ := src j p hj
    exact ⟨us, h1⟩
  · refine Classical.byContradiction fun no => ?_
    have all : ∀ xs ∈ xss, i < xs.length := fun xs hx => by
      obtain ⟨j, hj⟩ := List.getElem?_of_mem hx
      have hj' : j < ps.length := by rw [hl, ← hlx]; exact (List.getElem?_eq_some_iff.mp hj).1
      obtain ⟨xs', us, h1, h2, h3⟩ := src j _ (List.getElem?_eq_getElem hj')
      rw [hj] at h1
      cases h1
      refine Classical.byContradiction fun c => no ⟨_, List.getElem_mem hj', us, h2, ?_⟩
      rw [← h3.length]
      omega
    have : (zipZ xss)[i]? = some (.tup (xss.map fun xs => xs.getD i .non)) := (zipZ_get xss hne i _).mpr ⟨_, rfl, by
      rw [List.map_map]
      refine List.map_congr_left fun xs hx => ?_
      have := all xs hx
      simp [List.getD_eq_getElem?_getD, List.getElem?_eq_getElem this]⟩
    have := (List.getElem?_eq_some_iff.mp this).1
    omega
  · obtain ⟨zs, rfl, hz⟩ := (zipZ_get xss hne i w).mp hw
    have hlz : zs.length = ps.length := by rw [← List.length_map (f := some) (as := zs), ← hz, List.length_map, hlx, hl]
    have at' : ∀ (j : Nat) (xs : List Z), xss[j]? = some xs → ∃ z, zs[j]? = some z ∧ xs[i]? = some z := fun j xs hj => get_map_some (f := fun l : List Z => l[i]?) hz hj
    refine ⟨fun p hp => ?_, ?_⟩
    · obtain ⟨j, hj⟩ := List.getElem?_of_mem hp
      obtain ⟨xs, us, h0, h1, h2⟩ := src j p hj
      obtain ⟨z, h3, h4⟩ := at' j xs h0
      obtain ⟨v, h5, _⟩ := h2.get h4
      exact ⟨us, v, h1, h5⟩
    · rintro x H' ⟨T, us, hT, rfl, rfl, hlu, hat⟩
      have tT : TK K H (upd H T (.tup us)) := .new hT
      refine ⟨?_, hg.hid hT, tT⟩
      rw [rep_tup]
      refine ⟨T, us, rfl, upd_same, ?_⟩
      have go : ∀ {zs : List Z} {us : List V}, zs.length = us.length → (∀ (j : Nat) z u, zs[j]? = some z → us[j]? = some u → Rep K H z u) → Reps K H zs us := by
        intro zs
        induction zs with
        | nil => intro us h _; cases us with
          | nil => exact .nil
          | cons _ _ => simp at h
        | cons z zs ih => intro us h q; cases us with
          | nil => simp at h
          | cons u us => exact .cons (q 0 z u rfl rfl) (ih (by simpa using h) fun j z u e1 e2 => q (j + 1) z u (by simpa using e1) (by simpa using e2))
      refine (go (by rw [hlz, hlu]) fun j z u e1 e2 => ?_).mono tT
      have hj : j < ps.length := by rw [← hlu]; exact (List.getElem?_eq_some_iff.mp e2).1
      obtain ⟨xs, vs', h0, h1, h2⟩ := src j _ (List.getElem?_eq_getElem hj)
      obtain ⟨z', h3, h4⟩ := at' j xs h0
      rw [e1] at h3
      cases h3
      obtain ⟨v, h5, h6⟩ := h2.get h4
      obtain ⟨u', h7, h8⟩ := hat j _ vs' (List.getElem?_eq_getElem hj) h1
      rw [e2] at h7
      cases h7
      rw [h5] at h8
      cases h8
      exact h6
theorem it_zipT {tt : List (Addr × List Str)} (htt : ∀ a ss, tt.lookup a = some ss → KTup X.K a ss) (bs : List Bool) {n : Nat} {elts es : List Expr} {e : Expr} {x1} {tpos p pos : Pos} (hok : ∀ us : List Value, us.length = n → zipOkN us) (hn : n ≤ 1000) (hg : Gl X "zip") (hm : X.mg "zip" = none) (ha : QA X (e :: es) t)
    (he : starEach (e :: es) X.env = (false, eval e X.env) :: starEach es X.env := by rfl) (hpl : (backTo pos (starEach es X.env)).any (·.1) = false := by rfl) : QI X (.Tuple elts x1 tpos) (.Call (.Name "zip" p) (e :: es) [] pos) (iZipT tt bs n t) := piImp (pi_zip hg hm hok hn ha.p he hpl) fun τ H R2 hx => hx.un fun σ G R hs hg h up => by
  refine ⟨σ, G, _, hs, hg, h, fun ws G1 vs H1 ⟨xss, hx, hne, hln, hbn, h1⟩ rv hg1 t1 => ?_⟩
  have e2 : (bs.zip ws).map (·.2) = ws := List.map_snd_zip (by omega)
  have rv' := rv
  rw [← e2] at rv'
  obtain ⟨ps, e, hl, hk, ha⟩ := srcsT_low htt hg1 hx rv'
  refine ⟨ps, e, ?_, by rw [hl, List.length_zip, hbn, hln]; omega, ha, up _ _ _ _ _ h1 (lowItT_zip htt hne e hl rv' hk) hg1 t1⟩
  rintro rfl
  have : xss.length = 0 := by rw [← List.length_map (f := some) (as := xss), ← hx, List.length_map, ← hl]; rfl
  exact hne (List.length_eq_zero_iff.mp this)
theorem i_iZipT {tt : List (Addr × List Str)} {bs : List Bool} {n : Nat} {σ : S3} {G : Hq} {Ri : List Z → (Hq → Prop) → Hq → Prop} (h : t σ G fun ws G1 => ∃ xss : List (List Z), (bs.zip ws).map (srcT tt G1) = xss.map some ∧ xss ≠ [] ∧ ws.length = n ∧ bs.length = n ∧ Ri (zipZ xss) (fun G => (bs.zip ws).map (srcT tt G) = xss.map some) G1) : iZipT tt bs n t σ G Ri := h
theorem i_getK {kvs : List (Key × Z)} {σ : S3} {G : Hq} {R : K3} (h : t σ G fun ws G1 => ∃ y k, ws = [y] ∧ keyZ y = some k ∧ R ((valZ kvs k).getD .non) G1) : uGetK kvs t σ G R := h
end
end L3
namespace L3
open PySem PySem.Spec PyProof.Rows L2
def KDk (w : World) (K : PySem.W.Frag) (a : Addr) (kvs : List (Key × Z)) : Prop := (∀ kv ∈ kvs, simpZ kv.2 = true) ∧ kvs.length ≤ sizeLine ∧ (a == sysModules) = false ∧ ∃ vs : List (Key × Value), KV (kvs.map fun kv => (kv.1, zV kv.2)) vs ∧ ∀ (P : Program) (h : Heap), K.In h → h.DictOf (mixKind P w) a vs
theorem KDk.at {X : Cx} {a : Addr} {kvs : List (Key × Z)} (h : KDk X.w X.K a kvs) : KDZ X a kvs := ⟨h.1, by rw [List.length_map]; exact h.2.1, h.2.2.1, let ⟨vs, r, q⟩ := h.2.2.2; ⟨vs, r, q X.prog⟩⟩
def rowE (w : World) (r : Str × Tok × Value) : DictEntry := ⟨hashStr w r.1, .str r.1 r.2.1, r.2.2⟩
theorem rows_pairs {P : Program} {w : World} : ∀ (rows : List (Str × Tok × Value)), Pairs (mixKind P w) (rows.map (rowE w)) (rows.map fun r => ((Sum.inr r.1 : Key), r.2.2))
  | [] => .nil
  | r :: rs => .cons (mixKind_str P w r.1 r.2.1) rfl (rows_pairs rs)
theorem kdk_mk {w : World} {K : PySem.W.Frag} {a : Addr} {rows : List (Str × Tok × Value)} {ep : Nat} {kvs : List (Key × Z)} (l : K.lookup a = some ⟨.type "dict", none, .dict ⟨rows.map (rowE w)⟩ ep, #[]⟩) (hm : (a == sysModules) = false) (nd : (rows.map fun r => (Sum.inr r.1 : Key)).Nodup)
    (rel : KV (kvs.map fun kv => (kv.1, zV kv.2)) (rows.map fun r => ((Sum.inr r.1 : Key), r.2.2))) (hz : kvs.length ≤ 1000) (sm : ∀ kv ∈ kvs, simpZ kv.2 = true) : KDk w K a kvs := by
  refine ⟨sm, Nat.le_of_lt (small1000 hz), hm, _, rel, fun P h X => ⟨_, _, _, X _ _ l, ⟨rfl, rfl, rfl⟩, rfl, ?_, rows_pairs rows, ?_⟩⟩
  · intro e he
    have he : e ∈ rows.map (rowE w) := by simpa using he
    obtain ⟨r, _, rfl⟩ := List.mem_map.mp he
    exact ⟨.inr r.1, mixKind_str P w r.1 r.2.1, rfl⟩
  · rw [List.map_map]
    exact nd
theorem ktup_mk {K : PySem.W.Frag} {a : Addr} {rows : List (Str × Tok)} {od : Option Addr} {n : Nat} {sl : Array (Option Value)} (l : K.lookup a = some ⟨.type "tuple", od, .seq ⟨strValues rows⟩ n, sl⟩) (hz : rows.length ≤ 1000) : KTup K a (rows.map (·.1)) :=
  ⟨_, _, n, l, rfl, rfl, by rw [← Array.length_toList, ← (vals_strs rows).length, List.length_map, List.length_map]; exact Nat.le_of_lt (small1000 hz), vals_strs rows⟩
inductive KTs (K : PySem.W.Frag) : List (Addr × List Str) → Prop
  | nil : KTs K []
  | cons {a : Addr} {ss : List Str} {tt : List (Addr × List Str)} : KTup K a ss → KTs K tt → KTs K ((a, ss) :: tt)
theorem ktt_mk {K : PySem.W.Frag} {tt : List (Addr × List Str)} (h : KTs K tt) : ∀ p ss, tt.lookup p = some ss → KTup K p ss := by
  induction h with
  | nil => intro p ss e; cases e
  | @cons a s tt h1 _ ih =>
    intro p ss e
    rw [List.lookup_cons] at e
    by_cases c : p = a
    · subst c
      rw [beq_self_eq_true] at e
      cases e
      exact h1
    · rw [show (p == a) = false from by simpa using c] at e
      exact ih p ss e
end L3
namespace L2
open PySem PySem.W
theorem exk_mk {K : Frag} {D : Addr} (ea : hasDictIn K D = true) (eb : findIn K (.ref D) "__getattribute__" = some (some (.builtin "BaseException.__getattribute__"))) (ec : findIn K (.ref D) "__getattr__" = some none) (ed : findIn K (.ref D) "__class__" = some (some (.builtin "object.__class__")))
    (ee : specialIn K (.builtin "object.__class__") "__get__" = some (some (.builtin "getset_descriptor.__get__"))) (ef : takesIn K (.builtin "object.__class__") = some true) (eg : mroIn K D (.type "object") = some true) (eh : mroIn K D (.type "BaseException") = some true) : ExK K D :=
  ⟨by obtain ⟨cd, hc, _⟩ := any_some ea; rw [hc]; rfl, eb, ec, ed, ee, ef, eg, eh⟩
theorem exm_mk {K : Frag} {C D : Addr} (xb : subIn K (.ref D) (.type "BaseException") = some true) (xt : typeIn K (.ref D) = some (.type "type")) (xs : subIn K (.ref C) (.ref D) = some true) (xh : hasDictIn K D = true) : exmOne K (.ref C) (.ref D) = some true := by
  obtain ⟨cd, hc, _⟩ := any_some xh
  unfold exmOne
  rw [if_pos (by rw [xb]; rfl)]
  show (if ((clsIn K D).isSome && typeIn K (.ref D) == some (.type "type")) = true then subIn K (.ref C) (.ref D) else none) = some true
  rw [if_pos (by rw [hc, xt]; rfl)]
  exact xs
end L2
namespace L2
open PySem PySem.Spec PyProof.Rows
section
variable {X : Cx} {e : Addr} {oe : Obj} {C : Addr}
def rIsX (K : PySem.W.Frag) (C e : Addr) : List V → Hp → VK → Prop := fun xs H Q => ∃ y b, xs = [.ref e, y] ∧ ((∃ D, y = .ref D ∧ PySem.W.kitOne K (.ref C) (.ref D) = some b) ∨ (∃ T, y = .ty T ∧ PySem.W.kitOne K (.ref C) (.type T) = some b) ∨
  ∃ (p : Addr) (ds : List Addr), y = .ref p ∧ SqT K H p (ds.map V.ref) ∧ PySem.W.kitAny K (.ref C) (ds.map Value.ref) = some b) ∧ Q (.bl b) H
theorem refs_of : ∀ {ds : List Addr} {us : List Value}, Vals (ds.map V.ref) us → us = ds.map Value.ref
  | [], us, r => by rw [List.map_nil] at r; cases r; rfl
  | T :: Ts, us, r => by
    rw [List.map_cons] at r
    cases r with
    | cons r1 r2 => rw [refs_of r2, show _ = Value.ref T from r1]; rfl
theorem call_isX (hc : oe.cls = .ref C) (hd : oe.dict = none) (hn : PySem.W.notCls oe = true) (k : ExK X.K C) : CallR (X.hnd e oe) (.builtin "isinstance") (rIsX X.K C e) := by
  intro pins s σ H xs us Q I r h
  obtain ⟨y, b, rfl, hy, q⟩ := h
  obtain ⟨u, w', rfl, r1, r2⟩ := vals2 r
  cases (show u = Value.ref e from r1)
  have J : PySem.W.InstAt s.heap e oe C none := ⟨(I.pin (e, oe) (.head _)).1, hc, hn, by rw [hd]; exact True.intro⟩
  rcases hy with ⟨D, rfl, e1⟩ | ⟨T, rfl, e1⟩ | ⟨p, ds, rfl, hq, e1⟩
  · cases (show w' = Value.ref D from r2)
    exact PySem.W.kia_one (kitx_exc k) I.kIn J e1 (fun z => nomatch z) fun tk => ⟨.bl b, H, I.tok tk, rfl, q⟩
  · cases (show w' = Value.type T from r2)
    exact PySem.W.kia_one (kitx_exc k) I.kIn J e1 (fun z => nomatch z) fun tk => ⟨.bl b, H, I.tok tk, rfl, q⟩
  · cases (show w' = Value.ref p from r2)
    obtain ⟨its, rv, pl, _⟩ := I.tuple hq
    have ei := refs_of rv
    subst ei
    obtain ⟨⟨cl, dd, dt, sl⟩, ho, hc', n, hd'⟩ := pl
    cases hc'
    cases hd'
    exact PySem.W.kia_tup (kitx_exc k) I.kIn J ho e1 (fun z => nomatch z) fun tk => ⟨.bl b, H, I.tok tk, rfl, q⟩
end
end L2
namespace L3
open PySem PySem.Spec PyProof.Rows L2
abbrev PX3 := List Z → Hq → K3 → (Addr → Hq → Prop) → Prop
def UpX (K : PySem.W.Frag) (H : Hp) (EE : Addr → Hq → Prop) (E : XK) : Prop := ∀ C G H', EE C G → RH K G H' → TK K H H' → E (.ref C) none H'
def lowPx (K : PySem.W.Frag) (sp : PX3) : Sp := fun vs H Q E => ∃ ws G R EE, Reps K H ws vs ∧ RH K G H ∧ sp ws G R EE ∧ UpV K H R Q ∧ UpX K H EE E
theorem tk_of {K : PySem.W.Frag} {H H' : Hp} (t : TKs H H') : TK K H H' := ⟨t.tup, fun a xs h => by
  rcases h with ⟨o, h⟩ | h
  · exact .inl ⟨o, t.frz _ _ _ h⟩
  · exact .inr h⟩
def UpN (K : PySem.W.Frag) (EE : Addr → Hq → Prop) (E : XK) : Prop := ∀ C G H', EE C G → RH K G H' → E (.ref C) none H'
theorem UpX.since {K : PySem.W.Frag} {H : Hp} {EE : Addr → Hq → Prop} {E : XK} (h : UpX K H EE E) : UpN K EE (since H E) := fun C G H' q r t => h C G H' q r (tk_of t)
abbrev EE0 : Addr → Hq → Prop := fun _ _ => False
theorem up0 {K : PySem.W.Frag} : UpN K EE0 E0 := fun _ _ _ z _ => z.elim
theorem pass_none {X : Cx} : Passes (CXx X.prog X.w) X E0 := by
  rintro pins σ H s ev s' _ ⟨_, _, _, _, _, _, _, _, _, q⟩
  exact q.elim
section
variable {X : Cx} {E : XK} {EE : Addr → Hq → Prop} {e e0 : Expr} {es : List Expr} {x n : Str} {p pos np cpos hpos tpos : Pos} {t : A3} {te : E3} {k : Nat} {f C D : Addr} {fd : FuncData} {ps : List Str} {sp : PX3}
def uCallX (sp : PX3) (EE : Addr → Hq → Prop) (t : A3) : E3 := fun σ G R => t σ G fun ws G1 => sp ws G1 R EE
theorem q_callX (hp : Passes (CXx X.prog X.w) X E) (hU : UpN X.K EE E) (F : FnOk X.prog X.w X.K X.mg X.base (CXx X.prog X.w) k f fd ps (lowPx X.K sp)) (hr : Room k X.A) (hg : Gl X x) (hm : X.mg x = some (.ref f)) (hk : PySem.W.keepIn X.K (.ref f) = true) (hb : Binds X.K fd ps []) (ha : QA X (e :: es) t)
    (hdb : (x == ("__debug__" : Str)) = false := by decide) (he : starEach (e :: es) X.env = (false, eval e X.env) :: starEach es X.env := by rfl) (hpl : (backTo pos (starEach es X.env)).any (·.1) = false := by rfl) :
    QE X (.Call (.Name x p) (e :: es) [] pos) (uCallX sp EE t) := ⟨peImp (pe_call F hr hg hm hk hb .nil hp ha.p hdb he hpl) fun τ H Q hx => hx.un fun σ G R hs hg h up => ⟨σ, G, _, hs, hg, h, fun ws G1 vs H1 h1 rs hg1 t1 => ⟨ws, G1, R, EE, by rw [List.append_nil]; exact rs, hg1, h1, up.mono t1, fun C G H' z r _ => hU C G H' z r⟩⟩⟩
def uRaise (EE : Addr → Hq → Prop) (C : Addr) (te : E3) : X3 := fun _ _ _ _ σ G => te σ G fun _ G1 => EE C G1
theorem z_raise (O : Outs X E) (hU : UpX X.K X.H₀ EE E) (hc : X.calm = true) (hg : Gl X x) (hm : X.mg x = some (.ref C)) (hq : PySem.W.excIn X.K C veM "ValueError.__new__" = true) (he : QE X e0 te)
    (hs : starEach [e0] X.env = (false, eval e0 X.env) :: starEach [] X.env := by rfl) (hp : (backTo cpos (starEach [] X.env)).any (·.1) = false := by rfl) (hd : (x == ("__debug__" : Str)) = false := by decide) :
    QS X (.Raise (some (.Call (.Name x np) [e0] [] cpos)) none pos) (uRaise EE C te) := ⟨psImp (ps_raise O hc hg hm hq he.p hs hp hd) fun D τ H hx => hx.un fun σ G nx rt bk ct hs hg h u1 u2 u3 u4 => ⟨σ, G, _, hs, hg, h, fun w G1 v H1 h1 rv hg1 t1 => fun t => hU _ _ _ h1 hg1 (tk_of t)⟩⟩
theorem RSt.unset {K : PySem.W.Frag} {H : Hp} : ∀ {σ : S3} {τ : L2.St}, RSt K H σ τ → ∀ i : Nat, RSt K H (σ.set i none) (τ.set i none)
  | _, _, .nil, _ => by rw [List.set_nil, List.set_nil]; exact .nil
  | _, _, .cons r h, 0 => .cons (fun _ z => nomatch z) h
  | _, _, .cons r h, i + 1 => .cons r (RSt.unset h i)
def uTry (C : Addr) (i : Nat) (sp : PX3) (t : A3) (th : Addr → X3) : X3 := fun nx rt bk ct σ G => t σ G fun ws G1 => sp ws G1 (fun _ G2 => nx σ G2) fun C' G2 => C' = C ∧ ∀ e, th e (fun σ' G' => nx (σ'.set i none) G') rt (fun σ' G' => bk (σ'.set i none) G') (fun σ' G' => ct (σ'.set i none) G') (σ.set i (some (.ref e))) G2
theorem z_try {b₀ : Stmt} {suite : List Stmt} {i : Nat} {th : Addr → X3} {y : Str} {cp : Pos} (hst : X.stack = X.env :: X.outer) (hex : X.ex = []) (hfm : X.env.frame = some X.env.locals)
    (F : FnOk X.prog X.w X.K X.mg X.base (CXx X.prog X.w) k f fd ps (lowPx X.K sp)) (hr : Room k X.A) (hgf : Gl X y) (hmf : X.mg y = some (.ref f)) (hk : PySem.W.keepIn X.K (.ref f) = true) (hb : Binds X.K fd ps []) (ha : QA X.nox (e :: es) t)
    (hg : Gl X x) (hm : X.mg x = some (.ref D)) (hD : PySem.W.exmOne X.K (.ref C) (.ref D) = some true) (hN : X.N.Nodup) (hi : X.N[i]? = some n) (hl : X.env.scope.names.lookup n = some .local)
    (hh : ∀ e oe, oe.cls = .ref C → oe.dict = none → PySem.W.notCls oe = true → QSs (X.hnd e oe) (b₀ :: suite) (th e))
    (he : starEach (e :: es) X.env = (false, eval e X.env) :: starEach es X.env := by rfl) (hpl : (backTo cp (starEach es X.env)).any (·.1) = false := by rfl) (hdb : (y == ("__debug__" : Str)) = false := by decide)
    (hs : swapsWith (.Call (.Name y p) (e :: es) [] cp) none pos.line X.env = pure false := by rfl) (hd : (x == ("__debug__" : Str)) = false := by decide) :
    QS X (.Try [.Expr (.Call (.Name y p) (e :: es) [] cp) pos] [.ExceptHandler (some (.Name x np)) (some n) (b₀ :: suite) hpos] [] [] tpos) (uTry C i sp t th) :=
  ⟨psImp (ps_try (th := fun e => lowS X.K (th e)) (tpos := tpos) (np := np) (hpos := hpos) hst hex hfm (px_call F hr hgf hmf hk hb ha.p hdb he hpl) hg hm hD hN hi hl (fun e oe h1 h2 h3 => (hh e oe h1 h2 h3).p) hs hd) fun D τ H hx => hx.un fun σ G nx rt bk ct hs hg h u1 u2 u3 u4 => by
    refine ⟨fun c _ H' => ∃ C' G', c = .ref C' ∧ (C' = C ∧ ∀ e, th e (fun σ' G' => nx (σ'.set i none) G') rt (fun σ' G' => bk (σ'.set i none) G') (fun σ' G' => ct (σ'.set i none) G') (σ.set i (some (.ref e))) G') ∧ RH X.K G' H' ∧ TK X.K H H', ?_, ?_⟩
    · exact ⟨σ, G, _, hs, hg, h, fun ws G1 vs H1 h1 rs hg1 t1 => ⟨ws, G1, _, _, by rw [List.append_nil]; exact rs, hg1, h1, fun w G2 v H2 h2 _ hg2 t2 => u1 _ _ _ _ h2 (hs.mono (t1.trans t2)) hg2 (t1.trans t2), fun C' G2 H2 h2 r2 t2 => ⟨C', G2, rfl, h2, r2, t1.trans t2⟩⟩⟩
    · rintro c H' ⟨C', G', rfl, ⟨hC', hth⟩, hg', t'⟩
      refine ⟨by rw [hC'], fun e _ => ⟨σ.set i (some (.ref e)), G', _, _, _, _, (hs.mono t').set (by rw [rep_ref]) i, hg', hth e, ?_, u2.mono t', ?_, ?_⟩⟩
      · exact fun σ2 G2 τ2 H2 h2 hs2 hg2 t2 => u1 _ _ _ _ h2 (RSt.unset hs2 i) hg2 (t'.trans t2)
      · exact fun σ2 G2 τ2 H2 h2 hs2 hg2 t2 => u3 _ _ _ _ h2 (RSt.unset hs2 i) hg2 (t'.trans t2)
      · exact fun σ2 G2 τ2 H2 h2 hs2 hg2 t2 => u4 _ _ _ _ h2 (RSt.unset hs2 i) hg2 (t'.trans t2)⟩
def zIsX (K : PySem.W.Frag) (C e : Addr) : List Z → Hq → K3 → Prop := fun xs G R => ∃ y b, xs = [.ref e, y] ∧ ((∃ D, y = .ref D ∧ PySem.W.kitOne K (.ref C) (.ref D) = some b) ∨ (∃ T, y = .ty T ∧ PySem.W.kitOne K (.ref C) (.type T) = some b) ∨
  ∃ ds : List Addr, y = .tup (ds.map Z.ref) ∧ PySem.W.kitAny K (.ref C) (ds.map Value.ref) = some b) ∧ R (.bl b) G
theorem reps_refs {K : PySem.W.Frag} {H : Hp} : ∀ {bs : List Addr} {vs : List V}, Reps K H (bs.map Z.ref) vs → vs = bs.map V.ref
  | [], vs, h => by rw [List.map_nil, reps_nil] at h; subst h; rfl
  | n :: ns, vs, h => by
    rw [List.map_cons, reps_cons] at h
    obtain ⟨v, r, rfl, h1, h2⟩ := h
    rw [rep_ref] at h1
    rw [h1, reps_refs h2]; rfl
theorem b_isX {e : Addr} {oe : Obj} (hc : oe.cls = .ref C) (hd : oe.dict = none) (hn : PySem.W.notCls oe = true) (k : ExK X.K C) : CallQ (X.hnd e oe) (.builtin "isinstance") (zIsX X.K C e) := callImp (call_isX hc hd hn k) fun xs H Q hx => hx.un fun ws G R rs hg h up => by
  obtain ⟨y, b, rfl, hy, q⟩ := h
  obtain ⟨v, v', rfl, r, r'⟩ := rs.two
  rw [rep_ref] at r
  subst r
  refine ⟨v', b, rfl, ?_, up _ _ _ _ q (by rw [rep_bl]) hg (.refl _ _)⟩
  rcases hy with ⟨D, rfl, e1⟩ | ⟨T, rfl, e1⟩ | ⟨ds, rfl, e1⟩
  · rw [rep_ref] at r'; exact .inl ⟨D, r', e1⟩
  · rw [rep_ty] at r'; exact .inr (.inl ⟨T, r', e1⟩)
  · rw [rep_tup] at r'
    obtain ⟨p, vs, rfl, e', rs'⟩ := r'
    have := reps_refs rs'
    subst this
    exact .inr (.inr ⟨p, ds, rfl, SqT.of e', e1⟩)
end
section
variable {X : Cx} {EW : XK} {N' : List Str} {sc : Scope} {cap : List (Option Nat)} {tg iter elt : Expr} {ifs : List Expr} {wi : I3} {pt : Pt} {tt : T3} {te : E3} {pos : Pos}
theorem q_lcX {N₀ : List Str} {so : Scope} (hE : CompOut X EW sc) (hc : X.calm = true) (hNN : X.N = N₀) (hso : X.env.scope = so) (ck : capB N₀ so sc N' cap = true) (hp : (pt.slots.all fun j => decide (cap[j]? = some none)) = true) (hi : QI X tg iter wi)
    (hg : ∀ C s H fp, QP (cxC X EW N' sc C s H fp) tg pt) (ht : ∀ C s H fp, QIfs (cxC X EW N' sc C s H fp) ifs tt) (he : ∀ C s H fp, QE (cxC X EW N' sc C s H fp) elt te)
    (hs : ∀ x, foldedSetIterable iter X.env x = pure x := by intro _; rfl) : QE X (.ListComp elt [⟨tg, iter, ifs, 0⟩] sc pos) (uLC wi cap pt tt te) := ⟨peImp (pe_lc (g := gP X.K pt) (tt := lowT X.K tt) (te := low X.K te) hc hE hNN hso ck hi hg ht (fun C s H fp => (he C s H fp).p) hs) fun _ _ _ => low_lc hp⟩
end
section
variable {P : Program} {w : World} {K : PySem.W.Frag} {mg : Str → Option Value} {base : Heap}
theorem fn3x {x qual : Str} {st : Stmt} {f : Addr} {fd : FuncData} {N ps : List Str} {k : Nat} {sp : PX3} (F : Fun K x qual st f fd) (S : FnScope N ps (defScope st)) (len : ∀ ws G R EE, sp ws G R EE → ws.length = ps.length)
    (hbody : ∀ (cdv : Value) (A : Around) (outer : List Env) (s : Shared) (H : Hp) (E : XK) (ws : List Z) (G : Hq) (R : K3) (EE : Addr → Hq → Prop), Room k (A.deeper (envOfC qual (defScope st) s.heap.objs.size f cdv)) → sp ws G R EE → UpX K H EE E →
      ∃ t, QSs (cxOf (CXx P w) P w K mg base N qual (defScope st) f cdv A outer s H E) (defBody st) t ∧ t (fun _ G' => R .non G') R (fun _ _ => False) (fun _ _ => False) (start3 N ws) G) : FnOk P w K mg base (CXx P w) (k + 1) f fd ps (lowPx K sp) := by
  obtain ⟨oc, od, kV, doc, pm, an, cdv, ct, osl, rfl, lk, hcd⟩ := F.ex
  refine fn_of lk hcd S (fun vs H Q E ⟨ws, G, R, EE, rs, hg, h, up, ux⟩ => by rw [← rs.length]; exact len _ _ _ _ h) ?_
  rintro A outer s H vs Q E hr ⟨ws, G, R, EE, rs, hg, h, up, ux⟩
  obtain ⟨t, ht, hq⟩ := hbody cdv A outer s H E ws G R EE hr h ux
  exact ⟨_, ht.p, start3 N ws, G, _, R, _, _, .start rs, hg, hq, fun σ' G' τ' H' h' hs' hg' t' => up _ _ _ _ h' (by rw [rep_non]) hg' t', up, fun _ _ _ _ h _ _ _ => h.elim, fun _ _ _ _ h _ _ _ => h.elim⟩
end
end L3
set_option maxHeartbeats 4000000
namespace L3
set_option genInjectivity false in
inductive Ex4 {α0 α1 α2 α3 : Type} (p : α0 → α1 → α2 → α3 → Prop) : Prop
  | mk (a0 : α0) (a1 : α1) (a2 : α2) (a3 : α3) (h : p a0 a1 a2 a3) : Ex4 p
set_option genInjectivity false in
inductive Ex5 {α0 α1 α2 α3 α4 : Type} (p : α0 → α1 → α2 → α3 → α4 → Prop) : Prop
  | mk (a0 : α0) (a1 : α1) (a2 : α2) (a3 : α3) (a4 : α4) (h : p a0 a1 a2 a3 a4) : Ex5 p
end L3
namespace Lw
open PySem L2 L3
def top (i : Nat) : Stmt := PySem.Challenge.pw_twotimes_k82_no_lines.main.body.getD i (.Pass ⟨0, 0, 0, 0⟩)
abbrev s_p_is_number : Stmt := top 16
abbrev s_p_part_of : Stmt := top 15
abbrev s_p_parts_in : Stmt := top 14
abbrev s_p_telling_in : Stmt := top 19
abbrev s_tumbled : Stmt := top 22
abbrev s_words : Stmt := top 23
abbrev s_number : Stmt := top 24
abbrev s_line : Stmt := top 25
abbrev s_spoilt : Stmt := top 26
abbrev s_refused : Stmt := top 27
abbrev s_law : Stmt := top 28
theorem sc_p_is_number : FnScope ["word"] ["word"] (defScope s_p_is_number) := ⟨rfl, rfl, rfl, by decide +kernel, rfl, by decide +kernel, by decide +kernel⟩
theorem sc_p_part_of : FnScope ["word", "kind"] ["word", "kind"] (defScope s_p_part_of) := ⟨rfl, rfl, rfl, by decide +kernel, rfl, by decide +kernel, by decide +kernel⟩
theorem sc_p_parts_in : FnScope ["row", "forms", "words"] ["row", "forms"] (defScope s_p_parts_in) := ⟨rfl, rfl, rfl, by decide +kernel, rfl, by decide +kernel, by decide +kernel⟩
theorem sc_p_telling_in : FnScope ["line", "parts"] ["line"] (defScope s_p_telling_in) := ⟨rfl, rfl, rfl, by decide +kernel, rfl, by decide +kernel, by decide +kernel⟩
theorem sc_tumbled : FnScope ["cell", "k", "stir"] ["cell", "k"] (defScope s_tumbled) := ⟨rfl, rfl, rfl, by decide +kernel, rfl, by decide +kernel, by decide +kernel⟩
theorem sc_words : FnScope ["cell", "letters", "word", "at", "first", "last", "moved"] ["cell"] (defScope s_words) := ⟨rfl, rfl, rfl, by decide +kernel, rfl, by decide +kernel, by decide +kernel⟩
theorem sc_number : FnScope ["cell", "some"] ["cell"] (defScope s_number) := ⟨rfl, rfl, rfl, by decide +kernel, rfl, by decide +kernel, by decide +kernel⟩
theorem sc_line : FnScope ["cell", "words", "begin", "end"] ["cell"] (defScope s_line) := ⟨rfl, rfl, rfl, by decide +kernel, rfl, by decide +kernel, by decide +kernel⟩
theorem sc_spoilt : FnScope ["words", "cell", "at", "kind", "more", "row", "place"] ["words", "cell"] (defScope s_spoilt) := ⟨rfl, rfl, rfl, by decide +kernel, rfl, by decide +kernel, by decide +kernel⟩
theorem sc_refused : FnScope ["line", "right", "other", "e"] ["line"] (defScope s_refused) := ⟨rfl, rfl, rfl, by decide +kernel, rfl, by decide +kernel, by decide +kernel⟩
theorem sc_law : FnScope ["script", "line", "cell", "words"] ["script"] (defScope s_law) := ⟨rfl, rfl, rfl, by decide +kernel, rfl, by decide +kernel, by decide +kernel⟩
set_option genInjectivity false in
structure Ad where
  f_p_is_number : Addr
  d_p_is_number : FuncData
  f_p_part_of : Addr
  d_p_part_of : FuncData
  f_p_parts_in : Addr
  d_p_parts_in : FuncData
  f_p_telling_in : Addr
  d_p_telling_in : FuncData
  f_tumbled : Addr
  d_tumbled : FuncData
  f_words : Addr
  d_words : FuncData
  f_number : Addr
  d_number : FuncData
  f_line : Addr
  d_line : FuncData
  f_spoilt : Addr
  d_spoilt : FuncData
  f_refused : Addr
  d_refused : FuncData
  f_law : Addr
  d_law : FuncData
  x_NoRow : Addr
  x_TimesError : Addr
  x_Broken : Addr
  x_Forgotten : Addr
  x_NoFit : Addr
  x_NoKnowing : Addr
  x_NoLog : Addr
  x_NoName : Addr
  x_NoSheet : Addr
  x_NoStretch : Addr
  g_FOR_NONE : Addr
  g_FORMS : Addr
  tp_FORMS_0 : Addr
  tp_FORMS_1 : Addr
structure Fns (K : PySem.W.Frag) (a : Ad) : Prop where
  p_is_number : Fun K "is_number" "is_number" s_p_is_number a.f_p_is_number a.d_p_is_number
  p_part_of : Fun K "part_of" "part_of" s_p_part_of a.f_p_part_of a.d_p_part_of
  p_parts_in : Fun K "parts_in" "parts_in" s_p_parts_in a.f_p_parts_in a.d_p_parts_in
  p_telling_in : Fun K "telling_in" "telling_in" s_p_telling_in a.f_p_telling_in a.d_p_telling_in
  tumbled : Fun K "_law_tumbled" "_law_tumbled" s_tumbled a.f_tumbled a.d_tumbled
  words : Fun K "_law_words" "_law_words" s_words a.f_words a.d_words
  number : Fun K "_law_number" "_law_number" s_number a.f_number a.d_number
  line : Fun K "_law_line" "_law_line" s_line a.f_line a.d_line
  spoilt : Fun K "_law_spoilt" "_law_spoilt" s_spoilt a.f_spoilt a.d_spoilt
  refused : Fun K "_law_refused" "_law_refused" s_refused a.f_refused a.d_refused
  law : Fun K "law" "law" s_law a.f_law a.d_law
theorem b_p_is_number {K : PySem.W.Frag} {a : Ad} (F : Fns K a) : Binds K a.d_p_is_number ["word"] [] := F.p_is_number.binds (ps := ["word"]) fun _ _ _ _ _ _ => lnS fun _ => ln0 rfl
theorem b_p_part_of {K : PySem.W.Frag} {a : Ad} (F : Fns K a) : Binds K a.d_p_part_of ["word", "kind"] [] := F.p_part_of.binds (ps := ["word", "kind"]) fun _ _ _ _ _ _ => lnS fun _ => lnS fun _ => ln0 rfl
theorem b_p_parts_in {K : PySem.W.Frag} {a : Ad} (F : Fns K a) : Binds K a.d_p_parts_in ["row", "forms"] [] := F.p_parts_in.binds (ps := ["row", "forms"]) fun _ _ _ _ _ _ => lnS fun _ => lnS fun _ => ln0 rfl
theorem b_p_telling_in {K : PySem.W.Frag} {a : Ad} (F : Fns K a) : Binds K a.d_p_telling_in ["line"] [] := F.p_telling_in.binds (ps := ["line"]) fun _ _ _ _ _ _ => lnS fun _ => ln0 rfl
theorem b_tumbled {K : PySem.W.Frag} {a : Ad} (F : Fns K a) : Binds K a.d_tumbled ["cell", "k"] [] := F.tumbled.binds (ps := ["cell", "k"]) fun _ _ _ _ _ _ => lnS fun _ => lnS fun _ => ln0 rfl
theorem b_words {K : PySem.W.Frag} {a : Ad} (F : Fns K a) : Binds K a.d_words ["cell"] [] := F.words.binds (ps := ["cell"]) fun _ _ _ _ _ _ => lnS fun _ => ln0 rfl
theorem b_number {K : PySem.W.Frag} {a : Ad} (F : Fns K a) : Binds K a.d_number ["cell"] [] := F.number.binds (ps := ["cell"]) fun _ _ _ _ _ _ => lnS fun _ => ln0 rfl
theorem b_line {K : PySem.W.Frag} {a : Ad} (F : Fns K a) : Binds K a.d_line ["cell"] [] := F.line.binds (ps := ["cell"]) fun _ _ _ _ _ _ => lnS fun _ => ln0 rfl
theorem b_spoilt {K : PySem.W.Frag} {a : Ad} (F : Fns K a) : Binds K a.d_spoilt ["words", "cell"] [] := F.spoilt.binds (ps := ["words", "cell"]) fun _ _ _ _ _ _ => lnS fun _ => lnS fun _ => ln0 rfl
theorem b_refused {K : PySem.W.Frag} {a : Ad} (F : Fns K a) : Binds K a.d_refused ["line"] [] := F.refused.binds (ps := ["line"]) fun _ _ _ _ _ _ => lnS fun _ => ln0 rfl
structure Txt (w : World) (K : PySem.W.Frag) (mg : Str → Option Value) (a : Ad) : Prop where
  m_p_is_number : mg "is_number" = some (.ref a.f_p_is_number)
  k_p_is_number : PySem.W.keepIn K (.ref a.f_p_is_number) = true
  m_p_part_of : mg "part_of" = some (.ref a.f_p_part_of)
  k_p_part_of : PySem.W.keepIn K (.ref a.f_p_part_of) = true
  m_p_parts_in : mg "parts_in" = some (.ref a.f_p_parts_in)
  k_p_parts_in : PySem.W.keepIn K (.ref a.f_p_parts_in) = true
  m_p_telling_in : mg "telling_in" = some (.ref a.f_p_telling_in)
  k_p_telling_in : PySem.W.keepIn K (.ref a.f_p_telling_in) = true
  m_tumbled : mg "_law_tumbled" = some (.ref a.f_tumbled)
  k_tumbled : PySem.W.keepIn K (.ref a.f_tumbled) = true
  m_words : mg "_law_words" = some (.ref a.f_words)
  k_words : PySem.W.keepIn K (.ref a.f_words) = true
  m_number : mg "_law_number" = some (.ref a.f_number)
  k_number : PySem.W.keepIn K (.ref a.f_number) = true
  m_line : mg "_law_line" = some (.ref a.f_line)
  k_line : PySem.W.keepIn K (.ref a.f_line) = true
  m_spoilt : mg "_law_spoilt" = some (.ref a.f_spoilt)
  k_spoilt : PySem.W.keepIn K (.ref a.f_spoilt) = true
  m_refused : mg "_law_refused" = some (.ref a.f_refused)
  k_refused : PySem.W.keepIn K (.ref a.f_refused) = true
  m_law : mg "law" = some (.ref a.f_law)
  k_law : PySem.W.keepIn K (.ref a.f_law) = true
  b_all : mg "all" = none
  b_len : mg "len" = none
  b_int : mg "int" = none
  b_zip : mg "zip" = none
  b_dict : mg "dict" = none
  b_tuple : mg "tuple" = none
  b_range : mg "range" = none
  b_str : mg "str" = none
  b_max : mg "max" = none
  b_isinstance : mg "isinstance" = none
  b_ValueError : mg "ValueError" = none
  x_NoRow : mg "NoRow" = some (.ref a.x_NoRow)
  x_TimesError : mg "TimesError" = some (.ref a.x_TimesError)
  x_Broken : mg "Broken" = some (.ref a.x_Broken)
  x_Forgotten : mg "Forgotten" = some (.ref a.x_Forgotten)
  x_NoFit : mg "NoFit" = some (.ref a.x_NoFit)
  x_NoKnowing : mg "NoKnowing" = some (.ref a.x_NoKnowing)
  x_NoLog : mg "NoLog" = some (.ref a.x_NoLog)
  x_NoName : mg "NoName" = some (.ref a.x_NoName)
  x_NoSheet : mg "NoSheet" = some (.ref a.x_NoSheet)
  x_NoStretch : mg "NoStretch" = some (.ref a.x_NoStretch)
  xi_NoRow : PySem.W.excIn K a.x_NoRow veM "ValueError.__new__" = true
  xm_NoRow_TimesError : PySem.W.exmOne K (.ref a.x_NoRow) (.ref a.x_TimesError) = some true
  xk_NoRow : ExK K a.x_NoRow
  kt_NoRow_ValueError : PySem.W.kitOne K (.ref a.x_NoRow) (.type "ValueError") = some true
  ka_NoRow_0 : PySem.W.kitAny K (.ref a.x_NoRow) [.ref a.x_Broken, .ref a.x_Forgotten, .ref a.x_NoFit, .ref a.x_NoKnowing, .ref a.x_NoLog, .ref a.x_NoName, .ref a.x_NoSheet, .ref a.x_NoStretch] = some false
  c_MOST_FIGURES : ∃ t, mg "MOST_FIGURES" = some (.int 13 t)
  c_FOR_NONE : mg "FOR_NONE" = some (.ref a.g_FOR_NONE)
  d_FOR_NONE : KDk w K a.g_FOR_NONE [(.inr "end", .str "-"), (.inr "knowing", .str "now")]
  c_FORMS : mg "FORMS" = some (.ref a.g_FORMS)
  d_FORMS : KDk w K a.g_FORMS [(.inr "put", .ref a.tp_FORMS_0), (.inr "clear", .ref a.tp_FORMS_1)]
  nd_FORMS : decide (List.Nodup (α := Nat) [a.tp_FORMS_0, a.tp_FORMS_1]) = true
  tt_FORMS : ∀ p ss, ([(a.tp_FORMS_0, ["word", "word", "word", "moment", "end"]), (a.tp_FORMS_1, ["word", "word", "moment", "end"])] : List (Addr × List Str)).lookup p = some ss → KTup K p ss
theorem pe_globI {X : Cx} {x : Str} {i : Int} {pos : Pos} (hg : Gl X x) (hm : ∃ t, X.mg x = some (.int i t)) (hd : (x == ("__debug__" : Str)) = false := by decide) : PE X (.Name x pos) (tC (.int i)) := by
  obtain ⟨t, h⟩ := hm
  exact pe_glob hg h ⟨t, rfl⟩ hd
theorem i_uss {t : A3} {σ : S3} {G : Hq} {R : K3} (h : t σ G fun ws G1 => ∃ (p : Addr) (ns : List Int), ws = [.ref p] ∧ G1 p = some (.lst (ns.map Z.int)) ∧ ns.length ≤ 1000 ∧
    ∀ (t : Addr) (ks : List Int), G1 t = none → ks.Pairwise (· < ·) → (∀ x, x ∈ ks ↔ x ∈ ns) → ks.length ≤ ns.length → R (.ref t) (put G1 t (.lst (ks.map Z.int)))) : uSS t σ G R := h
def sp_law : P3 := fun ws G R => ∃ a ns, ws = [.scr a ns] ∧ ns.length ≤ 63 ∧ ∀ G', R (.bl true) G'
theorem law_start {K : PySem.W.Frag} {H : Hp} {E : XK} (a : Addr) (ns : List Int) (hl : ns.length ≤ 63) (f : Fz K H a (ns.map V.int)) : lowP K sp_law [.ref a] H (fun v _ => v = .bl true) E :=
  ⟨[.scr a ns], fun _ => none, fun w _ => w = .bl true, .cons (by rw [rep_scr]; exact ⟨rfl, f⟩) .nil, fun _ _ e => (nomatch e), ⟨a, ns, rfl, hl, fun _ => rfl⟩, fun w G v H' e r _ _ => by subst e; rw [rep_bl] at r; exact r⟩
theorem lenK {n : Nat} (h : Nat.ble n 1000 = true) : n ≤ sizeLine := Nat.le_of_lt (small1000 (Nat.le_of_ble_eq_true h))
theorem sm1000 {n : Nat} (h : n ≤ 1000) : n ≤ sizeLine := Nat.le_of_lt (small1000 h)
def RowOk (x w : Int) : Prop := w = 0 ∨ (w = 1 ∧ 0 ≤ x ∧ x < 536870909)
abbrev RowO (x w : Int) : O := .lst [.int x, .int w]
def RowAt (G : Hq) (r : Addr) : Prop := ∃ x w, G r = some (RowO x w) ∧ RowOk x w
local macro_rules | `(tactic| walk_at "sd") => `(tactic| first | assumption | (exact sm1000 (by first | decide | omega | (simp; done) | (simp; omega))) | (exact small1000 (by first | decide | omega | (simp; done) | (simp; omega))) | decide | omega)
local macro_rules | `(tactic| walk_at "hp") => `(tactic| first | assumption | exact put_same | (refine put_old ?_ (by assumption); walk_at "hp") | (refine Sm.get (by assumption) ?_; walk_at "hp"))
local macro_rules | `(tactic| walk_at "go1") => `(tactic| with_reducible (first
  | refine i_seq ?_ | refine i_var (by with_unfolding_all rfl) ?_ | refine i_c ?_ | refine i_op ?_ | refine i_un ?_ | refine i_test ?_ | refine i_chain ?_ | refine i_and ?_ | refine i_or ?_ | refine i_not ?_ | refine i_andV ?_ | refine i_orV ?_ | refine i_notV ?_ | refine i_if ?_
  | refine i_tru ?_ | refine i_truI ?_ | refine i_truB ?_ | refine i_sl ?_ | refine i_nopart ?_ | refine i_part ?_ | refine i_nil ?_ | refine i_cons ?_ | refine i_tup ?_ | refine i_lst ?_ | refine i_cb ?_ | refine i_uss ?_ | refine i_bm0 ?_ | refine i_bm ?_ | refine i_call ?_
  | refine i_next ?_ | refine i_drop ?_ | refine i_ret ?_ | refine i_retN ?_ | refine i_ifS ?_ | refine i_asg ?_ | refine i_put ?_ | refine i_aug (by with_unfolding_all rfl) ?_ | refine i_break ?_ | refine i_cont ?_ | refine i_forE ?_ | refine i_lcE ?_ | refine i_iL ?_ | refine i_iT ?_ | refine i_iS ?_ | refine i_iR1 ?_ | refine i_iR2 ?_ | refine i_wkC ?_ | refine i_wkT ?_ | refine i_wkS ?_ | refine i_tt ?_
  | refine i_addI ?_ | refine i_I0 ?_ | refine i_neg ?_ | refine i_CI ?_ | refine i_CS ?_ | refine i_isN ?_ | refine i_isB ?_ | refine i_notN ?_ | refine i_eqB ?_ | refine i_eqI ?_ | refine i_eqS ?_ | refine i_inS ?_ | refine i_dnew ?_ | refine i_nm ?_ | refine i_ixT (by with_unfolding_all rfl) ?_ | refine i_lenT ?_ | refine i_lenC ?_ | refine i_mm ?_ | refine i_tyS ?_
  | refine ifT ?_ | refine ifF ?_ | refine ifNN ?_ | refine ifNI ?_ | refine ifNS ?_ | refine ifNU ?_ | refine ifMN ?_ | refine ifMI ?_ | refine ifMS ?_ | refine ifMU ?_ | refine i_ixT at0 ?_ | refine i_ixT at1 ?_ | refine i_ixT at2 ?_ | refine i_find ?_ | refine i_iRev ?_ | refine i_iR3 ?_ | refine i_iZip ?_ | refine i_fldE ?_ | refine i_methE ?_ | refine i_makeE ?_ | refine i_fset ?_ | refine i_faug ?_ | refine i_disp ?_ | refine i_pcons ?_ | refine i_pnil ?_ | refine ⟨_, rfl, ?_⟩))
local macro_rules | `(tactic| walk_at "go") => `(tactic| repeat walk_at "go1")
theorem RowAt.new {G : Hq} {r p : Addr} {o : O} (h : RowAt G r) (n : G p = none) : RowAt (put G p o) r := by
  obtain ⟨x, w, e, k⟩ := h
  exact ⟨x, w, put_old e n, k⟩
theorem RowAt.at {G : Hq} {r : Addr} {x w : Int} (k : RowOk x w) : RowAt (put G r (RowO x w)) r := ⟨x, w, put_same, k⟩
def wOk (s : Str) : Prop := 1 ≤ s.cps.toList.length ∧ s.cps.toList.length ≤ 20 ∧ ∀ c ∈ s.cps.toList, 33 ≤ c ∧ c ≤ 126
theorem len_s (s : Str) : s.length = s.cps.toList.length := by rw [Array.length_toList]; rfl
theorem app_list (a b : Str) : (a ++ b).cps.toList = a.cps.toList ++ b.cps.toList := by
  show (a.cps ++ b.cps).toList = _
  rw [Array.toList_append]
theorem str_ext {a b : Str} (h : a.cps.toList = b.cps.toList) : a = b := Str.ext' (Array.toList_inj.mp h)
theorem w_strOk {s : Str} (h : ∀ c ∈ s.cps.toList, c ≤ 126) : PyData.strOk s = true := by
  unfold PyData.strOk
  rw [Array.all_eq_true_iff_forall_mem]
  intro c hc
  have := h c (by simpa using hc)
  exact decide_eq_true (by omega)
theorem w_flat {s : Str} (h : wOk s) {n : Nat} : flat n (.str s) = true := by
  have := w_strOk fun c hc => (h.2.2 c hc).2
  cases n <;> exact this
theorem no_space {c : Nat} (h : 33 ≤ c ∧ c ≤ 126) : Unicode.isSpace c = false := by
  have : ∀ j : Fin 94, Unicode.isSpace (33 + j.1) = false := by decide +kernel
  have := this ⟨c - 33, by omega⟩
  simpa [show 33 + (c - 33) = c by omega] using this
theorem blank_space : Unicode.isSpace 32 = true := by decide +kernel
abbrev bl1 : Str := Str.ofString " "
theorem bl1_eq : bl1 = ⟨#[32]⟩ := by decide +kernel
abbrev joinB (ws : List Str) : Str := Txt.join bl1 ws
theorem joinB_eq (ws : List Str) : joinB ws = Str.join ⟨#[32]⟩ ws := by
  show Txt.join bl1 ws = _
  rw [bl1_eq]
  exact StrLaws.glued_eq_join _ _
theorem join_cons2 (x y : Str) (r : List Str) : (Str.join ⟨#[32]⟩ (x :: y :: r)).cps.toList = x.cps.toList ++ 32 :: (Str.join ⟨#[32]⟩ (y :: r)).cps.toList := by
  show (x ++ ⟨#[32]⟩ ++ Str.join ⟨#[32]⟩ (y :: r)).cps.toList = _
  rw [app_list, app_list, List.append_assoc]; rfl
theorem part_eq : ∀ {a b r s : List Nat}, 32 ∉ a → 32 ∉ b → a ++ 32 :: r = b ++ 32 :: s → a = b ∧ r = s
  | [], [], _, _, _, _, h => ⟨rfl, (List.cons.inj h).2⟩
  | [], b :: bs, _, _, _, hb, h => absurd (List.mem_cons.mpr (.inl (List.cons.inj h).1)) hb
  | a :: as, [], _, _, ha, _, h => absurd (List.mem_cons.mpr (.inl (List.cons.inj h).1.symm)) ha
  | a :: as, b :: bs, r, s, ha, hb, h => by
    obtain ⟨e1, e2⟩ := List.cons.inj h
    obtain ⟨e3, e4⟩ := part_eq (fun z => ha (.tail _ z)) (fun z => hb (.tail _ z)) e2
    exact ⟨by rw [e1, e3], e4⟩
theorem part_ne {a b s : List Nat} (ha : 32 ∉ a) (h : a = b ++ 32 :: s) : False := ha (by rw [h]; simp)
theorem join_inj : ∀ {vs ws : List Str}, vs ≠ [] → ws ≠ [] → (∀ p ∈ vs, 32 ∉ p.cps.toList) → (∀ p ∈ ws, 32 ∉ p.cps.toList) → Str.join ⟨#[32]⟩ vs = Str.join ⟨#[32]⟩ ws → vs = ws
  | [], _, h, _, _, _, _ => absurd rfl h
  | _ :: _, [], _, h, _, _, _ => absurd rfl h
  | [v], [w], _, _, _, _, h => by rw [show v = w from h]
  | [v], w :: w' :: ws, _, _, hv, _, h => by
    have := congrArg (fun s : Str => s.cps.toList) h
    rw [join_cons2] at this
    exact (part_ne (hv v (.head _)) this).elim
  | v :: v' :: vs, [w], _, _, _, hw, h => by
    have := congrArg (fun s : Str => s.cps.toList) h
    rw [join_cons2] at this
    exact (part_ne (hw w (.head _)) this.symm).elim
  | v :: v' :: vs, w :: w' :: ws, _, _, hv, hw, h => by
    have := congrArg (fun s : Str => s.cps.toList) h
    rw [join_cons2, join_cons2] at this
    obtain ⟨e1, e2⟩ := part_eq (hv v (.head _)) (hw w (.head _)) this
    rw [str_ext e1, join_inj (by simp) (by simp) (fun p hp => hv p (.tail _ hp)) (fun p hp => hw p (.tail _ hp)) (str_ext e2)]
theorem no32 {s : Str} (h : wOk s) : 32 ∉ s.cps.toList := fun z => by have := (h.2.2 32 z).1; omega
theorem split_nil {x : Str} : Txt.split x ⟨#[32]⟩ ≠ [] := by
  unfold Txt.split
  split
  · simp
  · split
    · simp
    · rw [StrLaws.partsBetween_eq]
      obtain ⟨p, r, e⟩ := StrLaws.partsFrom_ne x (⟨#[32]⟩ : Str).length 0 (Builtin.Str.occurrences x ⟨#[32]⟩ 0 x.length (x.length + 1))
      rw [e]; simp
theorem split_join {ws : List Str} (hne : ws ≠ []) (h : ∀ s ∈ ws, wOk s) : Txt.split (joinB ws) bl1 = ws := by
  rw [joinB_eq, bl1_eq]
  exact join_inj split_nil hne (StrLaws.split_free _ 32) (fun s hs => no32 (h s hs)) (StrLaws.join_split _ _)
open PySem.KWd in
theorem fold_word : ∀ (l : List Nat) (q : List Str) (r : Str), (∀ c ∈ l, 33 ≤ c ∧ c ≤ 126) → l.foldl step (q, r) = (q, r ++ ⟨l.toArray⟩)
  | [], q, r, _ => by
    show (q, r) = _
    rw [show r ++ (⟨([] : List Nat).toArray⟩ : Str) = r from str_ext (by rw [app_list]; simp)]
  | c :: l, q, r, h => by
    rw [List.foldl_cons, show step (q, r) c = (q, r ++ ⟨#[c]⟩) from if_neg (by rw [no_space (h c (.head _))]; decide), fold_word l q _ fun d hd => h d (.tail _ hd)]
    rw [show r ++ (⟨#[c]⟩ : Str) ++ (⟨l.toArray⟩ : Str) = r ++ (⟨(c :: l).toArray⟩ : Str) from str_ext (by rw [app_list, app_list, app_list]; simp)]
theorem mk_toList (s : Str) : (⟨s.cps.toList.toArray⟩ : Str) = s := str_ext (by simp)
theorem empty_app (s : Str) : Str.empty ++ s = s := str_ext (by rw [app_list]; simp [Str.empty])
open PySem.KWd in
theorem fold_words : ∀ (ws : List Str) (q : List Str), ws ≠ [] → (∀ s ∈ ws, wOk s) → fin ((Str.join ⟨#[32]⟩ ws).cps.toList.foldl step (q, Str.empty)) = q ++ ws
  | [], _, h, _ => absurd rfl h
  | [w], q, _, h => by
    have hw := h w (.head _)
    show fin (w.cps.toList.foldl step (q, Str.empty)) = _
    rw [fold_word _ _ _ hw.2.2, mk_toList, empty_app]
    exact if_neg (by show ¬ w.length = 0; rw [len_s]; have := hw.1; omega)
  | w :: v :: ws, q, _, h => by
    have hw := h w (.head _)
    rw [join_cons2, List.foldl_append, fold_word _ _ _ hw.2.2, mk_toList, empty_app, List.foldl_cons]
    rw [show step (q, w) 32 = (q ++ [w], Str.empty) from (if_pos blank_space).trans (if_neg (by show ¬ w.length = 0; rw [len_s]; have := hw.1; omega)), fold_words (v :: ws) _ (by simp) fun s hs => h s (.tail _ hs)]
    rw [List.append_assoc]; rfl
theorem words_join {ws : List Str} (hne : ws ≠ []) (h : ∀ s ∈ ws, wOk s) : PySem.Txt.words (joinB ws) = ws := by
  rw [joinB_eq, KWd.words_scan]
  exact fold_words ws [] hne h
theorem joinB_len : ∀ {ws : List Str}, (∀ s ∈ ws, wOk s) → (joinB ws).length ≤ 21 * ws.length := by
  intro ws h
  rw [joinB_eq]
  have := StrLaws.join_length_le ⟨#[32]⟩ ws
  have s20 : (ws.map (·.length)).sum ≤ 20 * ws.length := by
    clear this
    induction ws with
    | nil => simp
    | cons w ws ih =>
      have := ih fun s hs => h s (.tail _ hs)
      have hw := (h w (.head _)).2.1
      rw [List.map_cons, List.sum_cons, List.length_cons, len_s]
      omega
  have e1 : (⟨#[32]⟩ : Str).length = 1 := rfl
  rw [e1] at this
  omega
abbrev num (n : Nat) : Str := Str.ofString (toString ((n : Nat) : Int))
theorem num_list (n : Nat) : (num n).cps.toList = (Nat.toDigits 10 n).map Char.toNat := PySem.W.KIN.signs_num n
theorem num_digits (n : Nat) : ∀ c ∈ (num n).cps.toList, 48 ≤ c ∧ c ≤ 57 := by
  intro c hc
  rw [num_list] at hc
  obtain ⟨ch, hch, e⟩ := List.mem_map.mp hc
  have r := PyProof.Rows.digit_range (Nat.isDigit_of_mem_toDigits (by decide) (by decide) hch)
  rw [← e]
  exact r
theorem num_ne (n : Nat) : 1 ≤ (num n).cps.toList.length := by
  rw [num_list, List.length_map]
  exact PySem.toDigits_len_ge 10 n
theorem num_len {n : Nat} (h : n < 10 ^ 13) : (num n).cps.toList.length ≤ 13 := by
  rw [← len_s]
  exact PyProof.Rows.toString_length_le (v := ((n : Nat) : Int)) (by omega) (by decide) (by omega)
theorem num_wOk {n : Nat} (h : n < 10 ^ 13) : wOk (num n) := ⟨num_ne n, by have := num_len h; omega, fun c hc => by have := num_digits n c hc; omega⟩
theorem num_reads {n : Nat} (h : n < 10 ^ 13) : intText? (num n) = some (n : Int) := by
  have e := PySem.intText_digits (x := num n) (fun c hc => num_digits n c hc) (fun z => by have := num_ne n; rw [z] at this; simp at this) (by have := num_len h; rw [← len_s] at this; omega)
  rw [num_list, PySem.W.KIN.val_back] at e
  exact e
theorem num_head : ∀ n : Nat, 0 < n → ∀ c r, Nat.toDigits 10 n = c :: r → c.toNat ≠ 48 := by
  intro n
  induction n using Nat.strongRecOn with
  | _ n ih =>
    intro h0 c r e
    by_cases h : n < 10
    · rw [Nat.toDigits_of_lt_base h] at e
      obtain ⟨rfl, _⟩ := List.cons.inj e
      have : ∀ j : Fin 10, 0 < j.1 → (Nat.digitChar j.1).toNat ≠ 48 := by decide
      exact this ⟨n, h⟩ h0
    · have hm : n % 10 < 10 := Nat.mod_lt n (by decide)
      have t : Nat.toDigits 10 (n / 10) ++ Nat.toDigits 10 (n % 10) = Nat.toDigits 10 (10 * (n / 10) + n % 10) := Nat.toDigits_append_toDigits (by decide) (by omega) hm
      rw [Nat.div_add_mod] at t
      cases e2 : Nat.toDigits 10 (n / 10) with
      | nil => have := PySem.toDigits_len_ge 10 (n / 10); rw [e2] at this; simp at this
      | cons d s =>
        rw [e2, e] at t
        have := (List.cons.inj t).1
        rw [← this]
        exact ih (n / 10) (by omega) (by omega) d s e2
theorem num_lead {n : Nat} {c : Nat} {r : List Nat} (e : (num n).cps.toList = c :: r) (hc : c = 48) : num n = Str.ofString "0" := by
  rcases Nat.eq_zero_or_pos n with h | h
  · subst h; rfl
  · rw [num_list] at e
    cases e2 : Nat.toDigits 10 n with
    | nil => rw [e2] at e; cases e
    | cons d s =>
      rw [e2, List.map_cons] at e
      exact absurd ((List.cons.inj e).1.trans hc) (num_head n h d s e2)
abbrev dash : Str := Str.ofString "-"
theorem dash_list : dash.cps.toList = [45] := by decide +kernel
theorem dash_wOk : wOk dash := by rw [wOk, dash_list]; simp
theorem num_dash (n : Nat) : num n ≠ dash := fun e => by
  have h1 := num_ne n
  have h2 := num_digits n
  rw [e, dash_list] at h2
  have := h2 45 (.head _)
  omega
inductive Rd : Str → Str → Z → Prop
  | word {w : Str} : Rd (Str.ofString "word") w (.str w)
  | non : Rd (Str.ofString "end") dash .non
  | num {k : Str} {n : Nat} : k = Str.ofString "moment" ∨ k = Str.ofString "end" → n < 10 ^ 13 → Rd k (num n) (.int n)
inductive Rds : List Str → List Str → List Z → Prop
  | nil : Rds [] [] []
  | cons {k w : Str} {z : Z} {ks ws : List Str} {zs : List Z} : Rd k w z → Rds ks ws zs → Rds (k :: ks) (w :: ws) (z :: zs)
theorem Rds.len {ks ws : List Str} {zs : List Z} (h : Rds ks ws zs) : ws.length = ks.length ∧ zs.length = ks.length := by
  induction h with
  | nil => exact ⟨rfl, rfl⟩
  | cons _ _ ih => rw [List.length_cons, List.length_cons, List.length_cons, ih.1, ih.2]; exact ⟨rfl, rfl⟩
theorem Rds.get {ks ws : List Str} {zs : List Z} (h : Rds ks ws zs) : ∀ {i : Nat} {k w : Str} {z : Z}, ks[i]? = some k → ws[i]? = some w → zs[i]? = some z → Rd k w z := by
  induction h with
  | nil => intro i k w z e; simp at e
  | cons h _ ih =>
    intro i k w z e1 e2 e3
    cases i with
    | zero => simp at e1 e2 e3; subst e1 e2 e3; exact h
    | succ i => exact ih (i := i) (by simpa using e1) (by simpa using e2) (by simpa using e3)
theorem zEq_gen {f : Bool → Bool} {G : Hq} {R : K3} {x y : Z} (h1 : flat 8 x = true) (h2 : flat 8 y = true) (h : R (.bl (f (decide (x = y)))) G) : zEq f x y G R := by
  cases x <;> cases y <;> first
    | exact ⟨h1, h2, h⟩
    | (simp [flat] at h1; done)
    | (simp [flat] at h2; done)
    | (rw [decide_congr (Z.int.injEq _ _)] at h; exact h)
    | (rw [decide_congr (Z.str.injEq _ _)] at h; exact h)
theorem take_snoc {α : Type} {l : List α} {i : Nat} {x : α} (h : l[i]? = some x) : l.take (i + 1) = l.take i ++ [x] := by rw [List.take_add_one, h]; rfl
theorem srcK_of {tt : List (Addr × List Str)} {p : Addr} {ss : List Str} (h : tt.lookup p = some ss) : srcK tt (.ref p) = some (ss.map Z.str) := by
  show Option.map (fun ss => ss.map Z.str) (tt.lookup p) = _
  rw [h]; rfl
def isL (c : Nat) : Prop := 97 ≤ c ∧ c ≤ 122
theorem abc_list : (Str.ofString "abcdefghijklmnopqrstuvwxyz").cps.toList = [97, 98, 99, 100, 101, 102, 103, 104, 105, 106, 107, 108, 109, 110, 111, 112, 113, 114, 115, 116, 117, 118, 119, 120, 121, 122] := by decide +kernel
theorem abc_at {k : Int} (h0 : 0 ≤ k) (h1 : k < 26) : atI (Str.ofString "abcdefghijklmnopqrstuvwxyz").cps.toList k = some (97 + k.toNat) := by
  obtain ⟨j, rfl⟩ := Int.eq_ofNat_of_zero_le h0
  have hj : j < 26 := by omega
  refine atI_nat ?_
  rw [abc_list]
  have : ∀ j : Fin 26, ([97, 98, 99, 100, 101, 102, 103, 104, 105, 106, 107, 108, 109, 110, 111, 112, 113, 114, 115, 116, 117, 118, 119, 120, 121, 122] : List Nat)[j.1]? = some (97 + j.1) := by decide
  exact this ⟨j, hj⟩
theorem joinE : ∀ cs : List Nat, (Txt.join (Str.ofString "") (cs.map fun c => (⟨#[c]⟩ : Str))).cps.toList = cs := by
  intro cs
  rw [show Txt.join (Str.ofString "") (cs.map fun c => (⟨#[c]⟩ : Str)) = Str.join (Str.ofString "") (cs.map fun c => (⟨#[c]⟩ : Str)) from StrLaws.glued_eq_join _ _, show Str.ofString "" = Str.empty by decide +kernel]
  induction cs with
  | nil => rfl
  | cons c cs ih =>
    cases cs with
    | nil => rfl
    | cons d cs =>
      show ((⟨#[c]⟩ : Str) ++ Str.empty ++ Str.join Str.empty ((d :: cs).map fun c => (⟨#[c]⟩ : Str))).cps.toList = _
      rw [app_list, app_list, ih]
      rfl
theorem joinE_fits (cs : List Nat) (h : cs.length ≤ 100) : ((cs.map fun c => (⟨#[c]⟩ : Str)).map (·.length)).sum + (cs.map fun c => (⟨#[c]⟩ : Str)).length * (Str.ofString "").length ≤ 16777216 := by
  have e : ((cs.map fun c => (⟨#[c]⟩ : Str)).map (·.length)).sum = cs.length := by
    clear h
    induction cs with
    | nil => rfl
    | cons c cs ih =>
      rw [List.map_cons, List.map_cons, List.sum_cons, ih, List.length_cons]
      show 1 + cs.length = _
      omega
  rw [e, show Str.ofString "" = Str.empty by decide +kernel, show Str.empty.length = 0 from rfl]
  omega
theorem sl_to {x : Str} {j : Nat} (h : j ≤ x.cps.toList.length) : (Txt.slice x none (some (j : Int))).cps.toList = x.cps.toList.take j := by
  have := eq_of_beq (PyProof.Rows.slice_closes_to (x := x) (j := (j : Int)) ⟨by omega, by omega⟩)
  rw [this]
  simp
theorem sl_from {x : Str} {j : Nat} (h : j ≤ x.cps.toList.length) : (Txt.slice x (some (j : Int)) none).cps.toList = x.cps.toList.drop j := by
  have := PyProof.Rows.slice_from_eq (x := x) (i := (j : Int)) (b := (x.length : Int)) (by omega) (by rw [len_s]; omega) rfl
  rw [this, len_s]
  rw [List.take_of_length_le (by rw [List.length_drop]; omega)]
  simp
theorem i_callX {sp : PX3} {EE : Addr → Hq → Prop} {t : A3} {σ : S3} {G : Hq} {R : K3} (h : t σ G fun ws G1 => sp ws G1 R EE) : uCallX sp EE t σ G R := h
theorem i_raise {EE : Addr → Hq → Prop} {C : Addr} {te : E3} {nx : C3} {rt : K3} {bk ct : C3} {σ : S3} {G : Hq} (h : te σ G fun _ G1 => EE C G1) : uRaise EE C te nx rt bk ct σ G := h
theorem i_try {C : Addr} {i : Nat} {sp : PX3} {t : A3} {th : Addr → X3} {nx : C3} {rt : K3} {bk ct : C3} {σ : S3} {G : Hq} (h : t σ G fun ws G1 => sp ws G1 (fun _ G2 => nx σ G2) fun C' G2 => C' = C ∧ ∀ e, th e (fun σ' G' => nx (σ'.set i none) G') rt (fun σ' G' => bk (σ'.set i none) G') (fun σ' G' => ct (σ'.set i none) G') (σ.set i (some (.ref e))) G2) : uTry C i sp t th nx rt bk ct σ G := h
local macro_rules | `(tactic| walk_at "go1") => `(tactic| with_reducible (first | refine i_callX ?_ | refine i_raise ?_ | refine i_try ?_))
abbrev chs (s : Str) : List Nat := s.cps.toList
def hd1 (l : List Nat) : List Nat := l.takeWhile (· != 32)
theorem hd1_app {a t : List Nat} (h : 32 ∉ a) : hd1 (a ++ 32 :: t) = a := by
  unfold hd1
  induction a with
  | nil => rfl
  | cons c a ih =>
    have hc : (c != 32) = true := by simp; exact fun z => h (by rw [z]; exact .head _)
    rw [List.cons_append, List.takeWhile_cons, if_pos hc, ih fun z => h (.tail _ z)]
theorem hd1_free {a : List Nat} (h : 32 ∉ a) : hd1 a = a := by
  unfold hd1
  induction a with
  | nil => rfl
  | cons c a ih =>
    have hc : (c != 32) = true := by simp; exact fun z => h (by rw [z]; exact .head _)
    rw [List.takeWhile_cons, if_pos hc, ih fun z => h (.tail _ z)]
theorem split_join2 {ws : List Str} (hne : ws ≠ []) (h : ∀ s ∈ ws, 32 ∉ chs s) : Txt.split (joinB ws) bl1 = ws := by
  rw [joinB_eq, bl1_eq]
  exact join_inj split_nil hne (StrLaws.split_free _ 32) h (StrLaws.join_split _ _)
theorem join_cnt : ∀ {ws : List Str}, ws ≠ [] → (∀ s ∈ ws, 32 ∉ chs s) → (chs (Str.join ⟨#[32]⟩ ws)).count 32 + 1 = ws.length
  | [], h, _ => absurd rfl h
  | [w], _, h => by
    show (chs w).count 32 + 1 = 1
    rw [List.count_eq_zero.mpr (h w (.head _))]
  | w :: v :: ws, _, h => by
    have := join_cnt (ws := v :: ws) (by simp) fun s hs => h s (.tail _ hs)
    show (Str.join ⟨#[32]⟩ (w :: v :: ws)).cps.toList.count 32 + 1 = _
    rw [join_cons2, List.count_append, List.count_eq_zero.mpr (h w (.head _)), List.count_cons_self, List.length_cons, ← this, Nat.zero_add]
theorem join_hd {w : Str} {ws : List Str} (h : 32 ∉ chs w) : hd1 (chs (Str.join ⟨#[32]⟩ (w :: ws))) = chs w := by
  cases ws with
  | nil => exact hd1_free h
  | cons v ws =>
    show hd1 (Str.join ⟨#[32]⟩ (w :: v :: ws)).cps.toList = _
    rw [join_cons2]; exact hd1_app h
theorem join_chars : ∀ {ws : List Str} {p : Str} {c : Nat}, p ∈ ws → c ∈ chs p → c ∈ chs (Str.join ⟨#[32]⟩ ws)
  | [], _, _, h, _ => nomatch h
  | [w], p, c, h, hc => by
    rw [List.mem_singleton.mp h] at hc
    exact hc
  | w :: v :: ws, p, c, h, hc => by
    show c ∈ (Str.join ⟨#[32]⟩ (w :: v :: ws)).cps.toList
    rw [join_cons2]
    rcases List.mem_cons.mp h with rfl | h
    · exact List.mem_append_left _ hc
    · exact List.mem_append_right _ (.tail _ (join_chars h hc))
theorem join_of_chars : ∀ {ws : List Str} {c : Nat}, c ∈ chs (Str.join ⟨#[32]⟩ ws) → c = 32 ∨ ∃ p ∈ ws, c ∈ chs p
  | [], c, h => by simp [chs, Str.join, Str.empty] at h
  | [w], c, h => .inr ⟨w, .head _, h⟩
  | w :: v :: ws, c, h => by
    have h : c ∈ (Str.join ⟨#[32]⟩ (w :: v :: ws)).cps.toList := h
    rw [join_cons2] at h
    rcases List.mem_append.mp h with h | h
    · exact .inr ⟨w, .head _, h⟩
    · rcases List.mem_cons.mp h with h | h
      · exact .inl h
      · rcases join_of_chars h with h | ⟨p, hp, hc⟩
        · exact .inl h
        · exact .inr ⟨p, .tail _ hp, hc⟩
theorem split_len (x : Str) : (Txt.split x bl1).length = (chs x).count 32 + 1 := by
  rw [bl1_eq]
  have := join_cnt (split_nil (x := x)) (StrLaws.split_free _ 32)
  rw [StrLaws.join_split] at this
  exact this.symm
theorem split_head (x : Str) : ∃ w ws, Txt.split x bl1 = w :: ws ∧ chs w = hd1 (chs x) := by
  rw [bl1_eq]
  have h1 := split_nil (x := x)
  have h2 := StrLaws.split_free x 32
  have h3 := StrLaws.join_split x ⟨#[32]⟩
  cases e : Txt.split x ⟨#[32]⟩ with
  | nil => exact absurd e h1
  | cons w ws =>
    refine ⟨w, ws, rfl, ?_⟩
    rw [e] at h2 h3
    rw [← h3]
    exact (join_hd (h2 w (.head _))).symm
theorem split_chars {x p : Str} {c : Nat} (h : p ∈ Txt.split x bl1) (hc : c ∈ chs p) : c ∈ chs x := by
  rw [bl1_eq] at h
  have := join_chars h hc
  rw [StrLaws.join_split] at this
  exact this
open PySem.KWd in
theorem scan_inv {P : Nat → Prop} : ∀ (l : List Nat) (q : List Str) (r : Str), (∀ c ∈ l, P c) → (∀ s ∈ q, s.length ≠ 0 ∧ ∀ c ∈ chs s, P c) → (∀ c ∈ chs r, P c) →
    (∀ s ∈ fin (l.foldl step (q, r)), s.length ≠ 0 ∧ ∀ c ∈ chs s, P c) ∧ (fin (l.foldl step (q, r))).length ≤ q.length + l.length + 1
  | [], q, r, _, hq, hr => by
    show (∀ s ∈ (if r.length = 0 then q else q ++ [r]), _) ∧ (if r.length = 0 then q else q ++ [r]).length ≤ _
    split
    · exact ⟨hq, by omega⟩
    · rename_i hz
      refine ⟨fun s hs => ?_, by simp⟩
      rcases List.mem_append.mp hs with hs | hs
      · exact hq s hs
      · rw [List.mem_singleton.mp hs]; exact ⟨hz, hr⟩
  | c :: l, q, r, hl, hq, hr => by
    rw [List.foldl_cons]
    by_cases hs : Unicode.isSpace c = true
    · by_cases hz : r.length = 0
      · rw [show step (q, r) c = (q, r) from (if_pos hs).trans (if_pos hz)]
        have := scan_inv l q r (fun d hd => hl d (.tail _ hd)) hq hr
        exact ⟨this.1, by have := this.2; rw [List.length_cons]; omega⟩
      · rw [show step (q, r) c = (q ++ [r], Str.empty) from (if_pos hs).trans (if_neg hz)]
        have := scan_inv l (q ++ [r]) Str.empty (fun d hd => hl d (.tail _ hd)) (fun s hs => by
          rcases List.mem_append.mp hs with hs | hs
          · exact hq s hs
          · rw [List.mem_singleton.mp hs]; exact ⟨hz, hr⟩) (fun d hd => by simp [chs, Str.empty] at hd)
        refine ⟨this.1, ?_⟩
        have := this.2
        rw [List.length_append, List.length_singleton] at this
        rw [List.length_cons]; omega
    · rw [show step (q, r) c = (q, r ++ ⟨#[c]⟩) from if_neg hs]
      have := scan_inv l q (r ++ ⟨#[c]⟩) (fun d hd => hl d (.tail _ hd)) hq (fun d hd => by
        have hd : d ∈ (r ++ (⟨#[c]⟩ : Str)).cps.toList := hd
        rw [app_list] at hd
        rcases List.mem_append.mp hd with hd | hd
        · exact hr d hd
        · have : d = c := by simpa using hd
          rw [this]; exact hl c (.head _))
      exact ⟨this.1, by have := this.2; rw [List.length_cons]; omega⟩
theorem words_all {x : Str} {P : Nat → Prop} (h : ∀ c ∈ chs x, P c) : (∀ s ∈ PySem.Txt.words x, s.length ≠ 0 ∧ ∀ c ∈ chs s, P c) ∧ (PySem.Txt.words x).length ≤ (chs x).length + 1 := by
  have := scan_inv (chs x) [] Str.empty h (fun s hs => nomatch hs) (fun c hc => by simp [chs, Str.empty] at hc)
  rw [KWd.words_scan]
  exact ⟨this.1, Nat.le_trans this.2 (by simp)⟩
theorem flats {ns : List Str} (h : ∀ s ∈ ns, ∀ c ∈ chs s, c ≤ 126) : (ns.map Z.str).all (flat 8) = true := by
  rw [List.all_eq_true]
  intro x hx
  obtain ⟨s, hs, rfl⟩ := List.mem_map.mp hx
  exact w_strOk (h s hs)
def isNumB (w : Str) : Bool := if 13 < w.length then false else if (chs w).head? = some 48 ∧ w ≠ Str.ofString "0" then false else (chs w).all fun c => decide (48 ≤ c ∧ c ≤ 57)
theorem isNum_num {n : Nat} (h : n < 10 ^ 13) : isNumB (num n) = true := by
  unfold isNumB
  rw [if_neg (by rw [len_s]; have := num_len h; omega), if_neg, List.all_eq_true]
  · intro c hc
    exact decide_eq_true (num_digits n c hc)
  · rintro ⟨h1, h2⟩
    cases e : (num n).cps.toList with
    | nil => rw [show chs (num n) = [] from e] at h1; cases h1
    | cons c r =>
      rw [show chs (num n) = c :: r from e] at h1
      cases h1
      exact h2 (num_lead e rfl)
def Bad (k w : Str) : Prop := isNumB w = false ∧ (k = Str.ofString "moment" ∨ (k = Str.ofString "end" ∧ w ≠ dash))
def FormK (l : List Nat) (n : Nat) : Prop := (l = chs (Str.ofString "put") ∧ n = 5) ∨ (l = chs (Str.ofString "clear") ∧ n = 4)
def Form (k : Str) (ks : List Str) : Prop := (k = Str.ofString "put" ∧ ks = [Str.ofString "word", Str.ofString "word", Str.ofString "word", Str.ofString "moment", Str.ofString "end"]) ∨ (k = Str.ofString "clear" ∧ ks = [Str.ofString "word", Str.ofString "word", Str.ofString "moment", Str.ofString "end"])
structure BadD (row k : Str) (ks wd : List Str) : Prop where
  form : Form k ks
  row : row = joinB (k :: wd)
  len : wd.length = ks.length
  free : ∀ s ∈ wd, 32 ∉ chs s
  why : (∃ s ∈ wd, chs s = []) ∨ ((∀ s ∈ wd, wOk s) ∧ (∀ (j : Nat) (k1 w1 : Str), ks[j]? = some k1 → wd[j]? = some w1 → (∃ z, Rd k1 w1 z) ∨ Bad k1 w1) ∧ ∃ (j : Nat) (k1 w1 : Str), ks[j]? = some k1 ∧ wd[j]? = some w1 ∧ Bad k1 w1)
structure BadRow (row : Str) : Prop where
  low : ∀ c ∈ chs row, c ≤ 126
  len : (chs row).length ≤ 400
  why : ¬ FormK (hd1 (chs row)) ((chs row).count 32) ∨ ∃ k ks wd, BadD row k ks wd
theorem zero_one {c : Nat} (h : (⟨#[c]⟩ : Str) = Str.ofString "0") : c = 48 := by
  have := congrArg (fun s : Str => s.cps.toList) h
  rw [show (Str.ofString "0").cps.toList = [48] by decide +kernel] at this
  exact (List.cons.inj this).1
theorem sizeW {s : Str} (h : wOk s) : s.length ≤ sizeLine := sm1000 (by rw [len_s]; have := h.2.1; omega)
theorem sign_cmp {c : Nat} (h : 33 ≤ c ∧ c ≤ 126) : ltS ⟨#[c]⟩ (Str.ofString "0") = decide (c < 48) ∧ ltS (Str.ofString "9") ⟨#[c]⟩ = decide (57 < c) := by
  have : ∀ j : Fin 94, ltS ⟨#[33 + j.1]⟩ (Str.ofString "0") = decide (33 + j.1 < 48) ∧ ltS (Str.ofString "9") ⟨#[33 + j.1]⟩ = decide (57 < 33 + j.1) := by decide +kernel
  have := this ⟨c - 33, by omega⟩
  simpa [show 33 + (c - 33) = c by omega] using this
abbrev dg (c : Nat) : Bool := decide (48 ≤ c ∧ c ≤ 57)
def sp_p_is_number : P3 := fun ws G R => ∃ w : Str, ws = [.str w] ∧ wOk w ∧ ∀ G', Sm G G' → R (.bl (isNumB w)) G'
theorem len_p_is_number {ws : List Z} {G : Hq} {R : K3} (h : sp_p_is_number ws G R) : ws.length = 1 := by obtain ⟨_, rfl, _⟩ := h; rfl
theorem ok_p_is_number {P : Program} {w : World} {K : PySem.W.Frag} {mg : Str → Option Value} {base : Heap} {a : Ad} (F : Fns K a) (T : Txt w K mg a) : FnOk P w K mg base CX0 1 a.f_p_is_number a.d_p_is_number ["word"] (lowP K sp_p_is_number) := by
  refine fn3 F.p_is_number sc_p_is_number (fun ws G R h => (by exact len_p_is_number h)) (fun cdv A outer s H E ws G R hr h => ?_)
  have hu : (A.deeper (PyProof.Rows.envOfC "is_number" (defScope s_p_is_number) s.heap.objs.size a.f_p_is_number cdv)).units + 66 < cLine := by have := hr.un; omega
  refine ⟨_, (z_cons (z_if (QW.qt (q_or (q_cmpT o_gt (q_callB b_len rfl T.b_len PySem.boot_len (q_cons (q_var (pv 0)) q_nil se_Name) (he := se_Name) (hpl := hp_nil)) (q_gint (pe_globI rfl T.c_MOST_FIGURES)) (nomark _)) (q_or1 (QW.qt (q_and (q_cmpT (o_eq hu) (q_ix x_ix (q_var (pv 0)) q_int (fun _ _ => rfl)) q_str (nomark _)) (q_and1 (q_cmpT (o_ne hu) (q_var (pv 0)) q_str (nomark _))))))))
    (z_one (z_ret q_bl))
    z_nil)
    (z_one (z_ret (q_callB (b_all rfl) rfl T.b_all rfl (q_cons (q_lc (N₀ := ["word"]) (so := defScope s_p_is_number) (N' := ["sign"]) (cap := [none]) (pt := (.nm 0)) rfl rfl rfl (by decide +kernel) rfl (it_str (q_var (pv 0))) (fun _ _ _ _ => (show QP _ _ (.nm 0) from (pg_name (i := 0) (show List.Nodup (α := Str) ["sign"] from by decide +kernel) rfl (Or.inl rfl)))) (fun _ _ _ _ => ifs_nil) (fun _ _ _ _ => (q_chain o_le o_le q_str (q_var (pv 0)) q_str))) q_nil se_ListComp) (he := se_ListComp) (hpl := hp_nil))))), ?_⟩
  obtain ⟨s, rfl, hw, q⟩ := h
  obtain ⟨c, r, ec⟩ : ∃ c r, s.cps.toList = c :: r := by
    cases e : s.cps.toList with
    | nil => have := hw.1; rw [e] at this; simp at this
    | cons c r => exact ⟨c, r, rfl⟩
  have hl := hw.2.1
  have c0 : (⟨#[c]⟩ : Str) = Str.ofString "0" ↔ c = 48 := ⟨zero_one, fun z => by rw [z]; decide +kernel⟩
  unfold isNumB at q
  walk_at "go"
  refine i_lenS (sizeW hw) ?_
  walk_at "go"
  by_cases h13 : 13 < s.length
  · rw [if_pos h13] at q
    rw [decide_eq_true (show (13 : Int) < (s.length : Int) by omega)]
    walk_at "go"
    exact q _ (Sm.refl _)
  rw [if_neg h13] at q
  rw [decide_eq_false (show ¬ ((13 : Int) < (s.length : Int)) by omega)]
  walk_at "go"
  refine i_ixS (sizeW hw) (by rw [ec]; exact at0) ?_
  walk_at "go"
  have e0 : (chs s).head? = some c := by show s.cps.toList.head? = _; rw [ec]; rfl
  rw [e0] at q
  by_cases cd : c = 48 ∧ s ≠ Str.ofString "0"
  · rw [if_pos ⟨by rw [cd.1], cd.2⟩] at q
    rw [decide_eq_true (c0.mpr cd.1)]
    refine ifT ?_
    walk_at "go"
    rw [decide_eq_false cd.2]
    refine ifT ?_
    walk_at "go"
    exact q _ (Sm.refl _)
  rw [if_neg (fun z => cd ⟨Option.some.inj z.1, z.2⟩)] at q
  refine ifD (fun z => ?A) fun _ => ?B
  case' A =>
    walk_at "go"
    rw [decide_eq_true (show s = Str.ofString "0" from Classical.byContradiction fun n => cd ⟨c0.mp z, n⟩)]
    refine ifF ?_
  all_goals
    walk_at "go"
    intro D hD
    refine lc_by (fun i ys G' => ys = ((s.cps.toList.take i).map dg).map Z.bl ∧ G' = put G D (.lst ys)) ⟨rfl, rfl⟩ (by rintro _ _ _ _ _; exact True.intro) ?_ ?_
    · rintro i x ys G' hx ⟨rfl, rfl⟩
      have hi : i < (signs s).length := (List.getElem?_eq_some_iff.mp hx).1
      unfold signs at hx hi
      rw [List.length_map] at hi
      rw [List.getElem?_map] at hx
      cases hc : s.cps.toList[i]? with
      | none => rw [hc] at hx; cases hx
      | some d =>
      rw [hc] at hx
      cases hx
      have dd := sign_cmp (hw.2.2 d (List.mem_of_getElem? hc))
      have fin : ∀ b : Bool, dg d = b → ((s.cps.toList.take i).map dg).map Z.bl ++ [.bl b] = ((s.cps.toList.take (i + 1)).map dg).map Z.bl := fun b hb => by rw [take_snoc hc, List.map_append, List.map_append, ← hb]; rfl
      refine ⟨_, rfl, ?_⟩
      walk_at "go"
      rw [dd.1]
      by_cases h1 : d < 48
      · rw [decide_eq_true h1]
        refine ifF ?_
        exact ⟨put_same, by rw [List.length_map, List.length_map, List.length_take]; exact small1000 (by omega), fin false (decide_eq_false (by omega)), by rw [put_put]⟩
      · rw [decide_eq_false h1]
        refine ifT ?_
        walk_at "go"
        rw [dd.2]
        exact ⟨put_same, by rw [List.length_map, List.length_map, List.length_take]; exact small1000 (by omega), fin _ (by by_cases h2 : 57 < d <;> simp [dg, h2] <;> omega), by rw [put_put]⟩
    · rintro ys G' ⟨rfl, rfl⟩
      walk_at "go"
      refine i_all (bs := (s.cps.toList.take (signs s).length).map dg) put_same ?_
      rw [show (signs s).length = s.cps.toList.length by unfold signs; rw [List.length_map], List.take_length, List.all_map]
      exact q _ (Sm.new hD)
def sp_p_part_of (a : Ad) : PX3 := fun ws G R EE => ∃ w k : Str, ws = [.str w, .str k] ∧ wOk w ∧ ((∃ z, Rd k w z ∧ ∀ G', Sm G G' → R z G') ∨ (Bad k w ∧ ∀ G', Sm G G' → EE a.x_NoRow G'))
theorem len_p_part_of {a : Ad} {ws : List Z} {G : Hq} {R : K3} {EE : Addr → Hq → Prop} (h : sp_p_part_of a ws G R EE) : ws.length = 2 := by obtain ⟨_, _, rfl, _⟩ := h; rfl
theorem ok_p_part_of {P : Program} {w : World} {K : PySem.W.Frag} {mg : Str → Option Value} {base : Heap} {a : Ad} (F : Fns K a) (T : Txt w K mg a) : FnOk P w K mg base (CXx P w) 2 a.f_p_part_of a.d_p_part_of ["word", "kind"] (lowPx K (sp_p_part_of a)) := by
  have G_p_is_number : FnOk P w K mg base CX0 1 a.f_p_is_number a.d_p_is_number ["word"] (lowP K sp_p_is_number) := ok_p_is_number F T
  refine fn3x F.p_part_of sc_p_part_of (fun ws G R EE h => (by exact len_p_part_of h)) (fun cdv A outer s H E ws G R EE hr h ux => ?_)
  have hu : (A.deeper (PyProof.Rows.envOfC "part_of" (defScope s_p_part_of) s.heap.objs.size a.f_p_part_of cdv)).units + 66 < cLine := by have := hr.un; omega
  refine ⟨_, (z_cons (z_if (q_cmpT (o_eq hu) (q_var (pv 1)) q_str (nomark _))
    (z_one (z_ret (q_var (pv 0))))
    z_nil)
    (z_cons (z_if (q_cmpT (o_eq hu) (q_var (pv 0)) (q_getK rfl T.c_FOR_NONE T.d_FOR_NONE.at (q_cons (q_var (pv 1)) q_nil se_Name)) (nomark _))
    (z_one (z_ret q_non))
    z_nil)
    (z_cons (z_if (q_notT (q_val (q_call G_p_is_number (hr.mono (by decide)) rfl T.m_p_is_number T.k_p_is_number (b_p_is_number F) (q_cons (q_var (pv 0)) q_nil se_Name) (he := se_Name) (hpl := hp_nil))))
    (z_one (z_raise Outs.of ux rfl rfl T.x_NoRow T.xi_NoRow q_str se_Constant hp_nil))
    z_nil)
    (z_one (z_ret (q_callTy b_int rfl T.b_int rfl (q_cons (q_var (pv 0)) q_nil se_Name) (he := se_Name) (hpl := hp_nil))))))), ?_⟩
  obtain ⟨w, k, rfl, hw, h⟩ := h
  have g1 : (valZ [(.inr (Str.ofString "end"), .str (Str.ofString "-")), (.inr (Str.ofString "knowing"), .str (Str.ofString "now"))] (.inr (Str.ofString "end"))).getD .non = .str dash := by decide +kernel
  have g2 : (valZ [(.inr (Str.ofString "end"), .str (Str.ofString "-")), (.inr (Str.ofString "knowing"), .str (Str.ofString "now"))] (.inr (Str.ofString "moment"))).getD .non = .non := by decide +kernel
  have n1 : Str.ofString "end" ≠ Str.ofString "word" := by decide +kernel
  have n2 : Str.ofString "moment" ≠ Str.ofString "word" := by decide +kernel
  by_cases hk : k = Str.ofString "word"
  · subst hk
    rcases h with ⟨z, hr, q⟩ | ⟨⟨_, hk | ⟨hk, _⟩⟩, q⟩
    · cases hr with
      | word =>
        walk_at "go"
        refine ifD (fun _ => ?_) fun z => absurd rfl z
        walk_at "go"
        exact q _ (Sm.refl _)
      | num hk _ =>
        rcases hk with hk | hk
        · exact absurd hk.symm n2
        · exact absurd hk.symm n1
    · exact absurd hk.symm n2
    · exact absurd hk.symm n1
  · walk_at "go"
    refine ifD (fun z => absurd z hk) fun _ => ?_
    walk_at "go"
    refine i_getK ?_
    walk_at "go"
    refine ⟨_, _, rfl, rfl, ?_⟩
    rcases h with ⟨z, hr, q⟩ | ⟨⟨hb, hk2⟩, q⟩
    · cases hr with
      | word => exact absurd rfl hk
      | non =>
        rw [g1]
        walk_at "go"
        refine ifD (fun _ => ?_) fun z => absurd rfl z
        walk_at "go"
        exact q _ (Sm.refl _)
      | @num _ n hk2 hn =>
        have tail : ∀ {G' : Hq}, True := fun {_} => True.intro
        rcases hk2 with rfl | rfl
        · rw [g2]
          walk_at "go"
          refine zEq_gen (w_flat hw) rfl ?_
          walk_at "go"
          refine ifD (fun z => by cases z) fun _ => ?_
          walk_at "go"
          refine ⟨num n, rfl, hw, fun G' s => ?_⟩
          rw [isNum_num hn]
          walk_at "go"
          refine ifF ?_
          walk_at "go"
          exact ⟨_, num_reads hn, by rw [len_s]; have := hw.2.1; omega, q _ s⟩
        · rw [g1]
          walk_at "go"
          refine ifD (fun z => absurd z (num_dash n)) fun _ => ?_
          walk_at "go"
          refine ⟨num n, rfl, hw, fun G' s => ?_⟩
          rw [isNum_num hn]
          walk_at "go"
          refine ifF ?_
          walk_at "go"
          exact ⟨_, num_reads hn, by rw [len_s]; have := hw.2.1; omega, q _ s⟩
    · rcases hk2 with rfl | ⟨rfl, nd⟩
      · rw [g2]
        walk_at "go"
        refine zEq_gen (w_flat hw) rfl ?_
        walk_at "go"
        refine ifD (fun z => by cases z) fun _ => ?_
        walk_at "go"
        refine ⟨w, rfl, hw, fun G' s => ?_⟩
        rw [hb]
        walk_at "go"
        refine ifT ?_
        walk_at "go"
        exact q _ s
      · rw [g1]
        walk_at "go"
        refine ifD (fun z => absurd z nd) fun _ => ?_
        walk_at "go"
        refine ⟨w, rfl, hw, fun G' s => ?_⟩
        rw [hb]
        walk_at "go"
        refine ifT ?_
        walk_at "go"
        exact q _ s
def formsD (a : Ad) : O := .dK [(.inr (Str.ofString "put"), .ref a.tp_FORMS_0), (.inr (Str.ofString "clear"), .ref a.tp_FORMS_1)]
theorem form_wOk {k : Str} {ks : List Str} (h : Form k ks) : wOk k ∧ ks.length ≤ 5 ∧ 1 ≤ ks.length := by
  rcases h with ⟨rfl, rfl⟩ | ⟨rfl, rfl⟩
  · refine ⟨?_, by decide, by decide⟩
    rw [wOk, show (Str.ofString "put").cps.toList = [112, 117, 116] by decide +kernel]; simp
  · refine ⟨?_, by decide, by decide⟩
    rw [wOk, show (Str.ofString "clear").cps.toList = [99, 108, 101, 97, 114] by decide +kernel]; simp
theorem form_at {a : Ad} {k : Str} {ks : List Str} (nd : decide (List.Nodup (α := Nat) [a.tp_FORMS_0, a.tp_FORMS_1]) = true) (h : Form k ks) : ∃ p : Addr, valZ [(.inr (Str.ofString "put"), .ref a.tp_FORMS_0), (.inr (Str.ofString "clear"), .ref a.tp_FORMS_1)] (.inr k) = some (.ref p) ∧
    ([(a.tp_FORMS_0, ["word", "word", "word", "moment", "end"]), (a.tp_FORMS_1, ["word", "word", "moment", "end"])] : List (Addr × List Str)).lookup p = some ks := by
  have ne : a.tp_FORMS_0 ≠ a.tp_FORMS_1 := by
    have := of_decide_eq_true nd
    simpa using this
  rcases h with ⟨rfl, rfl⟩ | ⟨rfl, rfl⟩
  · refine ⟨a.tp_FORMS_0, ?_, ?_⟩
    · unfold valZ
      rw [List.find?_cons, decide_eq_true rfl]; rfl
    · rw [List.lookup_cons, beq_self_eq_true]
  · refine ⟨a.tp_FORMS_1, ?_, ?_⟩
    · unfold valZ
      rw [List.find?_cons, decide_eq_false (show ¬ ((Sum.inr (Str.ofString "put") : Key) = .inr (Str.ofString "clear")) by decide +kernel), List.find?_cons, decide_eq_true rfl]; rfl
    · rw [List.lookup_cons, show (a.tp_FORMS_1 == a.tp_FORMS_0) = false by simpa using Ne.symm ne, List.lookup_cons, beq_self_eq_true]
theorem strs_flat {ns : List Str} (h : ∀ s ∈ ns, wOk s) : (ns.map Z.str).all (flat 8) = true := by
  rw [List.all_eq_true]
  intro x hx
  obtain ⟨s, hs, rfl⟩ := List.mem_map.mp hx
  exact w_flat (h s hs)
theorem cut_head {α : Type} {x : α} {xs : List α} : cutZ (x :: xs) none (some 1) = [x] := by
  unfold cutZ
  have h1 := HT.sIx_nat (x :: xs).length (x :: xs).length 1
  have h2 : HT.sIx (x :: xs).length 0 none = 0 := rfl
  rw [h2, show ((1 : Int)) = ((1 : Nat) : Int) from rfl, h1]
  have : Nat.min 1 (x :: xs).length = 1 := by simp [Nat.min_def]
  simp
theorem cut_tail {α : Type} {x : α} {xs : List α} : cutZ (x :: xs) (some 1) none = xs := by
  unfold cutZ
  have h1 := HT.sIx_nat (x :: xs).length 0 1
  have h2 : HT.sIx (x :: xs).length (x :: xs).length none = (x :: xs).length := rfl
  rw [h2, show ((1 : Int)) = ((1 : Nat) : Int) from rfl, h1]
  simp
theorem zip2 {xs ys : List Z} {i : Nat} {w : Z} (h : (zipZ [xs, ys])[i]? = some w) : ∃ a b, w = .tup [a, b] ∧ xs[i]? = some a ∧ ys[i]? = some b := by
  obtain ⟨vs, rfl, e⟩ := (zipZ_get _ (by simp) i w).mp h
  match vs, e with
  | [a, b], e =>
    simp only [List.map_cons, List.map_nil, List.cons.injEq, and_true] at e
    exact ⟨a, b, rfl, e.1, e.2⟩
  | [], e => simp at e
  | [a], e => simp at e
  | _ :: _ :: _ :: _, e => simp at e
theorem zip2_len {xs ys : List Z} (h : xs.length = ys.length) : (zipZ [xs, ys]).length = xs.length := by
  unfold zipZ
  rw [List.length_zipWith]
  unfold zipZ
  rw [List.length_map, ← h, Nat.min_self]
theorem strs_inj : ∀ {x y : List Str}, x.map Z.str = y.map Z.str → x = y
  | [], [], _ => rfl
  | [], _ :: _, h => nomatch h
  | _ :: _, [], h => nomatch h
  | x :: xs, y :: ys, h => by
    obtain ⟨h1, h2⟩ := List.cons.inj h
    rw [Z.str.inj h1, strs_inj h2]
theorem form_none {a : Ad} {w : Str} (h1 : w ≠ Str.ofString "put") (h2 : w ≠ Str.ofString "clear") : valZ [(.inr (Str.ofString "put"), .ref a.tp_FORMS_0), (.inr (Str.ofString "clear"), .ref a.tp_FORMS_1)] (.inr w) = none := by
  unfold valZ
  rw [List.find?_cons, decide_eq_false (show ¬ ((Sum.inr (Str.ofString "put") : Key) = .inr w) from fun z => h1 (Sum.inr.inj z).symm), List.find?_cons, decide_eq_false (show ¬ ((Sum.inr (Str.ofString "clear") : Key) = .inr w) from fun z => h2 (Sum.inr.inj z).symm)]
  rfl
theorem form_len {k : Str} {ks : List Str} (h : Form k ks) : FormK (chs k) ks.length := by
  rcases h with ⟨rfl, rfl⟩ | ⟨rfl, rfl⟩
  · exact .inl ⟨rfl, rfl⟩
  · exact .inr ⟨rfl, rfl⟩
theorem form_chs {k : Str} {ks : List Str} (h : Form k ks) : 32 ∉ chs k := no32 (form_wOk h).1
def sp_p_parts_in (a : Ad) : PX3 := fun ws G R EE => ∃ (p : Addr) (row : Str), ws = [.str row, .ref p] ∧ G p = some (formsD a) ∧ ((BadRow row ∧ ∀ G', Sm G G' → EE a.x_NoRow G') ∨
  Ex4 fun (k : Str) (ks wd : List Str) (zs : List Z) => row = joinB (k :: wd) ∧ Form k ks ∧ (∀ s ∈ wd, wOk s) ∧ Rds ks wd zs ∧ ∀ (t : Addr) (G' : Hq), G t = none → Sm G G' → G' t = some (.lst (.str k :: zs)) → R (.ref t) G')
theorem len_p_parts_in {a : Ad} {ws : List Z} {G : Hq} {R : K3} {EE : Addr → Hq → Prop} (h : sp_p_parts_in a ws G R EE) : ws.length = 2 := by obtain ⟨_, _, rfl, _⟩ := h; rfl
theorem ok_p_parts_in {P : Program} {w : World} {K : PySem.W.Frag} {mg : Str → Option Value} {base : Heap} {a : Ad} (F : Fns K a) (T : Txt w K mg a) : FnOk P w K mg base (CXx P w) 3 a.f_p_parts_in a.d_p_parts_in ["row", "forms"] (lowPx K (sp_p_parts_in a)) := by
  have G_p_part_of : FnOk P w K mg base (CXx P w) 2 a.f_p_part_of a.d_p_part_of ["word", "kind"] (lowPx K (sp_p_part_of a)) := ok_p_part_of F T
  refine fn3x F.p_parts_in sc_p_parts_in (fun ws G R EE h => (by exact len_p_parts_in h)) (fun cdv A outer s H E ws G R EE hr h ux => ?_)
  have hu : (A.deeper (PyProof.Rows.envOfC "parts_in" (defScope s_p_parts_in) s.heap.objs.size a.f_p_parts_in cdv)).units + 66 < cLine := by have := hr.un; omega
  refine ⟨_, (z_cons (z_set (i := 2) sc_p_parts_in.nd rfl (Or.inl rfl) (q_bm PySem.F.plainAttrs_str PySem.F.slot_str_split PySem.F.type_str_split m_split1 (q_var (pv 0)) (q_cons q_str q_nil se_Constant)))
    (z_cons (z_if (QW.qt (q_or (q_cmpT (o_ne hu) (q_var (pv 2)) (q_bm0 PySem.F.plainAttrs_str PySem.F.slot_str_split PySem.F.type_str_split m_split0 (q_var (pv 0))) (nomark _)) (q_or (q_cmpT (o_dNotIn hu) (q_ix x_ix (q_var (pv 2)) q_int (fun _ _ => rfl)) (q_var (pv 1)) (by with_unfolding_all rfl)) (q_or1 (q_cmpT (o_ne hu) (q_callB b_len rfl T.b_len PySem.boot_len (q_cons (q_var (pv 2)) q_nil se_Name) (he := se_Name) (hpl := hp_nil)) (q_op o_add (q_callB (b_lenK T.tt_FORMS) rfl T.b_len PySem.boot_len (q_cons (q_ix x_dix (q_var (pv 1)) (q_ix x_ix (q_var (pv 2)) q_int (fun _ _ => rfl)) (fun _ _ => rfl)) q_nil se_Subscript) (he := se_Subscript) (hpl := hp_nil)) q_int) (nomark _))))))
    (z_one (z_raise Outs.of ux rfl rfl T.x_NoRow T.xi_NoRow q_str se_Constant hp_nil))
    z_nil)
    (z_one (z_ret (q_op o_add (q_slice x_sl (q_var (pv 2)) q_nopart (q_part q_int)) (q_lcX (compOut_x Outs.of) (N₀ := ["row", "forms", "words"]) (so := defScope s_p_parts_in) (N' := ["word", "kind"]) (cap := [none, none]) (pt := (.tp [0, 1])) rfl rfl rfl (by decide +kernel) rfl (it_zipT T.tt_FORMS [false, true] (n := 2) zok2 (by decide) rfl T.b_zip (q_cons (q_slice x_sl (q_var (pv 2)) (q_part q_int) q_nopart) (q_cons (q_ix x_dix (q_var (pv 1)) (q_ix x_ix (q_var (pv 2)) q_int (fun _ _ => rfl)) (fun _ _ => rfl)) q_nil se_Subscript) se_Subscript) (he := se_Subscript) (hpl := (hp_cons se_Subscript hp_nil))) (fun _ _ _ _ => (show QP _ _ (.tp [0, 1]) from (pg_tup rfl (pgs_cons (pg_name (i := 0) (show List.Nodup (α := Str) ["word", "kind"] from by decide +kernel) rfl (Or.inl rfl)) (pgs_cons (pg_name (i := 1) (show List.Nodup (α := Str) ["word", "kind"] from by decide +kernel) rfl (Or.inl rfl)) pgs_nil))))) (fun _ _ _ _ => ifs_nil) (fun _ _ _ _ => (q_callX passes_c ux.since G_p_part_of (hr.mono (by decide)) rfl T.m_p_part_of T.k_p_part_of (b_p_part_of F) (q_cons (q_var (pv 0)) (q_cons (q_var (pv 1)) q_nil se_Name) se_Name) (he := se_Name) (hpl := (hp_cons se_Name hp_nil)))))))))), ?_⟩
  obtain ⟨p, row, rfl, hp, h⟩ := h
  rcases h with ⟨hb, q⟩ | ⟨k, ks, wd, zs, rfl, hf, hw, hr, q⟩
  · have hsl := split_len row
    obtain ⟨w0, wt, hsp, hhd⟩ := split_head row
    have hcl : ∀ s ∈ Txt.split row bl1, ∀ c ∈ chs s, c ≤ 126 := fun s hs c hc => hb.low c (split_chars hs hc)
    have hwa := words_all hb.low
    have hcn : (chs row).count 32 ≤ 400 := Nat.le_trans List.count_le_length hb.len
    have hrl : row.length ≤ 400 := by rw [len_s]; exact hb.len
    have hlen := hb.len
    have why := hb.why
    have hj : ∀ {k : Str} {ks wd : List Str}, BadD row k ks wd → Txt.split row bl1 = k :: wd := fun {k ks wd} d => by
      rw [d.row]
      exact split_join2 (by simp) fun s hs => by
        rcases List.mem_cons.mp hs with rfl | hs
        · exact form_chs d.form
        · exact d.free s hs
    generalize hws : Txt.split row bl1 = ws at hsl hsp hcl hj
    generalize hvs : PySem.Txt.words row = vs at hwa
    have fl1 := flats hcl
    have fl2 := flats fun s hs c hc => (hwa.1 s hs).2 c hc
    walk_at "go"
    refine ⟨ws, by decide, hws, by omega, by omega, fun t ht => ?_⟩
    walk_at "go"
    refine ⟨vs, hvs, by omega, by omega, fun u hu => ?_⟩
    walk_at "go"
    refine i_eqL (put_old put_same hu) put_same fl1 fl2 ?_
    have s2 : Sm G (put (put G t (.lst (ws.map Z.str))) u (.lst (vs.map Z.str))) := (Sm.new ht).trans (Sm.new hu)
    have g2 : put (put G t (.lst (ws.map Z.str))) u (.lst (vs.map Z.str)) t = some (.lst (ws.map Z.str)) := put_old put_same hu
    generalize put (put G t (.lst (ws.map Z.str))) u (.lst (vs.map Z.str)) = G2 at g2 s2 ⊢
    have hp2 := s2 _ _ hp
    by_cases hE : ws.map Z.str = vs.map Z.str
    case neg =>
      rw [decide_eq_false hE]
      walk_at "go"
      refine ifT ?_
      walk_at "go"
      exact q _ s2
    rw [decide_eq_true hE]
    have hE : ws = vs := strs_inj hE
    have hne : ∀ s ∈ ws, chs s ≠ [] := fun s hs z => (hwa.1 s (hE ▸ hs)).1 (by rw [len_s, show s.cps.toList = [] from z]; rfl)
    subst hsp
    walk_at "go"
    refine ifF ?_
    walk_at "go"
    refine i_ixL g2 at0 ?_
    walk_at "go"
    refine ⟨_, .inr w0, hp2, rfl, ?_⟩
    by_cases hw0 : ∃ ks, Form w0 ks
    case neg =>
      rw [form_none (fun z => hw0 ⟨_, .inl ⟨z, rfl⟩⟩) (fun z => hw0 ⟨_, .inr ⟨z, rfl⟩⟩)]
      walk_at "go"
      refine ifT ?_
      walk_at "go"
      exact q _ s2
    obtain ⟨ks, hf⟩ := hw0
    obtain ⟨tp, e1, e2⟩ := form_at T.nd_FORMS hf
    have hk5 := (form_wOk hf).2.1
    rw [e1]
    walk_at "go"
    refine ifF ?_
    walk_at "go"
    refine i_lenL g2 ?_
    walk_at "go"
    refine i_ixL g2 at0 ?_
    walk_at "go"
    refine i_dix hp2 rfl e1 ?_
    walk_at "go"
    refine ⟨ks, e2, ?_⟩
    walk_at "go"
    by_cases hl : wt.length = ks.length
    case neg =>
      rw [decide_eq_false (show ¬ ((((w0 :: wt).map Z.str).length : Int) = (ks.length : Int) + 1) by rw [List.length_map, List.length_cons]; omega)]
      walk_at "go"
      refine ifT ?_
      walk_at "go"
      exact q _ s2
    rw [decide_eq_true (show (((w0 :: wt).map Z.str).length : Int) = (ks.length : Int) + 1 by rw [List.length_map, List.length_cons]; omega)]
    obtain ⟨hw, dec, jb, kb, vb, b1, b2, b3⟩ : (∀ s ∈ wt, wOk s) ∧ (∀ (j : Nat) (k1 w1 : Str), ks[j]? = some k1 → wt[j]? = some w1 → (∃ z, Rd k1 w1 z) ∨ Bad k1 w1) ∧ ∃ (j : Nat) (k1 w1 : Str), ks[j]? = some k1 ∧ wt[j]? = some w1 ∧ Bad k1 w1 := by
      rcases why with n | ⟨k, ks', wd, d⟩
      · refine absurd ?_ n
        have e := form_len hf
        rw [hhd, ← hl] at e
        rw [List.length_cons] at hsl
        rw [show (chs row).count 32 = wt.length by omega]
        exact e
      · obtain ⟨rfl, rfl⟩ := List.cons.inj (hj d)
        have ek : ks' = ks := by
          rcases d.form with ⟨x1, x2⟩ | ⟨x1, x2⟩ <;> rcases hf with ⟨y1, y2⟩ | ⟨y1, y2⟩
          · rw [x2, y2]
          · exact absurd (x1.symm.trans y1) (by decide +kernel)
          · exact absurd (x1.symm.trans y1) (by decide +kernel)
          · rw [x2, y2]
        subst ek
        rcases d.why with ⟨s, hs, z⟩ | z
        · exact absurd z (hne s (.tail _ hs))
        · exact z
    walk_at "go"
    refine ifF ?_
    walk_at "go"
    refine i_slL g2 fun v hv => ?_
    rw [List.map_cons, cut_head]
    walk_at "go"
    refine i_iZipT ?_
    walk_at "go"
    refine i_slL (put_old g2 hv) fun x hx => ?_
    rw [List.map_cons, cut_tail]
    have gx : put (put G2 v (.lst [.str w0])) x (.lst (wt.map Z.str)) x = some (.lst (wt.map Z.str)) := put_same
    have s3 : Sm G2 (put (put G2 v (.lst [.str w0])) x (.lst (wt.map Z.str))) := (Sm.new hv).trans (Sm.new hx)
    generalize put (put G2 v (.lst [.str w0])) x (.lst (wt.map Z.str)) = G3 at gx s3 ⊢
    walk_at "go"
    refine i_ixL (s3 _ _ g2) at0 ?_
    walk_at "go"
    refine i_dix (s3 _ _ hp2) rfl e1 ?_
    walk_at "go"
    have ok : ∀ G' : Hq, G' x = some (.lst (wt.map Z.str)) → (([false, true] : List Bool).zip [Z.ref x, .ref tp]).map (srcT [(a.tp_FORMS_0, ["word", "word", "word", "moment", "end"]), (a.tp_FORMS_1, ["word", "word", "moment", "end"])] G') = [wt.map Z.str, ks.map Z.str].map some := fun G' e => by
      show [srcZ G' (.ref x), srcK _ (.ref tp)] = _
      rw [srcK_of e2, show srcZ G' (.ref x) = some (wt.map Z.str) by simp [srcZ, e]]
      rfl
    refine ⟨[wt.map Z.str, ks.map Z.str], ok _ gx, by simp, rfl, rfl, ?_⟩
    have zl : (zipZ [wt.map Z.str, ks.map Z.str]).length = ks.length := by rw [zip2_len (by rw [List.length_map, List.length_map, hl]), List.length_map, hl]
    intro D hD
    refine lc_by (fun i ys G' => ys.length = i ∧ i ≤ jb ∧ Sm G3 G' ∧ G' D = some (.lst ys)) ⟨rfl, Nat.zero_le _, Sm.new hD, put_same⟩ (by rintro i ys G' _ ⟨_, _, s, _⟩; exact ok _ (s _ _ gx)) ?_ ?_
    · rintro i y ys G' hy ⟨hi, hij, s, gD⟩
      have hin : i < ks.length := by rw [← zl]; exact (List.getElem?_eq_some_iff.mp hy).1
      obtain ⟨a1, b1', rfl, h1, h2⟩ := zip2 hy
      rw [List.getElem?_map] at h1 h2
      cases c1 : wt[i]? with
      | none => rw [c1] at h1; cases h1
      | some w1 =>
      cases c2 : ks[i]? with
      | none => rw [c2] at h2; cases h2
      | some k1 =>
      rw [c1] at h1
      rw [c2] at h2
      cases h1
      cases h2
      refine ⟨_, rfl, ?_⟩
      walk_at "go"
      refine ⟨w1, k1, rfl, hw w1 (List.mem_of_getElem? c1), ?_⟩
      by_cases hbad : Bad k1 w1
      · exact .inr ⟨hbad, fun G5 s5 => q _ (((s2.trans s3).trans s).trans s5)⟩
      · obtain ⟨z, rd⟩ := (dec i k1 w1 c2 c1).resolve_right hbad
        have hne2 : i ≠ jb := fun z => hbad (by
          rw [z, b1] at c2
          rw [z, b2] at c1
          cases c1
          cases c2
          exact b3)
        refine .inl ⟨z, rd, fun G5 s5 => ⟨s5 _ _ gD, by rw [hi]; exact small1000 (by omega), by rw [List.length_append, hi]; rfl, by omega, (s.trans s5).put hD, put_same⟩⟩
    · rintro ys G' ⟨hi, hij, s, gD⟩
      rw [zl] at hij
      have := (List.getElem?_eq_some_iff.mp b1).1
      omega
  · obtain ⟨hk, hk5, hk1⟩ := form_wOk hf
    obtain ⟨tp, e1, e2⟩ := form_at T.nd_FORMS hf
    obtain ⟨hl1, hl2⟩ := hr.len
    have all : ∀ s ∈ k :: wd, wOk s := fun s hs => by
      rcases List.mem_cons.mp hs with rfl | hs
      · exact hk
      · exact hw s hs
    have hsp := split_join (by simp) all
    have hwd := words_join (by simp) all
    have hln := joinB_len all
    rw [List.length_cons] at hln
    have fl := strs_flat all
    generalize joinB (k :: wd) = row at hsp hwd hln ⊢
    walk_at "go"
    refine ⟨k :: wd, by decide, hsp, by omega, by simp; omega, fun t ht => ?_⟩
    walk_at "go"
    refine ⟨k :: wd, hwd, by omega, by simp; omega, fun u hu => ?_⟩
    walk_at "go"
    refine i_eqL (put_old put_same hu) put_same fl fl ?_
    rw [decide_eq_true rfl]
    have g2 : put (put G t (.lst ((k :: wd).map Z.str))) u (.lst ((k :: wd).map Z.str)) t = some (.lst ((k :: wd).map Z.str)) := put_old put_same hu
    have s2 : Sm G (put (put G t (.lst ((k :: wd).map Z.str))) u (.lst ((k :: wd).map Z.str))) := (Sm.new ht).trans (Sm.new hu)
    generalize put (put G t (.lst ((k :: wd).map Z.str))) u (.lst ((k :: wd).map Z.str)) = G2 at g2 s2 ⊢
    have hp2 := s2 _ _ hp
    walk_at "go"
    refine ifF ?_
    walk_at "go"
    refine i_ixL g2 at0 ?_
    walk_at "go"
    refine ⟨_, .inr k, hp2, rfl, ?_⟩
    rw [e1]
    walk_at "go"
    refine ifF ?_
    walk_at "go"
    refine i_lenL g2 ?_
    walk_at "go"
    refine i_ixL g2 at0 ?_
    walk_at "go"
    refine i_dix hp2 rfl e1 ?_
    walk_at "go"
    refine ⟨ks, e2, ?_⟩
    walk_at "go"
    rw [decide_eq_true (show (((k :: wd).map Z.str).length : Int) = (ks.length : Int) + 1 by rw [List.length_map, List.length_cons, hl1]; omega)]
    walk_at "go"
    refine ifF ?_
    walk_at "go"
    refine i_slL g2 fun v hv => ?_
    rw [List.map_cons, cut_head]
    walk_at "go"
    refine i_iZipT ?_
    walk_at "go"
    refine i_slL (put_old g2 hv) fun x hx => ?_
    rw [List.map_cons, cut_tail]
    have gx : put (put G2 v (.lst [.str k])) x (.lst (wd.map Z.str)) x = some (.lst (wd.map Z.str)) := put_same
    have gv : put (put G2 v (.lst [.str k])) x (.lst (wd.map Z.str)) v = some (.lst [.str k]) := put_old put_same hx
    have s3 : Sm G2 (put (put G2 v (.lst [.str k])) x (.lst (wd.map Z.str))) := (Sm.new hv).trans (Sm.new hx)
    generalize put (put G2 v (.lst [.str k])) x (.lst (wd.map Z.str)) = G3 at gx gv s3 ⊢
    walk_at "go"
    refine i_ixL (s3 _ _ g2) at0 ?_
    walk_at "go"
    refine i_dix (s3 _ _ hp2) rfl e1 ?_
    walk_at "go"
    have ok : ∀ G' : Hq, G' x = some (.lst (wd.map Z.str)) → (([false, true] : List Bool).zip [Z.ref x, .ref tp]).map (srcT [(a.tp_FORMS_0, ["word", "word", "word", "moment", "end"]), (a.tp_FORMS_1, ["word", "word", "moment", "end"])] G') = [wd.map Z.str, ks.map Z.str].map some := fun G' e => by
      show [srcZ G' (.ref x), srcK _ (.ref tp)] = _
      rw [srcK_of e2, show srcZ G' (.ref x) = some (wd.map Z.str) by simp [srcZ, e]]
      rfl
    refine ⟨[wd.map Z.str, ks.map Z.str], ok _ gx, by simp, rfl, rfl, ?_⟩
    have zl : (zipZ [wd.map Z.str, ks.map Z.str]).length = zs.length := by rw [zip2_len (by rw [List.length_map, List.length_map, hl1]), List.length_map, hl1, hl2]
    intro D hD
    refine lc_by (fun i ys G' => ys = zs.take i ∧ Sm G3 G' ∧ G' D = some (.lst ys)) ⟨rfl, Sm.new hD, put_same⟩ (by rintro i ys G' _ ⟨_, s, _⟩; exact ok _ (s _ _ gx)) ?_ ?_
    · rintro i y ys G' hy ⟨rfl, s, gD⟩
      have hi : i < zs.length := by rw [← zl]; exact (List.getElem?_eq_some_iff.mp hy).1
      obtain ⟨a1, b1, rfl, h1, h2⟩ := zip2 hy
      rw [List.getElem?_map] at h1 h2
      cases c1 : wd[i]? with
      | none => rw [c1] at h1; cases h1
      | some w1 =>
      cases c2 : ks[i]? with
      | none => rw [c2] at h2; cases h2
      | some k1 =>
      rw [c1] at h1
      rw [c2] at h2
      cases h1
      cases h2
      have c3 := List.getElem?_eq_getElem hi
      have rd := hr.get c2 c1 c3
      rw [take_snoc c3]
      refine ⟨_, rfl, ?_⟩
      walk_at "go"
      refine ⟨w1, k1, rfl, hw w1 (List.mem_of_getElem? c1), .inl ⟨zs[i], rd, fun G5 s5 => ?_⟩⟩
      exact ⟨s5 _ _ gD, by rw [List.length_take]; exact small1000 (by omega), rfl, (s.trans s5).put hD, put_same⟩
    · rintro ys G' ⟨rfl, s, gD⟩
      rw [zl, List.take_length] at gD
      walk_at "go"
      refine i_addL (s _ _ gv) gD (sm1000 (by show 1 + zs.length ≤ 1000; omega)) fun r hr' => ?_
      exact q r _ ((s2.trans (s3.trans s)).free hr') ((s2.trans (s3.trans s)).trans (Sm.new hr')) put_same
theorem cut_two {α : Type} {x y : α} {xs : List α} : cutZ (x :: y :: xs) (some 2) none = xs := by
  unfold cutZ
  have h1 := HT.sIx_nat (x :: y :: xs).length 0 2
  have h2 : HT.sIx (x :: y :: xs).length (x :: y :: xs).length none = (x :: y :: xs).length := rfl
  rw [h2, show ((2 : Int)) = ((2 : Nat) : Int) from rfl, h1]
  simp
def sp_p_telling_in (a : Ad) : PX3 := fun ws G R EE => ∃ row : Str, ws = [.str row] ∧ ((BadRow row ∧ ∀ G', Sm G G' → EE a.x_NoRow G') ∨
  Ex5 fun (nm k : Str) (ks wd : List Str) (zs : List Z) => row = joinB (k :: nm :: wd) ∧ Form k (Str.ofString "word" :: ks) ∧ wOk nm ∧ (∀ s ∈ wd, wOk s) ∧ Rds ks wd zs ∧ ∀ G', Sm G G' → R (.tup [.str nm, .tup (.str k :: zs)]) G')
theorem len_p_telling_in {a : Ad} {ws : List Z} {G : Hq} {R : K3} {EE : Addr → Hq → Prop} (h : sp_p_telling_in a ws G R EE) : ws.length = 1 := by obtain ⟨_, rfl, _⟩ := h; rfl
theorem ok_p_telling_in {P : Program} {w : World} {K : PySem.W.Frag} {mg : Str → Option Value} {base : Heap} {a : Ad} (F : Fns K a) (T : Txt w K mg a) : FnOk P w K mg base (CXx P w) 4 a.f_p_telling_in a.d_p_telling_in ["line"] (lowPx K (sp_p_telling_in a)) := by
  have G_p_parts_in : FnOk P w K mg base (CXx P w) 3 a.f_p_parts_in a.d_p_parts_in ["row", "forms"] (lowPx K (sp_p_parts_in a)) := ok_p_parts_in F T
  refine fn3x F.p_telling_in sc_p_telling_in (fun ws G R EE h => (by exact len_p_telling_in h)) (fun cdv A outer s H E ws G R EE hr h ux => ?_)
  have hu : (A.deeper (PyProof.Rows.envOfC "telling_in" (defScope s_p_telling_in) s.heap.objs.size a.f_p_telling_in cdv)).units + 66 < cLine := by have := hr.un; omega
  refine ⟨_, (z_cons (z_set (i := 1) sc_p_telling_in.nd rfl (Or.inl rfl) (q_callX (passes_x Outs.of) ux.since G_p_parts_in (hr.mono (by decide)) rfl T.m_p_parts_in T.k_p_parts_in (b_p_parts_in F) (q_cons (q_var (pv 0)) (q_cons (q_callTy (b_dictK T.d_FORMS.at) rfl T.b_dict rfl (q_cons (q_gref (pe_globR rfl T.c_FORMS)) q_nil se_Name) (he := se_Name) (hpl := hp_nil)) q_nil se_Call) se_Name) (he := se_Name) (hpl := (hp_cons se_Call hp_nil))))
    (z_one (z_ret (q_tup (q_cons (q_ix x_ix (q_var (pv 1)) q_int (fun _ _ => rfl)) (q_cons (q_callTy b_tuple rfl T.b_tuple rfl (q_cons (q_op o_add (q_slice x_sl (q_var (pv 1)) q_nopart (q_part q_int)) (q_slice x_sl (q_var (pv 1)) (q_part q_int) q_nopart)) q_nil se_BinOp) (he := se_BinOp) (hpl := hp_nil)) q_nil se_Call) se_Subscript))))), ?_⟩
  obtain ⟨row, rfl, h⟩ := h
  rcases h with ⟨hb, q⟩ | ⟨nm, k, ks, wd, zs, rfl, hf, hn, hw, hr, q⟩
  · walk_at "go"
    refine ⟨rfl, fun t ht => ?_⟩
    walk_at "go"
    exact ⟨t, _, rfl, put_same, .inl ⟨hb, fun G' s => q _ ((Sm.new ht).trans s)⟩⟩
  · walk_at "go"
    refine ⟨rfl, fun t ht => ?_⟩
    walk_at "go"
    refine ⟨t, _, rfl, put_same, .inr ⟨k, _, nm :: wd, .str nm :: zs, rfl, hf, fun s hs => ?_, .cons .word hr, fun u G2 hu s2 g2 => ?_⟩⟩
    · rcases List.mem_cons.mp hs with rfl | hs
      · exact hn
      · exact hw s hs
    have hl := hr.len
    have h5 := (form_wOk hf).2.1
    rw [List.length_cons] at h5
    walk_at "go"
    refine i_ixL g2 at1 ?_
    walk_at "go"
    refine i_slL g2 fun v hv => ?_
    rw [cut_head]
    walk_at "go"
    refine i_slL (put_old g2 hv) fun x hx => ?_
    rw [cut_two]
    walk_at "go"
    refine i_addL (put_old put_same hx) put_same (sm1000 (by show 1 + zs.length ≤ 1000; omega)) fun y hy => ?_
    walk_at "go"
    refine ⟨_, put_same, ?_⟩
    walk_at "go"
    refine ⟨lenK rfl, ?_⟩
    exact q _ ((((((Sm.new ht).trans s2).trans (Sm.new hv)).trans (Sm.new hx)).trans (Sm.new hy)))
def W (s : Str) : Prop := (∀ c ∈ chs s, 33 ≤ c ∧ c ≤ 126) ∧ (chs s).length ≤ 20
theorem W.of {s : Str} (h : wOk s) : W s := ⟨h.2.2, h.2.1⟩
theorem W.free {s : Str} (h : W s) : 32 ∉ chs s := fun z => by have := (h.1 32 z).1; omega
theorem join_len : ∀ {ws : List Str}, (∀ s ∈ ws, W s) → (chs (Str.join ⟨#[32]⟩ ws)).length ≤ 21 * ws.length
  | [], _ => by simp [chs, Str.join, Str.empty]
  | [w], h => by have := (h w (.head _)).2; show (chs w).length ≤ 21 * 1; omega
  | w :: v :: ws, h => by
    have h1 := join_len (ws := v :: ws) fun s hs => h s (.tail _ hs)
    have h2 := (h w (.head _)).2
    have h2 : w.cps.toList.length ≤ 20 := h2
    show (Str.join ⟨#[32]⟩ (w :: v :: ws)).cps.toList.length ≤ _
    rw [join_cons2, List.length_append, List.length_cons, List.length_cons (as := v :: ws)]
    have h1 : (Str.join ⟨#[32]⟩ (v :: ws)).cps.toList.length ≤ _ := h1
    omega
theorem join_low {ws : List Str} (h : ∀ s ∈ ws, W s) : ∀ c ∈ chs (joinB ws), c ≤ 126 := fun c hc => by
  rw [joinB_eq] at hc
  rcases join_of_chars hc with rfl | ⟨p, hp, hc⟩
  · decide
  · exact ((h p hp).1 c hc).2
theorem put_clear : chs (Str.ofString "put") ≠ chs (Str.ofString "clear") := by decide +kernel
theorem chs_inj {x y : Str} (h : chs x = chs y) : x = y := str_ext h
theorem formK_not {k : Str} {ks : List Str} {n : Nat} (h : Form k ks) (hn : n ≠ ks.length) : ¬ FormK (chs k) n := by
  rintro (⟨e, z⟩ | ⟨e, z⟩) <;> rcases h with ⟨rfl, rfl⟩ | ⟨rfl, rfl⟩
  · exact hn z
  · exact put_clear e.symm
  · exact put_clear e
  · exact hn z
theorem bad_count {k : Str} {ks rest : List Str} (hf : Form k ks) (hw : ∀ s ∈ rest, W s) (hn : rest.length ≠ ks.length) (hl : rest.length ≤ 10) : BadRow (joinB (k :: rest)) := by
  have hk : W k := .of (form_wOk hf).1
  have all : ∀ s ∈ k :: rest, W s := fun s hs => by
    rcases List.mem_cons.mp hs with rfl | hs
    · exact hk
    · exact hw s hs
  have h1 := join_cnt (ws := k :: rest) (by simp) fun s hs => (all s hs).free
  have h2 := join_len all
  rw [List.length_cons] at h1 h2
  refine ⟨join_low all, by rw [joinB_eq]; omega, .inl ?_⟩
  rw [joinB_eq, join_hd hk.free, show (chs (Str.join ⟨#[32]⟩ (k :: rest))).count 32 = rest.length by omega]
  exact formK_not hf hn
theorem bad_first {f : Str} {rest : List Str} (hf : W f) (hw : ∀ s ∈ rest, W s) (h1 : chs f ≠ chs (Str.ofString "put")) (h2 : chs f ≠ chs (Str.ofString "clear")) (hl : rest.length ≤ 10) : BadRow (joinB (f :: rest)) := by
  have all : ∀ s ∈ f :: rest, W s := fun s hs => by
    rcases List.mem_cons.mp hs with rfl | hs
    · exact hf
    · exact hw s hs
  have h3 := join_len all
  rw [List.length_cons] at h3
  refine ⟨join_low all, by rw [joinB_eq]; omega, .inl ?_⟩
  rw [joinB_eq, join_hd hf.free]
  rintro (⟨e, _⟩ | ⟨e, _⟩)
  · exact h1 e
  · exact h2 e
inductive Dc : List Str → List Str → Prop
  | nil : Dc [] []
  | cons {k w : Str} {ks ws : List Str} : (∃ z, Rd k w z) ∨ Bad k w → Dc ks ws → Dc (k :: ks) (w :: ws)
theorem Dc.get {ks ws : List Str} (h : Dc ks ws) : ∀ {j : Nat} {k w : Str}, ks[j]? = some k → ws[j]? = some w → (∃ z, Rd k w z) ∨ Bad k w := by
  induction h with
  | nil => intro j k w e; simp at e
  | cons h _ ih =>
    intro j k w e1 e2
    cases j with
    | zero => simp at e1 e2; subst e1 e2; exact h
    | succ j => exact ih (j := j) (by simpa using e1) (by simpa using e2)
theorem bad_parts {k : Str} {ks wd : List Str} (hf : Form k ks) (hl : wd.length = ks.length) (hw : ∀ s ∈ wd, W s) (why : (∃ s ∈ wd, chs s = []) ∨ ((∀ s ∈ wd, wOk s) ∧ Dc ks wd ∧ ∃ (j : Nat) (k1 w1 : Str), ks[j]? = some k1 ∧ wd[j]? = some w1 ∧ Bad k1 w1)) : BadRow (joinB (k :: wd)) := by
  have all : ∀ s ∈ k :: wd, W s := fun s hs => by
    rcases List.mem_cons.mp hs with rfl | hs
    · exact .of (form_wOk hf).1
    · exact hw s hs
  have h5 := (form_wOk hf).2.1
  have h3 := join_len all
  rw [List.length_cons] at h3
  refine ⟨join_low all, by rw [joinB_eq]; omega, .inr ⟨k, ks, wd, hf, rfl, hl, fun s hs => (hw s hs).free, ?_⟩⟩
  rcases why with z | ⟨z1, z2, z3⟩
  · exact .inl z
  · exact .inr ⟨z1, fun j k1 w1 e1 e2 => z2.get e1 e2, z3⟩
theorem join_app : ∀ {xs ys : List Str}, xs ≠ [] → ys ≠ [] → chs (Str.join ⟨#[32]⟩ (xs ++ ys)) = chs (Str.join ⟨#[32]⟩ xs) ++ 32 :: chs (Str.join ⟨#[32]⟩ ys)
  | [], _, h, _ => absurd rfl h
  | [x], [], _, h => absurd rfl h
  | [x], y :: ys, _, _ => join_cons2 x y ys
  | x :: x' :: xs, ys, _, h => by
    have := join_app (xs := x' :: xs) (ys := ys) (by simp) h
    show (Str.join ⟨#[32]⟩ (x :: x' :: (xs ++ ys))).cps.toList = (Str.join ⟨#[32]⟩ (x :: x' :: xs)).cps.toList ++ _
    rw [join_cons2, join_cons2, show (Str.join ⟨#[32]⟩ (x' :: (xs ++ ys))).cps.toList = _ from this, List.append_assoc]; rfl
def Line (vs : List Str) : Prop := Ex4 fun (w0 w1 : Str) (b : Nat) (e : Str) => wOk w0 ∧ wOk w1 ∧ b < 20 ∧ (e = dash ∨ ∃ m : Nat, m < 10 ^ 13 ∧ e = num m) ∧ (vs = [Str.ofString "clear", w0, w1, num b, e] ∨ ∃ w2, wOk w2 ∧ vs = [Str.ofString "put", w0, w1, w2, num b, e])
abbrev kW : Str := Str.ofString "word"
abbrev kM : Str := Str.ofString "moment"
abbrev kE : Str := Str.ofString "end"
theorem rd_end {e : Str} (h : e = dash ∨ ∃ m : Nat, m < 10 ^ 13 ∧ e = num m) : wOk e ∧ ∃ z, Rd kE e z := by
  rcases h with rfl | ⟨m, hm, rfl⟩
  · exact ⟨dash_wOk, _, .non⟩
  · exact ⟨num_wOk hm, _, .num (.inr rfl) hm⟩
theorem rd_begin {b : Nat} (h : b < 20) : wOk (num b) ∧ Rd kM (num b) (.int b) := ⟨num_wOk (by omega), .num (.inl rfl) (by omega)⟩
theorem Line.parts {vs : List Str} (h : Line vs) : ∃ (k : Str) (ks rest : List Str), vs = k :: rest ∧ Form k ks ∧ rest.length = ks.length ∧ (∀ s ∈ rest, wOk s) ∧ 4 ≤ ks.length ∧ ks.length ≤ 5 := by
  obtain ⟨w0, w1, b, e, o0, o1, hb, he, h⟩ := h
  have oe := (rd_end he).1
  have ob := (rd_begin hb).1
  rcases h with rfl | ⟨w2, o2, rfl⟩
  · refine ⟨_, _, _, rfl, .inr ⟨rfl, rfl⟩, rfl, fun s hs => ?_, by decide, by decide⟩
    simp only [List.mem_cons, List.not_mem_nil, or_false] at hs
    rcases hs with rfl | rfl | rfl | rfl <;> assumption
  · refine ⟨_, _, _, rfl, .inl ⟨rfl, rfl⟩, rfl, fun s hs => ?_, by decide, by decide⟩
    simp only [List.mem_cons, List.not_mem_nil, or_false] at hs
    rcases hs with rfl | rfl | rfl | rfl | rfl <;> assumption
theorem Line.reads {vs : List Str} (h : Line vs) : Ex5 fun (nm k : Str) (ks wd : List Str) (zs : List Z) => vs = k :: nm :: wd ∧ Form k (kW :: ks) ∧ wOk nm ∧ (∀ s ∈ wd, wOk s) ∧ Rds ks wd zs := by
  obtain ⟨w0, w1, b, e, o0, o1, hb, he, h⟩ := h
  obtain ⟨oe, ze, re⟩ := rd_end he
  obtain ⟨ob, rb⟩ := rd_begin hb
  rcases h with rfl | ⟨w2, o2, rfl⟩
  · refine ⟨w0, _, [kW, kM, kE], [w1, num b, e], _, rfl, .inr ⟨rfl, rfl⟩, o0, fun s hs => ?_, .cons .word (.cons rb (.cons re .nil))⟩
    simp only [List.mem_cons, List.not_mem_nil, or_false] at hs
    rcases hs with rfl | rfl | rfl <;> assumption
  · refine ⟨w0, _, [kW, kW, kM, kE], [w1, w2, num b, e], _, rfl, .inl ⟨rfl, rfl⟩, o0, fun s hs => ?_, .cons .word (.cons .word (.cons rb (.cons re .nil)))⟩
    simp only [List.mem_cons, List.not_mem_nil, or_false] at hs
    rcases hs with rfl | rfl | rfl | rfl <;> assumption
abbrev badNums : List Str := ["01", "00", "10000000000000", "-1", "+1", "1a", "1_0", "1.", "", "00000000000000", "a", "x1", "--"]
theorem bad_nums : ∀ w ∈ badNums, ((∀ c ∈ chs w, 33 ≤ c ∧ c ≤ 126) ∧ (chs w).length ≤ 20) ∧ (chs w = [] ∨ (1 ≤ (chs w).length ∧ isNumB w = false ∧ chs w ≠ chs dash)) := by decide +kernel
theorem Line.end_ {vs : List Str} {w : Str} (h : Line vs) (hw : w ∈ badNums) : BadRow (joinB (cutZ vs none (some (-1)) ++ [w])) := by
  obtain ⟨w0, w1, b, e, o0, o1, hb, he, h⟩ := h
  obtain ⟨ob, rb⟩ := rd_begin hb
  obtain ⟨Ww, hw⟩ := bad_nums w hw
  have Ww : W w := Ww
  rcases h with rfl | ⟨w2, o2, rfl⟩
  · show BadRow (joinB (Str.ofString "clear" :: [w0, w1, num b, w]))
    refine bad_parts (ks := [kW, kW, kM, kE]) (.inr ⟨rfl, rfl⟩) rfl (fun s hs => ?_) ?_
    · simp only [List.mem_cons, List.not_mem_nil, or_false] at hs
      rcases hs with rfl | rfl | rfl | rfl
      · exact .of o0
      · exact .of o1
      · exact .of ob
      · exact Ww
    · rcases hw with z | ⟨z1, z2, z3⟩
      · exact .inl ⟨w, by simp, z⟩
      · have bd : Bad kE w := ⟨z2, .inr ⟨rfl, fun e => z3 (by rw [e])⟩⟩
        refine .inr ⟨fun s hs => ?_, .cons (.inl ⟨_, .word⟩) (.cons (.inl ⟨_, .word⟩) (.cons (.inl ⟨_, rb⟩) (.cons (.inr bd) .nil))), 3, _, _, rfl, rfl, bd⟩
        simp only [List.mem_cons, List.not_mem_nil, or_false] at hs
        rcases hs with rfl | rfl | rfl | rfl
        · exact o0
        · exact o1
        · exact ob
        · exact ⟨z1, Ww.2, Ww.1⟩
  · show BadRow (joinB (Str.ofString "put" :: [w0, w1, w2, num b, w]))
    refine bad_parts (ks := [kW, kW, kW, kM, kE]) (.inl ⟨rfl, rfl⟩) rfl (fun s hs => ?_) ?_
    · simp only [List.mem_cons, List.not_mem_nil, or_false] at hs
      rcases hs with rfl | rfl | rfl | rfl | rfl
      · exact .of o0
      · exact .of o1
      · exact .of o2
      · exact .of ob
      · exact Ww
    · rcases hw with z | ⟨z1, z2, z3⟩
      · exact .inl ⟨w, by simp, z⟩
      · have bd : Bad kE w := ⟨z2, .inr ⟨rfl, fun e => z3 (by rw [e])⟩⟩
        refine .inr ⟨fun s hs => ?_, .cons (.inl ⟨_, .word⟩) (.cons (.inl ⟨_, .word⟩) (.cons (.inl ⟨_, .word⟩) (.cons (.inl ⟨_, rb⟩) (.cons (.inr bd) .nil)))), 4, _, _, rfl, rfl, bd⟩
        simp only [List.mem_cons, List.not_mem_nil, or_false] at hs
        rcases hs with rfl | rfl | rfl | rfl | rfl
        · exact o0
        · exact o1
        · exact o2
        · exact ob
        · exact ⟨z1, Ww.2, Ww.1⟩
theorem dash_no : isNumB dash = false := by decide +kernel
theorem Line.begin_ {vs : List Str} {w : Str} (h : Line vs) (hw : w ∈ badNums ∨ w = dash) : ∃ e, atI vs (-1) = some e ∧ BadRow (joinB (cutZ vs none (some (-2)) ++ [w, e])) := by
  obtain ⟨w0, w1, b, e, o0, o1, hb, he, h⟩ := h
  obtain ⟨oe, ze, re⟩ := rd_end he
  obtain ⟨Ww, hw⟩ : W w ∧ (chs w = [] ∨ (1 ≤ (chs w).length ∧ isNumB w = false)) := by
    rcases hw with hw | rfl
    · obtain ⟨x1, x2⟩ := bad_nums w hw
      refine ⟨x1, ?_⟩
      rcases x2 with z | ⟨z1, z2, _⟩
      · exact .inl z
      · exact .inr ⟨z1, z2⟩
    · exact ⟨.of dash_wOk, .inr ⟨dash_wOk.1, dash_no⟩⟩
  rcases h with rfl | ⟨w2, o2, rfl⟩
  · refine ⟨e, rfl, ?_⟩
    show BadRow (joinB (Str.ofString "clear" :: [w0, w1, w, e]))
    refine bad_parts (ks := [kW, kW, kM, kE]) (.inr ⟨rfl, rfl⟩) rfl (fun s hs => ?_) ?_
    · simp only [List.mem_cons, List.not_mem_nil, or_false] at hs
      rcases hs with rfl | rfl | rfl | rfl
      · exact .of o0
      · exact .of o1
      · exact Ww
      · exact .of oe
    · rcases hw with z | ⟨z1, z2⟩
      · exact .inl ⟨w, by simp, z⟩
      · have bd : Bad kM w := ⟨z2, .inl rfl⟩
        refine .inr ⟨fun s hs => ?_, .cons (.inl ⟨_, .word⟩) (.cons (.inl ⟨_, .word⟩) (.cons (.inr bd) (.cons (.inl ⟨_, re⟩) .nil))), 2, _, _, rfl, rfl, bd⟩
        simp only [List.mem_cons, List.not_mem_nil, or_false] at hs
        rcases hs with rfl | rfl | rfl | rfl
        · exact o0
        · exact o1
        · exact ⟨z1, Ww.2, Ww.1⟩
        · exact oe
  · refine ⟨e, rfl, ?_⟩
    show BadRow (joinB (Str.ofString "put" :: [w0, w1, w2, w, e]))
    refine bad_parts (ks := [kW, kW, kW, kM, kE]) (.inl ⟨rfl, rfl⟩) rfl (fun s hs => ?_) ?_
    · simp only [List.mem_cons, List.not_mem_nil, or_false] at hs
      rcases hs with rfl | rfl | rfl | rfl | rfl
      · exact .of o0
      · exact .of o1
      · exact .of o2
      · exact Ww
      · exact .of oe
    · rcases hw with z | ⟨z1, z2⟩
      · exact .inl ⟨w, by simp, z⟩
      · have bd : Bad kM w := ⟨z2, .inl rfl⟩
        refine .inr ⟨fun s hs => ?_, .cons (.inl ⟨_, .word⟩) (.cons (.inl ⟨_, .word⟩) (.cons (.inl ⟨_, .word⟩) (.cons (.inr bd) (.cons (.inl ⟨_, re⟩) .nil)))), 3, _, _, rfl, rfl, bd⟩
        simp only [List.mem_cons, List.not_mem_nil, or_false] at hs
        rcases hs with rfl | rfl | rfl | rfl | rfl
        · exact o0
        · exact o1
        · exact o2
        · exact ⟨z1, Ww.2, Ww.1⟩
        · exact oe
section
variable {k : Str} {ks rest : List Str}
theorem bad_less (hf : Form k ks) (hl : rest.length = ks.length) (hw : ∀ s ∈ rest, wOk s) (hk : 4 ≤ ks.length ∧ ks.length ≤ 5) {j : Nat} (h1 : 1 ≤ j) (h2 : j < (k :: rest).length) : BadRow (joinB ((k :: rest).take j ++ (k :: rest).drop (j + 1))) := by
  obtain ⟨i, rfl⟩ : ∃ i, j = i + 1 := ⟨j - 1, by omega⟩
  rw [List.length_cons] at h2
  show BadRow (joinB (k :: (rest.take i ++ rest.drop (i + 1))))
  refine bad_count hf (fun s hs => ?_) (by rw [List.length_append, List.length_take, List.length_drop]; omega) (by rw [List.length_append, List.length_take, List.length_drop]; omega)
  rcases List.mem_append.mp hs with hs | hs
  · exact .of (hw s (List.mem_of_mem_take hs))
  · exact .of (hw s (List.mem_of_mem_drop hs))
theorem bad_more (hf : Form k ks) (hl : rest.length = ks.length) (hw : ∀ s ∈ rest, wOk s) (hk : 4 ≤ ks.length ∧ ks.length ≤ 5) {j : Nat} {m : Str} (hm : wOk m) : BadRow (joinB ((k :: rest).take (j + 1) ++ [m] ++ (k :: rest).drop (j + 1))) := by
  show BadRow (joinB (k :: (rest.take j ++ [m] ++ rest.drop j)))
  refine bad_count hf (fun s hs => ?_) (by rw [List.length_append, List.length_append, List.length_take, List.length_drop, List.length_singleton]; omega) (by rw [List.length_append, List.length_append, List.length_take, List.length_drop, List.length_singleton]; omega)
  rcases List.mem_append.mp hs with hs | hs
  · rcases List.mem_append.mp hs with hs | hs
    · exact .of (hw s (List.mem_of_mem_take hs))
    · rw [List.mem_singleton.mp hs]; exact .of hm
  · exact .of (hw s (List.mem_of_mem_drop hs))
theorem W_nil : W (Str.ofString "") := by unfold W; decide +kernel
theorem nil_chs : chs (Str.ofString "") = [] := by decide +kernel
theorem bl_chs : chs (Str.ofString " ") = [32] := by decide +kernel
theorem bl2_chs : chs (Str.ofString "  ") = [32, 32] := by decide +kernel
theorem app_chs (x y : Str) : chs (x ++ y) = chs x ++ chs y := app_list x y
theorem bad_ahead (hf : Form k ks) (hl : rest.length = ks.length) (hw : ∀ s ∈ rest, wOk s) (hk : 4 ≤ ks.length ∧ ks.length ≤ 5) : BadRow (Str.ofString " " ++ joinB (k :: rest) ++ Str.ofString "") := by
  have e : Str.ofString " " ++ joinB (k :: rest) ++ Str.ofString "" = joinB (Str.ofString "" :: k :: rest) := chs_inj (by
    rw [app_chs, app_chs, nil_chs, bl_chs, joinB_eq, joinB_eq, show chs (Str.join ⟨#[32]⟩ (Str.ofString "" :: k :: rest)) = _ from join_cons2 _ _ _, show (Str.ofString "").cps.toList = [] from nil_chs, List.append_nil]; rfl)
  rw [e]
  refine bad_first W_nil (fun s hs => ?_) (by decide +kernel) (by decide +kernel) (by rw [List.length_cons]; omega)
  rcases List.mem_cons.mp hs with rfl | hs
  · exact .of (form_wOk hf).1
  · exact .of (hw s hs)
theorem bad_behind (hf : Form k ks) (hl : rest.length = ks.length) (hw : ∀ s ∈ rest, wOk s) (hk : 4 ≤ ks.length ∧ ks.length ≤ 5) : BadRow (Str.ofString "" ++ joinB (k :: rest) ++ Str.ofString " ") := by
  have e : Str.ofString "" ++ joinB (k :: rest) ++ Str.ofString " " = joinB (k :: (rest ++ [Str.ofString ""])) := chs_inj (by
    rw [app_chs, app_chs, nil_chs, bl_chs, joinB_eq, joinB_eq, List.nil_append, show k :: (rest ++ [Str.ofString ""]) = (k :: rest) ++ [Str.ofString ""] from rfl, join_app (by simp) (by simp), show chs (Str.join ⟨#[32]⟩ [Str.ofString ""]) = [] from nil_chs])
  rw [e]
  refine bad_count hf (fun s hs => ?_) (by rw [List.length_append, List.length_singleton]; omega) (by rw [List.length_append, List.length_singleton]; omega)
  rcases List.mem_append.mp hs with hs | hs
  · exact .of (hw s hs)
  · rw [List.mem_singleton.mp hs]; exact W_nil
theorem bad_two (hf : Form k ks) (hl : rest.length = ks.length) (hw : ∀ s ∈ rest, wOk s) (hk : 4 ≤ ks.length ∧ ks.length ≤ 5) {j : Nat} : BadRow (joinB ((k :: rest).take (j + 1)) ++ Str.ofString "  " ++ joinB ((k :: rest).drop (j + 1))) := by
  have W1 : ∀ s ∈ rest.take j, W s := fun s hs => .of (hw s (List.mem_of_mem_take hs))
  have W2 : ∀ s ∈ rest.drop j, W s := fun s hs => .of (hw s (List.mem_of_mem_drop hs))
  by_cases hd : rest.drop j = []
  · have e : joinB ((k :: rest).take (j + 1)) ++ Str.ofString "  " ++ joinB ((k :: rest).drop (j + 1)) = joinB (k :: (rest.take j ++ [Str.ofString "", Str.ofString ""])) := chs_inj (by
      rw [app_chs, app_chs, bl2_chs, joinB_eq, joinB_eq, joinB_eq, show (k :: rest).drop (j + 1) = rest.drop j from rfl, hd, show k :: (rest.take j ++ [Str.ofString "", Str.ofString ""]) = (k :: rest.take j) ++ [Str.ofString "", Str.ofString ""] from rfl, join_app (by simp) (by simp),
        show chs (Str.join ⟨#[32]⟩ [Str.ofString "", Str.ofString ""]) = [32] by decide +kernel, show chs (Str.join ⟨#[32]⟩ []) = [] from rfl, List.append_nil]; rfl)
    rw [e]
    have hj : rest.length ≤ j := List.drop_eq_nil_iff.mp hd
    refine bad_count hf (fun s hs => ?_) (by rw [List.length_append, List.length_take]; simp; omega) (by rw [List.length_append, List.length_take]; simp; omega)
    rcases List.mem_append.mp hs with hs | hs
    · exact W1 s hs
    · simp only [List.mem_cons, List.not_mem_nil, or_false, or_self] at hs
      rw [hs]; exact W_nil
  · have e : joinB ((k :: rest).take (j + 1)) ++ Str.ofString "  " ++ joinB ((k :: rest).drop (j + 1)) = joinB (k :: (rest.take j ++ (Str.ofString "" :: rest.drop j))) := chs_inj (by
      obtain ⟨d, ds, hds⟩ : ∃ d ds, rest.drop j = d :: ds := List.exists_cons_of_ne_nil hd
      rw [app_chs, app_chs, bl2_chs, joinB_eq, joinB_eq, joinB_eq, show (k :: rest).drop (j + 1) = rest.drop j from rfl, hds, show k :: (rest.take j ++ (Str.ofString "" :: d :: ds)) = (k :: rest.take j) ++ (Str.ofString "" :: d :: ds) from rfl, join_app (by simp) (by simp),
        show chs (Str.join ⟨#[32]⟩ (Str.ofString "" :: d :: ds)) = _ from join_cons2 _ _ _, show (Str.ofString "").cps.toList = [] from nil_chs, List.append_assoc]; rfl)
    rw [e]
    have hj : ¬ rest.length ≤ j := fun z => hd (List.drop_eq_nil_iff.mpr z)
    refine bad_count hf (fun s hs => ?_) (by rw [List.length_append, List.length_take, List.length_cons, List.length_drop]; omega) (by rw [List.length_append, List.length_take, List.length_cons, List.length_drop]; omega)
    rcases List.mem_append.mp hs with hs | hs
    · exact W1 s hs
    · rcases List.mem_cons.mp hs with rfl | hs
      · exact W_nil
      · exact W2 s hs
theorem pc_take : ∀ p : Fin 5, (p.1 < 3 → (chs (Str.ofString "put")).take p.1 ≠ chs (Str.ofString "put") ∧ (chs (Str.ofString "put")).take p.1 ≠ chs (Str.ofString "clear")) ∧ (chs (Str.ofString "clear")).take p.1 ≠ chs (Str.ofString "put") ∧ (chs (Str.ofString "clear")).take p.1 ≠ chs (Str.ofString "clear") := by decide +kernel
theorem bad_any (hf : Form k ks) (hl : rest.length = ks.length) (hw : ∀ s ∈ rest, wOk s) (hk : 4 ≤ ks.length ∧ ks.length ≤ 5) {row : Str} {p : Nat} (hr : chs row = (chs (joinB (k :: rest))).take p ++ 32 :: (chs (joinB (k :: rest))).drop p) : BadRow row := by
  have Wk : W k := .of (form_wOk hf).1
  have all : ∀ s ∈ k :: rest, W s := fun s hs => by
    rcases List.mem_cons.mp hs with rfl | hs
    · exact Wk
    · exact .of (hw s hs)
  have h1 := join_cnt (ws := k :: rest) (by simp) fun s hs => (all s hs).free
  have h2 := join_len all
  have h3 := join_low all
  rw [joinB_eq] at hr h3
  rw [List.length_cons] at h1 h2
  have hc : (chs row).count 32 = rest.length + 1 := by
    have e : (chs (Str.join ⟨#[32]⟩ (k :: rest))).count 32 = ((chs (Str.join ⟨#[32]⟩ (k :: rest))).take p ++ (chs (Str.join ⟨#[32]⟩ (k :: rest))).drop p).count 32 := by rw [List.take_append_drop]
    rw [List.count_append] at e
    rw [hr, List.count_append, List.count_cons_self]
    omega
  refine ⟨fun c hc => ?_, ?_, .inl ?_⟩
  · rw [hr] at hc
    rcases List.mem_append.mp hc with hc | hc
    · exact h3 c (List.mem_of_mem_take hc)
    · rcases List.mem_cons.mp hc with rfl | hc
      · decide
      · exact h3 c (List.mem_of_mem_drop hc)
  · rw [hr, List.length_append, List.length_cons, List.length_take, List.length_drop]
    omega
  · rw [hc]
    obtain ⟨r, rs, hrs⟩ : ∃ r rs, rest = r :: rs := by
      cases rest with
      | nil => rw [List.length_nil] at hl; omega
      | cons r rs => exact ⟨r, rs, rfl⟩
    have hrow : chs (Str.join ⟨#[32]⟩ (k :: rest)) = chs k ++ 32 :: chs (Str.join ⟨#[32]⟩ (r :: rs)) := by rw [hrs]; exact join_cons2 _ _ _
    rw [hrow] at hr
    by_cases hp : p < (chs k).length
    · rw [List.take_append_of_le_length (by omega)] at hr
      have hh : hd1 (chs row) = (chs k).take p := by rw [hr]; exact hd1_app fun z => Wk.free (List.mem_of_mem_take z)
      rw [hh]
      rcases hf with ⟨rfl, _⟩ | ⟨rfl, _⟩
      · have h3' : p < 3 := hp
        have := (pc_take ⟨p, by omega⟩).1 h3'
        rintro (⟨e, _⟩ | ⟨e, _⟩)
        · exact this.1 e
        · exact this.2 e
      · have h5' : p < 5 := hp
        have := (pc_take ⟨p, h5'⟩).2
        rintro (⟨e, _⟩ | ⟨e, _⟩)
        · exact this.1 e
        · exact this.2 e
    · have hh : hd1 (chs row) = chs k := by
        by_cases hq : p = (chs k).length
        · rw [hr, hq, List.take_left]
          exact hd1_app Wk.free
        · obtain ⟨d, hd⟩ : ∃ d, p = (chs k).length + (d + 1) := ⟨p - (chs k).length - 1, by omega⟩
          rw [hr, hd, List.take_length_add_append, List.take_succ_cons, List.append_assoc, List.cons_append]
          exact hd1_app Wk.free
      rw [hh]
      exact formK_not hf (by omega)
end
theorem bad_firsts : ∀ w ∈ (["Put", "putt", "pu", "CLEAR", "tell", "clea"] : List Str), ((∀ c ∈ chs w, 33 ≤ c ∧ c ≤ 126) ∧ (chs w).length ≤ 20) ∧ chs w ≠ chs (Str.ofString "put") ∧ chs w ≠ chs (Str.ofString "clear") := by decide +kernel
theorem bad_fixed : ∀ w ∈ (["", " ", "put", "clear", "put a b c 1", "clear a b c 1 2", "put a b 1 2"] : List Str), BadRow w := by
  have : ∀ w ∈ (["", " ", "put", "clear", "put a b c 1", "clear a b c 1 2", "put a b 1 2"] : List Str), (∀ c ∈ chs w, c ≤ 126) ∧ (chs w).length ≤ 400 ∧ ¬ ((hd1 (chs w) = chs (Str.ofString "put") ∧ (chs w).count 32 = 5) ∨ (hd1 (chs w) = chs (Str.ofString "clear") ∧ (chs w).count 32 = 4)) := by decide +kernel
  exact fun w hw => ⟨(this w hw).1, (this w hw).2.1, .inl (this w hw).2.2⟩
def sp_tumbled : P3 := fun ws G R => ∃ c k : Int, ws = [.int c, .int k] ∧ 0 ≤ k ∧ k ≤ 1000 ∧ ∀ r : Int, 0 ≤ r → r < 1000000007 → R (.int r) G
theorem len_tumbled {ws : List Z} {G : Hq} {R : K3} (h : sp_tumbled ws G R) : ws.length = 2 := by obtain ⟨_, _, rfl, _⟩ := h; rfl
theorem mM (x : Int) : 0 ≤ x % 1073676287 ∧ x % 1073676287 < 1073676287 := ⟨Int.emod_nonneg _ (by decide), Int.emod_lt_of_pos _ (by decide)⟩
theorem mP (x : Int) : 0 ≤ x % 1000000007 ∧ x % 1000000007 < 1000000007 := ⟨Int.emod_nonneg _ (by decide), Int.emod_lt_of_pos _ (by decide)⟩
theorem ok_tumbled {P : Program} {w : World} {K : PySem.W.Frag} {mg : Str → Option Value} {base : Heap} {a : Ad} (F : Fns K a) (T : Txt w K mg a) : FnOk P w K mg base CX0 1 a.f_tumbled a.d_tumbled ["cell", "k"] (lowP K sp_tumbled) := by
  refine fn3 F.tumbled sc_tumbled (fun ws G R h => (by exact len_tumbled h)) (fun cdv A outer s H E ws G R hr h => ?_)
  have hu : (A.deeper (PyProof.Rows.envOfC "_law_tumbled" (defScope s_tumbled) s.heap.objs.size a.f_tumbled cdv)).units + 66 < cLine := by have := hr.un; omega
  refine ⟨_, (z_cons (z_set (i := 2) sc_tumbled.nd rfl (Or.inl rfl) (q_op o_mod (q_op o_add (q_op o_mod (q_var (pv 0)) q_int) (q_op o_mul q_int (q_op o_add (q_var (pv 1)) q_int))) q_int))
    (z_cons (z_set (i := 2) sc_tumbled.nd rfl (Or.inl rfl) (q_op o_add (q_op o_mod (q_op o_mul (q_var (pv 2)) (q_var (pv 2))) q_int) (q_op o_mul q_int (q_var (pv 1)))))
    (z_one (z_ret (q_op o_mod (q_op o_mul (q_var (pv 2)) (q_op o_add (q_var (pv 2)) q_int)) q_int))))), ?_⟩
  obtain ⟨c, k, rfl, h0, h1, q⟩ := h
  walk_at "go"
  refine i_I (show (0 : Int) < 1073676287 by decide) ?_
  walk_at "go"
  refine i_I (.inr ⟨by omega, by omega⟩) ?_
  walk_at "go"
  refine i_I (show (0 : Int) < 1073676287 by decide) ?_
  walk_at "go"
  have b1 := mM (c % 1073676287 + 39916801 * (k + 1))
  generalize (c % 1073676287 + 39916801 * (k + 1)) % 1073676287 = u at b1 ⊢
  refine i_I (.inl ⟨by omega, by omega⟩) ?_
  walk_at "go"
  refine i_I (show (0 : Int) < 1073676287 by decide) ?_
  walk_at "go"
  have b2 := mM (u * u)
  generalize u * u % 1073676287 = v at b2 ⊢
  refine i_I (.inr ⟨by omega, by omega⟩) ?_
  walk_at "go"
  refine i_I (.inl ⟨by omega, by omega⟩) ?_
  walk_at "go"
  refine i_I (show (0 : Int) < 1000000007 by decide) ?_
  exact q _ (mP _).1 (mP _).2
def sp_words : P3 := fun ws G R => ∃ c : Int, ws = [.int c] ∧ ∀ (t : Addr) (ns : List Str) (G' : Hq), G t = none → Sm G G' → G' t = some (.lst (ns.map Z.str)) → ns.length = 4 → (∀ s ∈ ns, wOk s) → R (.ref t) G'
theorem len_words {ws : List Z} {G : Hq} {R : K3} (h : sp_words ws G R) : ws.length = 1 := by obtain ⟨_, rfl, _⟩ := h; rfl
theorem ok_words {P : Program} {w : World} {K : PySem.W.Frag} {mg : Str → Option Value} {base : Heap} {a : Ad} (F : Fns K a) (T : Txt w K mg a) : FnOk P w K mg base CX0 2 a.f_words a.d_words ["cell"] (lowP K sp_words) := by
  have G_tumbled : FnOk P w K mg base CX0 1 a.f_tumbled a.d_tumbled ["cell", "k"] (lowP K sp_tumbled) := ok_tumbled F T
  refine fn3 F.words sc_words (fun ws G R h => (by exact len_words h)) (fun cdv A outer s H E ws G R hr h => ?_)
  have hu : (A.deeper (PyProof.Rows.envOfC "_law_words" (defScope s_words) s.heap.objs.size a.f_words cdv)).units + 66 < cLine := by have := hr.un; omega
  refine ⟨_, (z_cons (z_set (i := 1) sc_words.nd rfl (Or.inr rfl) q_str)
    (z_cons (z_set (i := 2) sc_words.nd rfl (Or.inl rfl) (q_bm PySem.F.plainAttrs_str PySem.F.slot_str_join PySem.F.type_str_join m_join q_str (q_cons (q_lc (N₀ := ["cell", "letters", "word", "at", "first", "last", "moved"]) (so := defScope s_words) (N' := ["k", "letters", "cell"]) (cap := [none, some 1, some 0]) (pt := (.nm 0)) rfl rfl rfl (by decide +kernel) rfl (it_rangeA1 rfl T.b_range (q_cons (q_op o_add q_int (q_op o_mod (q_call G_tumbled (hr.mono (by decide)) rfl T.m_tumbled T.k_tumbled (b_tumbled F) (q_cons (q_var (pv 0)) (q_cons q_int q_nil se_Constant) se_Name) (he := se_Name) (hpl := (hp_cons se_Constant hp_nil))) q_int)) q_nil se_BinOp)) (fun _ _ _ _ => (show QP _ _ (.nm 0) from (pg_name (i := 0) (show List.Nodup (α := Str) ["k", "letters", "cell"] from by decide +kernel) rfl (Or.inl rfl)))) (fun _ _ _ _ => ifs_nil) (fun _ _ _ _ => (q_ix x_ix (q_var (pv 1)) (q_op o_mod (q_call G_tumbled (hr.mono (by decide)) rfl T.m_tumbled T.k_tumbled (b_tumbled F) (q_cons (q_var (pv 2)) (q_cons (q_var (pv 0)) q_nil se_Name) se_Name) (he := se_Name) (hpl := (hp_cons se_Name hp_nil))) q_int) (fun _ _ => rfl)))) q_nil se_ListComp)))
    (z_cons (z_set (i := 3) sc_words.nd rfl (Or.inl rfl) (q_op o_mod (q_call G_tumbled (hr.mono (by decide)) rfl T.m_tumbled T.k_tumbled (b_tumbled F) (q_cons (q_var (pv 0)) (q_cons q_int q_nil se_Constant) se_Name) (he := se_Name) (hpl := (hp_cons se_Constant hp_nil))) (q_callB b_len rfl T.b_len PySem.boot_len (q_cons (q_var (pv 2)) q_nil se_Name) (he := se_Name) (hpl := hp_nil))))
    (z_cons (z_set (i := 4) sc_words.nd rfl (Or.inl rfl) (q_op o_mod (q_call G_tumbled (hr.mono (by decide)) rfl T.m_tumbled T.k_tumbled (b_tumbled F) (q_cons (q_var (pv 0)) (q_cons q_int q_nil se_Constant) se_Name) (he := se_Name) (hpl := (hp_cons se_Constant hp_nil))) q_int))
    (z_cons (z_set (i := 5) sc_words.nd rfl (Or.inl rfl) (q_ix x_ix (q_var (pv 1)) (q_op o_mod (q_op o_add (q_op o_add (q_var (pv 4)) q_int) (q_op o_mod (q_call G_tumbled (hr.mono (by decide)) rfl T.m_tumbled T.k_tumbled (b_tumbled F) (q_cons (q_var (pv 0)) (q_cons q_int q_nil se_Constant) se_Name) (he := se_Name) (hpl := (hp_cons se_Constant hp_nil))) q_int)) q_int) (fun _ _ => rfl)))
    (z_cons (z_set (i := 6) sc_words.nd rfl (Or.inl rfl) (q_ix x_ix (q_var (pv 1)) (q_op o_mod (q_op o_add (q_op o_add (q_bm PySem.F.plainAttrs_str PySem.F.slot_str_find PySem.F.type_str_find m_find (q_var (pv 1)) (q_cons (q_ix x_ix (q_var (pv 2)) (q_var (pv 3)) (fun _ _ => rfl)) q_nil se_Subscript)) q_int) (q_op o_mod (q_call G_tumbled (hr.mono (by decide)) rfl T.m_tumbled T.k_tumbled (b_tumbled F) (q_cons (q_var (pv 0)) (q_cons q_int q_nil se_Constant) se_Name) (he := se_Name) (hpl := (hp_cons se_Constant hp_nil))) q_int)) q_int) (fun _ _ => rfl)))
    (z_one (z_ret (q_lst (q_cons (q_var (pv 2)) (q_cons (q_op o_add (q_var (pv 2)) (q_var (pv 5))) (q_cons (q_op o_add (q_ix x_ix (q_var (pv 1)) (q_var (pv 4)) (fun _ _ => rfl)) (q_var (pv 2))) (q_cons (q_op o_add (q_op o_add (q_slice x_sl (q_var (pv 2)) q_nopart (q_part (q_var (pv 3)))) (q_var (pv 6))) (q_slice x_sl (q_var (pv 2)) (q_part (q_op o_add (q_var (pv 3)) q_int)) q_nopart)) q_nil se_BinOp) se_BinOp) se_BinOp) se_Name)))))))))), ?_⟩
  obtain ⟨c, rfl, q⟩ := h
  walk_at "go"
  refine ⟨c, 7, rfl, by decide, by decide, fun r r0 r1 => ?_⟩
  walk_at "go"
  refine i_I (show (0 : Int) < 7 by decide) ?_
  walk_at "go"
  have hn : 1 ≤ 1 + r % 7 ∧ 1 + r % 7 ≤ 7 := by omega
  generalize 1 + r % 7 = n at hn ⊢
  refine ⟨by omega, by omega, ?_⟩
  intro D hD
  refine lc_by (fun i ys G' => ∃ cs : List Nat, cs.length = i ∧ (∀ c ∈ cs, isL c) ∧ ys = cs.map (fun c => Z.str ⟨#[c]⟩) ∧ G' = put G D (.lst ys)) ⟨[], rfl, fun c h => by simp at h, rfl, rfl⟩ (by rintro _ _ _ _ _; exact True.intro) ?_ ?_
  · rintro i x ys G' hx ⟨cs, hl, hc, rfl, rfl⟩
    obtain ⟨hi, rfl⟩ := rng_get hx
    refine ⟨_, rfl, ?_⟩
    walk_at "go"
    refine ⟨c, _, rfl, by omega, by omega, fun f f0 f1 => ?_⟩
    walk_at "go"
    refine i_I (show (0 : Int) < 26 by decide) ?_
    walk_at "go"
    refine i_ixS (lenK rfl) (abc_at (by omega) (by omega)) ?_
    refine ⟨put_same, by rw [List.length_map]; exact small1000 (by omega), cs ++ [97 + (f % 26).toNat], by simp [hl], fun d hd => ?_, by rw [List.map_append]; rfl, by rw [put_put]⟩
    rcases List.mem_append.mp hd with hd | hd
    · exact hc d hd
    · rw [List.mem_singleton.mp hd]; unfold isL; omega
  · rintro ys G' ⟨cs, hl, hc, rfl, rfl⟩
    rw [rng_length] at hl
    walk_at "go"
    refine i_join (ys := cs.map fun c => (⟨#[c]⟩ : Str)) (by rw [put_same, List.map_map]; rfl) (joinE_fits cs (by omega)) ?_
    have el := joinE cs
    generalize Txt.join (Str.ofString "") (cs.map fun c => (⟨#[c]⟩ : Str)) = s at el ⊢
    have ls : s.cps.toList.length = cs.length := by rw [el]
    have ws : wOk s := ⟨by omega, by omega, fun d hd => by rw [el] at hd; have := hc d hd; unfold isL at this; omega⟩
    walk_at "go"
    refine ⟨c, 8, rfl, by decide, by decide, fun f f0 f1 => ?_⟩
    walk_at "go"
    refine i_lenS (sizeW ws) ?_
    walk_at "go"
    refine i_I (show (0 : Int) < (s.length : Int) by rw [len_s]; omega) ?_
    walk_at "go"
    have ha : 0 ≤ f % (s.length : Int) ∧ f % (s.length : Int) < (s.length : Int) := ⟨Int.emod_nonneg _ (by rw [len_s]; omega), Int.emod_lt_of_pos _ (by rw [len_s]; omega)⟩
    generalize f % (s.length : Int) = at' at ha ⊢
    obtain ⟨p, rfl⟩ := Int.eq_ofNat_of_zero_le ha.1
    have hp : p < s.cps.toList.length := by rw [← len_s]; omega
    refine ⟨c, 9, rfl, by decide, by decide, fun f2 f20 f21 => ?_⟩
    walk_at "go"
    refine i_I (show (0 : Int) < 26 by decide) ?_
    walk_at "go"
    refine ⟨c, 10, rfl, by decide, by decide, fun f3 f30 f31 => ?_⟩
    walk_at "go"
    refine i_I (show (0 : Int) < 25 by decide) ?_
    walk_at "go"
    refine i_I (show (0 : Int) < 26 by decide) ?_
    walk_at "go"
    refine i_ixS (lenK rfl) (abc_at (by omega) (by omega)) ?_
    walk_at "go"
    refine i_ixS (sizeW ws) (atI_nat (List.getElem?_eq_getElem hp)) ?_
    walk_at "go"
    generalize findS (Str.ofString "abcdefghijklmnopqrstuvwxyz") ⟨#[s.cps.toList[p]]⟩ = fd
    refine ⟨c, 11, rfl, by decide, by decide, fun f4 f40 f41 => ?_⟩
    walk_at "go"
    refine i_I (show (0 : Int) < 25 by decide) ?_
    walk_at "go"
    refine i_I (show (0 : Int) < 26 by decide) ?_
    walk_at "go"
    refine i_ixS (lenK rfl) (abc_at (by omega) (by omega)) ?_
    have one : ∀ k : Nat, k < 26 → wOk (⟨#[97 + k]⟩ : Str) := fun k hk => ⟨by simp, by simp, fun d hd => by have : d = 97 + k := by simpa using hd
                                                                                                            omega⟩
    have app : ∀ {x y : Str}, wOk x → (∀ d ∈ y.cps.toList, 33 ≤ d ∧ d ≤ 126) → x.cps.toList.length + y.cps.toList.length ≤ 20 → wOk (x ++ y) := fun {x y} hx hy hl => ⟨by rw [app_list, List.length_append]; have := hx.1; omega, by rw [app_list, List.length_append]; exact hl, fun d hd => by
      rw [app_list] at hd
      rcases List.mem_append.mp hd with hd | hd
      · exact hx.2.2 d hd
      · exact hy d hd⟩
    have k1 : ((f2 % 26 + 1 + f3 % 25) % 26).toNat < 26 := by omega
    have k2 : (f2 % 26).toNat < 26 := by omega
    have k3 : ((fd + 1 + f4 % 25) % 26).toNat < 26 := by omega
    have o1 := one _ k1
    have o2 := one _ k2
    have o3 := one _ k3
    have lone : ∀ k : Nat, (⟨#[k]⟩ : Str).length = 1 := fun _ => rfl
    have ltwo : ∀ k : Nat, (⟨#[k]⟩ : Str).cps.toList.length = 1 := fun _ => rfl
    generalize 97 + ((fd + 1 + f4 % 25) % 26).toNat = m3 at o3 ⊢
    walk_at "go"
    generalize 97 + ((f2 % 26 + 1 + f3 % 25) % 26).toNat = m1 at o1 ⊢
    refine i_addS (sm1000 (by rw [len_s, lone]; omega)) ?_
    walk_at "go"
    refine i_ixS (lenK rfl) (abc_at (by omega) (by omega)) ?_
    generalize 97 + (f2 % 26).toNat = m2 at o2 ⊢
    walk_at "go"
    refine i_addS (sm1000 (by rw [len_s s, lone]; omega)) ?_
    walk_at "go"
    refine i_slS (sizeW ws) ?_
    have e1 := sl_to (x := s) (j := p) (by omega)
    have e2 := sl_from (x := s) (j := p + 1) (by omega)
    walk_at "go"
    refine i_addS (sm1000 (by rw [len_s, e1, List.length_take, lone]; omega)) ?_
    walk_at "go"
    refine i_slS (sizeW ws) ?_
    rw [show ((p : Int) + 1) = ((p + 1 : Nat) : Int) by omega]
    walk_at "go"
    refine i_addS (sm1000 (by rw [len_s, app_list, List.length_append, e1, len_s, e2, List.length_take, List.length_drop, ltwo]; omega)) ?_
    walk_at "go"
    refine ⟨lenK rfl, fun t ht => ?_⟩
    refine q t [s, s ++ ⟨#[m1]⟩, (⟨#[m2]⟩ : Str) ++ s, Txt.slice s none (some (p : Int)) ++ ⟨#[m3]⟩ ++ Txt.slice s (some ((p + 1 : Nat) : Int)) none] _ ((Sm.new hD).free ht) ((Sm.new hD).trans (Sm.new ht)) put_same rfl fun w hw => ?_
    simp only [List.mem_cons, List.not_mem_nil, or_false] at hw
    rcases hw with rfl | rfl | rfl | rfl
    · exact ws
    · exact app ws o1.2.2 (by rw [ltwo]; omega)
    · exact app o2 ws.2.2 (by rw [ltwo]; omega)
    · refine ⟨by rw [app_list, app_list, List.length_append, List.length_append, ltwo]; omega, by rw [app_list, app_list, List.length_append, List.length_append, ltwo, e1, e2, List.length_take, List.length_drop]; omega, fun d hd => ?_⟩
      rw [app_list, app_list, e1, e2] at hd
      rcases List.mem_append.mp hd with hd | hd
      · rcases List.mem_append.mp hd with hd | hd
        · exact ws.2.2 d (List.mem_of_mem_take hd)
        · exact o3.2.2 d hd
      · exact ws.2.2 d (List.mem_of_mem_drop hd)
theorem log_small {n : Nat} (h : n < 10 ^ 13) : ((n : Nat) : Int).natAbs.log2 < 1920 := by
  rw [Int.natAbs_natCast]
  rcases Nat.eq_zero_or_pos n with rfl | h0
  · decide
  · exact (Nat.log2_lt (by omega)).mpr (Nat.lt_of_lt_of_le h (by decide +kernel))
theorem at_strs {ns : List Str} {k : Int} (h0 : 0 ≤ k) (h1 : k < ns.length) : ∃ s, atI (ns.map Z.str) k = some (.str s) ∧ s ∈ ns := by
  obtain ⟨j, rfl⟩ := Int.eq_ofNat_of_zero_le h0
  have hj : j < ns.length := by omega
  exact ⟨ns[j], atI_nat (by rw [List.getElem?_map, List.getElem?_eq_getElem hj]; rfl), List.getElem_mem hj⟩
def sp_number : P3 := fun ws G R => ∃ c : Int, ws = [.int c] ∧ ∀ (w : Str) (G' : Hq), w ∈ badNums → Sm G G' → R (.str w) G'
theorem len_number {ws : List Z} {G : Hq} {R : K3} (h : sp_number ws G R) : ws.length = 1 := by obtain ⟨_, rfl, _⟩ := h; rfl
theorem ok_number {P : Program} {w : World} {K : PySem.W.Frag} {mg : Str → Option Value} {base : Heap} {a : Ad} (F : Fns K a) (T : Txt w K mg a) : FnOk P w K mg base CX0 2 a.f_number a.d_number ["cell"] (lowP K sp_number) := by
  have G_tumbled : FnOk P w K mg base CX0 1 a.f_tumbled a.d_tumbled ["cell", "k"] (lowP K sp_tumbled) := ok_tumbled F T
  refine fn3 F.number sc_number (fun ws G R h => (by exact len_number h)) (fun cdv A outer s H E ws G R hr h => ?_)
  have hu : (A.deeper (PyProof.Rows.envOfC "_law_number" (defScope s_number) s.heap.objs.size a.f_number cdv)).units + 66 < cLine := by have := hr.un; omega
  refine ⟨_, (z_cons (z_set (i := 1) sc_number.nd rfl (Or.inl rfl) (q_lst (q_cons q_str (q_cons q_str (q_cons q_str (q_cons q_str (q_cons q_str (q_cons q_str (q_cons q_str (q_cons q_str (q_cons q_str (q_cons q_str (q_cons q_str (q_cons q_str (q_cons q_str q_nil se_Constant) se_Constant) se_Constant) se_Constant) se_Constant) se_Constant) se_Constant) se_Constant) se_Constant) se_Constant) se_Constant) se_Constant) se_Constant)))
    (z_one (z_ret (q_ix x_ix (q_var (pv 1)) (q_op o_mod (q_call G_tumbled (hr.mono (by decide)) rfl T.m_tumbled T.k_tumbled (b_tumbled F) (q_cons (q_var (pv 0)) (q_cons q_int q_nil se_Constant) se_Name) (he := se_Name) (hpl := (hp_cons se_Constant hp_nil))) q_int) (fun _ _ => rfl))))), ?_⟩
  obtain ⟨c, rfl, q⟩ := h
  walk_at "go"
  refine ⟨lenK rfl, fun t ht => ?_⟩
  walk_at "go"
  refine ⟨c, 30, rfl, by decide, by decide, fun r r0 r1 => ?_⟩
  walk_at "go"
  refine i_I (show (0 : Int) < 13 by decide) ?_
  obtain ⟨w, a1, hw⟩ := at_strs (ns := badNums) (k := r % 13) (by omega) (by show r % 13 < 13; omega)
  refine i_ixL put_same a1 ?_
  exact q w _ hw (Sm.new ht)
def sp_line : P3 := fun ws G R => ∃ c : Int, ws = [.int c] ∧ ∀ (t : Addr) (vs : List Str) (G' : Hq), G t = none → Sm G G' → G' t = some (.lst (vs.map Z.str)) → Line vs → R (.ref t) G'
theorem len_line {ws : List Z} {G : Hq} {R : K3} (h : sp_line ws G R) : ws.length = 1 := by obtain ⟨_, rfl, _⟩ := h; rfl
theorem ok_line {P : Program} {w : World} {K : PySem.W.Frag} {mg : Str → Option Value} {base : Heap} {a : Ad} (F : Fns K a) (T : Txt w K mg a) : FnOk P w K mg base CX0 3 a.f_line a.d_line ["cell"] (lowP K sp_line) := by
  have G_words : FnOk P w K mg base CX0 2 a.f_words a.d_words ["cell"] (lowP K sp_words) := ok_words F T
  have G_tumbled : FnOk P w K mg base CX0 1 a.f_tumbled a.d_tumbled ["cell", "k"] (lowP K sp_tumbled) := ok_tumbled F T
  refine fn3 F.line sc_line (fun ws G R h => (by exact len_line h)) (fun cdv A outer s H E ws G R hr h => ?_)
  have hu : (A.deeper (PyProof.Rows.envOfC "_law_line" (defScope s_line) s.heap.objs.size a.f_line cdv)).units + 66 < cLine := by have := hr.un; omega
  refine ⟨_, (z_cons (z_set (i := 1) sc_line.nd rfl (Or.inl rfl) (q_call G_words (hr.mono (by decide)) rfl T.m_words T.k_words (b_words F) (q_cons (q_var (pv 0)) q_nil se_Name) (he := se_Name) (hpl := hp_nil)))
    (z_cons (z_set (i := 2) sc_line.nd rfl (Or.inl rfl) (q_op o_mod (q_call G_tumbled (hr.mono (by decide)) rfl T.m_tumbled T.k_tumbled (b_tumbled F) (q_cons (q_var (pv 0)) (q_cons q_int q_nil se_Constant) se_Name) (he := se_Name) (hpl := (hp_cons se_Constant hp_nil))) q_int))
    (z_cons (z_set (i := 3) sc_line.nd rfl (Or.inl rfl) (q_ix x_ix (q_lst (q_cons (q_callTy b_str rfl T.b_str rfl (q_cons (q_op o_add (q_op o_add (q_var (pv 2)) q_int) (q_op o_mod (q_call G_tumbled (hr.mono (by decide)) rfl T.m_tumbled T.k_tumbled (b_tumbled F) (q_cons (q_var (pv 0)) (q_cons q_int q_nil se_Constant) se_Name) (he := se_Name) (hpl := (hp_cons se_Constant hp_nil))) q_int)) q_nil se_BinOp) (he := se_BinOp) (hpl := hp_nil)) (q_cons q_str q_nil se_Constant) se_Call)) (q_op o_mod (q_call G_tumbled (hr.mono (by decide)) rfl T.m_tumbled T.k_tumbled (b_tumbled F) (q_cons (q_var (pv 0)) (q_cons q_int q_nil se_Constant) se_Name) (he := se_Name) (hpl := (hp_cons se_Constant hp_nil))) q_int) (fun _ _ => rfl)))
    (z_cons (z_if (q_cmpT (o_eq hu) (q_op o_mod (q_call G_tumbled (hr.mono (by decide)) rfl T.m_tumbled T.k_tumbled (b_tumbled F) (q_cons (q_var (pv 0)) (q_cons q_int q_nil se_Constant) se_Name) (he := se_Name) (hpl := (hp_cons se_Constant hp_nil))) q_int) q_int (nomark _))
    (z_one (z_ret (q_lst (q_cons q_str (q_cons (q_ix x_ix (q_var (pv 1)) q_int (fun _ _ => rfl)) (q_cons (q_ix x_ix (q_var (pv 1)) q_int (fun _ _ => rfl)) (q_cons (q_callTy b_str rfl T.b_str rfl (q_cons (q_var (pv 2)) q_nil se_Name) (he := se_Name) (hpl := hp_nil)) (q_cons (q_var (pv 3)) q_nil se_Name) se_Call) se_Subscript) se_Subscript) se_Constant))))
    z_nil)
    (z_one (z_ret (q_lst (q_cons q_str (q_cons (q_ix x_ix (q_var (pv 1)) q_int (fun _ _ => rfl)) (q_cons (q_ix x_ix (q_var (pv 1)) q_int (fun _ _ => rfl)) (q_cons (q_ix x_ix (q_var (pv 1)) q_int (fun _ _ => rfl)) (q_cons (q_callTy b_str rfl T.b_str rfl (q_cons (q_var (pv 2)) q_nil se_Name) (he := se_Name) (hpl := hp_nil)) (q_cons (q_var (pv 3)) q_nil se_Name) se_Call) se_Subscript) se_Subscript) se_Subscript) se_Constant)))))))), ?_⟩
  obtain ⟨c, rfl, q⟩ := h
  walk_at "go"
  refine ⟨c, rfl, fun t ns G1 h1 s1 g1 l1 o1 => ?_⟩
  obtain ⟨w0, w1, w2, w3, rfl⟩ : Ex4 fun w0 w1 w2 w3 => ns = [w0, w1, w2, w3] := by
    match ns, l1 with
    | [w0, w1, w2, w3], _ => exact ⟨_, _, _, _, rfl⟩
  have o0 := o1 w0 (by simp)
  have oo1 := o1 w1 (by simp)
  have o2 := o1 w2 (by simp)
  walk_at "go"
  refine ⟨c, 31, rfl, by decide, by decide, fun r r0 r1 => ?_⟩
  walk_at "go"
  refine i_I (show (0 : Int) < 20 by decide) ?_
  walk_at "go"
  have hb : 0 ≤ r % 20 ∧ r % 20 < 20 := by omega
  generalize r % 20 = b' at hb ⊢
  obtain ⟨b, rfl⟩ := Int.eq_ofNat_of_zero_le hb.1
  have hb2 : b < 20 := by omega
  refine ⟨c, 32, rfl, by decide, by decide, fun r2 r20 r21 => ?_⟩
  walk_at "go"
  refine i_I (show (0 : Int) < 9 by decide) ?_
  walk_at "go"
  have he : 0 ≤ (b : Int) + 1 + r2 % 9 ∧ (b : Int) + 1 + r2 % 9 < 100 := by omega
  generalize (b : Int) + 1 + r2 % 9 = e' at he ⊢
  obtain ⟨m, rfl⟩ := Int.eq_ofNat_of_zero_le he.1
  have hm : m < 10 ^ 13 := by omega
  refine ⟨log_small hm, ?_⟩
  walk_at "go"
  refine ⟨lenK rfl, fun u hu => ?_⟩
  walk_at "go"
  refine ⟨c, 33, rfl, by decide, by decide, fun r3 r30 r31 => ?_⟩
  walk_at "go"
  refine i_I (show (0 : Int) < 2 by decide) ?_
  obtain ⟨e, a1, ae⟩ := at_strs (ns := [num m, dash]) (k := r3 % 2) (by omega) (by show r3 % 2 < 2; omega)
  have hee : e = dash ∨ ∃ m : Nat, m < 10 ^ 13 ∧ e = num m := by
    simp only [List.mem_cons, List.not_mem_nil, or_false] at ae
    rcases ae with rfl | rfl
    · exact .inr ⟨m, hm, rfl⟩
    · exact .inl rfl
  refine i_ixL put_same a1 ?_
  walk_at "go"
  refine ⟨c, 34, rfl, by decide, by decide, fun r4 r40 r41 => ?_⟩
  walk_at "go"
  refine i_I (show (0 : Int) < 2 by decide) ?_
  walk_at "go"
  have g2 : put G1 u (.lst ([num m, dash].map Z.str)) t = some (.lst ([w0, w1, w2, w3].map Z.str)) := put_old g1 hu
  have s2 : Sm G (put G1 u (.lst ([num m, dash].map Z.str))) := s1.trans (Sm.new hu)
  refine ifD (fun _ => ?_) fun _ => ?_
  · walk_at "go"
    refine i_ixL g2 at0 ?_
    walk_at "go"
    refine i_ixL g2 at1 ?_
    walk_at "go"
    refine ⟨log_small (show b < 10 ^ 13 by omega), ?_⟩
    walk_at "go"
    refine ⟨lenK rfl, fun v hv => ?_⟩
    exact q v [Str.ofString "clear", w0, w1, num b, e] _ (s2.free hv) (s2.trans (Sm.new hv)) put_same ⟨w0, w1, b, e, o0, oo1, hb2, hee, .inl rfl⟩
  · walk_at "go"
    refine i_ixL g2 at0 ?_
    walk_at "go"
    refine i_ixL g2 at1 ?_
    walk_at "go"
    refine i_ixL g2 at2 ?_
    walk_at "go"
    refine ⟨log_small (show b < 10 ^ 13 by omega), ?_⟩
    walk_at "go"
    refine ⟨lenK rfl, fun v hv => ?_⟩
    exact q v [Str.ofString "put", w0, w1, w2, num b, e] _ (s2.free hv) (s2.trans (Sm.new hv)) put_same ⟨w0, w1, b, e, o0, oo1, hb2, hee, .inr ⟨w2, o2, rfl⟩⟩
def sp_refused (a : Ad) : P3 := fun ws G R => ∃ row : Str, ws = [.str row] ∧ BadRow row ∧ ∀ G', Sm G G' → R (.bl true) G'
theorem len_refused {a : Ad} {ws : List Z} {G : Hq} {R : K3} (h : sp_refused a ws G R) : ws.length = 1 := by obtain ⟨_, rfl, _⟩ := h; rfl
theorem kit_self {K : PySem.W.Frag} {C : Addr} : PySem.W.kitOne K (.ref C) (.ref C) = some true := by
  unfold PySem.W.kitOne
  rw [if_pos (by simp)]
theorem ok_refused {P : Program} {w : World} {K : PySem.W.Frag} {mg : Str → Option Value} {base : Heap} {a : Ad} (F : Fns K a) (T : Txt w K mg a) : FnOk P w K mg base CX0 5 a.f_refused a.d_refused ["line"] (lowP K (sp_refused a)) := by
  have G_p_telling_in : FnOk P w K mg base (CXx P w) 4 a.f_p_telling_in a.d_p_telling_in ["line"] (lowPx K (sp_p_telling_in a)) := ok_p_telling_in F T
  refine fn3 F.refused sc_refused (fun ws G R h => (by exact len_refused h)) (fun cdv A outer s H E ws G R hr h => ?_)
  have hu : (A.deeper (PyProof.Rows.envOfC "_law_refused" (defScope s_refused) s.heap.objs.size a.f_refused cdv)).units + 66 < cLine := by have := hr.un; omega
  refine ⟨_, (z_cons (z_set (i := 1) sc_refused.nd rfl (Or.inl rfl) q_bl)
    (z_cons (z_set (i := 2) sc_refused.nd rfl (Or.inl rfl) q_bl)
    (z_cons (z_try (i := 3) rfl rfl rfl G_p_telling_in (hr.mono (by decide)) rfl T.m_p_telling_in T.k_p_telling_in (b_p_telling_in F) (q_cons (q_var (pv 0)) q_nil se_Name) rfl T.x_TimesError T.xm_NoRow_TimesError sc_refused.nd rfl rfl (fun ex oe hx1 hx2 hx3 => (z_cons (z_set (i := 1) sc_refused.nd rfl (Or.inl rfl) (q_andV (q_callB (b_isX hx1 hx2 hx3 T.xk_NoRow) rfl T.b_isinstance rfl (q_cons (q_var (pv 3)) (q_cons (q_gref (pe_globR rfl T.x_NoRow)) q_nil se_Name) se_Name) (he := se_Name) (hpl := (hp_cons se_Name hp_nil))) (q_one (q_callB (b_isX hx1 hx2 hx3 T.xk_NoRow) rfl T.b_isinstance rfl (q_cons (q_var (pv 3)) (q_cons (q_ty (pe_bltn (v := .ty "ValueError") rfl T.b_ValueError rfl rfl)) q_nil se_Name) se_Name) (he := se_Name) (hpl := (hp_cons se_Name hp_nil))))))
    (z_one (z_set (i := 2) sc_refused.nd rfl (Or.inl rfl) (q_callB (b_isX hx1 hx2 hx3 T.xk_NoRow) rfl T.b_isinstance rfl (q_cons (q_var (pv 3)) (q_cons (q_tup (q_cons (q_gref (pe_globR rfl T.x_Broken)) (q_cons (q_gref (pe_globR rfl T.x_Forgotten)) (q_cons (q_gref (pe_globR rfl T.x_NoFit)) (q_cons (q_gref (pe_globR rfl T.x_NoKnowing)) (q_cons (q_gref (pe_globR rfl T.x_NoLog)) (q_cons (q_gref (pe_globR rfl T.x_NoName)) (q_cons (q_gref (pe_globR rfl T.x_NoSheet)) (q_cons (q_gref (pe_globR rfl T.x_NoStretch)) q_nil se_Name) se_Name) se_Name) se_Name) se_Name) se_Name) se_Name) se_Name)) q_nil se_Tuple) se_Name) (he := se_Name) (hpl := (hp_cons se_Tuple hp_nil))))))) (he := se_Name) (hpl := hp_nil))
    (z_one (z_ret (q_andV (q_var (pv 1)) (q_one (q_not (q_var (pv 2)))))))))), ?_⟩
  obtain ⟨row, rfl, hb, q⟩ := h
  walk_at "go"
  refine ⟨row, rfl, .inl ⟨hb, fun G1 s1 => ⟨rfl, fun e => ?_⟩⟩⟩
  walk_at "go"
  refine ⟨_, true, rfl, .inl ⟨_, rfl, kit_self⟩, ?_⟩
  walk_at "go"
  refine ⟨_, true, rfl, .inr (.inl ⟨_, rfl, T.kt_NoRow_ValueError⟩), ?_⟩
  walk_at "go"
  refine ⟨lenK rfl, ?_⟩
  refine ⟨_, false, rfl, .inr (.inr ⟨[a.x_Broken, a.x_Forgotten, a.x_NoFit, a.x_NoKnowing, a.x_NoLog, a.x_NoName, a.x_NoSheet, a.x_NoStretch], rfl, T.ka_NoRow_0⟩), ?_⟩
  walk_at "go"
  exact q _ s1
theorem cut_map {α β : Type} {f : α → β} {xs : List α} {lo hi : Option Int} : cutZ (xs.map f) lo hi = (cutZ xs lo hi).map f := by
  unfold cutZ
  rw [List.length_map, List.map_take, List.map_drop]
theorem cut_to {α : Type} {xs : List α} {j : Nat} (h : j ≤ xs.length) : cutZ xs none (some (j : Int)) = xs.take j := by
  unfold cutZ
  have h1 := HT.sIx_nat xs.length xs.length j
  have h2 : HT.sIx xs.length 0 none = 0 := rfl
  rw [h2, h1, Nat.min_eq_left h]
  simp
theorem cut_from {α : Type} {xs : List α} {j : Nat} (h : j ≤ xs.length) : cutZ xs (some (j : Int)) none = xs.drop j := by
  unfold cutZ
  have h1 := HT.sIx_nat xs.length 0 j
  have h2 : HT.sIx xs.length xs.length none = xs.length := rfl
  rw [h2, h1, Nat.min_eq_left h]
  rw [List.take_of_length_le (by rw [List.length_drop]; omega)]
theorem fitsW {ws : List Str} (h : ∀ s ∈ ws, W s) (hl : ws.length ≤ 100) : (ws.map (·.length)).sum + ws.length * bl1.length ≤ 16777216 := by
  have s20 : (ws.map (·.length)).sum ≤ 20 * ws.length := by
    clear hl
    induction ws with
    | nil => simp
    | cons w ws ih =>
      have := ih fun s hs => h s (.tail _ hs)
      have hw : w.cps.toList.length ≤ 20 := (h w (.head _)).2
      rw [List.map_cons, List.sum_cons, List.length_cons, len_s]
      omega
  rw [bl1_eq, show (⟨#[32]⟩ : Str).length = 1 from rfl]
  omega
theorem strs_app (x y : List Str) : x.map Z.str ++ y.map Z.str = (x ++ y).map Z.str := (List.map_append ..).symm
theorem Line.at_ {vs : List Str} (h : Line vs) : ∃ e, atI (vs.map Z.str) (-1) = some (.str e) ∧ atI vs (-1) = some e ∧ wOk e := by
  obtain ⟨w0, w1, b, e, o0, o1, hb, he, h⟩ := h
  have oe := (rd_end he).1
  rcases h with rfl | ⟨w2, o2, rfl⟩
  · exact ⟨e, rfl, rfl, oe⟩
  · exact ⟨e, rfl, rfl, oe⟩
theorem mem_cut {α : Type} {xs : List α} {lo hi : Option Int} {x : α} (h : x ∈ cutZ xs lo hi) : x ∈ xs := by
  unfold cutZ at h
  exact List.mem_of_mem_drop (List.mem_of_mem_take h)
def sp_spoilt : P3 := fun ws G R => ∃ (p : Addr) (c : Int) (vs : List Str), ws = [.ref p, .int c] ∧ G p = some (.lst (vs.map Z.str)) ∧ Line vs ∧ ∀ (row : Str) (G' : Hq), Sm G G' → BadRow row → R (.str row) G'
theorem len_spoilt {ws : List Z} {G : Hq} {R : K3} (h : sp_spoilt ws G R) : ws.length = 2 := by obtain ⟨_, _, _, rfl, _⟩ := h; rfl
theorem ok_spoilt {P : Program} {w : World} {K : PySem.W.Frag} {mg : Str → Option Value} {base : Heap} {a : Ad} (F : Fns K a) (T : Txt w K mg a) : FnOk P w K mg base CX0 3 a.f_spoilt a.d_spoilt ["words", "cell"] (lowP K sp_spoilt) := by
  have G_tumbled : FnOk P w K mg base CX0 1 a.f_tumbled a.d_tumbled ["cell", "k"] (lowP K sp_tumbled) := ok_tumbled F T
  have G_number : FnOk P w K mg base CX0 2 a.f_number a.d_number ["cell"] (lowP K sp_number) := ok_number F T
  refine fn3 F.spoilt sc_spoilt (fun ws G R h => (by exact len_spoilt h)) (fun cdv A outer s H E ws G R hr h => ?_)
  have hu : (A.deeper (PyProof.Rows.envOfC "_law_spoilt" (defScope s_spoilt) s.heap.objs.size a.f_spoilt cdv)).units + 66 < cLine := by have := hr.un; omega
  refine ⟨_, (z_cons (z_set (i := 2) sc_spoilt.nd rfl (Or.inl rfl) (q_op o_mod (q_call G_tumbled (hr.mono (by decide)) rfl T.m_tumbled T.k_tumbled (b_tumbled F) (q_cons (q_var (pv 1)) (q_cons q_int q_nil se_Constant) se_Name) (he := se_Name) (hpl := (hp_cons se_Constant hp_nil))) (q_callB b_len rfl T.b_len PySem.boot_len (q_cons (q_var (pv 0)) q_nil se_Name) (he := se_Name) (hpl := hp_nil))))
    (z_cons (z_set (i := 3) sc_spoilt.nd rfl (Or.inl rfl) (q_op o_mod (q_call G_tumbled (hr.mono (by decide)) rfl T.m_tumbled T.k_tumbled (b_tumbled F) (q_cons (q_var (pv 1)) (q_cons q_int q_nil se_Constant) se_Name) (he := se_Name) (hpl := (hp_cons se_Constant hp_nil))) q_int))
    (z_cons (z_if (q_cmpT (o_eq hu) (q_var (pv 3)) q_int (nomark _))
    (z_cons (z_set (i := 2) sc_spoilt.nd rfl (Or.inl rfl) (q_callB (b_max rfl) rfl T.b_max rfl (q_cons q_int (q_cons (q_var (pv 2)) q_nil se_Name) se_Constant) (he := se_Constant) (hpl := (hp_cons se_Name hp_nil))))
    (z_one (z_ret (q_bm PySem.F.plainAttrs_str PySem.F.slot_str_join PySem.F.type_str_join m_join q_str (q_cons (q_op o_add (q_slice x_sl (q_var (pv 0)) q_nopart (q_part (q_var (pv 2)))) (q_slice x_sl (q_var (pv 0)) (q_part (q_op o_add (q_var (pv 2)) q_int)) q_nopart)) q_nil se_BinOp)))))
    z_nil)
    (z_cons (z_if (q_cmpT (o_eq hu) (q_var (pv 3)) q_int (nomark _))
    (z_cons (z_set (i := 4) sc_spoilt.nd rfl (Or.inl rfl) (q_ix x_ix (q_lst (q_cons (q_ix x_ix (q_var (pv 0)) (q_var (pv 2)) (fun _ _ => rfl)) (q_cons q_str (q_cons q_str (q_cons q_str q_nil se_Constant) se_Constant) se_Constant) se_Subscript)) (q_op o_mod (q_call G_tumbled (hr.mono (by decide)) rfl T.m_tumbled T.k_tumbled (b_tumbled F) (q_cons (q_var (pv 1)) (q_cons q_int q_nil se_Constant) se_Name) (he := se_Name) (hpl := (hp_cons se_Constant hp_nil))) q_int) (fun _ _ => rfl)))
    (z_one (z_ret (q_bm PySem.F.plainAttrs_str PySem.F.slot_str_join PySem.F.type_str_join m_join q_str (q_cons (q_op o_add (q_op o_add (q_slice x_sl (q_var (pv 0)) q_nopart (q_part (q_op o_add (q_var (pv 2)) q_int))) (q_lst (q_cons (q_var (pv 4)) q_nil se_Name))) (q_slice x_sl (q_var (pv 0)) (q_part (q_op o_add (q_var (pv 2)) q_int)) q_nopart)) q_nil se_BinOp)))))
    z_nil)
    (z_cons (z_if (q_cmpT (o_eq hu) (q_var (pv 3)) q_int (nomark _))
    (z_one (z_ret (q_op o_add (q_op o_add (q_ix x_ix (q_lst (q_cons q_str (q_cons q_str q_nil se_Constant) se_Constant)) (q_op o_mod (q_var (pv 2)) q_int) (fun _ _ => rfl)) (q_bm PySem.F.plainAttrs_str PySem.F.slot_str_join PySem.F.type_str_join m_join q_str (q_cons (q_var (pv 0)) q_nil se_Name))) (q_ix x_ix (q_lst (q_cons q_str (q_cons q_str q_nil se_Constant) se_Constant)) (q_op o_sub q_int (q_op o_mod (q_var (pv 2)) q_int)) (fun _ _ => rfl)))))
    z_nil)
    (z_cons (z_if (q_cmpT (o_eq hu) (q_var (pv 3)) q_int (nomark _))
    (z_one (z_ret (q_op o_add (q_op o_add (q_bm PySem.F.plainAttrs_str PySem.F.slot_str_join PySem.F.type_str_join m_join q_str (q_cons (q_slice x_sl (q_var (pv 0)) q_nopart (q_part (q_op o_add (q_var (pv 2)) q_int))) q_nil se_Subscript)) q_str) (q_bm PySem.F.plainAttrs_str PySem.F.slot_str_join PySem.F.type_str_join m_join q_str (q_cons (q_slice x_sl (q_var (pv 0)) (q_part (q_op o_add (q_var (pv 2)) q_int)) q_nopart) q_nil se_Subscript)))))
    z_nil)
    (z_cons (z_if (q_cmpT (o_eq hu) (q_var (pv 3)) q_int (nomark _))
    (z_cons (z_set (i := 5) sc_spoilt.nd rfl (Or.inl rfl) (q_bm PySem.F.plainAttrs_str PySem.F.slot_str_join PySem.F.type_str_join m_join q_str (q_cons (q_var (pv 0)) q_nil se_Name)))
    (z_cons (z_set (i := 6) sc_spoilt.nd rfl (Or.inl rfl) (q_op o_mod (q_call G_tumbled (hr.mono (by decide)) rfl T.m_tumbled T.k_tumbled (b_tumbled F) (q_cons (q_var (pv 1)) (q_cons q_int q_nil se_Constant) se_Name) (he := se_Name) (hpl := (hp_cons se_Constant hp_nil))) (q_op o_add (q_callB b_len rfl T.b_len PySem.boot_len (q_cons (q_var (pv 5)) q_nil se_Name) (he := se_Name) (hpl := hp_nil)) q_int)))
    (z_one (z_ret (q_op o_add (q_op o_add (q_slice x_sl (q_var (pv 5)) q_nopart (q_part (q_var (pv 6)))) q_str) (q_slice x_sl (q_var (pv 5)) (q_part (q_var (pv 6))) q_nopart))))))
    z_nil)
    (z_cons (z_if (q_cmpT (o_eq hu) (q_var (pv 3)) q_int (nomark _))
    (z_one (z_ret (q_bm PySem.F.plainAttrs_str PySem.F.slot_str_join PySem.F.type_str_join m_join q_str (q_cons (q_op o_add (q_lst (q_cons (q_ix x_ix (q_lst (q_cons q_str (q_cons q_str (q_cons q_str (q_cons q_str (q_cons q_str (q_cons q_str q_nil se_Constant) se_Constant) se_Constant) se_Constant) se_Constant) se_Constant)) (q_op o_mod (q_call G_tumbled (hr.mono (by decide)) rfl T.m_tumbled T.k_tumbled (b_tumbled F) (q_cons (q_var (pv 1)) (q_cons q_int q_nil se_Constant) se_Name) (he := se_Name) (hpl := (hp_cons se_Constant hp_nil))) q_int) (fun _ _ => rfl)) q_nil se_Subscript)) (q_slice x_sl (q_var (pv 0)) (q_part q_int) q_nopart)) q_nil se_BinOp))))
    z_nil)
    (z_cons (z_if (q_cmpT (o_eq hu) (q_var (pv 3)) q_int (nomark _))
    (z_one (z_ret (q_bm PySem.F.plainAttrs_str PySem.F.slot_str_join PySem.F.type_str_join m_join q_str (q_cons (q_op o_add (q_slice x_sl (q_var (pv 0)) q_nopart (q_part (q_un o_neg q_int))) (q_lst (q_cons (q_call G_number (hr.mono (by decide)) rfl T.m_number T.k_number (b_number F) (q_cons (q_var (pv 1)) q_nil se_Name) (he := se_Name) (hpl := hp_nil)) q_nil se_Call))) q_nil se_BinOp))))
    z_nil)
    (z_one (z_ret (q_bm PySem.F.plainAttrs_str PySem.F.slot_str_join PySem.F.type_str_join m_join q_str (q_cons (q_op o_add (q_slice x_sl (q_var (pv 0)) q_nopart (q_part (q_un o_neg q_int))) (q_lst (q_cons (q_ix x_ix (q_lst (q_cons (q_call G_number (hr.mono (by decide)) rfl T.m_number T.k_number (b_number F) (q_cons (q_var (pv 1)) q_nil se_Name) (he := se_Name) (hpl := hp_nil)) (q_cons q_str q_nil se_Constant) se_Call)) (q_op o_mod (q_call G_tumbled (hr.mono (by decide)) rfl T.m_tumbled T.k_tumbled (b_tumbled F) (q_cons (q_var (pv 1)) (q_cons q_int q_nil se_Constant) se_Name) (he := se_Name) (hpl := (hp_cons se_Constant hp_nil))) q_int) (fun _ _ => rfl)) (q_cons (q_ix x_ix (q_var (pv 0)) (q_un o_neg q_int) (fun _ _ => rfl)) q_nil se_Subscript) se_Subscript))) q_nil se_BinOp))))))))))))), ?_⟩
  obtain ⟨p, c, vs, rfl, hp, ln, q⟩ := h
  obtain ⟨k, ks, rest, hv, hf, hl, hw, hk⟩ := ln.parts
  have all : ∀ s ∈ vs, wOk s := fun s hs => by
    rw [hv] at hs
    rcases List.mem_cons.mp hs with rfl | hs
    · exact (form_wOk hf).1
    · exact hw s hs
  have hn : vs.length = ks.length + 1 := by rw [hv, List.length_cons, hl]
  have allW : ∀ s ∈ vs, W s := fun s hs => .of (all s hs)
  walk_at "go"
  refine ⟨c, 35, rfl, by decide, by decide, fun r r0 r1 => ?_⟩
  walk_at "go"
  refine i_lenL hp ?_
  rw [List.length_map]
  walk_at "go"
  refine i_I (show (0 : Int) < (vs.length : Int) by omega) ?_
  walk_at "go"
  have hj : 0 ≤ r % (vs.length : Int) ∧ r % (vs.length : Int) < (vs.length : Int) := ⟨Int.emod_nonneg _ (by omega), Int.emod_lt_of_pos _ (by omega)⟩
  generalize r % (vs.length : Int) = j' at hj ⊢
  obtain ⟨j, rfl⟩ := Int.eq_ofNat_of_zero_le hj.1
  have hj : j < vs.length := by omega
  refine ⟨c, 36, rfl, by decide, by decide, fun r2 r20 r21 => ?_⟩
  walk_at "go"
  refine i_I (show (0 : Int) < 8 by decide) ?_
  generalize r2 % 8 = kd
  walk_at "go"
  refine ifD (fun _ => ?_) fun _ => ?_
  · walk_at "go"
    obtain ⟨i, hi, h1, h2⟩ : ∃ i : Nat, (if (j : Int) > 1 then (j : Int) else 1) = (i : Int) ∧ 1 ≤ i ∧ i < vs.length := by
      by_cases hc : (j : Int) > 1
      · exact ⟨j, by rw [if_pos hc], by omega, hj⟩
      · exact ⟨1, by rw [if_neg hc]; rfl, by omega, by omega⟩
    rw [hi]
    walk_at "go"
    refine i_slL hp fun u hu => ?_
    rw [cut_map, cut_to (by omega)]
    walk_at "go"
    refine i_slL (put_old hp hu) fun v hv' => ?_
    rw [show ((i : Int) + 1) = ((i + 1 : Nat) : Int) by omega, cut_map, cut_from (by omega)]
    walk_at "go"
    refine i_addL (put_old put_same hv') put_same (sm1000 (by rw [List.length_map, List.length_map, List.length_take, List.length_drop]; omega)) fun t ht => ?_
    rw [strs_app]
    walk_at "go"
    refine i_join put_same (fitsW (fun s hs => ?_) (by rw [List.length_append, List.length_take, List.length_drop]; omega)) ?_
    · rcases List.mem_append.mp hs with hs | hs
      · exact allW s (List.mem_of_mem_take hs)
      · exact allW s (List.mem_of_mem_drop hs)
    · refine q _ _ (((Sm.new hu).trans (Sm.new hv')).trans (Sm.new ht)) ?_
      rw [hv] at h2 ⊢
      exact bad_less hf hl hw hk h1 h2
  walk_at "go"
  refine ifD (fun _ => ?_) fun _ => ?_
  · walk_at "go"
    refine i_ixL hp (atI_nat (by rw [List.getElem?_map, List.getElem?_eq_getElem hj]; rfl)) ?_
    walk_at "go"
    refine ⟨lenK rfl, fun u hu => ?_⟩
    walk_at "go"
    refine ⟨c, 37, rfl, by decide, by decide, fun r3 r30 r31 => ?_⟩
    walk_at "go"
    refine i_I (show (0 : Int) < 4 by decide) ?_
    obtain ⟨m, a1, hm⟩ := at_strs (ns := [vs[j], "7", "-", "a"]) (k := r3 % 4) (by omega) (by show r3 % 4 < 4; omega)
    have om : wOk m := by
      simp only [List.mem_cons, List.not_mem_nil, or_false] at hm
      rcases hm with rfl | rfl | rfl | rfl
      · exact all _ (List.getElem_mem hj)
      · unfold wOk; decide +kernel
      · unfold wOk; decide +kernel
      · unfold wOk; decide +kernel
    refine i_ixL put_same a1 ?_
    have gp := put_old (o := .lst ([vs[j], "7", "-", "a"].map Z.str)) hp hu
    have S1 : Sm G (put G u (.lst ([vs[j], "7", "-", "a"].map Z.str))) := Sm.new hu
    walk_at "go"
    refine i_slL gp fun v hv' => ?_
    rw [show ((j : Int) + 1) = ((j + 1 : Nat) : Int) by omega, cut_map, cut_to (by omega)]
    walk_at "go"
    refine ⟨lenK rfl, fun w hw' => ?_⟩
    walk_at "go"
    refine i_addL (put_old put_same hw') put_same (sm1000 (by rw [List.length_map, List.length_take, List.length_singleton]; omega)) fun t ht => ?_
    rw [show [Z.str m] = [m].map Z.str from rfl, strs_app]
    walk_at "go"
    refine i_slL (put_old (put_old (put_old gp hv') hw') ht) fun x hx => ?_
    rw [show ((j : Int) + 1) = ((j + 1 : Nat) : Int) by omega, cut_map, cut_from (by omega)]
    walk_at "go"
    refine i_addL (put_old put_same hx) put_same (sm1000 (by rw [List.length_map, List.length_map, List.length_append, List.length_take, List.length_drop, List.length_singleton]; omega)) fun y hy => ?_
    rw [strs_app]
    walk_at "go"
    refine i_join put_same (fitsW (fun s hs => ?_) (by rw [List.length_append, List.length_append, List.length_take, List.length_drop, List.length_singleton]; omega)) ?_
    · rcases List.mem_append.mp hs with hs | hs
      · rcases List.mem_append.mp hs with hs | hs
        · exact allW s (List.mem_of_mem_take hs)
        · rw [List.mem_singleton.mp hs]; exact .of om
      · exact allW s (List.mem_of_mem_drop hs)
    · refine q _ _ (((((S1.trans (Sm.new hv')).trans (Sm.new hw')).trans (Sm.new ht)).trans (Sm.new hx)).trans (Sm.new hy)) ?_
      rw [hv]
      exact bad_more hf hl hw hk om
  walk_at "go"
  refine ifD (fun _ => ?_) fun _ => ?_
  · walk_at "go"
    refine ⟨lenK rfl, fun u hu => ?_⟩
    walk_at "go"
    refine i_I (show (0 : Int) < 2 by decide) ?_
    have hjn := join_len allW
    have eJ : (Txt.join (Str.ofString " ") vs).length ≤ 400 := by show (joinB vs).length ≤ 400; rw [joinB_eq, len_s]; have : (Str.join ⟨#[32]⟩ vs).cps.toList.length ≤ _ := hjn; omega
    have e1 : (Str.ofString " ").length = 1 := by decide +kernel
    have e0 : (Str.ofString "").length = 0 := by decide +kernel
    rcases (show (j : Int) % 2 = 0 ∨ (j : Int) % 2 = 1 by omega) with z | z
    · rw [z]
      refine i_ixL put_same at0 ?_
      walk_at "go"
      refine i_join (put_old hp hu) (fitsW allW (by omega)) ?_
      walk_at "go"
      refine i_addS (sm1000 (by rw [e1]; omega)) ?_
      walk_at "go"
      refine ⟨lenK rfl, fun v hv' => ?_⟩
      walk_at "go"
      refine i_I (show (0 : Int) < 2 by decide) ?_
      walk_at "go"
      rw [z]
      refine i_ixL put_same at1 ?_
      walk_at "go"
      refine i_addS (sm1000 (by rw [len_s, app_list, List.length_append, ← len_s, ← len_s, e1, e0]; omega)) ?_
      refine q _ _ ((Sm.new hu).trans (Sm.new hv')) ?_
      rw [hv]
      exact bad_ahead hf hl hw hk
    · rw [z]
      refine i_ixL put_same at1 ?_
      walk_at "go"
      refine i_join (put_old hp hu) (fitsW allW (by omega)) ?_
      walk_at "go"
      refine i_addS (sm1000 (by rw [e0]; omega)) ?_
      walk_at "go"
      refine ⟨lenK rfl, fun v hv' => ?_⟩
      walk_at "go"
      refine i_I (show (0 : Int) < 2 by decide) ?_
      walk_at "go"
      rw [z]
      refine i_ixL put_same at0 ?_
      walk_at "go"
      refine i_addS (sm1000 (by rw [len_s, app_list, List.length_append, ← len_s, ← len_s, e1, e0]; omega)) ?_
      refine q _ _ ((Sm.new hu).trans (Sm.new hv')) ?_
      rw [hv]
      exact bad_behind hf hl hw hk
  walk_at "go"
  have jl : ∀ {ws : List Str}, (∀ s ∈ ws, W s) → ws.length ≤ 10 → (Txt.join (Str.ofString " ") ws).length ≤ 210 := fun {ws} h hn => by
    show (joinB ws).length ≤ 210
    rw [joinB_eq, len_s]
    have : (Str.join ⟨#[32]⟩ ws).cps.toList.length ≤ _ := join_len h
    omega
  refine ifD (fun _ => ?_) fun _ => ?_
  · walk_at "go"
    refine i_slL hp fun u hu => ?_
    rw [show ((j : Int) + 1) = ((j + 1 : Nat) : Int) by omega, cut_map, cut_to (by omega)]
    have W1 : ∀ s ∈ vs.take (j + 1), W s := fun s hs => allW s (List.mem_of_mem_take hs)
    have W2 : ∀ s ∈ vs.drop (j + 1), W s := fun s hs => allW s (List.mem_of_mem_drop hs)
    have l1 : (vs.take (j + 1)).length ≤ 10 := by rw [List.length_take]; omega
    have l2 : (vs.drop (j + 1)).length ≤ 10 := by rw [List.length_drop]; omega
    have j1 := jl W1 l1
    have j2 := jl W2 l2
    have e2 : (Str.ofString "  ").length = 2 := by decide +kernel
    walk_at "go"
    refine i_join put_same (fitsW W1 (by omega)) ?_
    walk_at "go"
    refine i_addS (sm1000 (by rw [e2]; omega)) ?_
    walk_at "go"
    refine i_slL (put_old hp hu) fun v hv' => ?_
    rw [show ((j : Int) + 1) = ((j + 1 : Nat) : Int) by omega, cut_map, cut_from (by omega)]
    walk_at "go"
    refine i_join put_same (fitsW W2 (by omega)) ?_
    walk_at "go"
    refine i_addS (sm1000 (by rw [len_s, app_list, List.length_append, ← len_s, ← len_s, e2]; omega)) ?_
    refine q _ _ ((Sm.new hu).trans (Sm.new hv')) ?_
    rw [hv]
    exact bad_two hf hl hw hk
  walk_at "go"
  refine ifD (fun _ => ?_) fun _ => ?_
  · walk_at "go"
    refine i_join hp (fitsW allW (by omega)) ?_
    have j1 := jl allW (by omega)
    generalize hrow : Txt.join (Str.ofString " ") vs = row at j1 ⊢
    walk_at "go"
    refine ⟨c, 38, rfl, by decide, by decide, fun r3 r30 r31 => ?_⟩
    walk_at "go"
    refine i_lenS (sm1000 (by omega)) ?_
    walk_at "go"
    have hln : row.length = (chs row).length := len_s _
    have hln2 : row.length = row.cps.toList.length := len_s _
    refine i_I (show (0 : Int) < ((row).length : Int) + 1 by omega) ?_
    walk_at "go"
    have hz : 0 ≤ r3 % (((row).length : Int) + 1) ∧ r3 % (((row).length : Int) + 1) < ((row).length : Int) + 1 := ⟨Int.emod_nonneg _ (by omega), Int.emod_lt_of_pos _ (by omega)⟩
    generalize r3 % (((row).length : Int) + 1) = z' at hz ⊢
    obtain ⟨z, rfl⟩ := Int.eq_ofNat_of_zero_le hz.1
    have hz : z ≤ (chs (row)).length := by omega
    have e1 := sl_to (x := row) hz
    have e2 := sl_from (x := row) hz
    have eb : (Str.ofString " ").length = 1 := by decide +kernel
    refine i_slS (sm1000 (by omega)) ?_
    walk_at "go"
    refine i_addS (sm1000 (by rw [len_s, e1, List.length_take, eb]; omega)) ?_
    walk_at "go"
    refine i_slS (sm1000 (by omega)) ?_
    walk_at "go"
    refine i_addS (sm1000 (by rw [len_s, app_list, List.length_append, e1, len_s, e2, List.length_take, List.length_drop, ← len_s (Str.ofString " "), eb]; omega)) ?_
    refine q _ _ (Sm.refl _) ?_
    refine bad_any (p := z) hf hl hw hk ?_
    rw [show joinB (k :: rest) = row by rw [← hv]; exact hrow, app_chs, app_chs, bl_chs, List.append_assoc, show chs _ = _ from e1, show chs _ = _ from e2]
    rfl
  walk_at "go"
  refine ifD (fun _ => ?_) fun _ => ?_
  · walk_at "go"
    refine ⟨lenK rfl, fun u hu => ?_⟩
    walk_at "go"
    refine ⟨c, 39, rfl, by decide, by decide, fun r3 r30 r31 => ?_⟩
    walk_at "go"
    refine i_I (show (0 : Int) < 6 by decide) ?_
    obtain ⟨m, a1, hm⟩ := at_strs (ns := ["Put", "putt", "pu", "CLEAR", "tell", "clea"]) (k := r3 % 6) (by omega) (by show r3 % 6 < 6; omega)
    obtain ⟨Wm, m1, m2⟩ := bad_firsts m hm
    have Wm : W m := Wm
    refine i_ixL put_same a1 ?_
    have gp := put_old (o := .lst ((["Put", "putt", "pu", "CLEAR", "tell", "clea"] : List Str).map Z.str)) hp hu
    have S1 : Sm G (put G u (.lst ((["Put", "putt", "pu", "CLEAR", "tell", "clea"] : List Str).map Z.str))) := Sm.new hu
    walk_at "go"
    refine ⟨lenK rfl, fun v hv' => ?_⟩
    walk_at "go"
    refine i_slL (put_old gp hv') fun w hw' => ?_
    rw [show (1 : Int) = ((1 : Nat) : Int) from rfl, cut_map, cut_from (by omega)]
    walk_at "go"
    refine i_addL (put_old put_same hw') put_same (sm1000 (by rw [List.length_map, List.length_drop, List.length_singleton]; omega)) fun t ht => ?_
    rw [show [Z.str m] = [m].map Z.str from rfl, strs_app]
    have W2 : ∀ s ∈ vs.drop 1, W s := fun s hs => allW s (List.mem_of_mem_drop hs)
    walk_at "go"
    refine i_join put_same (fitsW (fun s hs => ?_) (by rw [List.length_append, List.length_drop, List.length_singleton]; omega)) ?_
    · rcases List.mem_append.mp hs with hs | hs
      · rw [List.mem_singleton.mp hs]; exact Wm
      · exact W2 s hs
    · refine q _ _ (((S1.trans (Sm.new hv')).trans (Sm.new hw')).trans (Sm.new ht)) ?_
      exact bad_first (rest := vs.drop 1) Wm W2 m1 m2 (by rw [List.length_drop]; omega)
  have cl : ∀ {lo hi : Option Int}, (cutZ vs lo hi).length ≤ 10 := fun {lo hi} => by
    unfold cutZ
    rw [List.length_take, List.length_drop]
    omega
  have nW : ∀ {w : Str}, w ∈ badNums → W w := fun {w} h => (bad_nums w h).1
  walk_at "go"
  refine ifD (fun _ => ?_) fun _ => ?_
  · walk_at "go"
    refine i_slL hp fun u hu => ?_
    rw [cut_map]
    walk_at "go"
    refine ⟨c, rfl, fun w G1 hw' s1 => ?_⟩
    have gu := s1.get put_same
    walk_at "go"
    refine ⟨lenK rfl, fun v hv' => ?_⟩
    walk_at "go"
    refine i_addL (put_old gu hv') put_same (sm1000 (by rw [List.length_map, List.length_singleton]; have := cl (lo := none) (hi := some (-1)); omega)) fun t ht => ?_
    rw [show [Z.str w] = [w].map Z.str from rfl, strs_app]
    walk_at "go"
    refine i_join put_same (fitsW (fun s hs => ?_) (by rw [List.length_append, List.length_singleton]; have := cl (lo := none) (hi := some (-1)); omega)) ?_
    · rcases List.mem_append.mp hs with hs | hs
      · exact allW s (mem_cut hs)
      · rw [List.mem_singleton.mp hs]; exact nW hw'
    · exact q _ _ ((((Sm.new hu).trans s1).trans (Sm.new hv')).trans (Sm.new ht)) (ln.end_ hw')
  walk_at "go"
  refine i_slL hp fun u hu => ?_
  rw [cut_map]
  walk_at "go"
  refine ⟨c, rfl, fun w G1 hw' s1 => ?_⟩
  have gu := s1.get put_same
  have gp := s1.get (put_old hp hu)
  walk_at "go"
  refine ⟨lenK rfl, fun v hv' => ?_⟩
  walk_at "go"
  refine ⟨c, 40, rfl, by decide, by decide, fun r3 r30 r31 => ?_⟩
  walk_at "go"
  refine i_I (show (0 : Int) < 2 by decide) ?_
  obtain ⟨m, a1, hm⟩ := at_strs (ns := [w, dash]) (k := r3 % 2) (by omega) (by show r3 % 2 < 2; omega)
  have hm : m ∈ badNums ∨ m = dash := by
    simp only [List.mem_cons, List.not_mem_nil, or_false] at hm
    rcases hm with rfl | rfl
    · exact .inl hw'
    · exact .inr rfl
  refine i_ixL put_same a1 ?_
  obtain ⟨e, ae, ae2, oe⟩ := ln.at_
  obtain ⟨e', ae3, bad⟩ := ln.begin_ hm
  obtain rfl : e = e' := Option.some.inj (ae2.symm.trans ae3)
  walk_at "go"
  refine i_ixL (put_old gp hv') ae ?_
  walk_at "go"
  refine ⟨lenK rfl, fun x hx => ?_⟩
  walk_at "go"
  refine i_addL (put_old (put_old gu hv') hx) put_same (sm1000 (by rw [List.length_map]; have := cl (lo := none) (hi := some (-2)); show _ + 2 ≤ 1000; omega)) fun t ht => ?_
  rw [show [Z.str m, Z.str e] = [m, e].map Z.str from rfl, strs_app]
  walk_at "go"
  refine i_join put_same (fitsW (fun s hs => ?_) (by rw [List.length_append]; have := cl (lo := none) (hi := some (-2)); show _ + 2 ≤ 100; omega)) ?_
  · rcases List.mem_append.mp hs with hs | hs
    · exact allW s (mem_cut hs)
    · simp only [List.mem_cons, List.not_mem_nil, or_false] at hs
      rcases hs with rfl | rfl
      · rcases hm with hm | rfl
        · exact nW hm
        · exact .of dash_wOk
      · exact .of oe
  · exact q _ _ (((((Sm.new hu).trans s1).trans (Sm.new hv')).trans (Sm.new hx)).trans (Sm.new ht)) bad
abbrev fixed7 : List Str := ["", " ", "put", "clear", "put a b c 1", "clear a b c 1 2", "put a b 1 2"]
theorem len_law {ws : List Z} {G : Hq} {R : K3} (h : sp_law ws G R) : ws.length = 1 := by obtain ⟨_, _, rfl, _⟩ := h; rfl
theorem ok_law {P : Program} {w : World} {K : PySem.W.Frag} {mg : Str → Option Value} {base : Heap} {a : Ad} (F : Fns K a) (T : Txt w K mg a) : FnOk P w K mg base CX0 6 a.f_law a.d_law ["script"] (lowP K sp_law) := by
  have G_line : FnOk P w K mg base CX0 3 a.f_line a.d_line ["cell"] (lowP K sp_line) := ok_line F T
  have G_refused : FnOk P w K mg base CX0 5 a.f_refused a.d_refused ["line"] (lowP K (sp_refused a)) := ok_refused F T
  have G_spoilt : FnOk P w K mg base CX0 3 a.f_spoilt a.d_spoilt ["words", "cell"] (lowP K sp_spoilt) := ok_spoilt F T
  have G_p_telling_in : FnOk P w K mg base (CXx P w) 4 a.f_p_telling_in a.d_p_telling_in ["line"] (lowPx K (sp_p_telling_in a)) := ok_p_telling_in F T
  refine fn3 F.law sc_law (fun ws G R h => (by exact len_law h)) (fun cdv A outer s H E ws G R hr h => ?_)
  have hu : (A.deeper (PyProof.Rows.envOfC "law" (defScope s_law) s.heap.objs.size a.f_law cdv)).units + 66 < cLine := by have := hr.un; omega
  refine ⟨_, (z_cons (z_for (pt := (.nm 1)) PassesOwn.never rfl (it_list (q_lst (q_cons q_str (q_cons q_str (q_cons q_str (q_cons q_str (q_cons q_str (q_cons q_str (q_cons q_str q_nil se_Constant) se_Constant) se_Constant) se_Constant) se_Constant) se_Constant) se_Constant))) (show QP _ _ (.nm 1) from (pg_name (i := 1) sc_law.nd rfl (Or.inl rfl)))
    (z_one (z_if (q_notT (q_val (q_call G_refused (hr.mono (by decide)) rfl T.m_refused T.k_refused (b_refused F) (q_cons (q_var (pv 1)) q_nil se_Name) (he := se_Name) (hpl := hp_nil))))
    (z_one (z_ret q_bl))
    z_nil)))
    (z_cons (z_for (pt := (.nm 2)) PassesOwn.never rfl (it_list (q_slice x_sl (q_var (pv 0)) q_nopart (q_part q_int))) (show QP _ _ (.nm 2) from (pg_name (i := 2) sc_law.nd rfl (Or.inl rfl)))
    (z_cons (z_set (i := 3) sc_law.nd rfl (Or.inl rfl) (q_call G_line (hr.mono (by decide)) rfl T.m_line T.k_line (b_line F) (q_cons (q_var (pv 2)) q_nil se_Name) (he := se_Name) (hpl := hp_nil)))
    (z_cons (z_if (q_notT (q_val (q_call G_refused (hr.mono (by decide)) rfl T.m_refused T.k_refused (b_refused F) (q_cons (q_call G_spoilt (hr.mono (by decide)) rfl T.m_spoilt T.k_spoilt (b_spoilt F) (q_cons (q_var (pv 3)) (q_cons (q_var (pv 2)) q_nil se_Name) se_Name) (he := se_Name) (hpl := (hp_cons se_Name hp_nil))) q_nil se_Call) (he := se_Call) (hpl := hp_nil))))
    (z_one (z_ret q_bl))
    z_nil)
    (z_one (z_if (q_cmpT (o_ne hu) (q_ix x_ix (q_callX pass_none up0 G_p_telling_in (hr.mono (by decide)) rfl T.m_p_telling_in T.k_p_telling_in (b_p_telling_in F) (q_cons (q_bm PySem.F.plainAttrs_str PySem.F.slot_str_join PySem.F.type_str_join m_join q_str (q_cons (q_var (pv 3)) q_nil se_Name)) q_nil se_Call) (he := se_Call) (hpl := hp_nil)) q_int (fun _ _ => rfl)) (q_ix x_ix (q_var (pv 3)) q_int (fun _ _ => rfl)) (nomark _))
    (z_one (z_ret q_bl))
    z_nil)))))
    (z_one (z_ret q_bl)))), ?_⟩
  obtain ⟨sa, ns, rfl, hl, q⟩ := h
  walk_at "go"
  refine ⟨lenK rfl, fun u hu => ?_⟩
  walk_at "go"
  have gu : put G u (.lst (fixed7.map Z.str)) u = some (.lst (fixed7.map Z.str)) := put_same
  refine i_wkL (ws := fixed7.map Z.str) gu ?_
  refine for_by (fun i σ G' => ∃ v1 : Option Z, Sm (put G u (.lst (fixed7.map Z.str))) G' ∧ σ = [some (.scr sa ns), v1, none, none]) ⟨_, Sm.refl _, rfl⟩ (by rintro i σ G' _ ⟨_, s, _⟩; exact s _ _ gu) ?_ ?_
  · rintro i x σ G' hx ⟨v1, s, rfl⟩
    rw [List.getElem?_map] at hx
    cases hx' : fixed7[i]? with
    | none => rw [hx'] at hx; cases hx
    | some c =>
    rw [hx'] at hx
    cases hx
    refine ⟨_, rfl, ?_⟩
    walk_at "go"
    refine ⟨c, rfl, bad_fixed c (List.mem_of_getElem? hx'), fun G2 s2 => ?_⟩
    walk_at "go"
    refine ifF ?_
    walk_at "go"
    exact ⟨_, s.trans s2, rfl⟩
  · rintro σ G2 ⟨v1, s, rfl⟩
    walk_at "go"
    refine i_slC fun c hc => ?_
    generalize cutZ ns none (some 120) = cs
    have gc : put G2 c (.lst (cs.map Z.int)) c = some (.lst (cs.map Z.int)) := put_same
    generalize put G2 c (.lst (cs.map Z.int)) = G3 at gc ⊢
    walk_at "go"
    refine i_wkL gc ?_
    refine for_by (fun i σ G' => ∃ v2 v3 : Option Z, Sm G3 G' ∧ σ = [some (.scr sa ns), v1, v2, v3]) ⟨_, _, Sm.refl _, rfl⟩ (by rintro i σ G' _ ⟨_, _, s, _⟩; exact s _ _ gc) ?_ ?_
    · rintro i x σ G' hx ⟨v2, v3, s, rfl⟩
      rw [List.getElem?_map] at hx
      cases hx' : cs[i]? with
      | none => rw [hx'] at hx; cases hx
      | some c1 =>
      rw [hx'] at hx
      cases hx
      refine ⟨_, rfl, ?_⟩
      walk_at "go"
      refine ⟨c1, rfl, fun t vs G4 ht s4 gt ln => ?_⟩
      walk_at "go"
      refine ⟨t, c1, vs, rfl, gt, ln, fun row G5 s5 bad => ?_⟩
      walk_at "go"
      refine ⟨row, rfl, bad, fun G6 s6 => ?_⟩
      walk_at "go"
      refine ifF ?_
      have g6 := s6 _ _ (s5 _ _ gt)
      obtain ⟨nm, k, ks, wd, zs, hvs, hf, hn, hw, hr⟩ := ln.reads
      have all : ∀ s ∈ vs, W s := fun s hs => by
        rw [hvs] at hs
        rcases List.mem_cons.mp hs with rfl | hs
        · exact .of (form_wOk hf).1
        · rcases List.mem_cons.mp hs with rfl | hs
          · exact .of hn
          · exact .of (hw s hs)
      have hlen : vs.length ≤ 100 := by
        obtain ⟨_, _, _, e, _, l, _, _, l2⟩ := ln.parts
        rw [e, List.length_cons]; omega
      walk_at "go"
      refine i_join g6 (fitsW all hlen) ?_
      walk_at "go"
      refine ⟨_, rfl, .inr ⟨nm, k, ks, wd, zs, by rw [hvs], hf, hn, hw, hr, fun G7 s7 => ?_⟩⟩
      walk_at "go"
      refine i_ixL (s7 _ _ g6) (by rw [hvs]; exact at1) ?_
      walk_at "go"
      rw [decide_eq_true rfl]
      walk_at "go"
      refine ifF ?_
      walk_at "go"
      exact ⟨_, _, (((s.trans s4).trans s5).trans s6).trans s7, rfl⟩
    · rintro σ G' ⟨v2, v3, s, rfl⟩
      walk_at "go"
      exact q _
theorem all_mk {l : PySem.W.OpenLaw} {w : World} {K : PySem.W.Frag} {h : Heap} {mg : Str → Option Value} {fa : Addr} (X : K.In h) (G : h.Ns mainGlobals mg) (hfa : mg "law" = some (.ref fa))
    {f_p_is_number : Addr} {od_p_is_number an_p_is_number : Option Addr} {sl_p_is_number : Array (Option Value)} {oc_p_is_number kV_p_is_number dc_p_is_number pm_p_is_number cd_p_is_number ct_p_is_number : Value}
    {f_p_part_of : Addr} {od_p_part_of an_p_part_of : Option Addr} {sl_p_part_of : Array (Option Value)} {oc_p_part_of kV_p_part_of dc_p_part_of pm_p_part_of cd_p_part_of ct_p_part_of : Value}
    {f_p_parts_in : Addr} {od_p_parts_in an_p_parts_in : Option Addr} {sl_p_parts_in : Array (Option Value)} {oc_p_parts_in kV_p_parts_in dc_p_parts_in pm_p_parts_in cd_p_parts_in ct_p_parts_in : Value}
    {f_p_telling_in : Addr} {od_p_telling_in an_p_telling_in : Option Addr} {sl_p_telling_in : Array (Option Value)} {oc_p_telling_in kV_p_telling_in dc_p_telling_in pm_p_telling_in cd_p_telling_in ct_p_telling_in : Value}
    {f_tumbled : Addr} {od_tumbled an_tumbled : Option Addr} {sl_tumbled : Array (Option Value)} {oc_tumbled kV_tumbled dc_tumbled pm_tumbled cd_tumbled ct_tumbled : Value}
    {f_words : Addr} {od_words an_words : Option Addr} {sl_words : Array (Option Value)} {oc_words kV_words dc_words pm_words cd_words ct_words : Value}
    {f_number : Addr} {od_number an_number : Option Addr} {sl_number : Array (Option Value)} {oc_number kV_number dc_number pm_number cd_number ct_number : Value}
    {f_line : Addr} {od_line an_line : Option Addr} {sl_line : Array (Option Value)} {oc_line kV_line dc_line pm_line cd_line ct_line : Value}
    {f_spoilt : Addr} {od_spoilt an_spoilt : Option Addr} {sl_spoilt : Array (Option Value)} {oc_spoilt kV_spoilt dc_spoilt pm_spoilt cd_spoilt ct_spoilt : Value}
    {f_refused : Addr} {od_refused an_refused : Option Addr} {sl_refused : Array (Option Value)} {oc_refused kV_refused dc_refused pm_refused cd_refused ct_refused : Value}
    {f_law : Addr} {od_law an_law : Option Addr} {sl_law : Array (Option Value)} {oc_law kV_law dc_law pm_law cd_law ct_law : Value}
    {t_MOST_FIGURES : Tok}
    {g_FOR_NONE : Addr} {ep_FOR_NONE : Nat} {tk_FOR_NONE_0 : Tok} {tk_FOR_NONE_1 : Tok} {tv_FOR_NONE_0 : Tok} {tv_FOR_NONE_1 : Tok}
    {g_FORMS : Addr} {ep_FORMS : Nat} {tk_FORMS_0 : Tok} {tk_FORMS_1 : Tok}
    {tp_FORMS_0 : Addr} {od_FORMS_0 : Option Addr} {n_FORMS_0 : Nat} {sl_FORMS_0 : Array (Option Value)} {tt_FORMS_0_0 : Tok} {tt_FORMS_0_1 : Tok} {tt_FORMS_0_2 : Tok} {tt_FORMS_0_3 : Tok} {tt_FORMS_0_4 : Tok}
    {tp_FORMS_1 : Addr} {od_FORMS_1 : Option Addr} {n_FORMS_1 : Nat} {sl_FORMS_1 : Array (Option Value)} {tt_FORMS_1_0 : Tok} {tt_FORMS_1_1 : Tok} {tt_FORMS_1_2 : Tok} {tt_FORMS_1_3 : Tok}
    {x_NoRow : Addr}
    {x_TimesError : Addr}
    {x_Broken : Addr}
    {x_Forgotten : Addr}
    {x_NoFit : Addr}
    {x_NoKnowing : Addr}
    {x_NoLog : Addr}
    {x_NoName : Addr}
    {x_NoSheet : Addr}
    {x_NoStretch : Addr}
    (ax_NoRow : PySem.W.nsIn K mainGlobals "NoRow" = some (some (.ref x_NoRow)))
    (ax_TimesError : PySem.W.nsIn K mainGlobals "TimesError" = some (some (.ref x_TimesError)))
    (ax_Broken : PySem.W.nsIn K mainGlobals "Broken" = some (some (.ref x_Broken)))
    (ax_Forgotten : PySem.W.nsIn K mainGlobals "Forgotten" = some (some (.ref x_Forgotten)))
    (ax_NoFit : PySem.W.nsIn K mainGlobals "NoFit" = some (some (.ref x_NoFit)))
    (ax_NoKnowing : PySem.W.nsIn K mainGlobals "NoKnowing" = some (some (.ref x_NoKnowing)))
    (ax_NoLog : PySem.W.nsIn K mainGlobals "NoLog" = some (some (.ref x_NoLog)))
    (ax_NoName : PySem.W.nsIn K mainGlobals "NoName" = some (some (.ref x_NoName)))
    (ax_NoSheet : PySem.W.nsIn K mainGlobals "NoSheet" = some (some (.ref x_NoSheet)))
    (ax_NoStretch : PySem.W.nsIn K mainGlobals "NoStretch" = some (some (.ref x_NoStretch)))
    (xi_NoRow : PySem.W.excIn K x_NoRow veM "ValueError.__new__" = true)
    (xb_NoRow_TimesError : PySem.W.subIn K (.ref x_TimesError) (.type "BaseException") = some true)
    (xt_NoRow_TimesError : PySem.W.typeIn K (.ref x_TimesError) = some (.type "type"))
    (xs_NoRow_TimesError : PySem.W.subIn K (.ref x_NoRow) (.ref x_TimesError) = some true)
    (xh_NoRow_TimesError : PySem.W.hasDictIn K x_TimesError = true)
    (ea_NoRow : PySem.W.hasDictIn K x_NoRow = true)
    (eb_NoRow : PySem.W.findIn K (.ref x_NoRow) "__getattribute__" = some (some (.builtin "BaseException.__getattribute__")))
    (ec_NoRow : PySem.W.findIn K (.ref x_NoRow) "__getattr__" = some none)
    (ed_NoRow : PySem.W.findIn K (.ref x_NoRow) "__class__" = some (some (.builtin "object.__class__")))
    (ee_NoRow : PySem.W.specialIn K (.builtin "object.__class__") "__get__" = some (some (.builtin "getset_descriptor.__get__")))
    (ef_NoRow : PySem.W.takesIn K (.builtin "object.__class__") = some true)
    (eg_NoRow : PySem.W.mroIn K x_NoRow (.type "object") = some true)
    (eh_NoRow : PySem.W.mroIn K x_NoRow (.type "BaseException") = some true)
    (kt_NoRow_ValueError : PySem.W.kitOne K (.ref x_NoRow) (.type "ValueError") = some true)
    (ka_NoRow_0 : PySem.W.kitAny K (.ref x_NoRow) [.ref x_Broken, .ref x_Forgotten, .ref x_NoFit, .ref x_NoKnowing, .ref x_NoLog, .ref x_NoName, .ref x_NoSheet, .ref x_NoStretch] = some false)
    (a_p_is_number : PySem.W.nsIn K mainGlobals "is_number" = some (some (.ref f_p_is_number))) (l_p_is_number : K.lookup f_p_is_number = some ⟨oc_p_is_number, od_p_is_number, .func (PySem.W.fnOf "is_number" "is_number" (defArgs s_p_is_number) (defBody s_p_is_number) (defScope s_p_is_number) .none kV_p_is_number dc_p_is_number pm_p_is_number an_p_is_number cd_p_is_number ct_p_is_number), sl_p_is_number⟩) (c_p_is_number : PySem.W.codeIn K cd_p_is_number "is_number" = true) (k_p_is_number : PySem.W.keepIn K (.ref f_p_is_number) = true)
    (a_p_part_of : PySem.W.nsIn K mainGlobals "part_of" = some (some (.ref f_p_part_of))) (l_p_part_of : K.lookup f_p_part_of = some ⟨oc_p_part_of, od_p_part_of, .func (PySem.W.fnOf "part_of" "part_of" (defArgs s_p_part_of) (defBody s_p_part_of) (defScope s_p_part_of) .none kV_p_part_of dc_p_part_of pm_p_part_of an_p_part_of cd_p_part_of ct_p_part_of), sl_p_part_of⟩) (c_p_part_of : PySem.W.codeIn K cd_p_part_of "part_of" = true) (k_p_part_of : PySem.W.keepIn K (.ref f_p_part_of) = true)
    (a_p_parts_in : PySem.W.nsIn K mainGlobals "parts_in" = some (some (.ref f_p_parts_in))) (l_p_parts_in : K.lookup f_p_parts_in = some ⟨oc_p_parts_in, od_p_parts_in, .func (PySem.W.fnOf "parts_in" "parts_in" (defArgs s_p_parts_in) (defBody s_p_parts_in) (defScope s_p_parts_in) .none kV_p_parts_in dc_p_parts_in pm_p_parts_in an_p_parts_in cd_p_parts_in ct_p_parts_in), sl_p_parts_in⟩) (c_p_parts_in : PySem.W.codeIn K cd_p_parts_in "parts_in" = true) (k_p_parts_in : PySem.W.keepIn K (.ref f_p_parts_in) = true)
    (a_p_telling_in : PySem.W.nsIn K mainGlobals "telling_in" = some (some (.ref f_p_telling_in))) (l_p_telling_in : K.lookup f_p_telling_in = some ⟨oc_p_telling_in, od_p_telling_in, .func (PySem.W.fnOf "telling_in" "telling_in" (defArgs s_p_telling_in) (defBody s_p_telling_in) (defScope s_p_telling_in) .none kV_p_telling_in dc_p_telling_in pm_p_telling_in an_p_telling_in cd_p_telling_in ct_p_telling_in), sl_p_telling_in⟩) (c_p_telling_in : PySem.W.codeIn K cd_p_telling_in "telling_in" = true) (k_p_telling_in : PySem.W.keepIn K (.ref f_p_telling_in) = true)
    (a_tumbled : PySem.W.nsIn K mainGlobals "_law_tumbled" = some (some (.ref f_tumbled))) (l_tumbled : K.lookup f_tumbled = some ⟨oc_tumbled, od_tumbled, .func (PySem.W.fnOf "_law_tumbled" "_law_tumbled" (defArgs s_tumbled) (defBody s_tumbled) (defScope s_tumbled) .none kV_tumbled dc_tumbled pm_tumbled an_tumbled cd_tumbled ct_tumbled), sl_tumbled⟩) (c_tumbled : PySem.W.codeIn K cd_tumbled "_law_tumbled" = true) (k_tumbled : PySem.W.keepIn K (.ref f_tumbled) = true)
    (a_words : PySem.W.nsIn K mainGlobals "_law_words" = some (some (.ref f_words))) (l_words : K.lookup f_words = some ⟨oc_words, od_words, .func (PySem.W.fnOf "_law_words" "_law_words" (defArgs s_words) (defBody s_words) (defScope s_words) .none kV_words dc_words pm_words an_words cd_words ct_words), sl_words⟩) (c_words : PySem.W.codeIn K cd_words "_law_words" = true) (k_words : PySem.W.keepIn K (.ref f_words) = true)
    (a_number : PySem.W.nsIn K mainGlobals "_law_number" = some (some (.ref f_number))) (l_number : K.lookup f_number = some ⟨oc_number, od_number, .func (PySem.W.fnOf "_law_number" "_law_number" (defArgs s_number) (defBody s_number) (defScope s_number) .none kV_number dc_number pm_number an_number cd_number ct_number), sl_number⟩) (c_number : PySem.W.codeIn K cd_number "_law_number" = true) (k_number : PySem.W.keepIn K (.ref f_number) = true)
    (a_line : PySem.W.nsIn K mainGlobals "_law_line" = some (some (.ref f_line))) (l_line : K.lookup f_line = some ⟨oc_line, od_line, .func (PySem.W.fnOf "_law_line" "_law_line" (defArgs s_line) (defBody s_line) (defScope s_line) .none kV_line dc_line pm_line an_line cd_line ct_line), sl_line⟩) (c_line : PySem.W.codeIn K cd_line "_law_line" = true) (k_line : PySem.W.keepIn K (.ref f_line) = true)
    (a_spoilt : PySem.W.nsIn K mainGlobals "_law_spoilt" = some (some (.ref f_spoilt))) (l_spoilt : K.lookup f_spoilt = some ⟨oc_spoilt, od_spoilt, .func (PySem.W.fnOf "_law_spoilt" "_law_spoilt" (defArgs s_spoilt) (defBody s_spoilt) (defScope s_spoilt) .none kV_spoilt dc_spoilt pm_spoilt an_spoilt cd_spoilt ct_spoilt), sl_spoilt⟩) (c_spoilt : PySem.W.codeIn K cd_spoilt "_law_spoilt" = true) (k_spoilt : PySem.W.keepIn K (.ref f_spoilt) = true)
    (a_refused : PySem.W.nsIn K mainGlobals "_law_refused" = some (some (.ref f_refused))) (l_refused : K.lookup f_refused = some ⟨oc_refused, od_refused, .func (PySem.W.fnOf "_law_refused" "_law_refused" (defArgs s_refused) (defBody s_refused) (defScope s_refused) .none kV_refused dc_refused pm_refused an_refused cd_refused ct_refused), sl_refused⟩) (c_refused : PySem.W.codeIn K cd_refused "_law_refused" = true) (k_refused : PySem.W.keepIn K (.ref f_refused) = true)
    (a_law : PySem.W.nsIn K mainGlobals "law" = some (some (.ref f_law))) (l_law : K.lookup f_law = some ⟨oc_law, od_law, .func (PySem.W.fnOf "law" "law" (defArgs s_law) (defBody s_law) (defScope s_law) .none kV_law dc_law pm_law an_law cd_law ct_law), sl_law⟩) (c_law : PySem.W.codeIn K cd_law "law" = true) (k_law : PySem.W.keepIn K (.ref f_law) = true)
    (z_all : PySem.W.nsIn K mainGlobals "all" = some none)
    (z_len : PySem.W.nsIn K mainGlobals "len" = some none)
    (z_int : PySem.W.nsIn K mainGlobals "int" = some none)
    (z_zip : PySem.W.nsIn K mainGlobals "zip" = some none)
    (z_dict : PySem.W.nsIn K mainGlobals "dict" = some none)
    (z_tuple : PySem.W.nsIn K mainGlobals "tuple" = some none)
    (z_range : PySem.W.nsIn K mainGlobals "range" = some none)
    (z_str : PySem.W.nsIn K mainGlobals "str" = some none)
    (z_max : PySem.W.nsIn K mainGlobals "max" = some none)
    (z_isinstance : PySem.W.nsIn K mainGlobals "isinstance" = some none)
    (z_ValueError : PySem.W.nsIn K mainGlobals "ValueError" = some none)
    (v_MOST_FIGURES : PySem.W.nsIn K mainGlobals "MOST_FIGURES" = some (some (.int 13 t_MOST_FIGURES)))
    (v_FOR_NONE : PySem.W.nsIn K mainGlobals "FOR_NONE" = some (some (.ref g_FOR_NONE)))
    (ld_FOR_NONE : K.lookup g_FOR_NONE = some ⟨.type "dict", none, .dict ⟨[⟨hashStr w "end", .str "end" tk_FOR_NONE_0, .str "-" tv_FOR_NONE_0⟩, ⟨hashStr w "knowing", .str "knowing" tk_FOR_NONE_1, .str "now" tv_FOR_NONE_1⟩]⟩ ep_FOR_NONE, #[]⟩)
    (sy_FOR_NONE : (g_FOR_NONE == sysModules) = false)
    (v_FORMS : PySem.W.nsIn K mainGlobals "FORMS" = some (some (.ref g_FORMS)))
    (ld_FORMS : K.lookup g_FORMS = some ⟨.type "dict", none, .dict ⟨[⟨hashStr w "put", .str "put" tk_FORMS_0, .ref tp_FORMS_0⟩, ⟨hashStr w "clear", .str "clear" tk_FORMS_1, .ref tp_FORMS_1⟩]⟩ ep_FORMS, #[]⟩)
    (sy_FORMS : (g_FORMS == sysModules) = false)
    (nd_FORMS : decide (List.Nodup (α := Nat) [tp_FORMS_0, tp_FORMS_1]) = true)
    (lt_FORMS_0 : K.lookup tp_FORMS_0 = some ⟨.type "tuple", od_FORMS_0, .seq ⟨[.str "word" tt_FORMS_0_0, .str "word" tt_FORMS_0_1, .str "word" tt_FORMS_0_2, .str "moment" tt_FORMS_0_3, .str "end" tt_FORMS_0_4]⟩ n_FORMS_0, sl_FORMS_0⟩)
    (lt_FORMS_1 : K.lookup tp_FORMS_1 = some ⟨.type "tuple", od_FORMS_1, .seq ⟨[.str "word" tt_FORMS_1_0, .str "word" tt_FORMS_1_1, .str "moment" tt_FORMS_1_2, .str "end" tt_FORMS_1_3]⟩ n_FORMS_1, sl_FORMS_1⟩) :
    ∃ fd : FuncData, (∀ (s : Shared) (v : Value), BindsTo s fd ⟨[v], []⟩ [("script", v)]) ∧ ∀ base : Heap, K.In base → base.Ns mainGlobals mg → FnOk l.prog w K mg base CX0 6 fa fd ["script"] (lowP K sp_law) := by
  have e := hfa.symm.trans (PySem.W.mg_of X G a_law)
  cases e
  let a : Ad := ⟨f_p_is_number, (PySem.W.fnOf "is_number" "is_number" (defArgs s_p_is_number) (defBody s_p_is_number) (defScope s_p_is_number) .none kV_p_is_number dc_p_is_number pm_p_is_number an_p_is_number cd_p_is_number ct_p_is_number), f_p_part_of, (PySem.W.fnOf "part_of" "part_of" (defArgs s_p_part_of) (defBody s_p_part_of) (defScope s_p_part_of) .none kV_p_part_of dc_p_part_of pm_p_part_of an_p_part_of cd_p_part_of ct_p_part_of), f_p_parts_in, (PySem.W.fnOf "parts_in" "parts_in" (defArgs s_p_parts_in) (defBody s_p_parts_in) (defScope s_p_parts_in) .none kV_p_parts_in dc_p_parts_in pm_p_parts_in an_p_parts_in cd_p_parts_in ct_p_parts_in), f_p_telling_in, (PySem.W.fnOf "telling_in" "telling_in" (defArgs s_p_telling_in) (defBody s_p_telling_in) (defScope s_p_telling_in) .none kV_p_telling_in dc_p_telling_in pm_p_telling_in an_p_telling_in cd_p_telling_in ct_p_telling_in), f_tumbled, (PySem.W.fnOf "_law_tumbled" "_law_tumbled" (defArgs s_tumbled) (defBody s_tumbled) (defScope s_tumbled) .none kV_tumbled dc_tumbled pm_tumbled an_tumbled cd_tumbled ct_tumbled), f_words, (PySem.W.fnOf "_law_words" "_law_words" (defArgs s_words) (defBody s_words) (defScope s_words) .none kV_words dc_words pm_words an_words cd_words ct_words), f_number, (PySem.W.fnOf "_law_number" "_law_number" (defArgs s_number) (defBody s_number) (defScope s_number) .none kV_number dc_number pm_number an_number cd_number ct_number), f_line, (PySem.W.fnOf "_law_line" "_law_line" (defArgs s_line) (defBody s_line) (defScope s_line) .none kV_line dc_line pm_line an_line cd_line ct_line), f_spoilt, (PySem.W.fnOf "_law_spoilt" "_law_spoilt" (defArgs s_spoilt) (defBody s_spoilt) (defScope s_spoilt) .none kV_spoilt dc_spoilt pm_spoilt an_spoilt cd_spoilt ct_spoilt), f_refused, (PySem.W.fnOf "_law_refused" "_law_refused" (defArgs s_refused) (defBody s_refused) (defScope s_refused) .none kV_refused dc_refused pm_refused an_refused cd_refused ct_refused), fa, (PySem.W.fnOf "law" "law" (defArgs s_law) (defBody s_law) (defScope s_law) .none kV_law dc_law pm_law an_law cd_law ct_law), x_NoRow, x_TimesError, x_Broken, x_Forgotten, x_NoFit, x_NoKnowing, x_NoLog, x_NoName, x_NoSheet, x_NoStretch, g_FOR_NONE, g_FORMS, tp_FORMS_0, tp_FORMS_1⟩
  have F : Fns K a := ⟨fun_mk (st := s_p_is_number) l_p_is_number c_p_is_number k_p_is_number, fun_mk (st := s_p_part_of) l_p_part_of c_p_part_of k_p_part_of, fun_mk (st := s_p_parts_in) l_p_parts_in c_p_parts_in k_p_parts_in, fun_mk (st := s_p_telling_in) l_p_telling_in c_p_telling_in k_p_telling_in, fun_mk (st := s_tumbled) l_tumbled c_tumbled k_tumbled, fun_mk (st := s_words) l_words c_words k_words, fun_mk (st := s_number) l_number c_number k_number, fun_mk (st := s_line) l_line c_line k_line, fun_mk (st := s_spoilt) l_spoilt c_spoilt k_spoilt, fun_mk (st := s_refused) l_refused c_refused k_refused, fun_mk (st := s_law) l_law c_law k_law⟩
  have T : Txt w K mg a := ⟨PySem.W.mg_of X G a_p_is_number, k_p_is_number, PySem.W.mg_of X G a_p_part_of, k_p_part_of, PySem.W.mg_of X G a_p_parts_in, k_p_parts_in, PySem.W.mg_of X G a_p_telling_in, k_p_telling_in, PySem.W.mg_of X G a_tumbled, k_tumbled, PySem.W.mg_of X G a_words, k_words, PySem.W.mg_of X G a_number, k_number, PySem.W.mg_of X G a_line, k_line, PySem.W.mg_of X G a_spoilt, k_spoilt, PySem.W.mg_of X G a_refused, k_refused, PySem.W.mg_of X G a_law, k_law, PySem.W.mg_none_of X G z_all, PySem.W.mg_none_of X G z_len, PySem.W.mg_none_of X G z_int, PySem.W.mg_none_of X G z_zip, PySem.W.mg_none_of X G z_dict, PySem.W.mg_none_of X G z_tuple, PySem.W.mg_none_of X G z_range, PySem.W.mg_none_of X G z_str, PySem.W.mg_none_of X G z_max, PySem.W.mg_none_of X G z_isinstance, PySem.W.mg_none_of X G z_ValueError, PySem.W.mg_of X G ax_NoRow, PySem.W.mg_of X G ax_TimesError, PySem.W.mg_of X G ax_Broken, PySem.W.mg_of X G ax_Forgotten, PySem.W.mg_of X G ax_NoFit, PySem.W.mg_of X G ax_NoKnowing, PySem.W.mg_of X G ax_NoLog, PySem.W.mg_of X G ax_NoName, PySem.W.mg_of X G ax_NoSheet, PySem.W.mg_of X G ax_NoStretch, xi_NoRow, exm_mk xb_NoRow_TimesError xt_NoRow_TimesError xs_NoRow_TimesError xh_NoRow_TimesError, exk_mk ea_NoRow eb_NoRow ec_NoRow ed_NoRow ee_NoRow ef_NoRow eg_NoRow eh_NoRow, kt_NoRow_ValueError, ka_NoRow_0, ⟨t_MOST_FIGURES, PySem.W.mg_of X G v_MOST_FIGURES⟩, PySem.W.mg_of X G v_FOR_NONE, kdk_mk (rows := [("end", tk_FOR_NONE_0, .str "-" tv_FOR_NONE_0), ("knowing", tk_FOR_NONE_1, .str "now" tv_FOR_NONE_1)]) (kvs := [(.inr "end", .str "-"), (.inr "knowing", .str "now")]) ld_FOR_NONE sy_FOR_NONE (show List.Nodup (α := Key) [.inr "end", .inr "knowing"] by decide +kernel) (.cons ⟨rfl, ⟨_, rfl⟩⟩ (.cons ⟨rfl, ⟨_, rfl⟩⟩ (.nil))) (Nat.le_of_ble_eq_true rfl) (by simp [simpZ]), PySem.W.mg_of X G v_FORMS, kdk_mk (rows := [("put", tk_FORMS_0, .ref tp_FORMS_0), ("clear", tk_FORMS_1, .ref tp_FORMS_1)]) (kvs := [(.inr "put", .ref tp_FORMS_0), (.inr "clear", .ref tp_FORMS_1)]) ld_FORMS sy_FORMS (show List.Nodup (α := Key) [.inr "put", .inr "clear"] by decide +kernel) (.cons ⟨rfl, rfl⟩ (.cons ⟨rfl, rfl⟩ (.nil))) (Nat.le_of_ble_eq_true rfl) (by simp [simpZ]), nd_FORMS, ktt_mk (tt := [(tp_FORMS_0, ["word", "word", "word", "moment", "end"]), (tp_FORMS_1, ["word", "word", "moment", "end"])]) (.cons (ktup_mk (rows := [("word", tt_FORMS_0_0), ("word", tt_FORMS_0_1), ("word", tt_FORMS_0_2), ("moment", tt_FORMS_0_3), ("end", tt_FORMS_0_4)]) lt_FORMS_0 (Nat.le_of_ble_eq_true rfl)) (.cons (ktup_mk (rows := [("word", tt_FORMS_1_0), ("word", tt_FORMS_1_1), ("moment", tt_FORMS_1_2), ("end", tt_FORMS_1_3)]) lt_FORMS_1 (Nat.le_of_ble_eq_true rfl)) (.nil)))⟩
  exact ⟨a.d_law, fun s v => .of_eq rfl, fun base _ _ => ok_law F T⟩
theorem walk {l : PySem.W.OpenLaw} {q : Program} {loose : List Str} {XP : (Str → Option Value) → Heap → Prop} {YP : World → Heap → Prop} {d : DefRec} {K : Params → PySem.W.Frag} (hn : l.most = some 63) (hdf : d.params.defaults = [])
    (hY : ∀ (w : World) (h : Heap), YP w h → (K w.params).In h)
    (F : ∀ (w : World) (mg : Str → Option Value) (fa : Addr) (h : Heap), (K w.params).In h → h.Ns mainGlobals mg → mg d.name = some (.ref fa) →
      ∃ fd : FuncData, (∀ (s : Shared) (u : Value), BindsTo s fd ⟨[u], []⟩ [("script", u)]) ∧ ∀ base : Heap, (K w.params).In base → base.Ns mainGlobals mg → FnOk l.prog w (K w.params) mg base CX0 6 fa fd ["script"] (lowP (K w.params) sp_law)) :
    PySem.W.WalkO q loose XP YP l.row.toRowW d [] (fun f vs => PySem.call f vs) :=
  L2.walk_of (n := 63) (k := 6) (x := "script") (CX := fun _ => CX0) (sp := fun w => lowP (K w.params) sp_law) hn (by decide) hdf ⟨rfl, by decide, by decide⟩ hY F (fun _ _ a ns hl hO hS => law_start a ns hl (Fz.of hO hS)) fun _ _ _ _ _ z => z
end Lw
open PySem PySem.W PyProof.Rows
set_option maxRecDepth 100000 in
set_option maxHeartbeats 0 in
theorem PySem.Challenge.cw_twotimes_k82_no_lines_holds : PySem.Challenge.rw_twotimes_k82_no_lines.Holds := by
  w_on; o_law; k_head; (case hw => w_witness2)
  k_fill
  refine Lw.walk (l := PySem.Challenge.rw_twotimes_k82_no_lines) rfl rfl (fun w h Y => PySem.W.kIn_of Y) ?F
  case F =>
    intro w mg fa h KX G hmg
    refine' Lw.all_mk KX G hmg ?ax_NoRow ?ax_TimesError ?ax_Broken ?ax_Forgotten ?ax_NoFit ?ax_NoKnowing ?ax_NoLog ?ax_NoName ?ax_NoSheet ?ax_NoStretch ?xi_NoRow ?xb_NoRow_TimesError ?xt_NoRow_TimesError ?xs_NoRow_TimesError ?xh_NoRow_TimesError ?ea_NoRow ?eb_NoRow ?ec_NoRow ?ed_NoRow ?ee_NoRow ?ef_NoRow ?eg_NoRow ?eh_NoRow ?kt_NoRow_ValueError ?ka_NoRow_0 ?a_p_is_number ?l_p_is_number ?c_p_is_number ?k_p_is_number ?a_p_part_of ?l_p_part_of ?c_p_part_of ?k_p_part_of ?a_p_parts_in ?l_p_parts_in ?c_p_parts_in ?k_p_parts_in ?a_p_telling_in ?l_p_telling_in ?c_p_telling_in ?k_p_telling_in ?a_tumbled ?l_tumbled ?c_tumbled ?k_tumbled ?a_words ?l_words ?c_words ?k_words ?a_number ?l_number ?c_number ?k_number ?a_line ?l_line ?c_line ?k_line ?a_spoilt ?l_spoilt ?c_spoilt ?k_spoilt ?a_refused ?l_refused ?c_refused ?k_refused ?a_law ?l_law ?c_law ?k_law ?z_all ?z_len ?z_int ?z_zip ?z_dict ?z_tuple ?z_range ?z_str ?z_max ?z_isinstance ?z_ValueError ?v_MOST_FIGURES ?v_FOR_NONE ?ld_FOR_NONE ?sy_FOR_NONE ?v_FORMS ?ld_FORMS ?sy_FORMS ?nd_FORMS ?lt_FORMS_0 ?lt_FORMS_1
    (case ax_NoRow => k_is)
    (case ax_TimesError => k_is)
    (case ax_Broken => k_is)
    (case ax_Forgotten => k_is)
    (case ax_NoFit => k_is)
    (case ax_NoKnowing => k_is)
    (case ax_NoLog => k_is)
    (case ax_NoName => k_is)
    (case ax_NoSheet => k_is)
    (case ax_NoStretch => k_is)
    (case xi_NoRow => k_exc)
    (case xb_NoRow_TimesError => k_is)
    (case xt_NoRow_TimesError => k_is)
    (case xs_NoRow_TimesError => k_is)
    (case xh_NoRow_TimesError => k_is)
    (case ea_NoRow => k_is)
    (case eb_NoRow => k_is)
    (case ec_NoRow => k_is)
    (case ed_NoRow => k_is)
    (case ee_NoRow => k_is)
    (case ef_NoRow => k_is)
    (case eg_NoRow => k_is)
    (case eh_NoRow => k_is)
    (case kt_NoRow_ValueError => kit_is)
    (case ka_NoRow_0 => kit_is)
    (case a_p_is_number => k_is)
    (case l_p_is_number => k_is)
    (case c_p_is_number => k_is)
    (case k_p_is_number => k_is)
    (case a_p_part_of => k_is)
    (case l_p_part_of => k_is)
    (case c_p_part_of => k_is)
    (case k_p_part_of => k_is)
    (case a_p_parts_in => k_is)
    (case l_p_parts_in => k_is)
    (case c_p_parts_in => k_is)
    (case k_p_parts_in => k_is)
    (case a_p_telling_in => k_is)
    (case l_p_telling_in => k_is)
    (case c_p_telling_in => k_is)
    (case k_p_telling_in => k_is)
    (case a_tumbled => k_is)
    (case l_tumbled => k_is)
    (case c_tumbled => k_is)
    (case k_tumbled => k_is)
    (case a_words => k_is)
    (case l_words => k_is)
    (case c_words => k_is)
    (case k_words => k_is)
    (case a_number => k_is)
    (case l_number => k_is)
    (case c_number => k_is)
    (case k_number => k_is)
    (case a_line => k_is)
    (case l_line => k_is)
    (case c_line => k_is)
    (case k_line => k_is)
    (case a_spoilt => k_is)
    (case l_spoilt => k_is)
    (case c_spoilt => k_is)
    (case k_spoilt => k_is)
    (case a_refused => k_is)
    (case l_refused => k_is)
    (case c_refused => k_is)
    (case k_refused => k_is)
    (case a_law => k_is)
    (case l_law => k_is)
    (case c_law => k_is)
    (case k_law => k_is)
    (case z_all => k_is)
    (case z_len => k_is)
    (case z_int => k_is)
    (case z_zip => k_is)
    (case z_dict => k_is)
    (case z_tuple => k_is)
    (case z_range => k_is)
    (case z_str => k_is)
    (case z_max => k_is)
    (case z_isinstance => k_is)
    (case z_ValueError => k_is)
    (case v_MOST_FIGURES => k_is)
    (case v_FOR_NONE => k_is)
    (case ld_FOR_NONE => k_is)
    (case sy_FOR_NONE => rfl)
    (case v_FORMS => k_is)
    (case ld_FORMS => k_is)
    (case sy_FORMS => rfl)
    (case nd_FORMS => rfl)
    (case lt_FORMS_0 => k_is)
    (case lt_FORMS_1 => k_is)
