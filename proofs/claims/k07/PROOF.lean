import PyProof.Rows.All
import Wide.All
import OpenK.AllK
import Wide.FinOn
import Lean
import PyProof.EqAt
import PyProof.EqKinds
import PyProof.TupleCall
import PyProof.NeKinds
import PySem.Challenge.RW_printlane_k07_by_hand
set_option Elab.async false
set_option linter.all false
set_option maxRecDepth 100000
namespace L2
open PySem PySem.Spec PyProof.Rows

/-- a key: an int or a str -/
abbrev Key := Sum Int Str
def keyIs : Key → Value → Bool
  | .inl k, v => Value.isInt k v
  | .inr x, v => Value.isStrOf x v
def keyH (w : World) : Key → Int
  | .inl k => hashInt k
  | .inr x => hashStr w x
theorem keyIs_shape : ∀ {k : Key} {v : Value}, keyIs k v = true → (∃ i t, k = Sum.inl i ∧ v = Value.int i t) ∨ (∃ x t, k = Sum.inr x ∧ v = Value.str x t)
  | .inl i, v, h => by
    obtain ⟨t, e⟩ := Value.isInt_shape (k := i) (v := v) h
    exact .inl ⟨i, t, rfl, e⟩
  | .inr x, v, h => by
    obtain ⟨t, e⟩ := Value.isStrOf_shape (x := x) (v := v) h
    exact .inr ⟨x, t, rfl, e⟩
theorem keyIs_int (i : Int) (t : Tok) : keyIs (.inl i) (.int i t) = true := by simp [keyIs, Value.isInt]
theorem keyIs_str (x : Str) (t : Tok) : keyIs (.inr x) (.str x t) = true := by simp [keyIs, Value.isStrOf]
theorem key_ll (a b : Int) : decide ((Sum.inl a : Key) = Sum.inl b) = (a == b) := by
  by_cases e : a = b
  · subst e; simp
  · have h : ¬ (Sum.inl a : Key) = Sum.inl b := fun q => e (Sum.inl.inj q)
    rw [decide_eq_false h]
    exact (beq_eq_false_iff_ne.mpr e).symm
theorem key_rr (a b : Str) : decide ((Sum.inr a : Key) = Sum.inr b) = decide (a = b) := by
  by_cases e : a = b
  · subst e; simp
  · have h : ¬ (Sum.inr a : Key) = Sum.inr b := fun q => e (Sum.inr.inj q)
    rw [decide_eq_false h, decide_eq_false e]
theorem key_lr (a : Int) (b : Str) : decide ((Sum.inl a : Key) = Sum.inr b) = false := decide_eq_false (fun q => nomatch q)
theorem key_rl (a : Str) (b : Int) : decide ((Sum.inr a : Key) = Sum.inl b) = false := decide_eq_false (fun q => nomatch q)

def mixKind (prog : Program) (w : World) : PySem.KeyKind prog w Key where
  is := keyIs
  hash := keyH w
  inj := fun v a b ha hb => by
    rcases keyIs_shape ha with ⟨i, t, rfl, rfl⟩ | ⟨x, t, rfl, rfl⟩
    · rcases keyIs_shape hb with ⟨j, u, rfl, e⟩ | ⟨y, u, rfl, e⟩
      · injection e with e1 _; rw [e1]
      · exact nomatch e
    · rcases keyIs_shape hb with ⟨j, u, rfl, e⟩ | ⟨y, u, rfl, e⟩
      · exact nomatch e
      · injection e with e1 _; rw [e1]
  byValue := fun k v h => by
    rcases keyIs_shape h with ⟨i, t, rfl, rfl⟩ | ⟨x, t, rfl, rfl⟩ <;> rfl
  pyHash := fun hv h => by
    rcases keyIs_shape hv with ⟨i, t, rfl, rfl⟩ | ⟨x, t, rfl, rfl⟩
    · exact wpAny_pyHash_int h
    · exact wpAny_pyHash_str h
  eqBool := fun hu hv h => by
    rcases keyIs_shape hu with ⟨i, t, rfl, rfl⟩ | ⟨x, t, rfl, rfl⟩
    · rcases keyIs_shape hv with ⟨j, u, rfl, rfl⟩ | ⟨y, u, rfl, rfl⟩
      · rw [key_ll] at h; exact wpAny_eqBool_int h
      · rw [key_lr] at h; exact SeqAt.EqAt.int_str i t y u _ _ _ _ h
    · rcases keyIs_shape hv with ⟨j, u, rfl, rfl⟩ | ⟨y, u, rfl, rfl⟩
      · rw [key_rl] at h; exact SeqAt.EqAt.str_int x t j u _ _ _ _ h
      · rw [key_rr] at h; exact wpAny_eqBool_str h
  «strs» := fun k x t v h => by
    rcases keyIs_shape h with ⟨i, u, rfl, e⟩ | ⟨y, u, rfl, e⟩
    · exact nomatch e
    · injection e with e1 _
      subst e1
      cases v <;> rfl

theorem mixKind_int (prog : Program) (w : World) (i : Int) (t : Tok) : (mixKind prog w).is (.inl i) (.int i t) = true := keyIs_int i t
theorem mixKind_str (prog : Program) (w : World) (x : Str) (t : Tok) : (mixKind prog w).is (.inr x) (.str x t) = true := keyIs_str x t
end L2

namespace L2
open PySem PySem.Spec PyProof.Rows

/-- a value, without the heap -/
inductive V where
  | non | bl (b : Bool) | int (i : Int) | str (x : Str) | byt (b : Array UInt8) | flt (b : UInt64) | ref (a : Addr) | ty (n : String)
  deriving DecidableEq

def RelV : V → Value → Prop
  | .non, u => u = Value.none
  | .bl b, u => u = Value.bool b
  | .int i, u => ∃ t, u = Value.int i t
  | .str x, u => ∃ t, u = Value.str x t
  | .byt b, u => ∃ t, u = Value.bytes b t
  | .flt b, u => ∃ t, u = Value.float b t
  | .ref a, u => u = Value.ref a
  | .ty n, u => u = Value.type n

abbrev Vals : List V → List Value → Prop := Paired RelV
theorem Vals.length {xs : List V} {us : List Value} (r : Vals xs us) : xs.length = us.length := Paired.length r
theorem Vals.get : ∀ {xs : List V} {us : List Value} {i : Nat} {x : V}, Vals xs us → xs[i]? = some x → ∃ u, us[i]? = some u ∧ RelV x u
  | _, _, _, _, .nil, e => by simp at e
  | _, _, 0, _, .cons r _, e => by simp at e; subst e; exact ⟨_, rfl, r⟩
  | _, _, i + 1, x, .cons _ t, e => by
    obtain ⟨u, h1, h2⟩ := Vals.get (i := i) (x := x) t (by simpa using e)
    exact ⟨u, by simpa using h1, h2⟩
theorem Vals.set {x : V} {u : Value} (r : RelV x u) : ∀ {xs : List V} {us : List Value} (i : Nat), Vals xs us → Vals (xs.set i x) (us.set i u)
  | _, _, _, .nil => .nil
  | _, _, 0, .cons _ t => .cons r t
  | _, _, i + 1, .cons q t => .cons q (Vals.set r i t)
theorem Vals.append : ∀ {xs ys : List V} {us ws : List Value}, Vals xs us → Vals ys ws → Vals (xs ++ ys) (us ++ ws)
  | _, _, _, _, .nil, s => s
  | _, _, _, _, .cons r t, s => .cons r (Vals.append t s)
theorem Vals.take : ∀ {xs : List V} {us : List Value} (n : Nat), Vals xs us → Vals (xs.take n) (us.take n)
  | _, _, 0, _ => .nil
  | _, _, _ + 1, .nil => .nil
  | _, _, n + 1, .cons r t => .cons r (Vals.take n t)
theorem Vals.drop : ∀ {xs : List V} {us : List Value} (n : Nat), Vals xs us → Vals (xs.drop n) (us.drop n)
  | _, _, 0, r => r
  | _, _, _ + 1, .nil => .nil
  | _, _, n + 1, .cons _ t => Vals.drop n t
def RelO : Option V → Option Value → Prop
  | some v, some u => RelV v u
  | none, none => True
  | _, _ => False
def KV {κ : Type} : List (κ × V) → List (κ × Value) → Prop := Paired fun (p : κ × V) (q : κ × Value) => p.1 = q.1 ∧ RelV p.2 q.2

/-- a key of a dict (00_mix): an int or a text -/
def kV : Key → V
  | .inl i => .int i
  | .inr x => .str x

/-- what stands at a tracked address -/
inductive HO where
  /-- a list -/
  | lst (xs : List V)
  /-- a tuple (never changes) -/
  | tup (xs : List V)
  /-- a dict whose keys are ints and texts; one whose keys are tuples of ints and texts (the empty one is both) -/
  | dK (kvs : List (Key × V)) | dT (kvs : List (List Key × V))
  /-- a set of ints: its members, its size -/
  | set (S : Int → Bool) (n : Nat)
  /-- an instance of the class at C, its dict at dx, its attributes -/
  | ins (C dx : Addr) (fs : List (Str × V))
  /-- the dict of the instance at x -/
  | own (x : Addr)
  /-- the dict of an exception -/
  | xd (fs : List (Str × V))
  /-- a bound method, f of x -/
  | met (f x : Addr)
  /-- a range object lo, lo + 1, .. below hi -/
  | rng (lo hi : Int)
  /-- a thing that is known to the object (the script; a dict while a loop walks it): read, never written while it is so -/
  | frz (o : Obj) (u : HO)
  /-- a code object's table -/
  | tbl (ps : Array Value)
  /-- any other thing, by what is true of its one object (a def of one's own: SetO a S n := HO.ext fun h => ..) -/
  | ext (φ : Heap → Prop)

abbrev Hp := Addr → Option HO
def upd (H : Hp) (a : Addr) (o : HO) : Hp := fun b => if b = a then some o else H b
theorem upd_same {H : Hp} {a : Addr} {o : HO} : upd H a o a = some o := by unfold upd; rw [if_pos rfl]
theorem upd_ne {H : Hp} {a b : Addr} {o : HO} (h : b ≠ a) : upd H a o b = H b := by unfold upd; rw [if_neg h]
/-- two objects of different content stand apart -/
theorem ne_of {H : Hp} {a b : Addr} {o u : HO} (h : H a = some o) (h' : H b = some u) (d : o ≠ u) : a ≠ b := by
  intro e; subst e; rw [h] at h'; exact d (Option.some.inj h')
theorem ne_of_none {H : Hp} {a b : Addr} {o : HO} (h : H a = some o) (h' : H b = none) : a ≠ b := by
  intro e; subst e; rw [h] at h'; cases h'

section
variable (P : Program) (w : World)
def ObjOk (H : Hp) (h : Heap) (a : Addr) : HO → Prop
  | .lst xs => xs.length ≤ sizeLine ∧ ∃ (its : List Value) (n : Nat), Vals xs its ∧ h.get? a = some { cls := .type "list", data := .seq its.toArray n }
  | .tup xs => xs.length ≤ sizeLine ∧ ∃ its : List Value, Vals xs its ∧ IsTup h a its.toArray
  | .dK kvs => kvs.length ≤ sizeLine ∧ (a == sysModules) = false ∧ ∃ vs, KV kvs vs ∧ h.DictOf (mixKind P w) a vs
  | .dT kvs => kvs.length ≤ sizeLine ∧ (a == sysModules) = false ∧ ∃ xs : List (List Key × Addr × Value),
      Paired (fun (p : List Key × V) (q : List Key × Addr × Value) => p.1 = q.1 ∧ H q.2.1 = some (.tup (p.1.map kV)) ∧ RelV p.2 q.2.2) kvs xs ∧
      ∃ o es ep, h.get? a = some o ∧ o.ExactDict ∧ o.data = .dict es ep ∧ es.toList = xs.map (entryOfKey (tupleKind (mixKind P w))) ∧ (xs.map (·.1)).Nodup
  | .set S n => h.SetOf (intKind P w) a S n
  | .ins C dx fs => H dx = some (.own a) ∧ fs.length ≤ 1000 ∧ dx ≠ a ∧ h.get? a = some (PySem.W.instObj C dx) ∧
      ∃ mA, h.Ns1 dx mA ∧ (∀ f, RelO (fs.lookup f) (mA f)) ∧ PySem.Within mA (fs.map (·.1))
  | .own _ => ∃ o, h.get? a = some o
  | .xd fs => ∃ mA, h.Ns1 a mA ∧ ∀ f, RelO (fs.lookup f) (mA f)
  | .rng lo hi => ∃ t u v, h.get? a = some { cls := .type "range", data := .fields #[.int lo t, .int hi u, .int 1 v] }
  | .frz o u => h.get? a = some o ∧ ObjOk H h a u
  | .tbl ps => h.get? a = some { cls := .none, data := .fields ps }
  | .met f x => h.get? a = some (PySem.W.methodObj (.ref f) (.ref x))
  | .ext φ => φ h ∧ (∃ o, h.get? a = some o) ∧ ∀ h1 h2 : Heap, φ h1 → (∀ o, h1.get? a = some o → h2.get? a = some o) → φ h2
/-- the abstract heap is held -/
def HOk (H : Hp) (h : Heap) : Prop := ∀ a o, H a = some o → ObjOk P w H h a o
end

section
variable {P : Program} {w : World} {H H' : Hp} {h h' : Heap} {a : Addr} {o : HO}
theorem ObjOk.lt (x : ObjOk P w H h a o) : a < h.objs.size := by
  cases o with
  | lst xs => obtain ⟨_, _, _, _, e⟩ := x; exact Heap.lt_size e
  | tup xs => obtain ⟨_, _, _, p⟩ := x; exact p.lt
  | dK kvs => obtain ⟨_, _, _, _, o, _, _, e, _⟩ := x; exact Heap.lt_size e
  | dT kvs => obtain ⟨_, _, _, _, o, _, _, e, _⟩ := x; exact Heap.lt_size e
  | set S n => obtain ⟨o, _, _, _, e, _⟩ := x; exact Heap.lt_size e
  | ins C dx fs => obtain ⟨_, _, _, e, _⟩ := x; exact Heap.lt_size e
  | own y => obtain ⟨_, e⟩ := x; exact Heap.lt_size e
  | xd fs => obtain ⟨_, ⟨_, _, _, e, _⟩, _⟩ := x; exact Heap.lt_size e
  | rng lo hi => obtain ⟨_, _, _, e⟩ := x; exact Heap.lt_size e
  | frz ob u => obtain ⟨e, _⟩ := x; exact Heap.lt_size e
  | tbl ps => exact Heap.lt_size (show h.get? a = some _ from x)
  | met f y => exact Heap.lt_size (show h.get? a = some _ from x)
  | ext φ => obtain ⟨_, ⟨_, e⟩, _⟩ := x; exact Heap.lt_size e
theorem Paired.mapP {α β : Type} {F G : α → β → Prop} : ∀ {l₁ : List α} {l₂ : List β}, Paired F l₁ l₂ → (∀ a b, F a b → G a b) → Paired G l₁ l₂
  | _, _, .nil, _ => .nil
  | _, _, .cons r t, f => .cons (f _ _ r) (Paired.mapP t f)
/-- what an object's description leans on: its own object, its own dict, the tuples -/
theorem ObjOk.stay (x : ObjOk P w H h a o) (k : ∀ b u, (b = a ∨ H b = some (.own a)) → h.get? b = some u → h'.get? b = some u)
    (ho : ∀ b, H b = some (.own a) → H' b = some (.own a)) (ht : ∀ b xs, H b = some (.tup xs) → H' b = some (.tup xs)) : ObjOk P w H' h' a o := by
  induction o with
  | lst xs => obtain ⟨z, its, n, r, e⟩ := x; exact ⟨z, its, n, r, k _ _ (.inl rfl) e⟩
  | tup xs => obtain ⟨z, its, r, ob, e, c⟩ := x; exact ⟨z, its, r, ob, k _ _ (.inl rfl) e, c⟩
  | dK kvs => obtain ⟨z, y, vs, r, ob, es, ep, e, c⟩ := x; exact ⟨z, y, vs, r, ob, es, ep, k _ _ (.inl rfl) e, c⟩
  | dT kvs =>
    obtain ⟨z, y, xs, r, ob, es, ep, e, c⟩ := x
    exact ⟨z, y, xs, Paired.mapP r fun p q z => ⟨z.1, ht _ _ z.2.1, z.2.2⟩, ob, es, ep, k _ _ (.inl rfl) e, c⟩
  | set S n => obtain ⟨ob, es, ep, t, e, c⟩ := x; exact ⟨ob, es, ep, t, k _ _ (.inl rfl) e, c⟩
  | ins C dx fs =>
    obtain ⟨d, z, ne, e, mA, ⟨od, es, ep, e2, c⟩, r⟩ := x
    exact ⟨ho _ d, z, ne, k _ _ (.inl rfl) e, mA, ⟨od, es, ep, k _ _ (.inr d) e2, c⟩, r⟩
  | own y => obtain ⟨ob, e⟩ := x; exact ⟨ob, k _ _ (.inl rfl) e⟩
  | xd fs => obtain ⟨mA, ⟨od, es, ep, e, c⟩, r⟩ := x; exact ⟨mA, ⟨od, es, ep, k _ _ (.inl rfl) e, c⟩, r⟩
  | rng lo hi => obtain ⟨t, u, v, e⟩ := x; exact ⟨t, u, v, k _ _ (.inl rfl) e⟩
  | frz ob u ih => obtain ⟨e, q⟩ := x; exact ⟨k _ _ (.inl rfl) e, ih q⟩
  | tbl ps =>
    have e : h.get? a = some { cls := .none, data := .fields ps } := x
    show h'.get? a = some { cls := .none, data := .fields ps }
    exact k a _ (.inl rfl) e
  | met f y =>
    have e : h.get? a = some (PySem.W.methodObj (.ref f) (.ref y)) := x
    show h'.get? a = some (PySem.W.methodObj (.ref f) (.ref y))
    exact k a _ (.inl rfl) e
  | ext φ => obtain ⟨p, ⟨o, e⟩, st⟩ := x; exact ⟨st _ _ p fun o q => k _ _ (.inl rfl) q, ⟨o, k _ _ (.inl rfl) e⟩, st⟩
theorem HOk.lt (x : HOk P w H h) (e : H a = some o) : a < h.objs.size := (x a o e).lt
theorem HOk.fresh (x : HOk P w H h) (e : h.objs.size ≤ a) : H a = none := by
  cases q : H a with
  | none => rfl
  | some u => exact absurd (Nat.lt_of_lt_of_le (x.lt q) e) (Nat.lt_irrefl _)
/-- every object of the heap is kept -/
theorem HOk.kept (x : HOk P w H h) (k : ∀ b u, h.get? b = some u → h'.get? b = some u) : HOk P w H h' := fun a o e =>
  (x a o e).stay (fun b u _ q => k b u q) (fun _ q => q) fun _ _ q => q
/-- a new object is laid and tracked -/
theorem HOk.laid (x : HOk P w H h) (k : ∀ b u, h.get? b = some u → h'.get? b = some u) (hp : h.objs.size ≤ a) (new : ObjOk P w (upd H a o) h' a o) : HOk P w (upd H a o) h' := fun b u e => by
  have hn := x.fresh hp
  by_cases hb : b = a
  · subst hb; rw [upd_same] at e; cases e; exact new
  · rw [upd_ne hb] at e
    exact (x b u e).stay (fun c v _ q => k c v q) (fun c q => by rw [upd_ne (ne_of_none q hn)]; exact q) fun c xs q => by rw [upd_ne (ne_of_none q hn)]; exact q
end

/-- what may be read as u: it is u, or a known u -/
def Rd (H : Hp) (a : Addr) (u : HO) : Prop := H a = some u ∨ ∃ o, H a = some (.frz o u)
theorem Rd.ok {P : Program} {w : World} {H : Hp} {h : Heap} {a : Addr} {u : HO} (r : Rd H a u) (x : HOk P w H h) : ObjOk P w H h a u := by
  rcases r with r | ⟨o, r⟩
  · exact x a u r
  · obtain ⟨_, q⟩ := x a _ r
    exact q
/-- what may be written -/
def Mut : Option HO → Prop
  | some (.lst _) => True
  | some (.dK _) => True
  | some (.dT _) => True
  | some (.set _ _) => True
  | some (.ins _ _ _) => True
  | some (.ext _) => True
  | _ => False
section
variable {P : Program} {w : World} {H : Hp} {h h' : Heap} {x e : Addr} {o' : HO}
/-- the object at e is changed: x itself, or the dict of the instance x -/
theorem HOk.write (ok : HOk P w H h) (mu : Mut (H x)) (he : e = x ∨ H e = some (.own x)) (k : ∀ b u, b ≠ e → h.get? b = some u → h'.get? b = some u) (heo : ∃ u, h'.get? e = some u)
    (new : ObjOk P w (upd H x o') h' x o') : HOk P w (upd H x o') h' := fun b u q => by
  have nown : ∀ c y, H c = some (.own y) → c ≠ x := fun c y r z => by subst z; rw [r] at mu; exact mu
  have ntup : ∀ c xs, H c = some (.tup xs) → c ≠ x := fun c xs r z => by subst z; rw [r] at mu; exact mu
  by_cases hb : b = x
  · subst hb; rw [upd_same] at q; cases q; exact new
  · rw [upd_ne hb] at q
    by_cases hbe : b = e
    · have q' : H b = some (.own x) := by
        rcases he with z | z
        · exact absurd (hbe.trans z) hb
        · rw [hbe]; exact z
      rw [q] at q'; cases q'
      obtain ⟨v, hv⟩ := heo
      exact ⟨v, by rw [hbe]; exact hv⟩
    · refine (ok b u q).stay (fun c v hc r => k c v ?_ r) (fun c r => by rw [upd_ne (nown c b r)]; exact r) fun c xs r => by rw [upd_ne (ntup c xs r)]; exact r
      rcases hc with rfl | hc
      · exact hbe
      · rintro rfl
        rcases he with z | z
        · exact nown c b hc z
        · rw [hc] at z; cases z; exact hb rfl
end

/-! ### kept unless tracked; of the frames at fs (the callers') the slots may change (an exception that passes writes there); of the records at ex (iterators) nothing is said -/
structure Un (fs ex : List Addr) (H H' : Hp) (h h' : Heap) : Prop where
  keep : ∀ b o, h.get? b = some o → H b = none → b ∉ fs → b ∉ ex → h'.get? b = some o
  slot : ∀ b o, h.get? b = some o → H b = none → b ∈ fs → b ∉ ex → ∃ sl, h'.get? b = some { o with slots := sl }
  free : ∀ b o, h.get? b = some o → H b = none → b ∉ ex → H' b = none
  there : ∀ b o, h.get? b = some o → b ∉ ex → ∃ o', h'.get? b = some o'
  tups : ∀ b xs, H b = some (.tup xs) → H' b = some (.tup xs)
  frzs : ∀ b o u, H b = some (.frz o u) → H' b = some (.frz o u)
  tbls : ∀ b ps, H b = some (.tbl ps) → ∃ more, H' b = some (.tbl (ps ++ more))
section
variable {fs fs' ex ex' : List Addr} {H H1 H2 : Hp} {h h1 h2 h' : Heap} {a x e : Addr} {o : HO}
theorem Un.any (u : Un fs ex H H1 h h1) {b : Addr} {ob : Obj} (q : h.get? b = some ob) (n : H b = none) (hx : b ∉ ex) : ∃ sl, h1.get? b = some { ob with slots := sl } := by
  by_cases hb : b ∈ fs
  · exact u.slot b ob q n hb hx
  · exact ⟨ob.slots, u.keep b ob q n hb hx⟩
theorem Un.kept (k : ∀ b u, h.get? b = some u → h'.get? b = some u) : Un fs ex H H h h' :=
  ⟨fun b ob q _ _ _ => k b ob q, fun b ob q _ _ _ => ⟨ob.slots, k b ob q⟩, fun _ _ _ n _ => n, fun b ob q _ => ⟨ob, k b ob q⟩, fun _ _ q => q, fun _ _ _ q => q, fun _ ps q => ⟨#[], by rw [q]; simp⟩⟩
theorem Un.refl : Un fs ex H H h h := Un.kept fun _ _ q => q
theorem Un.laid (k : ∀ b u, h.get? b = some u → h'.get? b = some u) (hp : h.objs.size ≤ a) (hn : H a = none) : Un fs ex H (upd H a o) h h' where
  keep := fun b u q _ _ _ => k b u q
  slot := fun b u q _ _ _ => ⟨u.slots, k b u q⟩
  free := fun b u q n _ => by rw [upd_ne (Nat.ne_of_lt (Nat.lt_of_lt_of_le (Heap.lt_size q) hp))]; exact n
  there := fun b u q _ => ⟨u, k b u q⟩
  tups := fun b xs q => by rw [upd_ne (ne_of_none q hn)]; exact q
  frzs := fun b u xs q => by rw [upd_ne (ne_of_none q hn)]; exact q
  tbls := fun b ps q => ⟨#[], by rw [upd_ne (ne_of_none q hn), q]; simp⟩
theorem Un.write (mu : Mut (H x)) (he : e = x ∨ H e = some (.own x)) (k : ∀ b u, b ≠ e → h.get? b = some u → h'.get? b = some u) (heo : ∃ u, h'.get? e = some u) : Un fs ex H (upd H x o) h h' := by
  have hx : ∀ b, H b = none → b ≠ x := fun b n z => by subst z; rw [n] at mu; exact mu
  have hb : ∀ b, H b = none → b ≠ e := fun b n z => by
    subst z
    rcases he with r | r
    · exact hx b n r
    · rw [n] at r; cases r
  have hm : ∀ b u, H b = some u → ¬ Mut (some u) → b ≠ x := fun b u q nm z => by subst z; rw [q] at mu; exact nm mu
  refine ⟨fun b u q n _ _ => k b u (hb b n) q, fun b u q n _ _ => ⟨u.slots, k b u (hb b n) q⟩, fun b u q n _ => by rw [upd_ne (hx b n)]; exact n, fun b u q _ => ?_,
    fun b xs q => by rw [upd_ne (hm b _ q fun z => z)]; exact q, fun b u xs q => by rw [upd_ne (hm b _ q fun z => z)]; exact q, fun b ps q => ⟨#[], by rw [upd_ne (hm b _ q fun z => z), q]; simp⟩⟩
  by_cases hbe : b = e
  · subst hbe; exact heo
  · exact ⟨u, k b u hbe q⟩
end

/-! ### the heap without what is tracked -/
def trk (h : Heap) (H : Hp) : List Addr := (List.range h.objs.size).filter fun a => (H a).isSome
def hidT (h : Heap) (H : Hp) : Heap := PySem.W.hideAll h (trk h H)
theorem hidT_size (h : Heap) (H : Hp) : (hidT h H).objs.size = h.objs.size := PySem.W.hideAll_size _ _
theorem hidT_get {h : Heap} {H : Hp} {b : Addr} {o : Obj} (e : h.get? b = some o) (n : H b = none) : (hidT h H).get? b = some o :=
  PySem.W.hideAll_get _ e fun hm => by
    have q : (H b).isSome = true := (List.mem_filter.mp hm).2
    rw [n] at q; simp at q
theorem of_hidT {h : Heap} {H : Hp} {b : Addr} {o : Obj} (e : (hidT h H).get? b = some o) : h.get? b = some o ∧ H b = none := by
  have e' : h.get? b = some o := PySem.W.of_hideAll (trk h H) e
  refine ⟨e', ?_⟩
  cases q : H b with
  | none => rfl
  | some x =>
    have hm : b ∈ trk h H := List.mem_filter.mpr ⟨List.mem_range.mpr (Heap.lt_size e'), by simp [q]⟩
    have z : (hidT h H).get? b = none := PySem.W.hideAll_none (trk h H) hm
    rw [z] at e; cases e

/-! ### OpenK's ledger, filled with every new object but one -/
def allNews (g h : Heap) (L : Addr) : List (Addr × Obj) := (List.range h.objs.size).filterMap fun a => if a = L ∨ (g.get? a).isSome = true then none else (h.get? a).map fun o => (a, o)
def rest (g h : Heap) (L d : Addr) : List (Addr × Obj) := (allNews g h L).filter fun p => decide (p.1 ≠ d)
end L2

namespace L2
open PySem PySem.Spec PyProof.Rows

/-- the module's facts, over the base: the heap at the law's entry without what is tracked there -/
structure Mod (K : PySem.W.Frag) (mg : Str → Option Value) (base : Heap) : Prop where
  kin : K.In base
  glob : base.Ns mainGlobals mg
  blt : ∃ mb, base.Ns builtinsNs mb ∧ ∀ x : Str, x ≠ "__name__" → mb x = bootBuiltins x
  nolimit : base.NoLimit

/-- the context: a def's body (or a comprehension's block) running. base: fixed through the whole law; s₀, H₀: the entry; outer: the frames whose slots others may change (a def's callers); stack: all frames that run;
   ex: iterators that were made ahead of the entry and are walked here (a comprehension's); fn: the names whose cells were made at the entry (a def: all; a comprehension's block: its own); calm: not within an except suite; pn: pins that every state bears; xe: what is wanted of an exception that leaves the code -/
structure Cx where
  prog : Program
  w : World
  K : PySem.W.Frag
  mg : Str → Option Value
  base : Heap
  A : Around
  N : List Str
  s₀ : Shared
  H₀ : Hp
  env : Env
  outer : List Env
  stack : List Env
  ex : List Addr
  fn : Str → Bool
  calm : Bool
  pn : List (Addr × Obj)
  xe : Value → Shared → Prop
/-- the callers' frames -/
def frs (l : List Env) : List Addr := l.filterMap (·.frame)
abbrev Cx.fs (X : Cx) : List Addr := frs X.outer

def Vis (sc : Scope) (x : Str) : Prop := sc.names.lookup x = some .local ∨ sc.names.lookup x = some .cell ∨ sc.names.lookup x = some .free
def Loc (sc : Scope) (x : Str) : Prop := sc.names.lookup x = some .local ∨ sc.names.lookup x = some .cell
def Look (env : Env) (h : Heap) (m : Str → Option Value) (x : Str) (u : Value) : Prop :=
  (env.kindOf x = some .local ∧ m x = some u) ∨ ((env.kindOf x = some .cell ∨ env.kindOf x = some .free) ∧ ∃ c, env.cells.lookup x = some c ∧ h.IsCell c (some u))

structure Cx.Ok (X : Cx) : Prop where
  mod : Mod X.K X.mg X.base
  kind : X.env.scope.kind = .function
  glob : X.env.globals = mainGlobals
  blt : X.env.builtins = builtinsNs
  above : X.s₀.heap.objs.size ≤ X.env.locals
  inj : ∀ x y c, X.env.cells.lookup x = some c → X.env.cells.lookup y = some c → x = y
  has : ∀ x, (X.env.kindOf x = some .cell ∨ X.env.kindOf x = some .free) → ∃ c, X.env.cells.lookup x = some c
  cab : ∀ x c, X.fn x = true → X.env.cells.lookup x = some c → X.s₀.heap.objs.size ≤ c
  hd : X.calm = true → X.A.handled = none
  frames : X.A.frames = some X.stack
  stk : X.stack = X.outer ∨ (X.stack = X.env :: X.outer ∧ X.env.frame = some X.env.locals)
  exf : ∀ b ∈ X.ex, b ≠ X.env.locals ∧ ∀ x c, X.env.cells.lookup x = some c → c ≠ b
  bs : ∀ b o, X.base.get? b = some o → X.s₀.heap.get? b = some o ∧ X.H₀ b = none
  bsz : X.base.objs.size ≤ X.s₀.heap.objs.size
  noex : ∀ b o, X.base.get? b = some o → b ∉ X.ex
  exfs : ∀ b ∈ X.ex, b ∉ X.fs
  funs : X.s₀.heap.FunFrames X.base X.outer
  frf : ∀ b ∈ X.fs, X.H₀ b = none

structure Inv (X : Cx) (pins : List (Addr × Obj)) (σ : List (Option V)) (H : Hp) (s : Shared) : Prop where
  ok : X.Ok
  os : s.os = X.s₀.os
  bare : AllBare s.gens
  base : Un X.fs X.ex X.H₀ H X.s₀.heap s.heap
  loc : ∃ m, s.heap.Ns X.env.locals m ∧ ∀ (i : Nat) (x : Str) (v : V), X.N[i]? = some x → σ[i]? = some (some v) → Vis X.env.scope x → ∃ u, RelV v u ∧ Look X.env s.heap m x u
  cell : ∀ x c, X.env.cells.lookup x = some c → ∃ v, s.heap.IsCell c v
  free : H X.env.locals = none
  freeC : ∀ x c, X.env.cells.lookup x = some c → H c = none
  pin : ∀ p ∈ X.pn ++ pins, s.heap.get? p.1 = some p.2 ∧ H p.1 = none ∧ p.1 ≠ X.env.locals ∧ p.1 ∉ X.fs ∧ ∀ v, p.2.data ≠ .cell v
  hok : HOk X.prog X.w H s.heap
  len : σ.length = X.N.length

section
variable {X : Cx} {pins : List (Addr × Obj)} {σ : List (Option V)} {H H' : Hp} {s : Shared} {h' : Heap}

theorem Cx.Ok.nofr (ok : X.Ok) {b : Addr} {o : Obj} (e : X.base.get? b = some o) : b ∉ X.fs := fun hb => by
  have := (ok.funs.mem hb).1
  rw [e] at this; cases this
theorem Inv.bs (I : Inv X pins σ H s) : ∀ b o, X.base.get? b = some o → s.heap.get? b = some o ∧ H b = none := fun b o e =>
  ⟨I.base.keep b o (I.ok.bs b o e).1 (I.ok.bs b o e).2 (I.ok.nofr e) (I.ok.noex b o e), I.base.free b o (I.ok.bs b o e).1 (I.ok.bs b o e).2 (I.ok.noex b o e)⟩
theorem Inv.bk (I : Inv X pins σ H s) : ∀ b o, X.base.get? b = some o → s.heap.get? b = some o := fun b o e => (I.bs b o e).1
theorem Inv.mod (I : Inv X pins σ H s) : Mod X.K X.mg X.base := I.ok.mod
theorem Inv.kIn (I : Inv X pins σ H s) : X.K.In s.heap := I.ok.mod.kin.keeps I.bk
/-- the frame over the base: for OpenK's rules (K.In X.base is I.mod.kin) -/
theorem Inv.fr (I : Inv X pins σ H s) : ∃ m, Fr X.base X.env.locals s.heap m :=
  let ⟨m, hn, _⟩ := I.loc
  ⟨m, hn, I.bk, Nat.le_trans I.ok.bsz I.ok.above⟩
theorem Inv.lt (I : Inv X pins σ H s) : X.env.locals < s.heap.objs.size := let ⟨_, hn, _⟩ := I.loc; hn.lt
theorem Inv.sz (I : Inv X pins σ H s) : X.s₀.heap.objs.size ≤ s.heap.objs.size := Nat.le_trans I.ok.above (Nat.le_of_lt I.lt)
theorem Inv.nofs (I : Inv X pins σ H s) {a : Addr} (h : s.heap.objs.size ≤ a) : a ∉ X.fs := fun hb => by
  obtain ⟨_, o, ho, _⟩ := I.ok.funs.mem hb
  exact absurd (Nat.lt_of_lt_of_le (Heap.lt_size ho) (Nat.le_trans I.sz h)) (Nat.lt_irrefl _)
theorem Inv.cne (I : Inv X pins σ H s) : ∀ x c, X.env.cells.lookup x = some c → c ≠ X.env.locals := fun x c e z => by
  obtain ⟨v, o, ho, hd⟩ := I.cell x c e
  obtain ⟨m, ⟨o', es, ep, ho', hd', _⟩, _⟩ := I.loc
  rw [z, ho'] at ho; cases ho; rw [hd'] at hd; cases hd
theorem Inv.funs (I : Inv X pins σ H s) : s.heap.FunFrames X.base X.outer := by
  have all : ∀ (l : List Env), (∀ b ∈ frs l, b ∈ X.fs) → X.s₀.heap.FunFrames X.base l → s.heap.FunFrames X.base l := by
    intro l
    induction l with
    | nil => intro _ _; trivial
    | cons env r ih =>
      intro hs hl
      obtain ⟨hk, ⟨L, o, hf, hn, ho, hd⟩, hr⟩ := hl
      have hL : L ∈ X.fs := hs L (by unfold frs; rw [List.filterMap_cons, hf]; exact List.mem_cons_self)
      obtain ⟨sl, e⟩ := I.base.slot L o ho (I.ok.frf L hL) hL fun z => I.ok.exfs L z hL
      exact ⟨hk, ⟨L, _, hf, hn, e, hd⟩, ih (fun b hb => hs b (by unfold frs; rw [List.filterMap_cons, hf]; exact List.mem_cons_of_mem _ hb)) hr⟩
  exact all X.outer (fun _ hb => hb) I.ok.funs

/-- the frames that run, for a call -/
theorem Inv.stack (I : Inv X pins σ H s) : s.heap.FunFrames X.base X.stack := by
  rcases I.ok.stk with e | ⟨e, hf⟩
  · rw [e]; exact I.funs
  · rw [e]
    obtain ⟨m, hn, _⟩ := I.loc
    refine .cons (by rw [I.ok.kind]; decide) hf hn ?_ I.funs
    exact Heap.get?_none_of_le (Nat.le_trans I.ok.bsz I.ok.above)
theorem Inv.stkSub (I : Inv X pins σ H s) : ∀ b ∈ frs X.stack, b ∈ X.env.locals :: X.fs := fun b hb => by
  rcases I.ok.stk with e | ⟨e, hf⟩
  · rw [e] at hb; exact List.mem_cons_of_mem _ hb
  · rw [e] at hb
    unfold frs at hb
    rw [List.filterMap_cons, hf] at hb
    exact hb
theorem Inv.stkFree (I : Inv X pins σ H s) : ∀ b ∈ frs X.stack, H b = none := fun b hb => by
  rcases List.mem_cons.mp (I.stkSub b hb) with e | hb
  · rw [e]; exact I.free
  · obtain ⟨_, o, ho, _⟩ := I.ok.funs.mem hb
    exact I.base.free b o ho (I.ok.frf b hb) fun z => I.ok.exfs b z hb

/-- THE STEP: the untracked objects but the frame and the records at ch are kept (the callers' frames up to slots), the frame's map is kept, the new abstract heap is held -/
theorem Inv.step {g' : Array GenState} {t' : Nat} {d' : Drawn} {ch : List Addr} (I : Inv X pins σ H s)
    (hch : ∀ b ∈ ch, (b ∈ X.ex ∨ X.s₀.heap.objs.size ≤ b) ∧ b ≠ X.env.locals ∧ (∀ x c, X.env.cells.lookup x = some c → c ≠ b) ∧ ∀ p ∈ X.pn ++ pins, p.1 ≠ b)
    (keep : ∀ b o, b ≠ X.env.locals → b ∉ X.fs → b ∉ ch → s.heap.get? b = some o → H b = none → h'.get? b = some o)
    (slot : ∀ b o, b ≠ X.env.locals → b ∈ X.fs → b ∉ ch → s.heap.get? b = some o → H b = none → ∃ sl, h'.get? b = some { o with slots := sl }) (free : ∀ b o, b ∉ ch → s.heap.get? b = some o → H b = none → H' b = none)
    (there : ∀ b o, b ∉ ch → s.heap.get? b = some o → ∃ o', h'.get? b = some o')
    (tups : ∀ b xs, H b = some (.tup xs) → H' b = some (.tup xs)) (frzs : ∀ b o u, H b = some (.frz o u) → H' b = some (.frz o u)) (tbls : ∀ b ps, H b = some (.tbl ps) → ∃ more, H' b = some (.tbl (ps ++ more)))
    (ns : ∀ m, s.heap.Ns X.env.locals m → h'.Ns X.env.locals m) (hok : HOk X.prog X.w H' h') (hg : AllBare g') :
    Inv X pins σ H' { s with heap := h', gens := g', drawn := d', toks := t' } := by
  have neL : ∀ b o, X.s₀.heap.get? b = some o → b ≠ X.env.locals := fun b o e => Nat.ne_of_lt (Nat.lt_of_lt_of_le (Heap.lt_size e) I.ok.above)
  have neC : ∀ b o, X.s₀.heap.get? b = some o → b ∉ X.ex → b ∉ ch := fun b o e hx hb => by
    rcases (hch b hb).1 with z | z
    · exact hx z
    · exact absurd (Nat.lt_of_lt_of_le (Heap.lt_size e) z) (Nat.lt_irrefl _)
  have cellK : ∀ x c, X.env.cells.lookup x = some c → ∀ v, s.heap.IsCell c v → h'.IsCell c v := fun x c e v ⟨o, ho, hd⟩ => by
    have nch : c ∉ ch := fun z => (hch c z).2.2.1 x c e rfl
    by_cases hc : c ∈ X.fs
    · obtain ⟨sl, q⟩ := slot c o (I.cne x c e) hc nch ho (I.freeC x c e)
      exact ⟨_, q, hd⟩
    · exact ⟨o, keep c o (I.cne x c e) hc nch ho (I.freeC x c e), hd⟩
  refine ⟨I.ok, I.os, hg, ⟨fun b o e n hb hx => ?_, fun b o e n hb hx => ?_, fun b o e n hx => ?_, fun b o e hx => ?_, fun b xs e => tups b xs (I.base.tups b xs e), fun b o xs e => frzs b o xs (I.base.frzs b o xs e), fun b ps e => ?_⟩, ?_, fun x c e => ?_, ?_, fun x c e => ?_, fun p hp => ?_, hok, I.len⟩
  · exact keep b o (neL b o e) hb (neC b o e hx) (I.base.keep b o e n hb hx) (I.base.free b o e n hx)
  · obtain ⟨sl, e1⟩ := I.base.slot b o e n hb hx
    obtain ⟨sl', e2⟩ := slot b _ (neL b o e) hb (neC b o e hx) e1 (I.base.free b o e n hx)
    exact ⟨sl', e2⟩
  · obtain ⟨o', e1⟩ := I.base.there b o e hx
    exact free b o' (neC b o e hx) e1 (I.base.free b o e n hx)
  · obtain ⟨o', e1⟩ := I.base.there b o e hx
    exact there b o' (neC b o e hx) e1
  · obtain ⟨m1, e1⟩ := I.base.tbls b ps e
    obtain ⟨m2, e2⟩ := tbls b _ e1
    exact ⟨m1 ++ m2, by rw [e2, Array.append_assoc]⟩
  · obtain ⟨m, hn, hl⟩ := I.loc
    refine ⟨m, ns m hn, fun i x v e1 e2 e3 => ?_⟩
    obtain ⟨u, r, l⟩ := hl i x v e1 e2 e3
    refine ⟨u, r, ?_⟩
    rcases l with l | ⟨k, c, e, z⟩
    · exact .inl l
    · exact .inr ⟨k, c, e, cellK x c e _ z⟩
  · obtain ⟨v, z⟩ := I.cell x c e
    exact ⟨v, cellK x c e v z⟩
  · obtain ⟨m, ⟨o, _, _, ho, _⟩, _⟩ := I.loc
    exact free _ o (fun z => (hch _ z).2.1 rfl) ho I.free
  · obtain ⟨v, o, ho, hd⟩ := I.cell x c e
    exact free c o (fun z => (hch c z).2.2.1 x c e rfl) ho (I.freeC x c e)
  · obtain ⟨e, n, ne, nf, d⟩ := I.pin p hp
    have nch : p.1 ∉ ch := fun z => (hch p.1 z).2.2.2 p hp rfl
    exact ⟨keep p.1 p.2 ne nf nch e n, free p.1 p.2 nch e n, ne, nf, d⟩
/-- .. where the frame's own object is kept too -/
theorem Inv.un {t' : Nat} (I : Inv X pins σ H s) (u : Un X.fs [] H H' s.heap h') (hok : HOk X.prog X.w H' h') : Inv X pins σ H' { s with heap := h', toks := t' } := by
  obtain ⟨m, ⟨o, es, ep, ho, r⟩, _⟩ := id I.loc
  obtain ⟨sl, hL⟩ := u.any ho I.free (by simp)
  exact I.step (g' := s.gens) (d' := s.drawn) (ch := []) (fun _ z => nomatch z) (fun b o _ hb _ e n => u.keep b o e n hb (by simp)) (fun b o _ hb _ e n => u.slot b o e n hb (by simp)) (fun b o _ e n => u.free b o e n (by simp)) (fun b o _ e => u.there b o e (by simp)) u.tups u.frzs u.tbls (fun m' hm => by
    obtain ⟨o', es', ep', ho', r'⟩ := hm
    rw [ho] at ho'; cases ho'
    exact ⟨_, es', ep', hL, r'⟩) hok I.bare
/-- behind a call (or a comprehension's block): the slots of this frame may have changed too, the records at ch may have turned -/
theorem Inv.call {g' : Array GenState} {t' : Nat} {d' : Drawn} {ch : List Addr} (I : Inv X pins σ H s) (u : Un (frs X.stack) ch H H' s.heap h') (hok : HOk X.prog X.w H' h') (hg : AllBare g')
    (hch : ∀ b ∈ ch, (b ∈ X.ex ∨ X.s₀.heap.objs.size ≤ b) ∧ b ≠ X.env.locals ∧ (∀ x c, X.env.cells.lookup x = some c → c ≠ b) ∧ ∀ p ∈ X.pn ++ pins, p.1 ≠ b) :
    Inv X pins σ H' { s with heap := h', gens := g', drawn := d', toks := t' } := by
  obtain ⟨m, ⟨o, es, ep, ho, r⟩, _⟩ := id I.loc
  obtain ⟨sl, hL⟩ := u.any ho I.free fun z => (hch _ z).2.1 rfl
  exact I.step (ch := ch) hch (fun b o hL hb hc e n => u.keep b o e n (fun z => (List.mem_cons.mp (I.stkSub b z)).elim hL hb) hc) (fun b o _ _ hc e n => u.any e n hc) (fun b o hc e n => u.free b o e n hc) (fun b o hc e => u.there b o e hc) u.tups u.frzs u.tbls (fun m' hm => by
    obtain ⟨o', es', ep', ho', r'⟩ := hm
    rw [ho] at ho'; cases ho'
    exact ⟨_, es', ep', hL, r'⟩) hok hg
/-- an untracked record of ours (an iterator) has turned -/
theorem Inv.turned {t' : Nat} {it : Addr} (I : Inv X pins σ H s) (k : ∀ b o, b ≠ it → s.heap.get? b = some o → h'.get? b = some o) (hn : H it = none) (hL : it ≠ X.env.locals)
    (h1 : it ∈ X.ex ∨ X.s₀.heap.objs.size ≤ it) (h2 : ∀ x c, X.env.cells.lookup x = some c → c ≠ it) (h3 : ∀ p ∈ X.pn ++ pins, p.1 ≠ it) : Inv X pins σ H { s with heap := h', toks := t' } := by
  have nit : ∀ b u, H b = some u → b ≠ it := fun b u e z => by rw [z, hn] at e; cases e
  refine I.step (g' := s.gens) (d' := s.drawn) (ch := [it]) (fun b hb => ?_) (fun b o _ _ hc e _ => k b o (fun z => hc (by simp [z])) e) (fun b o _ _ hc e _ => ⟨o.slots, k b o (fun z => hc (by simp [z])) e⟩) (fun _ _ _ _ n => n)
    (fun b o hc e => ⟨o, k b o (fun z => hc (by simp [z])) e⟩) (fun _ _ e => e) (fun _ _ _ e => e) (fun b ps e => ⟨#[], by rw [e]; simp⟩) (fun m hm => ?_) (fun b u e => ?_) I.bare
  · have e : b = it := by simpa using hb
    subst e
    exact ⟨h1, hL, h2, h3⟩
  · obtain ⟨o, es, ep, ho, r⟩ := hm
    exact ⟨o, es, ep, k _ o (Ne.symm hL) ho, r⟩
  · refine (I.hok b u e).stay (fun c v hc q => k c v ?_ q) (fun _ q => q) fun _ _ q => q
    rcases hc with z | z
    · rw [z]; exact nit b u e
    · exact nit c _ z
theorem Inv.tok (I : Inv X pins σ H s) (t : Nat) : Inv X pins σ H { s with toks := t } := I.un (h' := s.heap) (t' := t) Un.refl I.hok
/-- all objects kept -/
theorem Inv.kept {t' : Nat} (I : Inv X pins σ H s) (k : ∀ b u, s.heap.get? b = some u → h'.get? b = some u) : Inv X pins σ H { s with heap := h', toks := t' } := I.un (Un.kept k) (I.hok.kept k)
/-- a new object laid and tracked -/
theorem Inv.laid {a : Addr} {o : HO} {t' : Nat} (I : Inv X pins σ H s) (k : ∀ b u, s.heap.get? b = some u → h'.get? b = some u) (hp : s.heap.objs.size ≤ a) (new : ObjOk X.prog X.w (upd H a o) h' a o) :
    Inv X pins σ (upd H a o) { s with heap := h', toks := t' } := I.un (Un.laid k hp (I.hok.fresh hp)) (I.hok.laid k hp new)
/-- an object written -/
theorem Inv.write {x e : Addr} {o : HO} {t' : Nat} (I : Inv X pins σ H s) (mu : Mut (H x)) (he : e = x ∨ H e = some (.own x)) (k : ∀ b u, b ≠ e → s.heap.get? b = some u → h'.get? b = some u) (heo : ∃ u, h'.get? e = some u)
    (new : ObjOk X.prog X.w (upd H x o) h' x o) : Inv X pins σ (upd H x o) { s with heap := h', toks := t' } := I.un (Un.write mu he k heo) (I.hok.write mu he k heo new)
/-- forgetting slots, pins -/
theorem Inv.weak {σ' : List (Option V)} (I : Inv X pins σ H s) (hl : σ'.length = σ.length) (w : ∀ (i : Nat) v, σ'[i]? = some (some v) → σ[i]? = some (some v)) : Inv X pins σ' H s :=
  ⟨I.ok, I.os, I.bare, I.base, let ⟨m, hn, hl'⟩ := I.loc; ⟨m, hn, fun i x v e1 e2 e3 => hl' i x v e1 (w i v e2) e3⟩, I.cell, I.free, I.freeC, I.pin, I.hok, hl.trans I.len⟩
theorem Inv.pins_of {pins' : List (Addr × Obj)} (I : Inv X pins σ H s) (h : ∀ p ∈ pins', s.heap.get? p.1 = some p.2 ∧ H p.1 = none ∧ p.1 ≠ X.env.locals ∧ p.1 ∉ X.fs ∧ ∀ v, p.2.data ≠ .cell v) : Inv X pins' σ H s :=
  ⟨I.ok, I.os, I.bare, I.base, I.loc, I.cell, I.free, I.freeC, fun p hp => (List.mem_append.mp hp).elim (fun z => I.pin p (List.mem_append_left _ z)) (h p), I.hok, I.len⟩

theorem nodup_ix {N : List Str} (hN : N.Nodup) {i j : Nat} {x : Str} (a : N[i]? = some x) (b : N[j]? = some x) : i = j := by
  obtain ⟨h1, e1⟩ := List.getElem?_eq_some_iff.mp a
  obtain ⟨h2, e2⟩ := List.getElem?_eq_some_iff.mp b
  exact (List.getElem_inj hN).mp (e1.trans e2.symm)

/-- a name is stored; what changed -/
theorem store_ok2 {M : Model} {A : Around} {E : Value → Shared → Prop} {i : Nat} {x : Str} {v : V} {u : Value} {Q : Unit → Shared → Prop} (I : Inv X pins σ H s) (hN : X.N.Nodup) (hi : X.N[i]? = some x) (hx : Loc X.env.scope x) (r : RelV v u)
    (h : ∀ s', Inv X pins (σ.set i (some v)) H s' → (∃ a, Heap.SameBut a s.heap s'.heap ∧ (a = X.env.locals ∨ X.env.cells.lookup x = some a)) → Q () s') (hf : X.fn x = true ∨ X.env.scope.names.lookup x = some .local := by first | exact .inl rfl | exact .inr rfl | assumption) : wpAny M A (storeName X.env x u) Q E s := by
  obtain ⟨m, hn, hl⟩ := id I.loc
  have hcls : (X.env.scope.kind == .class || (X.env.scope.kind == .module && X.env.locals != X.env.globals)) = false := by rw [I.ok.kind]; rfl
  have hiσ : i < σ.length := by rw [I.len]; exact (List.getElem?_eq_some_iff.mp hi).1
  have cne := I.cne
  have tracked : ∀ {a : Addr} {h' : Heap}, (∃ o, s.heap.get? a = some o ∧ H a = none) → Heap.SameBut a s.heap h' → HOk X.prog X.w H h' := fun {a h'} ha hs b ob e => by
    obtain ⟨_, _, hfree⟩ := ha
    refine (I.hok b ob e).stay (fun c w' hc q => (hs.2 c ?_).trans q) (fun _ q => q) fun _ _ q => q
    rintro rfl
    rcases hc with rfl | hc
    · rw [hfree] at e; cases e
    · rw [hfree] at hc; cases hc
  rcases hx with hk | hk
  · refine wpAny_storeName_local hk hn (fun h' hn' hs => ?_) hcls
    obtain ⟨oL, _, _, hoL, _⟩ := id hn
    refine h _ ⟨I.ok, I.os, I.bare, ⟨fun b o e n hb hx => ?_, fun b o e n hb hx => ?_, I.base.free, fun b o e hx => ?_, I.base.tups, I.base.frzs, I.base.tbls⟩, ⟨_, hn', fun j y v' e1 e2 e3 => ?_⟩, fun y c e => ?_, I.free, I.freeC, fun p hp => ?_, tracked ⟨oL, hoL, I.free⟩ hs, by simpa using I.len⟩ ⟨_, hs, .inl rfl⟩
    · exact (hs.2 b (Nat.ne_of_lt (Nat.lt_of_lt_of_le (Heap.lt_size e) I.ok.above))).trans (I.base.keep b o e n hb hx)
    · obtain ⟨sl, e1⟩ := I.base.slot b o e n hb hx
      exact ⟨sl, (hs.2 b (Nat.ne_of_lt (Nat.lt_of_lt_of_le (Heap.lt_size e) I.ok.above))).trans e1⟩
    · obtain ⟨o', e1⟩ := I.base.there b o e hx
      exact ⟨o', (hs.2 b (Nat.ne_of_lt (Nat.lt_of_lt_of_le (Heap.lt_size e) I.ok.above))).trans e1⟩
    · by_cases hj : j = i
      · subst hj
        rw [hi] at e1; cases e1
        rw [List.getElem?_set_self hiσ] at e2
        cases e2
        exact ⟨u, r, .inl ⟨hk, by simp⟩⟩
      · rw [List.getElem?_set_ne (Ne.symm hj)] at e2
        obtain ⟨u', r', q⟩ := hl j y v' e1 e2 e3
        refine ⟨u', r', ?_⟩
        rcases q with ⟨k, e⟩ | ⟨k, c, e, z⟩
        · refine .inl ⟨k, ?_⟩
          have : y ≠ x := fun e => hj (nodup_ix hN e1 (e ▸ hi))
          simp [this, e]
        · exact .inr ⟨k, c, e, z.sameBut hs (cne y c e)⟩
    · obtain ⟨w', z⟩ := I.cell y c e
      exact ⟨w', z.sameBut hs (cne y c e)⟩
    · obtain ⟨e, n, ne, nf, d⟩ := I.pin p hp
      exact ⟨(hs.2 p.1 ne).trans e, n, ne, nf, d⟩
  · have hfn : X.fn x = true := by
      rcases hf with z | z
      · exact z
      · rw [z] at hk; cases hk
    obtain ⟨c, hc⟩ := I.ok.has x (.inl hk)
    obtain ⟨w', z⟩ := I.cell x c hc
    refine wpAny_storeName_cell I.ok.kind hk hc z (fun h' hc' hs => ?_)
    obtain ⟨oc, hoc, hocd⟩ := id z
    refine h { s with heap := h' } ⟨I.ok, I.os, I.bare, ⟨fun b o e n hb hx => ?_, fun b o e n hb hx => ?_, I.base.free, fun b o e hx => ?_, I.base.tups, I.base.frzs, I.base.tbls⟩, ⟨m, hn.sameBut hs (Ne.symm (cne x c hc)), fun j y v' e1 e2 e3 => ?_⟩, fun y c' e => ?_, I.free, I.freeC, fun p hp => ?_, tracked ⟨oc, hoc, I.freeC x c hc⟩ hs, by simpa using I.len⟩ ⟨c, hs, .inr hc⟩
    · exact (hs.2 b (Nat.ne_of_lt (Nat.lt_of_lt_of_le (Heap.lt_size e) (I.ok.cab x c hfn hc)))).trans (I.base.keep b o e n hb hx)
    · obtain ⟨sl, e1⟩ := I.base.slot b o e n hb hx
      exact ⟨sl, (hs.2 b (Nat.ne_of_lt (Nat.lt_of_lt_of_le (Heap.lt_size e) (I.ok.cab x c hfn hc)))).trans e1⟩
    · obtain ⟨o', e1⟩ := I.base.there b o e hx
      exact ⟨o', (hs.2 b (Nat.ne_of_lt (Nat.lt_of_lt_of_le (Heap.lt_size e) (I.ok.cab x c hfn hc)))).trans e1⟩
    · by_cases hj : j = i
      · subst hj
        rw [hi] at e1; cases e1
        rw [List.getElem?_set_self hiσ] at e2
        cases e2
        exact ⟨u, r, .inr ⟨.inl hk, c, hc, hc'⟩⟩
      · rw [List.getElem?_set_ne (Ne.symm hj)] at e2
        obtain ⟨u', r', q⟩ := hl j y v' e1 e2 e3
        refine ⟨u', r', ?_⟩
        rcases q with q | ⟨k, c', e, z'⟩
        · exact .inl q
        · refine .inr ⟨k, c', e, z'.sameBut hs ?_⟩
          rintro rfl
          exact hj (nodup_ix hN e1 (I.ok.inj _ _ _ e hc ▸ hi))
    · by_cases hcc : c' = c
      · subst hcc; exact ⟨_, hc'⟩
      · obtain ⟨w2, z2⟩ := I.cell y c' e
        exact ⟨w2, z2.sameBut hs hcc⟩
    · obtain ⟨e, n, ne, nf, d⟩ := I.pin p hp
      refine ⟨(hs.2 p.1 ?_).trans e, n, ne, nf, d⟩
      intro q
      rw [q, hoc] at e
      have q' : oc = p.2 := Option.some.inj e
      exact d w' (by rw [← q']; exact hocd)
theorem store_ok {M : Model} {A : Around} {E : Value → Shared → Prop} {i : Nat} {x : Str} {v : V} {u : Value} {Q : Unit → Shared → Prop} (I : Inv X pins σ H s) (hN : X.N.Nodup) (hi : X.N[i]? = some x) (hx : Loc X.env.scope x) (r : RelV v u)
    (h : ∀ s', Inv X pins (σ.set i (some v)) H s' → Q () s') (hf : X.fn x = true ∨ X.env.scope.names.lookup x = some .local := by first | exact .inl rfl | exact .inr rfl | assumption) : wpAny M A (storeName X.env x u) Q E s :=
  store_ok2 I hN hi hx r (fun s' I' _ => h s' I') hf
/-- behind a call or a block, the state as it is -/
theorem Inv.call' {s' : Shared} {ch : List Addr} (I : Inv X pins σ H s) (ho : s'.os = s.os) (u : Un (frs X.stack) ch H H' s.heap s'.heap) (hok : HOk X.prog X.w H' s'.heap) (hg : AllBare s'.gens)
    (hch : ∀ b ∈ ch, (b ∈ X.ex ∨ X.s₀.heap.objs.size ≤ b) ∧ b ≠ X.env.locals ∧ (∀ x c, X.env.cells.lookup x = some c → c ≠ b) ∧ ∀ p ∈ X.pn ++ pins, p.1 ≠ b) : Inv X pins σ H' s' := by
  obtain ⟨h', g', d', t', o'⟩ := s'
  have e : o' = s.os := ho
  subst e
  exact I.call (g' := g') (t' := t') (d' := d') u hok hg hch
end

/-! ### the judgements -/
/-- an exception: its class, its own dict's address (where it has one), the abstract heap behind it -/
abbrev XK := Value → Option Addr → Hp → Prop
abbrev St := List (Option V)
abbrev VK := V → Hp → Prop
/-- an expression's reading; a test's; an argument list's -/
abbrev TE := St → Hp → VK → Prop
abbrev TT := St → Hp → (Bool → Hp → Prop) → Prop
abbrev TA := St → Hp → (List V → Hp → Prop) → Prop
/-- what is wanted behind a statement -/
structure Ends where
  nx : St → Hp → Prop
  rt : VK
  bk : St → Hp → Prop := fun _ _ => False
  ct : St → Hp → Prop := fun _ _ => False
abbrev TS := Ends → St → Hp → Prop

inductive EP (X : Cx) (pins : List (Addr × Obj)) (σ : St) (Q : VK) (u : Value) (s' : Shared) : Prop
  | mk (v : _) (H' : _) (z0 : Inv X pins σ H' s') (z1 : RelV v u) (z2 : Q v H')
def TP (X : Cx) (pins : List (Addr × Obj)) (σ : St) (Q : Bool → Hp → Prop) (b : Bool) (s' : Shared) : Prop := ∃ H', Inv X pins σ H' s' ∧ Q b H'
inductive AP (X : Cx) (pins : List (Addr × Obj)) (σ : St) (Q : List V → Hp → Prop) (us : List Value) (s' : Shared) : Prop
  | mk (vs : _) (H' : _) (z0 : Inv X pins σ H' s') (z1 : Vals vs us) (z2 : Q vs H')
def SP (X : Cx) (pins : List (Addr × Obj)) (D : Ends) (f : Flow) (s' : Shared) : Prop :=
  match f with
  | .next => ∃ σ' H', Inv X pins σ' H' s' ∧ D.nx σ' H'
  | .brk => ∃ σ' H', Inv X pins σ' H' s' ∧ D.bk σ' H'
  | .cont => ∃ σ' H', Inv X pins σ' H' s' ∧ D.ct σ' H'
  | .ret u => ∃ v σ' H', Inv X pins σ' H' s' ∧ RelV v u ∧ D.rt v H'

def PE (X : Cx) (e : Expr) (t : TE) : Prop :=
  ∀ (pins : List (Addr × Obj)) (s : Shared) (σ : St) (H : Hp) (Q : VK), Inv X pins σ H s → t σ H Q → wpAny (model X.prog X.w) X.A (eval e X.env) (EP X pins σ Q) X.xe s
def PT (X : Cx) (e : Expr) (t : TT) : Prop :=
  ∀ (pins : List (Addr × Obj)) (s : Shared) (σ : St) (H : Hp) (Q : Bool → Hp → Prop), Inv X pins σ H s → t σ H Q → wpAny (model X.prog X.w) X.A (isTrue e X.env (eval e X.env)) (TP X pins σ Q) X.xe s
/-- a test whatever its 'whole' is (and, or) -/
def PW (X : Cx) (e : Expr) (t : TT) : Prop :=
  ∀ (whole : Sem Value) (pins : List (Addr × Obj)) (s : Shared) (σ : St) (H : Hp) (Q : Bool → Hp → Prop), Inv X pins σ H s → t σ H Q → wpAny (model X.prog X.w) X.A (isTrue e X.env whole) (TP X pins σ Q) X.xe s
theorem PW.pt {X : Cx} {e : Expr} {t : TT} (h : PW X e t) : PT X e t := h _
/-- an argument list (no star), from the left -/
def PA (X : Cx) (es : List Expr) (t : TA) : Prop :=
  ∀ (pos : Pos) (pins : List (Addr × Obj)) (s : Shared) (σ : St) (H : Hp) (Q : List V → Hp → Prop), Inv X pins σ H s → t σ H Q → wpAny (model X.prog X.w) X.A (spliced (backTo pos (starEach es X.env))) (AP X pins σ Q) X.xe s
def PS (X : Cx) (st : Stmt) (t : TS) : Prop :=
  ∀ (pins : List (Addr × Obj)) (s : Shared) (σ : St) (H : Hp) (D : Ends), Inv X pins σ H s → t D σ H → wpAny (model X.prog X.w) X.A (exec st X.env) (SP X pins D) X.xe s
def PSs (X : Cx) (st : List Stmt) (t : TS) : Prop :=
  ∀ (pins : List (Addr × Obj)) (s : Shared) (σ : St) (H : Hp) (D : Ends), Inv X pins σ H s → t D σ H → wpAny (model X.prog X.w) X.A (execs st X.env) (SP X pins D) X.xe s
/-- weaken the end -/
theorem thn {α : Type} {t : Sem α} {Q Q' : α → Shared → Prop} {M : Model} {A : Around} {E : Value → Shared → Prop} {s : Shared} (h : wpAny M A t Q E s) (hQ : ∀ a s, Q a s → Q' a s) : wpAny M A t Q' E s := wpAny_mono h hQ fun _ _ x => x
end L2

namespace L2
open PySem PySem.Spec PyProof.Rows
section
variable {X : Cx}

/-- two expressions in a row -/
theorem bin {a b : Expr} {ta tb : TE} (ha : PE X a ta) (hb : PE X b tb) {pins : List (Addr × Obj)} {s : Shared} {σ : St} {H : Hp} {R : V → V → Hp → Prop} (I : Inv X pins σ H s) (h : ta σ H fun x H1 => tb σ H1 fun y H2 => R x y H2)
    {α : Type} {Q : α → Shared → Prop} {f : Value → Value → Sem α}
    (hf : ∀ v u s2 x y H2, Inv X pins σ H2 s2 → RelV x v → RelV y u → R x y H2 → wpAny (model X.prog X.w) X.A (f v u) Q X.xe s2) :
    wpAny (model X.prog X.w) X.A (eval a X.env) (fun v s₁ => wpAny (model X.prog X.w) X.A (eval b X.env) (fun u s₂ => wpAny (model X.prog X.w) X.A (f v u) Q X.xe s₂) X.xe s₁) X.xe s := by
  refine thn (ha pins s σ H _ I h) fun v s1 ⟨x, H1, I1, r1, q1⟩ => ?_
  refine thn (hb pins s1 σ H1 _ I1 q1) fun u s2 ⟨y, H2, I2, r2, q2⟩ => ?_
  exact hf v u s2 x y H2 I2 r1 r2 q2

/-! ### names and constants -/
inductive tVarI (i : Nat) (σ : St) (H : Hp) (Q : VK) : Prop
  | mk (v : _) (z0 : σ[i]? = some (some v)) (z1 : Q v H)
def tVar (i : Nat) : TE := fun σ H Q => tVarI i σ H Q
def tC (v : V) : TE := fun _ H Q => Q v H
theorem pe_var {i : Nat} {x : Str} {pos : Pos} (hN : X.N[i]? = some x) (hv : Vis X.env.scope x) (hd : (x == ("__debug__" : Str)) = false := by decide) (hcd : (x == ("__classdict__" : Str)) = false := by decide) : PE X (.Name x pos) (tVar i) := by
  intro pins s σ H Q I h
  obtain ⟨v, e, h⟩ := h
  obtain ⟨m, hn, hl⟩ := I.loc
  obtain ⟨u, r, l⟩ := hl i x v hN e hv
  have fin : EP X pins σ Q u s := ⟨v, H, I, r, h⟩
  rcases l with ⟨hk, hm⟩ | ⟨hk, c, hc, hcell⟩
  · exact wpAny_Name (wpAny_loadName_local I.ok.kind hk hn hm fin) hd
  · rcases hk with hk | hk
    · exact wpAny_Name (wpAny_loadName_cell I.ok.kind hk hc hcell fin) hd
    · exact wpAny_Name (wpAny_loadName_free I.ok.kind hk hc hcell fin hcd) hd
theorem pe_int {i j pos} : PE X (.Constant (.int i) j pos) (tC (.int i)) := fun _ _ _ H _ I h => wpAny_Constant_int ⟨.int i, H, I.tok _, ⟨_, rfl⟩, h⟩
theorem pe_bl {b j pos} : PE X (.Constant (.bool b) j pos) (tC (.bl b)) := fun _ _ _ H _ I h => Constant_bool ⟨.bl b, H, I, rfl, h⟩
theorem pe_non {j pos} : PE X (.Constant .none j pos) (tC .non) := fun _ _ _ H _ I h => Constant_none ⟨.non, H, I, rfl, h⟩
theorem pe_str {x j pos} : PE X (.Constant (.str x) j pos) (tC (.str x)) := fun _ _ _ H _ I h => Calls.Constant_str ⟨.str x, H, I.tok _, ⟨_, rfl⟩, h⟩

/-- a global name of the def -/
def Gl (X : Cx) (x : Str) : Prop := X.env.kindOf x = some .globalImplicit
theorem ld_glob {E : Value → Shared → Prop} {pins : List (Addr × Obj)} {s : Shared} {σ : St} {H : Hp} {x : Str} {u : Value} {pos : Pos} {Q : Value → Shared → Prop} (I : Inv X pins σ H s) (hg : Gl X x) (hm : X.mg x = some u) (h : Q u s)
    (hd : (x == ("__debug__" : Str)) = false := by decide) : wpAny (model X.prog X.w) X.A (eval (.Name x pos) X.env) Q E s :=
  Calls.Name_function_global I.ok.kind hg (Calls.loadGlobal_global (by rw [I.ok.glob]; exact I.mod.glob.keeps I.bk) hm h) hd
theorem ld_blt {E : Value → Shared → Prop} {pins : List (Addr × Obj)} {s : Shared} {σ : St} {H : Hp} {x : Str} {u : Value} {pos : Pos} {Q : Value → Shared → Prop} (I : Inv X pins σ H s) (hg : Gl X x) (hm : X.mg x = none) (hv : bootBuiltins x = some u) (h : Q u s)
    (hn : x ≠ "__name__" := by decide) (hd : (x == ("__debug__" : Str)) = false := by decide) : wpAny (model X.prog X.w) X.A (eval (.Name x pos) X.env) Q E s := by
  obtain ⟨mb, h1, h2⟩ := I.mod.blt
  exact Calls.Name_function_global I.ok.kind hg (Calls.loadGlobal_builtin (by rw [I.ok.glob]; exact I.mod.glob.keeps I.bk) hm (by rw [I.ok.blt]; exact h1.keeps I.bk) ((h2 x hn).trans hv) h) hd
/-- a module's constant, a class, a function, as a value -/
theorem pe_glob {x : Str} {v : V} {u : Value} {pos : Pos} (hg : Gl X x) (hm : X.mg x = some u) (r : RelV v u) (hd : (x == ("__debug__" : Str)) = false := by decide) : PE X (.Name x pos) (tC v) :=
  fun _ _ _ H _ I h => ld_glob I hg hm ⟨v, H, I, r, h⟩ hd
theorem pe_bltn {x : Str} {v : V} {u : Value} {pos : Pos} (hg : Gl X x) (hm : X.mg x = none) (hv : bootBuiltins x = some u) (r : RelV v u) (hn : x ≠ "__name__" := by decide) (hd : (x == ("__debug__" : Str)) = false := by decide) : PE X (.Name x pos) (tC v) :=
  fun _ _ _ H _ I h => ld_blt I hg hm hv ⟨v, H, I, r, h⟩ hn hd

/-! ### arithmetic -/
/-- two ints -/
def t2I (ta tb : TE) (k : Int → Int → Hp → Prop) : St → Hp → Prop := fun σ H => ta σ H fun x H1 => tb σ H1 fun y H2 => ∃ i j, x = .int i ∧ y = .int j ∧ k i j H2
def tAdd (ta tb : TE) : TE := fun σ H Q => t2I ta tb (fun i j H2 => Q (.int (i + j)) H2) σ H
def tSub (ta tb : TE) : TE := fun σ H Q => t2I ta tb (fun i j H2 => Q (.int (i - j)) H2) σ H
/-- the left factor below 2^64 -/
def tMul (ta tb : TE) : TE := fun σ H Q => t2I ta tb (fun i j H2 => (-(2 ^ 64) < i ∧ i < 2 ^ 64) ∧ Q (.int (i * j)) H2) σ H
variable {a b : Expr} {ta tb : TE} {pos : Pos}
/-! ### comparisons -/
def PC (X : Cx) (op : CmpOp) (a b : Expr) (t : TE) : Prop :=
  ∀ (pins : List (Addr × Obj)) (s : Shared) (σ : St) (H : Hp) (Q : VK), Inv X pins σ H s → t σ H Q →
    wpAny (model X.prog X.w) X.A (eval a X.env) (fun v s₁ => wpAny (model X.prog X.w) X.A (eval b X.env) (fun u s₂ => wpAny (model X.prog X.w) X.A (compareOp op v u) (EP X pins σ Q) X.xe s₂) X.xe s₁) X.xe s
def tCmp (p : Int → Int → Bool) (ta tb : TE) : TE := fun σ H Q => t2I ta tb (fun i j H2 => Q (.bl (p i j)) H2) σ H
abbrev tLt : TE → TE → TE := tCmp fun i j => decide (i < j)
abbrev tLe : TE → TE → TE := tCmp fun i j => decide (i ≤ j)
abbrev tGt : TE → TE → TE := tCmp fun i j => decide (j < i)
abbrev tGe : TE → TE → TE := tCmp fun i j => decide (j ≤ i)
abbrev tEqI : TE → TE → TE := tCmp fun i j => decide (i = j)
abbrev tNeI : TE → TE → TE := tCmp fun i j => !decide (i = j)
/-- is None -/
def tIsN (ta : TE) : TE := fun σ H Q => ta σ H fun x H1 => Q (.bl (decide (x = .non))) H1
def tNotN (ta : TE) : TE := fun σ H Q => ta σ H fun x H1 => Q (.bl (!decide (x = .non))) H1
/-- a comparison as a value, as a test -/
def tB (t : TE) : TT := fun σ H Q => t σ H fun x H1 => ∃ c, x = .bl c ∧ Q c H1
theorem pt_cmp {op : CmpOp} {t : TE} (h : PC X op a b t) (h1 : behindInMarks op b = false := by first | exact nobehind _ (by decide) (by decide) | rfl) : PT X (.Compare a [op] [b] pos) (tB t) := by
  intro pins s σ H Q I hw
  refine wpAny_isTrue_Compare1 (thn (h pins s σ H _ I hw) fun v s1 h1 => thn h1 fun u s2 h2 => thn h2 fun c s3 ⟨x, H1, I1, r1, q1⟩ => ?_) h1
  obtain ⟨d, rfl, q⟩ := q1
  cases r1
  exact wpAny_truthy_bool ⟨H1, I1, q⟩
/-- an expression whose value is a bool, as a test -/
theorem pt_val {e : Expr} {t : TE} (h : PE X e t) (he : ∀ whole, isTrue e X.env whole = (do let v ← whole; standAt e.pos; holding [v] (truthy v)) := by intro _; rfl) : PT X e (tB t) := by
  intro pins s σ H Q I hw
  refine isTrue_plain (thn (h pins s σ H _ I hw) fun v s1 ⟨x, H1, I1, r1, q1⟩ => ?_) (he _)
  obtain ⟨d, rfl, q⟩ := q1
  cases r1
  exact wpAny_truthy_bool ⟨H1, I1, q⟩

/-! ### and, or, not -/
variable {tA tB' : TT} {rest : List Expr}
def tAnd (t u : TT) : TT := fun σ H Q => t σ H fun c H1 => if c = true then u σ H1 Q else Q false H1
def tOr (t u : TT) : TT := fun σ H Q => t σ H fun c H1 => if c = true then Q true H1 else u σ H1 Q
def tNot (t : TT) : TT := fun σ H Q => t σ H fun c H1 => Q (!c) H1
theorem pw_and1 (ha : PT X a tA) : PW X (.BoolOp .And [a] pos) tA := by
  intro wh pins s σ H Q I h
  refine isTrue_and (thn (ha pins s σ H Q I h) fun c s1 e => ?_)
  cases c with
  | true => exact isTrue_and_nil e
  | false => exact e
theorem pw_or1 (ha : PT X a tA) : PW X (.BoolOp .Or [a] pos) tA := by
  intro wh pins s σ H Q I h
  refine isTrue_or (thn (ha pins s σ H Q I h) fun c s1 e => ?_)
  cases c with
  | false => exact isTrue_or_nil e
  | true => exact e
theorem pw_and (ha : PT X a tA) (hb : PW X (.BoolOp .And (b :: rest) pos) tB') : PW X (.BoolOp .And (a :: b :: rest) pos) (tAnd tA tB') := by
  intro wh pins s σ H Q I h
  refine isTrue_and (thn (ha pins s σ H _ I h) fun c s1 ⟨H1, I1, q1⟩ => ?_)
  cases c with
  | true => exact hb wh pins s1 σ H1 Q I1 q1
  | false => exact ⟨H1, I1, q1⟩
theorem pw_or (ha : PT X a tA) (hb : PW X (.BoolOp .Or (b :: rest) pos) tB') : PW X (.BoolOp .Or (a :: b :: rest) pos) (tOr tA tB') := by
  intro wh pins s σ H Q I h
  refine isTrue_or (thn (ha pins s σ H _ I h) fun c s1 ⟨H1, I1, q1⟩ => ?_)
  cases c with
  | true => exact ⟨H1, I1, q1⟩
  | false => exact hb wh pins s1 σ H1 Q I1 q1
theorem pt_not (ha : PT X a tA) : PT X (.UnaryOp .Not a pos) (tNot tA) := by
  intro pins s σ H Q I h
  exact isTrue_not (ha pins s σ H (fun c H1 => Q (!c) H1) I h)
/-- .. as values (bools) -/
def tAndV (ta tb : TE) : TE := fun σ H Q => ta σ H fun x H1 => ∃ c, x = .bl c ∧ if c = true then tb σ H1 Q else Q (.bl false) H1
def tOrV (ta tb : TE) : TE := fun σ H Q => ta σ H fun x H1 => ∃ c, x = .bl c ∧ if c = true then Q (.bl true) H1 else tb σ H1 Q
def tNotV (ta : TE) : TE := fun σ H Q => ta σ H fun x H1 => ∃ c, x = .bl c ∧ Q (.bl (!c)) H1
theorem pe_one {op} {t : TE} (h : PE X a t) : PE X (.BoolOp op [a] pos) t := fun pins s σ H Q I hw => BoolOp_one (h pins s σ H Q I hw)
theorem pe_and (ha : PE X a ta) (hb : PE X (.BoolOp .And (b :: rest) pos) tb) : PE X (.BoolOp .And (a :: b :: rest) pos) (tAndV ta tb) := by
  intro pins s σ H Q I h
  refine BoolOp_and (thn (ha pins s σ H _ I h) fun v s1 ⟨x, H1, I1, r1, q1⟩ => ?_)
  obtain ⟨c, rfl, q1⟩ := q1
  cases r1
  refine wpAny_truthy_bool ?_
  cases c with
  | true => exact hb pins s1 σ H1 Q I1 q1
  | false => exact ⟨.bl false, H1, I1, rfl, q1⟩
theorem pe_not (ha : PE X a ta) : PE X (.UnaryOp .Not a pos) (tNotV ta) := by
  intro pins s σ H Q I h
  refine UnaryOp_ (thn (ha pins s σ H _ I h) fun v s1 ⟨x, H1, I1, r1, q1⟩ => ?_)
  obtain ⟨c, rfl, q1⟩ := q1
  cases r1
  exact not_of (wpAny_truthy_bool ⟨.bl (!c), H1, I1, rfl, q1⟩)
/-- a if t else b -/
def tIf (t : TT) (ta tb : TE) : TE := fun σ H Q => t σ H fun c H1 => if c = true then ta σ H1 Q else tb σ H1 Q
end
end L2

namespace L2
open PySem PySem.Spec PyProof.Rows

/-! ### a list, a tuple that is read: tracked, frozen, or an object of the module -/
def SqL (K : PySem.W.Frag) (H : Hp) (a : Addr) (xs : List V) : Prop :=
  Rd H a (.lst xs) ∨
    ∃ (o : Obj) (its : Array Value) (n : Nat), K.lookup a = some o ∧ o.cls = .type "list" ∧ o.dict = none ∧ o.data = .seq its n ∧ its.size ≤ sizeLine ∧ Vals xs its.toList
def SqT (K : PySem.W.Frag) (H : Hp) (a : Addr) (xs : List V) : Prop :=
  Rd H a (.tup xs) ∨
    ∃ (o : Obj) (its : Array Value) (n : Nat), K.lookup a = some o ∧ o.cls = .type "tuple" ∧ o.data = .seq its n ∧ its.size ≤ sizeLine ∧ Vals xs its.toList
def absV : Value → Option V
  | .none => some .non
  | .bool b => some (.bl b)
  | .int i _ => some (.int i)
  | .str x _ => some (.str x)
  | .bytes b _ => some (.byt b)
  | .float b _ => some (.flt b)
  | .ref a => some (.ref a)
  | .type n => some (.ty n)
  | _ => none
theorem RelV.abs {x : V} {u : Value} (r : RelV x u) : absV u = some x := by
  cases x with
  | non => cases r; rfl
  | bl _ => cases r; rfl
  | int _ => obtain ⟨t, rfl⟩ := r; rfl
  | str _ => obtain ⟨t, rfl⟩ := r; rfl
  | byt _ => obtain ⟨t, rfl⟩ := r; rfl
  | flt _ => obtain ⟨t, rfl⟩ := r; rfl
  | ref _ => cases r; rfl
  | ty _ => cases r; rfl
theorem RelV.inj {x y : V} {u : Value} (r : RelV x u) (q : RelV y u) : x = y := Option.some.inj (r.abs.symm.trans q.abs)
theorem Vals.inj : ∀ {xs ys : List V} {us : List Value}, Vals xs us → Vals ys us → xs = ys
  | _, _, _, .nil, .nil => rfl
  | _, _, _, .cons r t, .cons r' t' => by rw [r.inj r', Vals.inj t t']
section
variable {X : Cx} {pins : List (Addr × Obj)} {σ : St} {H : Hp} {s : Shared} {a : Addr} {xs ys : List V}
theorem SqL.of {K : PySem.W.Frag} (h : H a = some (.lst xs)) : SqL K H a xs := .inl (.inl h)
theorem SqT.of {K : PySem.W.Frag} (h : H a = some (.tup xs)) : SqT K H a xs := .inl (.inl h)
theorem Inv.list (I : Inv X pins σ H s) (h : SqL X.K H a xs) : ∃ its : List Value, Vals xs its ∧ PlainL s.heap a its.toArray ∧ xs.length ≤ sizeLine := by
  rcases h with h | ⟨o, its, n, hk, hc, hd, hs, hz, r⟩
  · obtain ⟨z, its, n, r, e⟩ := h.ok I.hok
    exact ⟨its, r, ⟨_, n, e, rfl, rfl, rfl⟩, z⟩
  · refine ⟨its.toList, r, ⟨o, n, I.kIn a o hk, hc, hd, by simpa using hs⟩, ?_⟩
    have e := r.length
    simp only [Array.length_toList] at e
    omega
theorem Inv.tuple (I : Inv X pins σ H s) (h : SqT X.K H a xs) : ∃ its : List Value, Vals xs its ∧ IsTup s.heap a its.toArray ∧ xs.length ≤ sizeLine := by
  rcases h with h | ⟨o, its, n, hk, hc, hs, hz, r⟩
  · obtain ⟨z, its, r, p⟩ := h.ok I.hok
    exact ⟨its, r, p, z⟩
  · refine ⟨its.toList, r, ⟨o, I.kIn a o hk, hc, n, by simpa using hs⟩, ?_⟩
    have e := r.length
    simp only [Array.length_toList] at e
    omega
theorem Inv.list_inj (I : Inv X pins σ H s) (h : SqL X.K H a xs) (h' : SqL X.K H a ys) : xs = ys := by
  obtain ⟨its, r, ⟨o, n, e, _, _, d⟩, _⟩ := I.list h
  obtain ⟨its', r', ⟨o', n', e', _, _, d'⟩, _⟩ := I.list h'
  rw [e] at e'; cases e'
  rw [d] at d'
  injection d' with d1 _
  have : its = its' := by simpa using congrArg Array.toList d1
  subst this
  exact r.inj r'
end

/-! ### another wish about exceptions -/
abbrev Cx.wish (X : Cx) (E : Value → Shared → Prop) : Cx := { X with xe := E }
/-- no exception leaves -/
abbrev Cx.nox (X : Cx) : Cx := X.wish fun _ _ => False
theorem Cx.Ok.wish {X : Cx} (ok : X.Ok) (E : Value → Shared → Prop) : (X.wish E).Ok :=
  ⟨ok.mod, ok.kind, ok.glob, ok.blt, ok.above, ok.inj, ok.has, ok.cab, ok.hd, ok.frames, ok.stk, ok.exf, ok.bs, ok.bsz, ok.noex, ok.exfs, ok.funs, ok.frf⟩
theorem Cx.Ok.unwish {X : Cx} {E : Value → Shared → Prop} (ok : (X.wish E).Ok) : X.Ok :=
  ⟨ok.mod, ok.kind, ok.glob, ok.blt, ok.above, ok.inj, ok.has, ok.cab, ok.hd, ok.frames, ok.stk, ok.exf, ok.bs, ok.bsz, ok.noex, ok.exfs, ok.funs, ok.frf⟩
section
variable {X : Cx} {pins : List (Addr × Obj)} {σ : St} {H : Hp} {s : Shared} {E : Value → Shared → Prop}
theorem Inv.wish (I : Inv X pins σ H s) (E : Value → Shared → Prop) : Inv (X.wish E) pins σ H s := ⟨I.ok.wish E, I.os, I.bare, I.base, I.loc, I.cell, I.free, I.freeC, I.pin, I.hok, I.len⟩
theorem Inv.unwish (I : Inv (X.wish E) pins σ H s) : Inv X pins σ H s := ⟨I.ok.unwish, I.os, I.bare, I.base, I.loc, I.cell, I.free, I.freeC, I.pin, I.hok, I.len⟩
theorem SP.unwish {D : Ends} {f : Flow} {s' : Shared} (h : SP (X.wish E) pins D f s') : SP X pins D f s' := by
  cases f with
  | next => obtain ⟨σ', H', I, q⟩ := h; exact ⟨σ', H', I.unwish, q⟩
  | brk => obtain ⟨σ', H', I, q⟩ := h; exact ⟨σ', H', I.unwish, q⟩
  | cont => obtain ⟨σ', H', I, q⟩ := h; exact ⟨σ', H', I.unwish, q⟩
  | ret u => obtain ⟨v, σ', H', I, r, q⟩ := h; exact ⟨v, σ', H', I.unwish, r, q⟩
theorem PSs.nox {st : List Stmt} {t : TS} (h : PSs X.nox st t) : PSs X st t := fun pins s σ H D I hw =>
  wpAny_mono (h pins s σ H D (I.wish _) hw) (fun _ _ q => q.unwish) fun _ _ z => False.elim z
end

/-! ### blocks and small statements -/
section
variable {X : Cx} {st : Stmt} {rest : List Stmt} {t u : TS} {e : Expr} {te : TE} {pos : Pos}
def tNext : TS := fun D σ H => D.nx σ H
def tSeq (t u : TS) : TS := fun D σ H => t { D with nx := u D } σ H
theorem pss_nil : PSs X [] tNext := fun _ _ σ H _ I h => wpAny_execs_nil ⟨σ, H, I, h⟩
theorem pss_cons (h1 : PS X st t) (h2 : PSs X rest u) : PSs X (st :: rest) (tSeq t u) := by
  intro pins s σ H D I h
  refine wpAny_execs_cons (thn (h1 pins s σ H { D with nx := u D } I h) fun f s1 q => ?_)
  cases f with
  | next =>
    obtain ⟨σ', H', I', q⟩ := q
    exact h2 pins s1 σ' H' D I' q
  | ret v => exact q
  | brk => exact q
  | cont => exact q
theorem pss_one (h1 : PS X st t) : PSs X [st] t := by
  intro pins s σ H D I h
  refine wpAny_execs_cons (thn (h1 pins s σ H D I h) fun f s1 q => ?_)
  cases f with
  | next => exact wpAny_execs_nil q
  | ret v => exact q
  | brk => exact q
  | cont => exact q
def tBreak : TS := fun D σ H => D.bk σ H
def tCont : TS := fun D σ H => D.ct σ H
/-- in a def's body nothing is shown -/
theorem Inv.quiet {pins : List (Addr × Obj)} {σ : St} {H : Hp} {s : Shared} (I : Inv X pins σ H s) : interactive X.env = false := by simp [interactive, I.ok.kind]
/-- an expression whose value is dropped -/
def tDrop (te : TE) : TS := fun D σ H => te σ H fun _ H1 => D.nx σ H1
theorem ps_expr (he : PE X e te) (hs : swapsWith e none pos.line X.env = pure false := by rfl) : PS X (.Expr e pos) (tDrop te) := by
  intro pins s σ H D I h
  exact wpAny_Expr_any (thn (he pins s σ H _ I h) fun v s1 ⟨x, H1, I1, r1, q1⟩ => ⟨σ, H1, I1, q1⟩) I.quiet hs
def tRet (te : TE) : TS := fun D σ H => te σ H D.rt
theorem ps_ret (he : PE X e te) : PS X (.Return (some e) pos) (tRet te) := by
  intro pins s σ H D I h
  exact wpAny_Return_some (thn (he pins s σ H _ I h) fun v s1 ⟨x, H1, I1, r1, q1⟩ => ⟨x, σ, H1, I1, r1, q1⟩)
def tRetN : TS := fun D _ H => D.rt .non H
def tIfS (c : TT) (t u : TS) : TS := fun D σ H => c σ H fun b H1 => if b = true then t D σ H1 else u D σ H1
theorem ps_if {c : Expr} {a b : List Stmt} {tc : TT} (hc : PT X c tc) (ha : PSs X a t) (hb : PSs X b u) : PS X (.If c a b pos) (tIfS tc t u) := by
  intro pins s σ H D I h
  refine wpAny_If (thn (hc pins s σ H _ I h) fun d s1 ⟨H1, I1, q1⟩ => ?_)
  cases d with
  | true => exact ha pins s1 σ H1 D I1 q1
  | false => exact hb pins s1 σ H1 D I1 q1
/-- code that the proof never comes to -/
def tNever : TS := fun _ _ _ => False
theorem pss_never {sts : List Stmt} : PSs X sts tNever := fun _ _ _ _ _ _ h => h.elim
end

/-! ### targets -/
abbrev TG := V → St → Hp → (St → Hp → Prop) → Prop
abbrev TGs := List V → St → Hp → (St → Hp → Prop) → Prop
def PG (X : Cx) (target : Expr) (t : TG) : Prop :=
  ∀ (pins : List (Addr × Obj)) (s : Shared) (σ : St) (H : Hp) (v : V) (u : Value) (Q : St → Hp → Prop), Inv X pins σ H s → RelV v u → t v σ H Q →
    wpAny (model X.prog X.w) X.A (assign target X.env u) (fun _ s' => ∃ σ' H', Inv X pins σ' H' s' ∧ Q σ' H') X.xe s
/-- several targets, one after another -/
def PGs (X : Cx) (ts : List Expr) (t : TGs) : Prop :=
  ∀ (pins : List (Addr × Obj)) (s : Shared) (σ : St) (H : Hp) (vs : List V) (us : List Value) (Q : St → Hp → Prop), Inv X pins σ H s → Vals vs us → t vs σ H Q →
    wpAny (model X.prog X.w) X.A (assignInOrder ((assignEach ts X.env).map (·.2)) us) (fun _ s' => ∃ σ' H', Inv X pins σ' H' s' ∧ Q σ' H') X.xe s
/-- o[i] = v, by values -/
abbrev TSet := V → V → V → Hp → (Hp → Prop) → Prop
def PSet (X : Cx) (t : TSet) : Prop :=
  ∀ (pins : List (Addr × Obj)) (s : Shared) (σ : St) (H : Hp) (o i v : V) (ov iv u : Value) (Q : Hp → Prop), Inv X pins σ H s → RelV o ov → RelV i iv → RelV v u → t o i v H Q →
    wpAny (model X.prog X.w) X.A (setItem ov iv u) (fun _ s' => ∃ H', Inv X pins σ H' s' ∧ Q H') X.xe s
/-- a op= b, by values -/
abbrev TIp := V → V → Hp → VK → Prop
def PIp (X : Cx) (op : Operator) (t : TIp) : Prop :=
  ∀ (pins : List (Addr × Obj)) (s : Shared) (σ : St) (H : Hp) (x y : V) (v u : Value) (Q : VK), Inv X pins σ H s → RelV x v → RelV y u → t x y H Q →
    wpAny (model X.prog X.w) X.A (inplaceOp op v u) (EP X pins σ Q) X.xe s
section
variable {X : Cx} {pos : Pos}
def gName (i : Nat) : TG := fun v σ H Q => Q (σ.set i (some v)) H
theorem pg_name {i : Nat} {x : Str} (hN : X.N.Nodup) (hi : X.N[i]? = some x) (hx : Loc X.env.scope x) (hf : X.fn x = true ∨ X.env.scope.names.lookup x = some .local := by first | exact .inl rfl | exact .inr rfl | assumption) : PG X (.Name x pos) (gName i) := by
  intro pins s σ H v u Q I r h
  exact wpAny_assign_Name (store_ok I hN hi hx r (fun s' I' => ⟨_, H, I', h⟩) hf)
def gNil : TGs := fun vs σ H Q => vs = [] ∧ Q σ H
def gCons (t : TG) (u : TGs) : TGs := fun vs σ H Q => ∃ v r, vs = v :: r ∧ t v σ H fun σ' H' => u r σ' H' Q
theorem pgs_nil : PGs X [] gNil := by
  intro pins s σ H vs us Q I r h
  obtain ⟨e, h⟩ := h
  subst e
  cases r
  exact assignInOrder_nil ⟨σ, H, I, h⟩
theorem pgs_cons {e : Expr} {es : List Expr} {t : TG} {u : TGs} (h1 : PG X e t) (h2 : PGs X es u)
    (hs : (assignEach (e :: es) X.env).map (·.2) = assign e X.env :: (assignEach es X.env).map (·.2) := by rfl) : PGs X (e :: es) (gCons t u) := by
  intro pins s σ H vs us Q I r h
  obtain ⟨v, vr, e1, h⟩ := h
  subst e1
  cases r with
  | cons r rr =>
    rw [hs]
    refine assignInOrder_cons (thn (h1 pins s σ H _ _ _ I r h) fun _ s1 ⟨σ1, H1, I1, q1⟩ => ?_)
    exact h2 pins s1 σ1 H1 _ _ Q I1 rr q1
/-- (a, b, ..) = a tuple of that length -/
inductive gTupI (K : PySem.W.Frag) (n : Nat) (t : TGs) (v : V) (σ : St) (H : Hp) (Q : St → Hp → Prop) : Prop
  | mk (a : _) (xs : _) (z0 : v = .ref a) (z1 : SqT K H a xs) (z2 : xs.length = n) (z3 : t xs σ H Q)
def gTup (K : PySem.W.Frag) (n : Nat) (t : TGs) : TG := fun v σ H Q => gTupI K n t v σ H Q
theorem pg_tup {es : List Expr} {k : Nat} {t : TGs} {n : Nat} (hc : X.calm = true) (h : PGs X es t)
    (hn : (assignEach es X.env).length = n := by rfl) (hst : (assignEach es X.env).findIdx? (·.1) = none := by rfl) : PG X (.Tuple es k pos) (gTup X.K n t) := by
  intro pins s σ H v u Q I r hw
  obtain ⟨a, xs, e1, hq, hl, hw⟩ := hw
  subst e1
  cases r
  obtain ⟨its, rv, ht, hz⟩ := I.tuple hq
  refine assign_Tuple_tuple (I.ok.hd hc) ht (by simp [hn, ← hl, rv.length]) hst fun h' hx => ?_
  have I1 : Inv X pins σ H { s with heap := h' } := I.kept (t' := s.toks) fun b o e => hx b o (Nat.ne_of_lt (Heap.lt_size e)) e
  exact h pins _ σ H xs _ Q I1 (by simpa using rv) hw
/-- o[i] = .. -/
def gSub (to ti : TE) (t : TSet) : TG := fun v σ H Q => to σ H fun o H1 => ti σ H1 fun i H2 => t o i v H2 fun H3 => Q σ H3
theorem pg_sub {o i : Expr} {to ti : TE} {t : TSet} (ho : PE X o to) (hi : PE X i ti) (hs : PSet X t)
    (ha : ∀ v, assign (.Subscript o i pos) X.env v = (do
      let ov ← holding [v] (eval o X.env)
      let iv ← holding [v, ov] (eval i X.env)
      standAt pos
      holding [v, ov, iv] (setItem ov iv v)
      release [v, ov, iv] []) := by intro _; rfl) : PG X (.Subscript o i pos) (gSub to ti t) := by
  intro pins s σ H v u Q I r h
  rw [ha]
  refine wpAny_bind (wpAny_holding (thn (ho pins s σ H _ I h) fun ov s1 ⟨x, H1, I1, r1, q1⟩ => ?_))
  refine wpAny_bind (wpAny_holding (thn (hi pins s1 σ H1 _ I1 q1) fun iv s2 ⟨y, H2, I2, r2, q2⟩ => ?_))
  refine wpAny_bind (wpAny_standAt (wpAny_bind (wpAny_holding (thn (hs pins s2 σ H2 x y v ov iv u _ I2 r1 r2 r q2) fun _ s3 ⟨H3, I3, q3⟩ => ?_))))
  exact wpAny_release ⟨σ, H3, I3, q3⟩
/-- target = value -/
def tAsg (te : TE) (g : TG) : TS := fun D σ H => te σ H fun x H1 => g x σ H1 D.nx
theorem ps_asg {tg e : Expr} {te : TE} {g : TG} (he : PE X e te) (hg : PG X tg g) (hs : swapsWithSole [tg] e pos.line X.env = pure false := by rfl) (hw : swappedStores [tg] e X.env = pure none := by rfl)
    (h1 : (assignEach [tg] X.env).map (·.2) = [assign tg X.env] := by rfl) : PS X (.Assign [tg] e pos) (tAsg te g) := by
  intro pins s σ H D I h
  refine wpAny_Assign_stores (thn (he pins s σ H _ I h) fun v s1 ⟨x, H1, I1, r1, q1⟩ => ?_) hs hw
  rw [h1]
  exact thn (hg pins s1 σ H1 x v _ I1 r1 q1) fun _ s2 q => q
/-- name = value -/
theorem ps_set {i : Nat} {x : Str} {e : Expr} {te : TE} {pos' : Pos} (hN : X.N.Nodup) (hi : X.N[i]? = some x) (hx : Loc X.env.scope x) (he : PE X e te) (hs : swapsWith e (some (.Name x pos')) pos.line X.env = pure false := by rfl) (hf : X.fn x = true ∨ X.env.scope.names.lookup x = some .local := by first | exact .inl rfl | exact .inr rfl | assumption) :
    PS X (.Assign [.Name x pos'] e pos) (tAsg te (gName i)) := by
  intro pins s σ H D I h
  refine wpAny_Assign_Name (thn (he pins s σ H _ I h) fun v s1 ⟨y, H1, I1, r1, q1⟩ => ?_) hs
  exact store_ok I1 hN hi hx r1 (fun s2 I2 => ⟨_, H1, I2, q1⟩) hf
/-- a, b = x, y with plain local names: stored from the right; the pair itself is not tracked (the opening rows as in PyProof/Rows/TupAssign.lean:23) -/
def tPar (i j : Nat) (ta : TA) : TS := fun D σ H => ta σ H fun vs H1 => ∃ v w, vs = [v, w] ∧ D.nx ((σ.set i (some v)).set j (some w)) H1
/-- name op= e -/
def tAug (i : Nat) (te : TE) (ti : TIp) : TS := fun D σ H => ∃ x, σ[i]? = some (some x) ∧ te σ H fun y H1 => ti x y H1 fun z H2 => D.nx (σ.set i (some z)) H2
/-- o[i] op= e -/
def tAugS (to ti te : TE) (tget : V → V → Hp → VK → Prop) (tip : TIp) (tset : TSet) : TS := fun D σ H => to σ H fun o H1 => ti σ H1 fun i H2 => tget o i H2 fun x H3 => te σ H3 fun y H4 => tip x y H4 fun z H5 => tset o i z H5 fun H6 => D.nx σ H6
/-- o[i], by values -/
def PGet (X : Cx) (t : V → V → Hp → VK → Prop) : Prop :=
  ∀ (pins : List (Addr × Obj)) (s : Shared) (σ : St) (H : Hp) (o i : V) (ov iv : Value) (Q : VK), Inv X pins σ H s → RelV o ov → RelV i iv → t o i H Q →
    wpAny (model X.prog X.w) X.A (getItem ov iv) (EP X pins σ Q) X.xe s
theorem ps_augS {o i e : Expr} {to ti te : TE} {tget : V → V → Hp → VK → Prop} {tip : TIp} {tset : TSet} {op : Operator} {tpos : Pos} (ho : PE X o to) (hi : PE X i ti) (hg : PGet X tget) (he : PE X e te) (hp : PIp X op tip) (hs : PSet X tset)
    (ha : ∀ ov iv new, augStore i ov iv new = (do holding [new, ov, iv] (setItem ov iv new); release [new, ov, iv] []; pure .next) := by intros; rfl) : PS X (.AugAssign (.Subscript o i tpos) op e pos) (tAugS to ti te tget tip tset) := by
  intro pins s σ H D I h
  refine wpAny_AugAssign_SubscriptAny (thn (ho pins s σ H _ I h) fun ov s1 ⟨x1, H1, I1, r1, q1⟩ => ?_) ha
  refine thn (hi pins s1 σ H1 _ I1 q1) fun iv s2 ⟨x2, H2, I2, r2, q2⟩ => ?_
  refine thn (hg pins s2 σ H2 x1 x2 ov iv _ I2 r1 r2 q2) fun old s3 ⟨x3, H3, I3, r3, q3⟩ => ?_
  refine thn (he pins s3 σ H3 _ I3 q3) fun v s4 ⟨x4, H4, I4, r4, q4⟩ => ?_
  refine thn (hp pins s4 σ H4 x3 x4 old v _ I4 r3 r4 q4) fun new s5 ⟨x5, H5, I5, r5, q5⟩ => ?_
  exact thn (hs pins s5 σ H5 x1 x2 x5 ov iv new _ I5 r1 r2 r5 q5) fun _ s6 ⟨H6, I6, q6⟩ => ⟨σ, H6, I6, q6⟩
/-- ints -/
inductive ipII (f : Int → Int → Int) (x : V) (y : V) (H : Hp) (Q : VK) : Prop
  | mk (i : _) (j : _) (z0 : x = .int i) (z1 : y = .int j) (z2 : Q (.int (f i j)) H)
def ipI (f : Int → Int → Int) : TIp := fun x y H Q => ipII f x y H Q
theorem ip_add : PIp X .Add (ipI fun i j => i + j) := by
  intro pins s σ H x y v u Q I r1 r2 h
  obtain ⟨i, j, e1, e2, q⟩ := h
  subst e1; subst e2
  obtain ⟨t, rfl⟩ := r1
  obtain ⟨t', rfl⟩ := r2
  exact iadd_int ⟨.int _, H, I.tok _, ⟨_, rfl⟩, q⟩
theorem ip_sub : PIp X .Sub (ipI fun i j => i - j) := by
  intro pins s σ H x y v u Q I r1 r2 h
  obtain ⟨i, j, e1, e2, q⟩ := h
  subst e1; subst e2
  obtain ⟨t, rfl⟩ := r1
  obtain ⟨t', rfl⟩ := r2
  exact isub_int ⟨.int _, H, I.tok _, ⟨_, rfl⟩, q⟩
end

/-! ### while -/
section
variable {X : Cx} {pos : Pos}
/-- the invariant W with its measure -/
def tWhile (c : TT) (tb : TS) : TS := fun D σ H => ∃ W : Nat → St → Hp → Prop, (∃ m, W m σ H) ∧ ∀ m σ H, W m σ H →
  c σ H fun b H1 => if b = true then ∃ N : St → Hp → Prop, (∀ σ' H', N σ' H' → ∃ m', m' < m ∧ W m' σ' H') ∧ tb { D with nx := N, ct := N, bk := D.nx } σ H1 else D.nx σ H1
theorem ps_while {c : Expr} {body : List Stmt} {tc : TT} {tb : TS} (hp : PassesOwn (model X.prog X.w) X.A X.env X.xe) (hc : PT X c tc) (hb : PSs X body tb) : PS X (.While c body [] pos) (tWhile tc tb) := by
  intro pins s σ H D I h
  obtain ⟨W, ⟨m0, w0⟩, turn⟩ := h
  refine wpAny_While (codeAny_whileLoop (fun n s' => ∃ σ' H', Inv X pins σ' H' s' ∧ W n σ' H') ?_ m0 ⟨σ, H, I, w0⟩)
  rintro n s1 ⟨σ1, H1, I1, w1⟩
  refine wpAny_passesOwn hp (thn (hc pins s1 σ1 H1 _ I1 (turn n σ1 H1 w1)) fun b s2 ⟨H2, I2, q2⟩ => ?_)
  cases b with
  | true =>
    obtain ⟨N, hN, q2⟩ := q2
    rw [if_pos rfl]
    refine wpAny_passesOwn hp (thn (hb pins s2 σ1 H2 _ I2 q2) fun f s3 q3 => ?_)
    cases f with
    | next =>
      obtain ⟨σ3, H3, I3, n3⟩ := q3
      obtain ⟨m', hm, w3⟩ := hN σ3 H3 n3
      exact ⟨m', hm, σ3, H3, I3, w3⟩
    | cont =>
      obtain ⟨σ3, H3, I3, n3⟩ := q3
      obtain ⟨m', hm, w3⟩ := hN σ3 H3 n3
      exact ⟨m', hm, σ3, H3, I3, w3⟩
    | brk => exact q3
    | ret v => exact q3
  | false =>
    rw [if_neg Bool.false_ne_true]
    exact wpAny_execs_nil ⟨σ1, H2, I2, q2⟩
end

/-! ### what a loop or a comprehension walks -/
/-- at turn i: it yields x (the heap may grow), or it stops -/
structure It where
  go : Nat → Hp → Prop
  yld : Nat → Hp → V → Hp → Prop
  stop : Nat → Hp → Prop
/-- the iterator's own objects may turn: they are not the frame's, not pinned, younger than the entry (or a comprehension's own) -/
def FpOk (X : Cx) (pins : List (Addr × Obj)) (H : Hp) (b : Addr) : Prop :=
  H b = none ∧ b ≠ X.env.locals ∧ b ∉ X.fs ∧ (b ∈ X.ex ∨ X.s₀.heap.objs.size ≤ b) ∧ (∀ x c, X.env.cells.lookup x = some c → c ≠ b) ∧ ∀ p ∈ X.pn ++ pins, p.1 ≠ b
theorem Inv.fpOk {X : Cx} {pins : List (Addr × Obj)} {σ : St} {H H' : Hp} {s : Shared} {b : Addr} (I : Inv X pins σ H s) (hb : s.heap.objs.size ≤ b) (hn : H' b = none) : FpOk X pins H' b := by
  refine ⟨hn, Nat.ne_of_gt (Nat.lt_of_lt_of_le I.lt hb), I.nofs hb, .inr (Nat.le_trans I.sz hb), fun x c e z => ?_, fun p hp z => ?_⟩
  · obtain ⟨v, q⟩ := I.cell x c e
    exact absurd (Nat.lt_of_lt_of_le q.lt (by rw [z]; exact hb)) (Nat.lt_irrefl _)
  · exact absurd (Nat.lt_of_lt_of_le (Heap.lt_size (I.pin p hp).1) (by rw [z]; exact hb)) (Nat.lt_irrefl _)
structure Turn (P : Program) (w : World) (K : PySem.W.Frag) (tg : Expr) (J : It) (fp : List Addr) (it : Addr) (tn : Nat → Heap → Prop) : Prop where
  mem : it ∈ fp
  obj : ∀ i h, tn i h → ∀ b ∈ fp, ∃ o, h.get? b = some o ∧ ∀ v, o.data ≠ .cell v
  keep : ∀ i h h', tn i h → (∀ b ∈ fp, ∀ o, h.get? b = some o → h'.get? b = some o) → tn i h'
  item : ∀ (X : Cx), X.prog = P → X.w = w → X.K = K → X.calm = true → ∀ (i : Nat) (pins : List (Addr × Obj)) (s : Shared) (σ : St) (H : Hp) (E : Value → Shared → Prop), Inv X pins σ H s → (∀ b ∈ fp, FpOk X pins H b) → tn i s.heap → J.go i H →
    wpAny (model P w) X.A (pyNext (.ref it)) (fun r s1 => ∃ u, r = some u ∧
      wpAny (model P w) X.A (letOwnedTupleGo tg (.ref it) u) (fun _ s2 => ∃ x H', Inv X pins σ H' s2 ∧ RelV x u ∧ J.yld i H x H' ∧ tn (i + 1) s2.heap ∧ ∀ b ∈ fp, H' b = none) E s1) E s
  done : ∀ (X : Cx), X.prog = P → X.w = w → X.K = K → X.calm = true → ∀ (i : Nat) (pins : List (Addr × Obj)) (s : Shared) (σ : St) (H : Hp) (E : Value → Shared → Prop), Inv X pins σ H s → (∀ b ∈ fp, FpOk X pins H b) → tn i s.heap → J.stop i H →
    wpAny (model P w) X.A (pyNext (.ref it)) (fun r s1 => r = none ∧ Inv X pins σ H s1) E s
  self : ∀ (A : Around) (i : Nat) (s : Shared) (Q : Value → Shared → Prop) (E : Value → Shared → Prop), tn i s.heap → Q (.ref it) s → wpAny (model P w) A (pyIter (.ref it)) Q E s
abbrev TI := St → Hp → (It → Hp → Prop) → Prop
/-- an iterator has come -/
def PIE (X : Cx) (pins : List (Addr × Obj)) (σ : St) (tg : Expr) (R : It → Hp → Prop) (itv : Value) (s2 : Shared) : Prop :=
  ∃ (it : Addr) (fp : List Addr) (tn : Nat → Heap → Prop) (J : It) (H' : Hp), itv = .ref it ∧ Inv X pins σ H' s2 ∧ Turn X.prog X.w X.K tg J fp it tn ∧ tn 0 s2.heap ∧ (∀ b ∈ fp, FpOk X pins H' b) ∧ R J H'
def PI (X : Cx) (tg iter : Expr) (wi : TI) : Prop :=
  ∀ (pins : List (Addr × Obj)) (s : Shared) (σ : St) (H : Hp) (R : It → Hp → Prop), Inv X pins σ H s → wi σ H R →
    wpAny (model X.prog X.w) X.A (eval iter X.env) (fun v s1 => wpAny (model X.prog X.w) X.A (pyIter v) (PIE X pins σ tg R) X.xe s1) X.xe s

/-- the step ahead of the store is nothing for an iterator that keeps no tuple -/
theorem go_of {M : Model} {A : Around} {E : Value → Shared → Prop} {s : Shared} {tg : Expr} {it : Addr} {u : Value} {o : Obj} {n : String} {vs : Array Value} {Q : Unit → Shared → Prop} (ho : s.heap.get? it = some o) (hc : o.cls = .type n) (hd : o.data = .fields vs)
    (hn : ["enumerate", "zip", "dict_itemiterator", "dict_reverseitemiterator", "odict_iterator", "itertools.zip_longest", "itertools.pairwise"].contains n = false) (hQ : Q () s) : wpAny M A (letOwnedTupleGo tg (.ref it) u) Q E s := by
  unfold letOwnedTupleGo
  cases tg <;> first
    | exact wpAny_pure hQ
    | (cases u <;> first
        | exact wpAny_pure hQ
        | (refine wpAny_bind (wpAny_load ho ?_)
           rw [hc, hd]
           show wpAny M A (if (["enumerate", "zip", "dict_itemiterator", "dict_reverseitemiterator", "odict_iterator", "itertools.zip_longest", "itertools.pairwise"].contains n && vs[0]? == some (rawInt _)) = true then _ else _) Q E s
           rw [if_neg (by intro h; rw [hn, Bool.false_and] at h; cases h)]
           exact wpAny_pure hQ))

/-- the list at a, as it stands at each turn (a loop may append to it) -/
def Itl (K : PySem.W.Frag) (a : Addr) : It :=
  ⟨fun i H => ∃ xs x, SqL K H a xs ∧ xs[i]? = some x, fun i H x H' => H' = H ∧ ∀ xs, SqL K H a xs → xs[i]? = some x, fun i H => ∃ xs, SqL K H a xs ∧ xs.length ≤ i⟩
def Itt (K : PySem.W.Frag) (a : Addr) : It :=
  ⟨fun i H => ∃ xs x, SqT K H a xs ∧ xs[i]? = some x, fun i H x H' => H' = H ∧ ∀ xs, SqT K H a xs → xs[i]? = some x, fun i H => ∃ xs, SqT K H a xs ∧ xs.length ≤ i⟩
/-- lo, lo + 1, .. (n of them) -/
def Itr (lo : Int) (n : Nat) : It := ⟨fun i _ => i < n, fun i H x H' => H' = H ∧ x = .int (lo + i), fun i _ => n ≤ i⟩
theorem turn_list {P : Program} {w : World} {K : PySem.W.Frag} {tg : Expr} (a it : Addr) : Turn P w K tg (Itl K a) [it] it (fun i h => h.IsListIter it a i) where
  mem := by simp
  obj := fun i h st b hb => by
    have e : b = it := by simpa using hb
    subst e
    obtain ⟨o, e, c, d⟩ := st
    exact ⟨o, e, fun v z => by rw [d] at z; cases z⟩
  keep := fun i h h' st k => st.at fun o e => k it (by simp) o e
  item := by
    intro X hP hw hK hc i pins s σ H E I hf st hg
    subst hP hw hK
    obtain ⟨xs, x, hq, hx⟩ := hg
    obtain ⟨its, rv, p, hz⟩ := I.list hq
    obtain ⟨u, hu, ru⟩ := rv.get hx
    obtain ⟨f0, f1, f2, f3, f4, f5⟩ := hf it (by simp)
    refine wpAny_pyNext_list_item st p.isList (x := u) (by simpa using hu) fun h' st' sb => ?_
    have I1 : Inv X pins σ H { s with heap := h' } := I.turned (t' := s.toks) (fun b o hb e => (sb.2 b hb).trans e) f0 f1 f3 f4 f5
    obtain ⟨o, e, c, d⟩ := id st'
    exact ⟨u, rfl, go_of (s := { s with heap := h' }) e c d (by decide) ⟨x, H, I1, ru, ⟨rfl, fun ys hy => by rw [I.list_inj hy hq]; exact hx⟩, st', fun b hb => (hf b hb).1⟩⟩
  done := by
    intro X hP hw hK hc i pins s σ H E I hf st hg
    subst hP hw hK
    obtain ⟨xs, hq, hx⟩ := hg
    obtain ⟨its, rv, p, hz⟩ := I.list hq
    obtain ⟨f0, f1, f2, f3, f4, f5⟩ := hf it (by simp)
    have hl := rv.length
    exact wpAny_pyNext_list_end (I.ok.hd hc) st p.isList (by simp; omega) fun h' eb => ⟨rfl, I.turned (t' := s.toks) (fun b o hb e => eb b o hb e) f0 f1 f3 f4 f5⟩
  self := fun _ _ _ _ _ st h => wpAny_pyIter_listiter st h
theorem turn_range {P : Program} {w : World} {K : PySem.W.Frag} {tg : Expr} (it : Addr) (lo : Int) (n : Nat) : Turn P w K tg (Itr lo n) [it] it (fun i h => IsRangeIter h it (lo + (i : Nat) * 1) ((n : Int) - (i : Nat)) 1) where
  mem := by simp
  obj := fun i h st b hb => by
    have e : b = it := by simpa using hb
    subst e
    exact ⟨_, st, fun v z => by
      have z' : Data.fields _ = Data.cell v := z
      cases z'⟩
  keep := fun i h h' st k => k it (by simp) _ st
  item := by
    intro X hP hw hK hc i pins s σ H E I hf st hg
    subst hP hw hK
    obtain ⟨f0, f1, f2, f3, f4, f5⟩ := hf it (by simp)
    have W := Walks.range (prog := X.prog) (w := X.w) (I.ok.hd hc) it lo 1 n
    refine W.item i s _ _ hg st fun v h' tk hv st' kk => ?_
    obtain ⟨t, rfl⟩ := hv
    have I1 : Inv X pins σ H { s with heap := h', toks := tk } := I.turned (fun b o hb e => kk b o (by simpa using hb) e) f0 f1 f3 f4 f5
    refine ⟨_, rfl, go_of (s := { s with heap := h', toks := tk }) (n := "range_iterator") st' rfl rfl (by decide) ⟨.int (lo + i), H, I1, ⟨t, ?_⟩, ⟨rfl, rfl⟩, st', fun b hb => (hf b hb).1⟩⟩
    rw [Int.mul_one]
  done := by
    intro X hP hw hK hc i pins s σ H E I hf st hg
    subst hP hw hK
    obtain ⟨f0, f1, f2, f3, f4, f5⟩ := hf it (by simp)
    exact wpAny_pyNext_range_end (I.ok.hd hc) st (by have : n ≤ i := hg; omega) fun h' eb => ⟨rfl, I.turned (t' := s.toks) (fun b o hb e => eb b o hb e) f0 f1 f3 f4 f5⟩
  self := fun _ _ _ _ _ st h => wpAny_pyIter_rangeiter st h
end L2

namespace L2
open PySem PySem.Spec PyProof.Rows
section
variable {X : Cx} {tg : Expr}
inductive iListI (K : PySem.W.Frag) (R : It → Hp → Prop) (x : V) (H1 : Hp) : Prop
  | mk (a : _) (z0 : x = .ref a) (z1 : (∃ xs, SqL K H1 a xs)) (z2 : R (Itl K a) H1)
def iList (K : PySem.W.Frag) (tl : TE) : TI := fun σ H R => tl σ H fun x H1 => iListI K R x H1
def iTup (K : PySem.W.Frag) (tl : TE) : TI := fun σ H R => tl σ H fun x H1 => ∃ a, x = .ref a ∧ (∃ xs, SqT K H1 a xs) ∧ R (Itt K a) H1
theorem pi_list {l : Expr} {tl : TE} (hl : PE X l tl) : PI X tg l (iList X.K tl) := by
  intro pins s σ H R I h
  refine thn (hl pins s σ H _ I h) fun v s1 ⟨x, H1, I1, r1, q1⟩ => ?_
  obtain ⟨a, e, ⟨xs, hq⟩, q⟩ := q1
  subst e
  cases r1
  obtain ⟨its, rv, p, hz⟩ := I1.list hq
  refine wpAny_pyIter_list p.isList ?_
  refine ⟨s1.heap.objs.size, [s1.heap.objs.size], _, _, H1, rfl, I1.kept (t' := s1.toks) fun b o e => Heap.get?_push_of_some _ e, turn_list a _, ⟨_, Heap.get?_push_size _ rfl, rfl, rfl⟩, fun b hb => ?_, q⟩
  have e : b = s1.heap.objs.size := by simpa using hb
  subst e
  exact I1.fpOk (Nat.le_refl _) (I1.hok.fresh (Nat.le_refl _))
/-- a range object just made, walked -/
theorem range_it {pins : List (Addr × Obj)} {σ : St} {H : Hp} {s : Shared} {R : It → Hp → Prop} {E : Value → Shared → Prop} {lo hi : Int} {t u v : Tok} {tk : Nat} (I : Inv X pins σ H s) (h1 : -(2 ^ 62) ≤ lo) (h2 : lo < 2 ^ 62) (h3 : -(2 ^ 62) ≤ hi) (h4 : hi < 2 ^ 62)
    (q : R (Itr lo (hi - lo).toNat) H) : wpAny (model X.prog X.w) X.A (pyIter (.ref s.heap.objs.size)) (PIE X pins σ tg R) E { s with heap := s.heap.push { cls := .type "range", data := .fields #[.int lo t, .int hi u, .int 1 v] }, toks := tk } := by
  refine wpAny_pyIter_range (IsRange.new ..) (small_one h1 h2 h3 h4) ?_
  have I1 : Inv X pins σ H { s with heap := s.heap.push { cls := .type "range", data := .fields #[.int lo t, .int hi u, .int 1 v] }, toks := tk } := I.kept fun b o e => Heap.get?_push_of_some _ e
  refine ⟨(s.heap.push { cls := .type "range", data := .fields #[.int lo t, .int hi u, .int 1 v] }).objs.size, [(s.heap.push { cls := .type "range", data := .fields #[.int lo t, .int hi u, .int 1 v] }).objs.size], _, _, H, rfl,
    I1.kept (t' := tk) fun b o e => Heap.get?_push_of_some _ e, turn_range _ lo (hi - lo).toNat, ?_, fun b hb => ?_, q⟩
  · have e1 : lo + ((0 : Nat) : Int) * 1 = lo := by simp
    have e2 : (((hi - lo).toNat : Nat) : Int) - ((0 : Nat) : Int) = Builtin.Range.rangeSize lo hi 1 := by rw [rangeSize_one]; split <;> omega
    show IsRangeIter _ _ (lo + ((0 : Nat) : Int) * 1) ((((hi - lo).toNat : Nat) : Int) - ((0 : Nat) : Int)) 1
    rw [e1, e2]
    exact Heap.get?_push_size _ rfl
  · have e : b = (s.heap.push { cls := .type "range", data := .fields #[.int lo t, .int hi u, .int 1 v] }).objs.size := by simpa using hb
    subst e
    exact I1.fpOk (Nat.le_refl _) (I1.hok.fresh (Nat.le_refl _))
def iRng1 (ta : TA) : TI := fun σ H R => ta σ H fun vs H1 => ∃ j : Int, vs = [.int j] ∧ -(2 ^ 62) ≤ j ∧ j < 2 ^ 62 ∧ R (Itr 0 j.toNat) H1
def iRng2 (ta : TA) : TI := fun σ H R => ta σ H fun vs H1 => ∃ i j : Int, vs = [.int i, .int j] ∧ (-(2 ^ 62) ≤ i ∧ i < 2 ^ 62 ∧ -(2 ^ 62) ≤ j ∧ j < 2 ^ 62) ∧ R (Itr i (j - i).toNat) H1
theorem pi_range1 {a : Expr} {ta : TA} {p pos : Pos} (hg : Gl X "range") (hm : X.mg "range" = none) (ha : PA X [a] ta) (hs : starEach [a] X.env = [(false, eval a X.env)] := by rfl) : PI X tg (.Call (.Name "range" p) [a] [] pos) (iRng1 ta) := by
  intro pins s σ H R I h
  refine Call_ (ld_blt I hg hm boot_range (PyProof.Rows.callWith_type1 (thn (ha pos pins s σ H _ I h) fun us s1 ⟨vs, H1, I1, r1, q1⟩ => ?_) hs rfl))
  obtain ⟨j, e, q1, q2, q⟩ := q1
  subst e
  cases r1 with
  | cons r rr =>
    cases rr
    obtain ⟨t, rfl⟩ := r
    exact call_range_1 (range_it I1 (by omega) (by omega) q1 q2 (by simpa using q))
/-! ### for -/
/-- W: the invariant by the turn and a measure; N: what the body is to reach -/
def tFor (wi : TI) (g : TG) (tb : TS) : TS := fun D σ H => wi σ H fun J H1 => ∃ W : Nat → Nat → St → Hp → Prop, (∃ m, W 0 m σ H1) ∧ ∀ i m σ H, W i m σ H →
  (J.stop i H ∧ D.nx σ H) ∨ (J.go i H ∧ ∃ N : St → Hp → Prop, (∀ σ' H', N σ' H' → ∃ m', m' < m ∧ W (i + 1) m' σ' H') ∧ ∀ x H', J.yld i H x H' → g x σ H' fun σ2 H2 => tb { D with nx := N, ct := N, bk := D.nx } σ2 H2)
/-- the records at fp as they stand -/
def pinsAt (fp : List Addr) (h : Heap) : List (Addr × Obj) := fp.filterMap fun b => (h.get? b).map fun o => (b, o)
theorem mem_pinsAt {fp : List Addr} {h : Heap} {b : Addr} {o : Obj} (hb : b ∈ fp) (e : h.get? b = some o) : (b, o) ∈ pinsAt fp h := List.mem_filterMap.mpr ⟨b, hb, by rw [e]; rfl⟩
theorem of_pinsAt {fp : List Addr} {h : Heap} {p : Addr × Obj} (hp : p ∈ pinsAt fp h) : p.1 ∈ fp ∧ h.get? p.1 = some p.2 := by
  obtain ⟨b, hb, e⟩ := List.mem_filterMap.mp hp
  cases q : h.get? b with
  | none => rw [q] at e; cases e
  | some o =>
    rw [q] at e
    have e' : (b, o) = p := Option.some.inj e
    subst e'
    exact ⟨hb, q⟩
theorem Inv.pinned {pins : List (Addr × Obj)} {σ : St} {H : Hp} {s : Shared} {fp : List Addr} (I : Inv X pins σ H s) (hf : ∀ b ∈ fp, FpOk X pins H b) (ho : ∀ b ∈ fp, ∃ o, s.heap.get? b = some o ∧ ∀ v, o.data ≠ .cell v) : Inv X (pins ++ pinsAt fp s.heap) σ H s :=
  I.pins_of fun p hp => (List.mem_append.mp hp).elim (fun z => I.pin p (List.mem_append_right _ z)) fun z => by
    obtain ⟨hb, e⟩ := of_pinsAt z
    obtain ⟨f0, f1, f2, _⟩ := hf p.1 hb
    obtain ⟨o, e', d⟩ := ho p.1 hb
    rw [e] at e'; cases e'
    exact ⟨e, f0, f1, f2, d⟩
theorem Inv.unpinned {pins pl : List (Addr × Obj)} {σ : St} {H : Hp} {s : Shared} (I : Inv X (pins ++ pl) σ H s) : Inv X pins σ H s := I.pins_of fun p hp => I.pin p (List.mem_append_right _ (List.mem_append_left _ hp))
theorem ps_for {iter : Expr} {body : List Stmt} {wi : TI} {g : TG} {tb : TS} {pos : Pos} (hp : PassesOwn (model X.prog X.w) X.A X.env X.xe) (hc : X.calm = true) (hi : PI X tg iter wi) (hg : PG X tg g) (hb : PSs X body tb)
    (hs : ∀ x, foldedSetIterable iter X.env x = pure x := by intro _; rfl) : PS X (.For tg iter body [] pos) (tFor wi g tb) := by
  intro pins s σ H D I h
  refine wpAny_For (thn (hi pins s σ H _ I h) fun v s1 h1 => thn h1 fun itv s2 h2 => ?_) hs
  obtain ⟨it, fp, tn, J, H2, e, I2, T, st2, f2, W, ⟨m0, w0⟩, turn⟩ := h2
  subst e
  -- what stays true of the iterator's objects through the loop
  have stat : ∀ {H' : Hp}, (∀ b ∈ fp, H' b = none) → ∀ b ∈ fp, FpOk X pins H' b := fun hn b hb => ⟨hn b hb, (f2 b hb).2⟩
  refine codeAny_forLoop_any (fun n s' => ∃ i σ' H', Inv X pins σ' H' s' ∧ tn i s'.heap ∧ (∀ b ∈ fp, H' b = none) ∧ W i n σ' H') ?_ m0 ⟨0, σ, H2, I2, st2, fun b hb => (f2 b hb).1, w0⟩
  rintro n s3 ⟨i, σ3, H3, I3, st3, fr3, w3⟩
  rcases turn i n σ3 H3 w3 with ⟨stop, qn⟩ | ⟨go, N, hN, step⟩
  · refine wpAny_passesOwn hp (thn (T.done X rfl rfl rfl hc i pins s3 σ3 H3 X.xe I3 (stat fr3) st3 stop) fun r s4 ⟨hr, I4⟩ => ?_)
    subst hr
    exact wpAny_execs_nil ⟨σ3, H3, I4, qn⟩
  · refine wpAny_passesOwn hp (thn (T.item X rfl rfl rfl hc i pins s3 σ3 H3 X.xe I3 (stat fr3) st3 go) fun r s4 ⟨u, hr, h4⟩ => ?_)
    subst hr
    refine wpAny_passesOwn hp (thn h4 fun _ s5 ⟨x, H5, I5, r5, y5, st5, fr5⟩ => ?_)
    have I5' := I5.pinned (stat fr5) (T.obj _ _ st5)
    refine wpAny_passesOwn hp (thn (hg _ s5 σ3 H5 x u _ I5' r5 (step x H5 y5)) fun _ s6 ⟨σ6, H6, I6, q6⟩ => ?_)
    refine wpAny_passesOwn hp (thn (hb _ s6 σ6 H6 _ I6 q6) fun f s7 q7 => ?_)
    have again : ∀ {σ7 : St} {H7 : Hp}, Inv X (pins ++ pinsAt fp s5.heap) σ7 H7 s7 → N σ7 H7 → ∃ m, m < n ∧ ∃ i σ' H', Inv X pins σ' H' s7 ∧ tn i s7.heap ∧ (∀ b ∈ fp, H' b = none) ∧ W i m σ' H' := fun {σ7 H7} I7 n7 => by
      obtain ⟨m', hm, w7⟩ := hN σ7 H7 n7
      refine ⟨m', hm, i + 1, σ7, H7, I7.unpinned, T.keep _ _ _ st5 fun b hb o e => (I7.pin (b, o) (List.mem_append_right _ (List.mem_append_right _ (mem_pinsAt hb e)))).1, fun b hb => ?_, w7⟩
      obtain ⟨o, e, d⟩ := T.obj _ _ st5 b hb
      exact (I7.pin (b, o) (List.mem_append_right _ (List.mem_append_right _ (mem_pinsAt hb e)))).2.1
    cases f with
    | next => obtain ⟨σ7, H7, I7, n7⟩ := q7; exact again I7 n7
    | cont => obtain ⟨σ7, H7, I7, n7⟩ := q7; exact again I7 n7
    | brk => obtain ⟨σ7, H7, I7, q7⟩ := q7; exact ⟨σ7, H7, I7.unpinned, q7⟩
    | ret v => obtain ⟨x7, σ7, H7, I7, r7, q7⟩ := q7; exact ⟨x7, σ7, H7, I7.unpinned, r7, q7⟩
end

/-! ### the forms one uses -/
/-- over a list that the body leaves as it is -/
theorem for_list {K : PySem.W.Frag} {a : Addr} {xs : List V} {g : TG} {tb : TS} {D : Ends} {σ : St} {H : Hp} (Pv : Nat → St → Hp → Prop) (h0 : Pv 0 σ H) (hl : ∀ i σ H, i ≤ xs.length → Pv i σ H → SqL K H a xs)
    (hs : ∀ i x σ H, xs[i]? = some x → Pv i σ H → g x σ H fun σ2 H2 => tb { D with nx := Pv (i + 1), ct := Pv (i + 1), bk := D.nx } σ2 H2) (hd : ∀ σ H, Pv xs.length σ H → D.nx σ H) :
    ∃ W : Nat → Nat → St → Hp → Prop, (∃ m, W 0 m σ H) ∧ ∀ i m σ H, W i m σ H →
      ((Itl K a).stop i H ∧ D.nx σ H) ∨ ((Itl K a).go i H ∧ ∃ N : St → Hp → Prop, (∀ σ' H', N σ' H' → ∃ m', m' < m ∧ W (i + 1) m' σ' H') ∧ ∀ x H', (Itl K a).yld i H x H' → g x σ H' fun σ2 H2 => tb { D with nx := N, ct := N, bk := D.nx } σ2 H2) := by
  refine ⟨fun i m σ H => m = xs.length - i ∧ i ≤ xs.length ∧ Pv i σ H, ⟨xs.length, by simp, Nat.zero_le _, h0⟩, ?_⟩
  rintro i m σ H ⟨rfl, hi, p⟩
  have q := hl i σ H hi p
  by_cases hlt : i < xs.length
  · refine .inr ⟨⟨xs, xs[i], q, by simp [hlt]⟩, Pv (i + 1), fun σ' H' p' => ⟨xs.length - (i + 1), by omega, rfl, hlt, p'⟩, fun x H' y => ?_⟩
    obtain ⟨e, y⟩ := y
    subst e
    exact hs i x σ _ (y xs q) p
  · have e : i = xs.length := by omega
    subst e
    exact .inl ⟨⟨xs, q, Nat.le_refl _⟩, hd σ H p⟩
theorem for_range {lo : Int} {n : Nat} {g : TG} {tb : TS} {D : Ends} {σ : St} {H : Hp} (Pv : Nat → St → Hp → Prop) (h0 : Pv 0 σ H)
    (hs : ∀ i σ H, i < n → Pv i σ H → g (.int (lo + i)) σ H fun σ2 H2 => tb { D with nx := Pv (i + 1), ct := Pv (i + 1), bk := D.nx } σ2 H2) (hd : ∀ σ H, Pv n σ H → D.nx σ H) :
    ∃ W : Nat → Nat → St → Hp → Prop, (∃ m, W 0 m σ H) ∧ ∀ i m σ H, W i m σ H →
      ((Itr lo n).stop i H ∧ D.nx σ H) ∨ ((Itr lo n).go i H ∧ ∃ N : St → Hp → Prop, (∀ σ' H', N σ' H' → ∃ m', m' < m ∧ W (i + 1) m' σ' H') ∧ ∀ x H', (Itr lo n).yld i H x H' → g x σ H' fun σ2 H2 => tb { D with nx := N, ct := N, bk := D.nx } σ2 H2) := by
  refine ⟨fun i m σ H => m = n - i ∧ i ≤ n ∧ Pv i σ H, ⟨n, by simp, Nat.zero_le _, h0⟩, ?_⟩
  rintro i m σ H ⟨rfl, hi, p⟩
  by_cases hlt : i < n
  · refine .inr ⟨hlt, Pv (i + 1), fun σ' H' p' => ⟨n - (i + 1), by omega, rfl, hlt, p'⟩, fun x H' y => ?_⟩
    obtain ⟨e, y⟩ := y
    subst e y
    exact hs i σ _ hlt p
  · have e : i = n := by omega
    subst e
    exact .inl ⟨Nat.le_refl _, hd σ H p⟩
end L2

namespace L2
open PySem PySem.Spec PyProof.Rows

abbrev R2 := V → V → Hp → VK → Prop
/-- a two-place operation on values: f is binaryOp op, inplaceOp op or compareOp op -/
def OpR (X : Cx) (f : Value → Value → Sem Value) (r : R2) : Prop :=
  ∀ (pins : List (Addr × Obj)) (s : Shared) (σ : St) (H : Hp) (x y : V) (v u : Value) (Q : VK), Inv X pins σ H s → RelV x v → RelV y u → r x y H Q →
    wpAny (model X.prog X.w) X.A (f v u) (EP X pins σ Q) X.xe s
/-- a one-place operation -/
def UnR (X : Cx) (f : Value → Sem Value) (r : V → Hp → VK → Prop) : Prop :=
  ∀ (pins : List (Addr × Obj)) (s : Shared) (σ : St) (H : Hp) (x : V) (v : Value) (Q : VK), Inv X pins σ H s → RelV x v → r x H Q →
    wpAny (model X.prog X.w) X.A (f v) (EP X pins σ Q) X.xe s
/-- a call of a value that is known (a builtin, a type) with values -/
def CallR (X : Cx) (f : Value) (r : List V → Hp → VK → Prop) : Prop :=
  ∀ (pins : List (Addr × Obj)) (s : Shared) (σ : St) (H : Hp) (xs : List V) (us : List Value) (Q : VK), Inv X pins σ H s → Vals xs us → r xs H Q →
    wpAny (model X.prog X.w) X.A (call f us) (EP X pins σ Q) X.xe s
/-- a value's truth -/
def TruR (X : Cx) (r : V → Hp → (Bool → Hp → Prop) → Prop) : Prop :=
  ∀ (pins : List (Addr × Obj)) (s : Shared) (σ : St) (H : Hp) (x : V) (v : Value) (Q : Bool → Hp → Prop), Inv X pins σ H s → RelV x v → r x H Q →
    wpAny (model X.prog X.w) X.A (truthy v) (TP X pins σ Q) X.xe s

def tOp (r : R2) (ta tb : TE) : TE := fun σ H Q => ta σ H fun x H1 => tb σ H1 fun y H2 => r x y H2 Q
def tUn (r : V → Hp → VK → Prop) (ta : TE) : TE := fun σ H Q => ta σ H fun x H1 => r x H1 Q
/-- ints in, under C, and a value out -/
inductive rII (C : Int → Int → Prop) (g : Int → Int → V) (x : V) (y : V) (H : Hp) (Q : VK) : Prop
  | mk (i : _) (j : _) (z0 : x = .int i) (z1 : y = .int j) (z2 : C i j) (z3 : Q (g i j) H)
def rI (C : Int → Int → Prop) (g : Int → Int → V) : R2 := fun x y H Q => rII C g x y H Q
inductive rI0I (g : Int → Int → V) (x : V) (y : V) (H : Hp) (Q : VK) : Prop
  | mk (i : _) (j : _) (z0 : x = .int i) (z1 : y = .int j) (z2 : Q (g i j) H)
def rI0 (g : Int → Int → V) : R2 := fun x y H Q => rI0I g x y H Q
inductive rUI (g : Int → V) (x : V) (H : Hp) (Q : VK) : Prop
  | mk (i : _) (z0 : x = .int i) (z1 : Q (g i) H)
def rU (g : Int → V) : V → Hp → VK → Prop := fun x H Q => rUI g x H Q

section
variable {X : Cx} {a b c : Expr} {ta tb tc : TE} {pos : Pos}

theorem binT (ha : PE X a ta) (hb : PE X b tb) {pins : List (Addr × Obj)} {s : Shared} {σ : St} {H : Hp} {R : V → V → Hp → Prop} (I : Inv X pins σ H s)
    (h : ta σ H fun x H1 => tb σ H1 fun y H2 => R x y H2) {Q : Value → Shared → Prop} {f : Value → Value → Sem Value}
    (hf : ∀ v u s2 x y H2, Inv X pins σ H2 s2 → RelV x v → RelV y u → R x y H2 → wpAny (model X.prog X.w) X.A (f v u) Q X.xe s2) :
    wpAny (model X.prog X.w) X.A (eval a X.env) (fun v s₁ => wpAny (model X.prog X.w) X.A (eval b X.env) (fun u s₂ => wpAny (model X.prog X.w) X.A (f v u) Q X.xe s₂) X.xe s₁) X.xe s := by
  refine thn (ha pins s σ H _ I h) fun v s1 ⟨x, H1, I1, r1, q1⟩ => ?_
  refine thn (hb pins s1 σ H1 _ I1 q1) fun u s2 ⟨y, H2, I2, r2, q2⟩ => ?_
  exact hf v u s2 x y H2 I2 r1 r2 q2

theorem pe_op {op : Operator} {r : R2} (ho : OpR X (binaryOp op) r) (ha : PE X a ta) (hb : PE X b tb) : PE X (.BinOp a op b pos) (tOp r ta tb) := by
  intro pins s σ H Q I h
  exact wpAny_BinOp (binT ha hb I h fun v u s2 x y H2 I2 rx ry q => ho pins s2 σ H2 x y v u Q I2 rx ry q)
theorem pe_un {op : UnaryOp} {r : V → Hp → VK → Prop} (ho : UnR X (unaryOp op) r) (ha : PE X a ta) : PE X (.UnaryOp op a pos) (tUn r ta) := by
  intro pins s σ H Q I h
  exact UnaryOp_ (thn (ha pins s σ H _ I h) fun v s1 ⟨x, H1, I1, r1, q1⟩ => ho pins s1 σ H1 x v Q I1 r1 q1)
/-! ### ints -/
theorem opI {f : Value → Value → Sem Value} {C : Int → Int → Prop} {g : Int → Int → Int}
    (rule : ∀ (i j : Int) (t u : Tok) (s : Shared) (Q : Value → Shared → Prop) (E : Value → Shared → Prop), C i j → Q (.int (g i j) s.toks) { s with toks := s.toks + 1 } → wpAny (model X.prog X.w) X.A (f (.int i t) (.int j u)) Q E s) :
    OpR X f (rI C fun i j => .int (g i j)) := by
  intro pins s σ H x y v u Q I rx ry h
  obtain ⟨i, j, rfl, rfl, hc, q⟩ := h
  obtain ⟨t, rfl⟩ := rx
  obtain ⟨t', rfl⟩ := ry
  exact rule i j t t' s _ _ hc ⟨.int (g i j), H, I.tok _, ⟨_, rfl⟩, q⟩
theorem opI0 {f : Value → Value → Sem Value} {g : Int → Int → Int}
    (rule : ∀ (i j : Int) (t u : Tok) (s : Shared) (Q : Value → Shared → Prop) (E : Value → Shared → Prop), Q (.int (g i j) s.toks) { s with toks := s.toks + 1 } → wpAny (model X.prog X.w) X.A (f (.int i t) (.int j u)) Q E s) :
    OpR X f (rI0 fun i j => .int (g i j)) := by
  intro pins s σ H x y v u Q I rx ry h
  obtain ⟨i, j, rfl, rfl, q⟩ := h
  obtain ⟨t, rfl⟩ := rx
  obtain ⟨t', rfl⟩ := ry
  exact rule i j t t' s _ _ ⟨.int (g i j), H, I.tok _, ⟨_, rfl⟩, q⟩
theorem opB0 {f : Value → Value → Sem Value} {g : Int → Int → Bool}
    (rule : ∀ (i j : Int) (t u : Tok) (s : Shared) (Q : Value → Shared → Prop) (E : Value → Shared → Prop), Q (.bool (g i j)) s → wpAny (model X.prog X.w) X.A (f (.int i t) (.int j u)) Q E s) :
    OpR X f (rI0 fun i j => .bl (g i j)) := by
  intro pins s σ H x y v u Q I rx ry h
  obtain ⟨i, j, rfl, rfl, q⟩ := h
  obtain ⟨t, rfl⟩ := rx
  obtain ⟨t', rfl⟩ := ry
  exact rule i j t t' s _ _ ⟨.bl (g i j), H, I, rfl, q⟩

def CDiv (i j : Int) : Prop := 0 < j ∧ j < 1073741824
def CDivN (i j : Int) : Prop := j ≠ 0 ∧ j.natAbs < 1073741824
def CPow (i j : Int) : Prop := 0 ≤ j ∧ j ≤ 1000000 ∧ i.natAbs < 2 ^ 64
def CMul (i j : Int) : Prop := (-(2 ^ 64) < i ∧ i < 2 ^ 64) ∨ (-(2 ^ 64) < j ∧ j < 2 ^ 64)
theorem CMul.ok {i j : Int} (h : CMul i j) : IntMulOk i j := by
  rcases h with ⟨h1, h2⟩ | ⟨h1, h2⟩
  · exact .of_left (intBits_le_64 h1 h2)
  · exact .of_right (intBits_le_64 h1 h2)
theorem op_add : OpR X (binaryOp .Add) (rI0 fun i j => .int (i + j)) := opI0 fun _ _ _ _ _ _ _ q => add_int q
theorem op_sub : OpR X (binaryOp .Sub) (rI0 fun i j => .int (i - j)) := opI0 fun _ _ _ _ _ _ _ q => sub_int q
theorem op_mul : OpR X (binaryOp .Mult) (rI CMul fun i j => .int (i * j)) := opI fun _ _ _ _ _ _ _ hc q => mul_int q hc.ok
/-- // by a positive divisor -/
theorem op_fdiv : OpR X (binaryOp .FloorDiv) (rI CDiv fun i j => .int (i / j)) := opI fun i j _ _ _ _ _ hc q => by
  have h1 : (0 : Int) < j := hc.1
  have h2 : j < 1073741824 := hc.2
  exact floordiv_int (by omega) (by rw [Int.fdiv_eq_ediv_of_nonneg i (by omega)]; exact q) (.inl (PyProof.noPylong_small (by omega)))
/-- % by a positive divisor of any size -/
theorem op_mod : OpR X (binaryOp .Mod) (rI (fun _ j => 0 < j) fun i j => .int (i % j)) := opI fun i j _ _ _ _ _ hc q => by
  have h1 : (0 : Int) < j := hc
  exact mod_int' (by omega) (by rw [Int.fmod_eq_emod_of_nonneg i (by omega)]; exact q)
theorem op_pow : OpR X (binaryOp .Pow) (rI CPow fun i j => .int (i ^ j.toNat)) := opI fun _ _ _ _ _ _ _ hc q => pow_int_small hc.1 hc.2.1 hc.2.2 q
theorem unI {f : Value → Sem Value} {g : Int → Int}
    (rule : ∀ (i : Int) (t : Tok) (s : Shared) (Q : Value → Shared → Prop) (E : Value → Shared → Prop), Q (.int (g i) s.toks) { s with toks := s.toks + 1 } → wpAny (model X.prog X.w) X.A (f (.int i t)) Q E s) :
    UnR X f (rU fun i => .int (g i)) := by
  intro pins s σ H x v Q I rx h
  obtain ⟨i, rfl, q⟩ := h
  obtain ⟨t, rfl⟩ := rx
  exact rule i t s _ _ ⟨.int (g i), H, I.tok _, ⟨_, rfl⟩, q⟩
theorem un_neg : UnR X (unaryOp .USub) (rU fun i => .int (-i)) := unI fun _ _ _ _ _ q => neg_int q
/-! ### bools among ints: n += (a < b) -/
end

/-! ### comparisons -/
/-- the scalars that == tells apart as data does -/
def scal : V → V → Bool
  | .non, .non => true | .non, .int _ => true | .int _, .non => true | .non, .bl _ => true | .bl _, .non => true | .non, .str _ => true | .str _, .non => true
  | .int _, .int _ => true | .bl _, .bl _ => true | .str _, .str _ => true | .byt _, .byt _ => true
  | .int _, .str _ => true | .str _, .int _ => true | .bl _, .str _ => true | .str _, .bl _ => true
  | _, _ => false
def rEq : R2 := fun x y H Q => scal x y = true ∧ Q (.bl (decide (x = y))) H
def rNe : R2 := fun x y H Q => scal x y = true ∧ Q (.bl (!decide (x = y))) H

theorem dec_int {i j : Int} : decide (V.int i = V.int j) = (i == j) := by
  rw [Bool.eq_iff_iff]
  simp
theorem dec_bl {i j : Bool} : decide (V.bl i = V.bl j) = (i == j) := by
  rw [Bool.eq_iff_iff]
  simp
theorem dec_str {i j : Str} : decide (V.str i = V.str j) = (i == j) := by
  rw [Bool.eq_iff_iff]
  simp
theorem dec_byt {i j : Array UInt8} : decide (V.byt i = V.byt j) = (i.toList == j.toList) := by
  rw [Bool.eq_iff_iff]
  cases i
  cases j
  simp

section
variable {X : Cx} {a b c : Expr} {ta tb tc : TE} {pos : Pos}
theorem fin_bl {pins : List (Addr × Obj)} {σ : St} {H : Hp} {s : Shared} {Q : VK} {k k' : Bool} (I : Inv X pins σ H s) (q : Q (.bl k) H) (e : k = k') : EP X pins σ Q (.bool k') s := by
  subst e
  exact ⟨.bl k, H, I, rfl, q⟩
theorem op_eq : OpR X (compareOp .Eq) rEq := by
  intro pins s σ H x y v u Q I rx ry h
  obtain ⟨hs, q⟩ := h
  cases x with
  | non =>
    cases rx
    cases y with
    | non => cases ry; exact PySem.EqNone.eq_none_none (fin_bl I q (by simp))
    | bl j => cases ry; exact PySem.EqNone.eq_none_bool (fin_bl I q (by simp))
    | int j => obtain ⟨t', rfl⟩ := ry; exact PySem.EqNone.eq_none_int (fin_bl I q (by simp))
    | str j => obtain ⟨t', rfl⟩ := ry; exact PySem.EqNone.eq_none_str (fin_bl I q (by simp))
    | _ => exact absurd (show false = true from hs) Bool.false_ne_true
  | bl i =>
    cases rx
    cases y with
    | non => cases ry; exact PySem.EqNone.eq_bool_none (fin_bl I q (by simp))
    | bl j => cases ry; exact eq_bool (fin_bl I q dec_bl)
    | str j => obtain ⟨t', rfl⟩ := ry; exact PySem.EqMixed.eq_bool_str (fin_bl I q (by simp))
    | _ => exact absurd (show false = true from hs) Bool.false_ne_true
  | int i =>
    obtain ⟨t, rfl⟩ := rx
    cases y with
    | non => cases ry; exact PySem.EqNone.eq_int_none (fin_bl I q (by simp))
    | int j => obtain ⟨t', rfl⟩ := ry; exact eq_int (fin_bl I q dec_int)
    | str j => obtain ⟨t', rfl⟩ := ry; exact PySem.EqMixed.eq_int_str (fin_bl I q (by simp))
    | _ => exact absurd (show false = true from hs) Bool.false_ne_true
  | str i =>
    obtain ⟨t, rfl⟩ := rx
    cases y with
    | non => cases ry; exact PySem.EqNone.eq_str_none (fin_bl I q (by simp))
    | bl j => cases ry; exact PySem.EqMixed.eq_str_bool (fin_bl I q (by simp))
    | int j => obtain ⟨t', rfl⟩ := ry; exact PySem.EqMixed.eq_str_int (fin_bl I q (by simp))
    | str j => obtain ⟨t', rfl⟩ := ry; exact eq_str (fin_bl I q dec_str)
    | _ => exact absurd (show false = true from hs) Bool.false_ne_true
  | byt i =>
    obtain ⟨t, rfl⟩ := rx
    cases y with
    | byt j => obtain ⟨t', rfl⟩ := ry; exact PySem.W.eq_bytes (fin_bl I q dec_byt)
    | _ => exact absurd (show false = true from hs) Bool.false_ne_true
  | _ => cases y <;> exact absurd (show false = true from hs) Bool.false_ne_true
theorem op_ne : OpR X (compareOp .NotEq) rNe := by
  intro pins s σ H x y v u Q I rx ry h
  obtain ⟨hs, q⟩ := h
  cases x with
  | non =>
    cases rx
    cases y with
    | non => cases ry; exact PySem.EqNone.ne_none_none (fin_bl I q (by simp))
    | bl j => cases ry; exact PySem.EqNone.ne_none_bool (fin_bl I q (by simp))
    | int j => obtain ⟨t', rfl⟩ := ry; exact PySem.EqNone.ne_none_int (fin_bl I q (by simp))
    | str j => obtain ⟨t', rfl⟩ := ry; exact PySem.EqNone.ne_none_str (fin_bl I q (by simp))
    | _ => exact absurd (show false = true from hs) Bool.false_ne_true
  | bl i =>
    cases rx
    cases y with
    | non => cases ry; exact PySem.EqNone.ne_bool_none (fin_bl I q (by simp))
    | bl j => cases ry; exact ne_bool (fin_bl I q (congrArg not dec_bl))
    | str j => obtain ⟨t', rfl⟩ := ry; exact PySem.EqMixed.ne_bool_str (fin_bl I q (by simp))
    | _ => exact absurd (show false = true from hs) Bool.false_ne_true
  | int i =>
    obtain ⟨t, rfl⟩ := rx
    cases y with
    | non => cases ry; exact PySem.EqNone.ne_int_none (fin_bl I q (by simp))
    | int j => obtain ⟨t', rfl⟩ := ry; exact ne_int (fin_bl I q (congrArg not dec_int))
    | str j => obtain ⟨t', rfl⟩ := ry; exact PySem.EqMixed.ne_int_str (fin_bl I q (by simp))
    | _ => exact absurd (show false = true from hs) Bool.false_ne_true
  | str i =>
    obtain ⟨t, rfl⟩ := rx
    cases y with
    | non => cases ry; exact PySem.EqNone.ne_str_none (fin_bl I q (by simp))
    | bl j => cases ry; exact PySem.EqMixed.ne_str_bool (fin_bl I q (by simp))
    | int j => obtain ⟨t', rfl⟩ := ry; exact PySem.EqMixed.ne_str_int (fin_bl I q (by simp))
    | str j => obtain ⟨t', rfl⟩ := ry; exact ne_str (fin_bl I q (congrArg not dec_str))
    | _ => exact absurd (show false = true from hs) Bool.false_ne_true
  | byt i =>
    obtain ⟨t, rfl⟩ := rx
    cases y with
    | byt j => obtain ⟨t', rfl⟩ := ry; exact PySem.W.ne_bytes (fin_bl I q (congrArg not dec_byt))
    | _ => exact absurd (show false = true from hs) Bool.false_ne_true
  | _ => cases y <;> exact absurd (show false = true from hs) Bool.false_ne_true

theorem op_lt : OpR X (compareOp .Lt) (rI0 fun i j => .bl (decide (i < j))) := opB0 fun _ _ _ _ _ _ _ q => lt_int q
theorem op_le : OpR X (compareOp .LtE) (rI0 fun i j => .bl (decide (i ≤ j))) := opB0 fun _ _ _ _ _ _ _ q => le_int q
theorem op_gt : OpR X (compareOp .Gt) (rI0 fun i j => .bl (decide (j < i))) := opB0 fun _ _ _ _ _ _ _ q => gt_int q
theorem op_ge : OpR X (compareOp .GtE) (rI0 fun i j => .bl (decide (j ≤ i))) := opB0 fun _ _ _ _ _ _ _ q => ge_int q
theorem op_notN : OpR X (compareOp .IsNot) (fun x y H Q => y = .non ∧ Q (.bl (!decide (x = .non))) H) := by
  intro pins s σ H x y v u Q I rx ry h
  obtain ⟨rfl, q⟩ := h
  cases ry
  refine isnot_none_gen (fin_bl I q ?_)
  cases x <;> first
    | (cases rx; rfl)
    | (obtain ⟨t, rfl⟩ := rx; rfl)

/-- is, is not of two objects that are tracked lists or instances -/
def isObj : HO → Bool
  | .lst _ => true
  | .ins _ _ _ => true
  | _ => false
theorem nomark (b : Expr) {op : CmpOp} (h : op ≠ .In := by decide) (h2 : op ≠ .NotIn := by decide) : behindInMarks op b = false := by
  have e1 : (op == CmpOp.In) = false := by cases op <;> first | rfl | exact absurd rfl h
  have e2 : (op == CmpOp.NotIn) = false := by cases op <;> first | rfl | exact absurd rfl h2
  cases b <;> simp [behindInMarks, e1, e2]
/-- a comparison as a value; hm: nomark b, or (for in, not in) by with_unfolding_all rfl -/
theorem pe_cmpR {op : CmpOp} {r : R2} (ho : OpR X (compareOp op) r) (ha : PE X a ta) (hb : PE X b tb) (hm : behindInMarks op b = false) : PE X (.Compare a [op] [b] pos) (tOp r ta tb) := by
  intro pins s σ H Q I h
  exact wpAny_Compare1 (binT ha hb I h fun v u s2 x y H2 I2 rx ry q => ho pins s2 σ H2 x y v u Q I2 rx ry q) hm
/-- a reading of a value as a test -/
inductive tTestI (Q : Bool → Hp → Prop) (x : V) (H' : Hp) : Prop
  | mk (k : _) (z0 : x = .bl k) (z1 : Q k H')
def tTest (t : TE) : TT := fun σ H Q => t σ H fun x H' => tTestI Q x H'
theorem pt_cmpR {op : CmpOp} {r : R2} (ho : OpR X (compareOp op) r) (ha : PE X a ta) (hb : PE X b tb) (hm : behindInMarks op b = false) : PT X (.Compare a [op] [b] pos) (tTest (tOp r ta tb)) := by
  intro pins s σ H Q I h
  refine wpAny_isTrue_Compare1 (thn (ha pins s σ H _ I h) fun v s1 ⟨x, H1, I1, r1, q1⟩ => thn (hb pins s1 σ H1 _ I1 q1) fun u s2 ⟨y, H2, I2, r2, q2⟩ =>
    thn (ho pins s2 σ H2 x y v u _ I2 r1 r2 q2) fun c s3 ⟨z, H3, I3, r3, k, e, q3⟩ => ?_) hm
  subst e
  cases r3
  exact wpAny_truthy_bool ⟨H3, I3, q3⟩
/-- a op1 b op2 c -/
def tChain (r r' : R2) (ta tb tc : TE) : TE := fun σ H Q => ta σ H fun x H1 => tb σ H1 fun y H2 => r x y H2 fun z H3 => ∃ k, z = .bl k ∧
  (if k = true then tc σ H3 fun w' H4 => r' y w' H4 Q else Q (.bl false) H3)
/-! ### truth -/
/-- a value's truth by the abstract heap -/
def TruV (K : PySem.W.Frag) (x : V) (H : Hp) (k : Bool) : Prop :=
  match x with
  | .non => k = false
  | .bl b => k = b
  | .int i => k = (i != 0)
  | .str y => y.length ≤ sizeLine ∧ k = ((y.length : Int) != 0)
  | .byt y => y.size ≤ sizeLine ∧ k = ((y.size : Int) != 0)
  | .ref p => (∃ xs, SqL K H p xs ∧ k = !xs.isEmpty) ∨ (∃ xs, SqT K H p xs ∧ k = !xs.isEmpty) ∨ ∃ kvs, H p = some (.dK kvs) ∧ k = !kvs.isEmpty
  | _ => False
theorem line63 : (sizeLine : Nat) < 2 ^ 63 := by rw [sizeLine_eq]; decide
/-! ### strs and bytes -/
def PlainIxT (b : Expr) : Prop := ∀ o i, subscripted b false o i = operate [o, i] (getItem o i)
/-! ### scalar builtins, by CallR -/
theorem vals1 {x : V} {us : List Value} (r : Vals [x] us) : ∃ u, us = [u] ∧ RelV x u := by
  cases r with
  | cons r1 r2 => cases r2; exact ⟨_, rfl, r1⟩
theorem vals2 {x y : V} {us : List Value} (r : Vals [x, y] us) : ∃ u w', us = [u, w'] ∧ RelV x u ∧ RelV y w' := by
  cases r with
  | cons r1 r2 =>
    cases r2 with
    | cons r3 r4 => cases r4; exact ⟨_, _, rfl, r1, r3⟩
theorem call_max2 (hc : X.calm = true) : CallR X (.builtin "max") (fun xs H Q => ∃ i j, xs = [.int i, .int j] ∧ Q (.int (if j > i then j else i)) H) := by
  intro pins s σ H xs us Q I r h
  obtain ⟨i, j, rfl, q⟩ := h
  obtain ⟨u, w', rfl, ⟨t, rfl⟩, ⟨t', rfl⟩⟩ := vals2 r
  refine max_two_ints (I.ok.hd hc) fun h' tk k => ⟨_, H, I.kept k, ?_, q⟩
  by_cases hj : j > i
  · rw [if_pos hj, if_pos hj]; exact ⟨_, rfl⟩
  · rw [if_neg hj, if_neg hj]; exact ⟨_, rfl⟩
theorem call_min2 (hc : X.calm = true) : CallR X (.builtin "min") (fun xs H Q => ∃ i j, xs = [.int i, .int j] ∧ Q (.int (if j < i then j else i)) H) := by
  intro pins s σ H xs us Q I r h
  obtain ⟨i, j, rfl, q⟩ := h
  obtain ⟨u, w', rfl, ⟨t, rfl⟩, ⟨t', rfl⟩⟩ := vals2 r
  refine min_two_ints (I.ok.hd hc) fun h' tk k => ⟨_, H, I.kept k, ?_, q⟩
  by_cases hj : j < i
  · rw [if_pos hj, if_pos hj]; exact ⟨_, rfl⟩
  · rw [if_neg hj, if_neg hj]; exact ⟨_, rfl⟩
theorem call_int1 : CallR X (.type "int") (fun xs H Q => (∃ i, xs = [.int i] ∧ Q (.int i) H) ∨ ∃ k, xs = [.bl k] ∧ Q (.int (if k then 1 else 0)) H) := by
  intro pins s σ H xs us Q I r h
  rcases h with ⟨i, rfl, q⟩ | ⟨k, rfl, q⟩
  · obtain ⟨u, rfl, t, rfl⟩ := vals1 r
    exact call_int_int ⟨.int i, H, I, ⟨_, rfl⟩, q⟩
  · obtain ⟨u, rfl, r1⟩ := vals1 r
    cases r1
    exact call_int_bool ⟨.int (if k then 1 else 0), H, I.tok _, ⟨_, rfl⟩, q⟩
/-- len of a str, a bytes, a list, a tuple -/
def LenV (K : PySem.W.Frag) (x : V) (H : Hp) (n : Nat) : Prop :=
  match x with
  | .str y => y.length ≤ sizeLine ∧ n = y.length
  | .byt y => y.size ≤ sizeLine ∧ n = y.size
  | .ref p => (∃ xs, SqL K H p xs ∧ n = xs.length) ∨ ∃ xs, SqT K H p xs ∧ n = xs.length
  | _ => False
end
end L2

namespace L2
open PySem PySem.Spec PyProof.Rows

/-! ### an instance, its attributes a map -/
structure ObjM (h : Heap) (x dx C : Addr) (mA : Str → Option Value) : Prop where
  obj : h.get? x = some (PySem.W.instObj C dx)
  ns : h.Ns1 dx mA
  ne : dx ≠ x

theorem lookIn_ns {h : Heap} {dx : Addr} {mA : Str → Option Value} (n : h.Ns1 dx mA) : ∃ od, h.get? dx = some od ∧ ∀ name, PySem.W.lookIn name od = some (mA name) := by
  obtain ⟨o, es, ep, ho, hd, hk, _, hm⟩ := n
  refine ⟨o, ho, fun name => ?_⟩
  have e := hm name
  unfold nsFind findBy at e
  rw [← Array.find?_toList] at e
  unfold PySem.W.lookIn
  rw [hd]
  dsimp only
  split
  · rename_i y q
    rw [q] at e
    exact congrArg some e
  · rename_i q
    rw [q] at e
    have a : es.toList.any (·.refKey) = false := by
      rw [List.any_eq_false]
      intro y hy
      obtain ⟨z, t, hkey⟩ := hk y (Array.mem_toList_iff.mp hy)
      simp [DictEntry.refKey, hkey]
    have a' : ¬ es.toList.any (·.refKey) = true := by rw [a]; exact Bool.false_ne_true
    rw [if_neg a']
    exact congrArg some e

theorem ObjM.look {h : Heap} {x dx C : Addr} {mA : Str → Option Value} (I : ObjM h x dx C mA) : ∃ od, PySem.W.InstAt h x (PySem.W.instObj C dx) C (some od) ∧ ∀ name, PySem.W.lookIn name od = some (mA name) :=
  let ⟨od, ho, hl⟩ := lookIn_ns I.ns
  ⟨od, ⟨I.obj, rfl, rfl, ho⟩, hl⟩

section
variable {prog : Program} {w : World} {A : Around} {E : Value → Shared → Prop} {s : Shared} {K : PySem.W.Frag} {x dx C f : Addr} {mA : Str → Option Value} {name : Str} {v : Value}

theorem get_map {expr : Bool} {Q : Value → Shared → Prop} (X : K.In s.heap) (I : ObjM s.heap x dx C mA) (hg : PySem.W.plainGet K C name = true) (hh : PySem.W.hasDictIn K C = true)
    (ha : PySem.W.findIn K (.ref C) name = some none) (hv : mA name = some v) (hv' : PySem.W.handedIn v = true) (h : Q v { s with toks := s.toks + 1 }) :
    wpAny (model prog w) A (getAttr (.ref x) name expr) Q E s := by
  obtain ⟨od, J, hl⟩ := I.look
  exact PySem.W.get_value X J (PySem.W.plainGet_of hg).1 (PySem.W.findObj_own hh ha rfl (by rw [hl, hv])) hv' h

theorem get_meth {pl : Sem Bool} {Q : Value × List Value → Shared → Prop} (X : K.In s.heap) (I : ObjM s.heap x dx C mA) (hg : PySem.W.plainGet K C name = true)
    (hf : PySem.W.findIn K (.ref C) name = some (some (.ref f))) (ht : PySem.W.isFn K (.ref f) = true) (hv : mA name = none) (h : Q (.ref f, [.ref x]) s) :
    wpAny (model prog w) A (getMethod (.ref x) name pl) Q E s := by
  obtain ⟨od, J, hl⟩ := I.look
  exact PySem.W.method_fn X J (PySem.W.plainGet_of hg).1 (PySem.W.plainGet_of hg).2 hf (beq_iff_eq.mp ht) (by show (PySem.W.lookIn name od).map (·.isSome) = some false; rw [hl, hv]; rfl) h

theorem set_map {ns : List Str} {Q : Unit → Shared → Prop} (X : K.In s.heap) (I : ObjM s.heap x dx C mA)
    (hs : PySem.W.findIn K (.ref C) "__setattr__" = some (some (.builtin "object.__setattr__"))) (hp : PySem.W.plainOver K C = true) (ht : PySem.W.takerIn K C name = some none) (hh : PySem.W.hasDictIn K C = true)
    (hw : PySem.Within mA ns) (hsz : ns.length ≤ sizeLine)
    (h : ∀ h', ObjM h' x dx C (fun y => if y = name then some v else mA y) → Heap.SameBut dx s.heap h' → Q () { s with heap := h', toks := s.toks + 2 }) :
    wpAny (model prog w) A (setAttr (.ref x) name v) Q E s := by
  obtain ⟨od, J, hl⟩ := I.look
  refine PySem.W.set_plain X J hs (PySem.W.osa_open (s := { s with toks := s.toks + 1 }) (r := none) X J hp ht fun b => ?_)
  obtain ⟨cd, hc, hd'⟩ := PySem.W.any_some hh
  have hx : s.heap.get? x = some ⟨.ref C, some dx, .plain, #[]⟩ := I.obj
  refine wpAny_bind (wpAny_pure (wpAny_bind (wpAny_bind (wpAny_loadPart hx (wpAny_bind (PySem.W.Looks.here (s := { s with toks := s.toks + 1 }) (PySem.W.looks_clsIn X hc) ?_))))))
  rw [hd']
  refine wpAny_pure (a := some dx) (wpAny_bind (wpAny_pure (wpAny_bind ?_)))
  refine wpAny_nsSet1 (s := { s with toks := s.toks + 1 }) I.ns fun h' hn2 hs2 => ?_
  obtain ⟨oD, esD, epD, hoD, hdD, hcD⟩ := hn2.count (PySem.Within.cons name v hw)
  refine wpAny_bind (wpAny_lookBehind hoD (by rw [hdD]; exact pastItsLine_dict (Nat.le_trans hcD (by rw [List.length_cons]; omega))) ?_)
  exact wpAny_pure (h _ ⟨(hs2.2 _ (Ne.symm I.ne)).trans I.obj, hn2, I.ne⟩ hs2)

/-- C(..): the dict at the heap's end, the instance behind it; then its __init__ -/
theorem make_map {R : Result → Shared → Prop} {vs : List Value} {kw : List (Str × Value)} (X : K.In s.heap) (hm : PySem.W.makesIn K C = true)
    (hi : PySem.W.findIn K (.ref C) "__init__" = some (some (.ref f))) (hf : PySem.W.typeIn K (.ref f) = some (.type "function"))
    (h : codeAny (model prog w) (A.under (.builtin "type.__call__" ⟨.ref C :: vs, kw⟩)) (.call (.ref f) ⟨.ref (s.heap.objs.size + 1) :: vs, kw⟩) (PySem.W.InitBack (s.heap.objs.size + 1) R)
      { s with heap := (s.heap.push PySem.W.emptyDict).push (PySem.W.instObj C s.heap.objs.size) }) :
    codeAny (model prog w) A (.call (.ref C) ⟨vs, kw⟩) R s := by
  obtain ⟨hh, g, d, t, os⟩ := s
  exact PySem.W.make_core (PySem.W.makes_of X hm) (PySem.W.looks_findIn X hi) (fun self => PySem.W.bind_fn X self hf) (.inl rfl) h
end

/-! ### the attributes as a list of pairs -/
def putF (f : Str) (v : V) : List (Str × V) → List (Str × V)
  | [] => [(f, v)]
  | (g, x) :: r => if g = f then (g, v) :: r else (g, x) :: putF f v r
theorem lookup_putF (f g : Str) (v : V) : ∀ fs : List (Str × V), (putF f v fs).lookup g = if g = f then some v else fs.lookup g
  | [] => by
    show List.lookup g [(f, v)] = _
    by_cases h : g = f
    · have hb : (g == f) = true := beq_iff_eq.mpr h
      simp only [List.lookup, hb, if_pos h]
    · have hb : (g == f) = false := beq_eq_false_iff_ne.mpr h
      simp only [List.lookup, hb, if_neg h]
  | (k, x) :: r => by
    have ih := lookup_putF f g v r
    rw [show putF f v ((k, x) :: r) = (if k = f then (k, v) :: r else (k, x) :: putF f v r) from rfl]
    by_cases hk : k = f
    · rw [if_pos hk]
      by_cases h : g = k
      · have hb : (g == k) = true := beq_iff_eq.mpr h
        simp only [List.lookup, hb, if_pos (h.trans hk)]
      · have hb : (g == k) = false := beq_eq_false_iff_ne.mpr h
        simp only [List.lookup, hb, if_neg (fun e : g = f => h (e.trans hk.symm))]
    · rw [if_neg hk]
      by_cases h : g = k
      · have hb : (g == k) = true := beq_iff_eq.mpr h
        simp only [List.lookup, hb, if_neg (fun e : g = f => hk (h.symm.trans e))]
      · have hb : (g == k) = false := beq_eq_false_iff_ne.mpr h
        simp only [List.lookup, hb]
        exact ih
theorem keys_putF (f : Str) (v : V) : ∀ fs : List (Str × V), f ∈ (putF f v fs).map (·.1) ∧ ∀ g, g ∈ fs.map (·.1) → g ∈ (putF f v fs).map (·.1)
  | [] => ⟨by simp [putF], fun g h => by simp at h⟩
  | (k, x) :: r => by
    obtain ⟨i1, i2⟩ := keys_putF f v r
    rw [show putF f v ((k, x) :: r) = (if k = f then (k, v) :: r else (k, x) :: putF f v r) from rfl]
    by_cases hk : k = f
    · rw [if_pos hk]
      subst hk
      exact ⟨by simp, fun g h => by simpa using h⟩
    · rw [if_neg hk]
      refine ⟨?_, fun g h => ?_⟩
      · rw [List.map_cons]
        exact List.mem_cons_of_mem _ i1
      · rw [List.map_cons] at h ⊢
        rcases List.mem_cons.mp h with e | e
        · exact List.mem_cons.mpr (.inl e)
        · exact List.mem_cons_of_mem _ (i2 g e)
theorem length_putF (f : Str) (v : V) : ∀ fs : List (Str × V), (putF f v fs).length ≤ fs.length + 1
  | [] => by simp [putF]
  | (k, x) :: r => by
    have ih := length_putF f v r
    rw [show putF f v ((k, x) :: r) = (if k = f then (k, v) :: r else (k, x) :: putF f v r) from rfl]
    by_cases hk : k = f
    · rw [if_pos hk, List.length_cons, List.length_cons]; omega
    · rw [if_neg hk, List.length_cons, List.length_cons]; omega

theorem RelO.some_of {v : V} {o : Option Value} (r : RelO (some v) o) : ∃ u, o = some u ∧ RelV v u := by
  cases o with
  | none => exact (show False from r).elim
  | some u => exact ⟨u, rfl, r⟩
theorem RelO.none_of {o : Option Value} (r : RelO none o) : o = none := by
  cases o with
  | none => rfl
  | some u => exact (show False from r).elim
theorem handed_of {v : V} {u : Value} (r : RelV v u) : PySem.W.handedIn u = true := by
  cases v with
  | non => cases (show u = Value.none from r); rfl
  | bl b => cases (show u = Value.bool b from r); rfl
  | int i => obtain ⟨t, e⟩ := (show ∃ t, u = Value.int i t from r); cases e; rfl
  | str x => obtain ⟨t, e⟩ := (show ∃ t, u = Value.str x t from r); cases e; rfl
  | byt b => obtain ⟨t, e⟩ := (show ∃ t, u = Value.bytes b t from r); cases e; rfl
  | flt b => obtain ⟨t, e⟩ := (show ∃ t, u = Value.float b t from r); cases e; rfl
  | ref a => cases (show u = Value.ref a from r); rfl
  | ty n => cases (show u = Value.type n from r); rfl

section
variable {P : Program} {w : World} {H H' : Hp} {h h' : Heap} {a C dx : Addr} {fs fs' : List (Str × V)}
theorem ins_get (hok : HOk P w H h) (e : H a = some (.ins C dx fs)) : ∃ mA, ObjM h a dx C mA ∧ (∀ f, RelO (fs.lookup f) (mA f)) ∧ PySem.Within mA (fs.map (·.1)) ∧ fs.length ≤ 1000 ∧ H dx = some (.own a) := by
  obtain ⟨d, z, ne, ob, mA, n, r, q⟩ := (show ObjOk P w H h a (.ins C dx fs) from hok a _ e)
  exact ⟨mA, ⟨ob, n, ne⟩, r, q, z, d⟩
end

/-! ### what of the text a class must have -/
structure Cls (K : PySem.W.Frag) (C : Addr) : Prop where
  pg : PySem.W.plainGet K C Str.empty = true
  hd : PySem.W.hasDictIn K C = true
  po : PySem.W.plainOver K C = true
  sa : PySem.W.findIn K (.ref C) "__setattr__" = some (some (.builtin "object.__setattr__"))
theorem Cls.get {K : PySem.W.Frag} {C : Addr} (c : Cls K C) (f : Str) : PySem.W.plainGet K C f = true := c.pg
/-- no class of it has the name -/
def NoAttr (K : PySem.W.Frag) (C : Addr) (f : Str) : Prop := PySem.W.findIn K (.ref C) f = some none
theorem NoAttr.taker {K : PySem.W.Frag} {C : Addr} {f : Str} (n : NoAttr K C f) : PySem.W.takerIn K C f = some none := by
  unfold PySem.W.takerIn
  rw [show PySem.W.findIn K (.ref C) f = some none from n]
  rfl
/-- a constant of the class -/
structure Con (K : PySem.W.Frag) (C : Addr) (f : Str) (v : V) (u : Value) : Prop where
  at_ : PySem.W.findIn K (.ref C) f = some (some u)
  rel : RelV v u
  get : PySem.W.specialIn K u "__get__" = some none
  cp : PySem.W.copiedNames.contains f = false
/-- a method: a plain def of the class or of one above it -/
structure Meth (K : PySem.W.Frag) (C : Addr) (m : Str) (f : Addr) : Prop where
  at_ : PySem.W.findIn K (.ref C) m = some (some (.ref f))
  fn : PySem.W.isFn K (.ref f) = true
  kp : PySem.W.keepIn K (.ref f) = true

section
variable {X : Cx} {pins : List (Addr × Obj)} {σ : St} {H : Hp} {s : Shared} {a C dx : Addr} {fs : List (Str × V)} {f : Str} {v : V} {A : Around} {E : Value → Shared → Prop}

theorem getattr_ok {b : Bool} {Q : Value → Shared → Prop} (I : Inv X pins σ H s) (e : H a = some (.ins C dx fs)) (c : Cls X.K C) (n : NoAttr X.K C f) (l : fs.lookup f = some v)
    (h : ∀ u s', Inv X pins σ H s' → RelV v u → Q u s') : wpAny (model X.prog X.w) A (getAttr (.ref a) f b) Q E s := by
  obtain ⟨mA, O, r, _, _, _⟩ := ins_get I.hok e
  obtain ⟨u, hu, ru⟩ := RelO.some_of (v := v) (o := mA f) (by rw [← l]; exact r f)
  exact get_map I.kIn O (c.get f) c.hd n hu (handed_of ru) (h u _ (I.tok _) ru)

theorem getmeth_ok {m : Str} {g : Addr} {pl : Sem Bool} {Q : Value × List Value → Shared → Prop} (I : Inv X pins σ H s) (e : H a = some (.ins C dx fs)) (c : Cls X.K C) (k : Meth X.K C m g) (l : fs.lookup m = none)
    (h : Q (.ref g, [.ref a]) s) : wpAny (model X.prog X.w) A (getMethod (.ref a) m pl) Q E s := by
  obtain ⟨mA, O, r, _, _, _⟩ := ins_get I.hok e
  have hn : mA m = none := RelO.none_of (by rw [← l]; exact r m)
  exact get_meth I.kIn O (c.get m) k.at_ k.fn hn h

theorem setattr_ok {y : V} {u : Value} {Q : Unit → Shared → Prop} (I : Inv X pins σ H s) (e : H a = some (.ins C dx fs)) (c : Cls X.K C) (n : NoAttr X.K C f) (hl : fs.length < 1000) (ry : RelV y u)
    (h : ∀ s', Inv X pins σ (upd H a (.ins C dx (putF f y fs))) s' → Q () s') : wpAny (model X.prog X.w) A (setAttr (.ref a) f u) Q E s := by
  obtain ⟨mA, O, r, wi, _, ho⟩ := ins_get I.hok e
  have hz : (fs.map (·.1)).length ≤ sizeLine := by rw [List.length_map, sizeLine_eq]; omega
  refine set_map I.kIn O c.sa c.po n.taker c.hd wi hz fun h' O' sb => h _ ?_
  have hd : ∃ o, h'.get? dx = some o := let ⟨o, _, _, e', _⟩ := O'.ns; ⟨o, e'⟩
  refine I.write (x := a) (e := dx) (by rw [e]; exact True.intro) (.inr ho) (fun b q hb z => (sb.2 b hb).trans z) hd ?_
  refine ⟨by rw [upd_ne O.ne]; exact ho, ?_, O.ne, O'.obj, _, O'.ns, fun g => ?_, fun g hg => ?_⟩
  · have := length_putF f y fs; omega
  · show RelO ((putF f y fs).lookup g) (if g = f then some u else mA g)
    rw [lookup_putF]
    by_cases q : g = f
    · rw [if_pos q, if_pos q]; exact ry
    · rw [if_neg q, if_neg q]; exact r g
  · by_cases q : g = f
    · rw [q]; exact (keys_putF f y fs).1
    · refine (keys_putF f y fs).2 g (wi g fun z => hg ?_)
      show (if g = f then some u else mA g) = none
      rw [if_neg q]; exact z

/-- a new instance, tracked, without attributes -/
theorem Inv.made (I : Inv X pins σ H s) : Inv X pins σ (upd (upd H s.heap.objs.size (.own (s.heap.objs.size + 1))) (s.heap.objs.size + 1) (.ins C s.heap.objs.size []))
    { s with heap := (s.heap.push PySem.W.emptyDict).push (PySem.W.instObj C s.heap.objs.size) } := by
  have e1 : (s.heap.push PySem.W.emptyDict).get? s.heap.objs.size = some PySem.W.emptyDict := Heap.get?_push_size s.heap rfl
  have e2 : ((s.heap.push PySem.W.emptyDict).push (PySem.W.instObj C s.heap.objs.size)).get? (s.heap.objs.size + 1) = some (PySem.W.instObj C s.heap.objs.size) := by
    have := Heap.get?_push_size (s.heap.push PySem.W.emptyDict) (o := PySem.W.instObj C s.heap.objs.size) rfl
    rwa [Heap.size_push] at this
  have e3 : (s.heap.push PySem.W.emptyDict).Ns s.heap.objs.size (fun _ => none) := ⟨PySem.W.emptyDict, #[], _, e1, rfl, (fun e he => absurd he (by simp)), fun _ => rfl⟩
  have I1 := I.laid (a := s.heap.objs.size) (o := .own (s.heap.objs.size + 1)) (h' := s.heap.push PySem.W.emptyDict) (t' := s.toks) (fun b u q => Heap.get?_push_of_some _ q) (Nat.le_refl _) ⟨_, e1⟩
  refine I1.laid (a := s.heap.objs.size + 1) (o := .ins C s.heap.objs.size []) (t' := s.toks) (fun b u q => Heap.get?_push_of_some _ q) (Nat.le_of_eq (Heap.size_push _ _)) ?_
  have ne : s.heap.objs.size ≠ s.heap.objs.size + 1 := Nat.ne_of_lt (Nat.lt_succ_self _)
  refine ⟨by rw [upd_ne ne, upd_same], Nat.zero_le _, ne, e2, fun _ => none, (Heap.Ns1.of_empty e3).at fun o q => Heap.get?_push_of_some _ q, fun _ => True.intro, fun y hy => absurd rfl hy⟩

/-- e.f where nothing but the object is asked: through attributeBase (super) and the last hold -/
theorem attr_of {prog : Program} {w : World} {env : Env} {e : Expr} {f : Str} {pos : Pos} {s : Shared} {Q : Value → Shared → Prop} (hb : attributeBase e f env (eval e env) = eval e env)
    (h : wpAny (model prog w) A (eval e env) (fun o s₁ => wpAny (model prog w) A (getAttr o f true) Q E s₁) E s) : wpAny (model prog w) A (eval (.Attribute e f pos) env) Q E s :=
  Attribute_any_ h (by rw [arm_eval_Attribute, hb])
end

/-! ### readings and rules -/
/-- e.f, an attribute of the instance -/
inductive tFldI (K : PySem.W.Frag) (f : Str) (Q : VK) (x : V) (H1 : Hp) : Prop
  | mk (a : _) (C : _) (dx : _) (fs : _) (v : _) (z0 : x = .ref a) (z1 : H1 a = some (.ins C dx fs)) (z2 : Cls K C) (z3 : NoAttr K C f) (z4 : fs.lookup f = some v) (z5 : Q v H1)
def tFld (K : PySem.W.Frag) (ta : TE) (f : Str) : TE := fun σ H Q => ta σ H fun x H1 => tFldI K f Q x H1
/-- e.f, a constant of the class -/
def tCon (K : PySem.W.Frag) (ta : TE) (f : Str) : TE := fun σ H Q => ta σ H fun x H1 => ∃ a C dx fs v u, x = .ref a ∧ H1 a = some (.ins C dx fs) ∧ Cls K C ∧ Con K C f v u ∧ fs.lookup f = none ∧ Q v H1
/-- e.f = value -/
inductive sFldI (K : PySem.W.Frag) (f : Str) (D : Ends) (σ : St) (y : V) (x : V) (H2 : Hp) : Prop
  | mk (a : _) (C : _) (dx : _) (fs : _) (z0 : x = .ref a) (z1 : H2 a = some (.ins C dx fs)) (z2 : Cls K C) (z3 : NoAttr K C f) (z4 : fs.length < 1000) (z5 : D.nx σ (upd H2 a (.ins C dx (putF f y fs))))
def sFld (K : PySem.W.Frag) (ta tv : TE) (f : Str) : TS := fun D σ H => tv σ H fun y H1 => ta σ H1 fun x H2 => sFldI K f D σ y x H2
/-- an augmented operator on two values -/
def InOp (X : Cx) (op : Operator) (rd : V → V → Hp → VK → Prop) : Prop :=
  ∀ (pins : List (Addr × Obj)) (s : Shared) (σ : St) (H : Hp) (x y : V) (u v : Value) (Q : VK), Inv X pins σ H s → RelV x u → RelV y v → rd x y H Q → wpAny (model X.prog X.w) X.A (inplaceOp op u v) (EP X pins σ Q) X.xe s
/-- e.f op= value -/
def sFldAug (K : PySem.W.Frag) (ta tv : TE) (rd : V → V → Hp → VK → Prop) (f : Str) : TS := fun D σ H => ta σ H fun x H1 => ∃ a C dx fs v, x = .ref a ∧ H1 a = some (.ins C dx fs) ∧ Cls K C ∧ NoAttr K C f ∧ fs.lookup f = some v ∧
  tv σ H1 fun y H2 => rd v y H2 fun z H3 => ∃ dx' fs', H3 a = some (.ins C dx' fs') ∧ fs'.length < 1000 ∧ D.nx σ (upd H3 a (.ins C dx' (putF f z fs')))

section
variable {X : Cx} {o e value : Expr} {f : Str} {pos pos' tpos : Pos} {ta tv : TE}
theorem pe_fld (he : PE X e ta) (hb : attributeBase e f X.env (eval e X.env) = eval e X.env) : PE X (.Attribute e f pos) (tFld X.K ta f) := by
  intro pins s σ H Q I h
  refine attr_of hb (thn (he pins s σ H _ I h) fun u s1 ⟨x, H1, I1, rx, a, C, dx, fs, v, ex, ea, c, n, l, q⟩ => ?_)
  subst ex
  obtain rfl : u = Value.ref a := rx
  exact getattr_ok I1 ea c n l fun u' s2 I2 ru => ⟨v, H1, I2, ru, q⟩
theorem ps_fld (ha : PE X o ta) (hv : PE X value tv) (hs : swapsWith value (some (.Attribute o f pos')) pos.line X.env = pure false) : PS X (.Assign [.Attribute o f pos'] value pos) (sFld X.K ta tv f) := by
  intro pins s σ H D I h
  refine plainObj_wpAny_Assign_Attribute (thn (hv pins s σ H _ I h) fun u s1 ⟨y, H1, I1, ry, q⟩ => thn (ha pins s1 σ H1 _ I1 q) fun ov s2 ⟨x, H2, I2, rx, a, C, dx, fs, ex, ea, c, n, l, q2⟩ => ?_) hs
  subst ex
  obtain rfl : ov = Value.ref a := rx
  exact setattr_ok I2 ea c n l ry fun s3 I3 => ⟨σ, _, I3, q2⟩
theorem ps_fldaug {op : Operator} {rd : V → V → Hp → VK → Prop} (ha : PE X o ta) (hv : PE X value tv) (hop : InOp X op rd) : PS X (.AugAssign (.Attribute o f tpos) op value pos) (sFldAug X.K ta tv rd f) := by
  intro pins s σ H D I h
  refine wpAny_AugAssign_AttributeAny (thn (ha pins s σ H _ I h) fun ov s1 ⟨x, H1, I1, rx, a, C, dx, fs, v, ex, ea, c, n, l, q⟩ => ?_)
  subst ex
  obtain rfl : ov = Value.ref a := rx
  refine getattr_ok I1 ea c n l fun u s2 I2 ru => thn (hv pins s2 σ H1 _ I2 q) fun w3 s3 ⟨y, H2, I3, ry, q3⟩ => thn (hop pins s3 σ H2 v y u w3 _ I3 ru ry q3) fun w4 s4 ⟨z, H3, I4, rz, dx', fs', ea', l', q4⟩ => ?_
  exact setattr_ok I4 ea' c n l' rz fun s5 I5 => ⟨σ, _, I5, q4⟩
inductive rAddI (x : V) (y : V) (H : Hp) (Q : VK) : Prop
  | mk (i : _) (j : _) (z0 : x = .int i) (z1 : y = .int j) (z2 : Q (.int (i + j)) H)
def rAdd  : V → V → Hp → VK → Prop := fun x y H Q => rAddI x y H Q
inductive rSubI (x : V) (y : V) (H : Hp) (Q : VK) : Prop
  | mk (i : _) (j : _) (z0 : x = .int i) (z1 : y = .int j) (z2 : Q (.int (i - j)) H)
def rSub  : V → V → Hp → VK → Prop := fun x y H Q => rSubI x y H Q
theorem in_add : InOp X .Add rAdd := by
  rintro pins s σ H x y u v Q I rx ry ⟨i, j, rfl, rfl, q⟩
  obtain ⟨t, rfl⟩ := (show ∃ t, u = Value.int i t from rx)
  obtain ⟨t', rfl⟩ := (show ∃ t', v = Value.int j t' from ry)
  exact PyProof.Rows.iadd_int ⟨.int (i + j), H, I.tok _, ⟨_, rfl⟩, q⟩
/-- what is between an instance and its method: the tree of a method call -/
theorem methcall_of {pl : Sem Bool} {m : Str} {apos : Pos} {args : List Expr} {pins : List (Addr × Obj)} {s : Shared} {σ : St} {H : Hp} {Q : Value → Shared → Prop} {te : TE} (he : PE X e te) (I : Inv X pins σ H s)
    (h : te σ H fun x H1 => ∃ a C dx fs g, x = .ref a ∧ H1 a = some (.ins C dx fs) ∧ Cls X.K C ∧ Meth X.K C m g ∧ fs.lookup m = none ∧
      ∀ s1, Inv X pins σ H1 s1 → wpAny (model X.prog X.w) X.A (callWith pos (.ref g) [.ref a] (backTo pos (starEach args X.env)) (backToKw pos (keywordEach [] X.env))) Q X.xe s1)
    (ht : eval (.Call (.Attribute e m apos) args [] pos) X.env = (do
      let ov ← eval e X.env
      standAt apos.atName
      let (f, first) ← holding [ov] (getMethod ov m pl)
      callWith pos f first (backTo pos (starEach args X.env)) (backToKw pos (keywordEach [] X.env)))) :
    wpAny (model X.prog X.w) X.A (eval (.Call (.Attribute e m apos) args [] pos) X.env) Q X.xe s := by
  refine PySem.W.methodCall_KW (pl := pl) (thn (he pins s σ H _ I h) fun u s1 ⟨x, H1, I1, rx, a, C, dx, fs, g, ex, ea, c, k, l, q⟩ => ?_) ht
  subst ex
  obtain rfl : u = Value.ref a := rx
  exact getmeth_ok I1 ea c k l (q s1 I1)
end

/-! ### isinstance -/
section
variable {X : Cx} {pins : List (Addr × Obj)} {σ : St} {H : Hp} {s : Shared} {A : Around} {E : Value → Shared → Prop} {Q : Value → Shared → Prop} {c : Value} {b : Bool}
/-- the type of a value, as the fragment's deciders take it; for an instance its class -/
inductive TyOf (K : PySem.W.Frag) (H : Hp) : V → Value → Prop where
  | non : TyOf K H .non (.type "NoneType")
  | bl (x : Bool) : TyOf K H (.bl x) (.type "bool")
  | int (i : Int) : TyOf K H (.int i) (.type "int")
  | str (x : Str) : TyOf K H (.str x) (.type "str")
  | flt (x : UInt64) : TyOf K H (.flt x) (.type "float")
  | lst {a : Addr} {xs : List V} (e : H a = some (.lst xs)) : TyOf K H (.ref a) (.type "list")
  | frz {a : Addr} {o : Obj} {xs : List V} (e : H a = some (.frz o (.lst xs))) : TyOf K H (.ref a) (.type "list")
  | tup {a : Addr} {xs : List V} (e : H a = some (.tup xs)) : TyOf K H (.ref a) (.type "tuple")
  | dK {a : Addr} {kvs : List (Key × V)} (e : H a = some (.dK kvs)) : TyOf K H (.ref a) (.type "dict")
  | dT {a : Addr} {kvs : List (List Key × V)} (e : H a = some (.dT kvs)) : TyOf K H (.ref a) (.type "dict")
  | ins {a C dx : Addr} {fs : List (Str × V)} (e : H a = some (.ins C dx fs)) (cl : Cls K C) (ha : PySem.W.findIn K (.ref C) "__class__" = some (some (.builtin "object.__class__")))
      (hn : PySem.W.specialIn K (.builtin "object.__class__") "__get__" = some (some (.builtin "getset_descriptor.__get__"))) (htk : PySem.W.takesIn K (.builtin "object.__class__") = some true)
      (hm : PySem.W.mroIn K C (.type "object") = some true) : TyOf K H (.ref a) (.ref C)
/-- isinstance(x, c) for one class c, a built-in or an own one: kitOne's answer -/
theorem isinst_ok {x : V} {u t : Value} (I : Inv X pins σ H s) (rx : RelV x u) (ty : TyOf X.K H x t) (e : PySem.W.kitOne X.K t c = some b) (h : ∀ tk, Q (.bool b) { s with toks := tk }) :
    wpAny (model X.prog X.w) A (call (.builtin "isinstance") [u, c]) Q E s := by
  cases ty with
  | non => cases (show u = Value.none from rx); exact PySem.W.kia_one PySem.W.kitx_none I.kIn True.intro e (fun z => nomatch z) h
  | bl y => cases (show u = Value.bool y from rx); exact PySem.W.kia_one PySem.W.kitx_bool I.kIn True.intro e (fun z => nomatch z) h
  | int i => obtain ⟨t, q⟩ := (show ∃ t, u = Value.int i t from rx); cases q; exact PySem.W.kia_one PySem.W.kitx_int I.kIn True.intro e (fun z => nomatch z) h
  | str y => obtain ⟨t, q⟩ := (show ∃ t, u = Value.str y t from rx); cases q; exact PySem.W.kia_one PySem.W.kitx_str I.kIn True.intro e (fun z => nomatch z) h
  | flt y => obtain ⟨t, q⟩ := (show ∃ t, u = Value.float y t from rx); cases q; exact PySem.W.kia_one PySem.W.kitx_float I.kIn True.intro e (fun z => nomatch z) h
  | @lst a xs ea =>
    cases (show u = Value.ref a from rx)
    obtain ⟨_, _, n, _, h1⟩ := (show ObjOk X.prog X.w H s.heap a (.lst xs) from I.hok a _ ea)
    exact PySem.W.kia_one PySem.W.kitx_list I.kIn ⟨_, h1, rfl⟩ e (fun z => nomatch z) h
  | @frz a ob xs ea =>
    cases (show u = Value.ref a from rx)
    obtain ⟨_, _, _, n, _, h1⟩ := (show ObjOk X.prog X.w H s.heap a (.frz ob (.lst xs)) from I.hok a _ ea)
    exact PySem.W.kia_one PySem.W.kitx_list I.kIn ⟨_, h1, rfl⟩ e (fun z => nomatch z) h
  | @tup a xs ea =>
    cases (show u = Value.ref a from rx)
    obtain ⟨_, _, _, p⟩ := (show ObjOk X.prog X.w H s.heap a (.tup xs) from I.hok a _ ea)
    obtain ⟨o, h1, h2, _⟩ := p
    exact PySem.W.kia_one PySem.W.kitx_tuple I.kIn ⟨o, h1, h2⟩ e (fun z => nomatch z) h
  | @dK a kvs ea =>
    cases (show u = Value.ref a from rx)
    obtain ⟨_, _, vs, _, p⟩ := (show ObjOk X.prog X.w H s.heap a (.dK kvs) from I.hok a _ ea)
    obtain ⟨o, es, ep, h1, h2, _⟩ := p
    exact PySem.W.kia_one PySem.W.kitx_dict I.kIn ⟨o, h1, h2.1⟩ e (fun z => nomatch z) h
  | @dT a kvs ea =>
    cases (show u = Value.ref a from rx)
    obtain ⟨_, _, xs, _, o, es, ep, h1, h2, _⟩ := (show ObjOk X.prog X.w H s.heap a (.dT kvs) from I.hok a _ ea)
    exact PySem.W.kia_one PySem.W.kitx_dict I.kIn ⟨o, h1, h2.1⟩ e (fun z => nomatch z) h
  | @ins a C dx fs ea cl ha hn htk hm =>
    cases (show u = Value.ref a from rx)
    obtain ⟨mA, O, _⟩ := ins_get I.hok ea
    obtain ⟨od, J, _⟩ := O.look
    exact PySem.W.kia_one (PySem.W.kitx_own (cl.get _) cl.hd ha hn htk hm) I.kIn J e (fun z => nomatch z) h
end
end L2

namespace L2
open PySem PySem.Spec PyProof.Rows

/-! ### room -/
structure Room (k : Nat) (A : Around) : Prop where
  hd : A.handled = none
  dp : A.depth + 3 * k + 5 < recursionLimit
  un : A.units + 16 * k + 200 < cLine
theorem Room.mono {j k : Nat} {A : Around} (r : Room k A) (h : j ≤ k) : Room j A := ⟨r.hd, by have := r.dp; omega, by have := r.un; omega⟩
theorem Room.deeper {k : Nat} {A : Around} (r : Room (k + 1) A) (env : Env) : Room k (A.deeper env) :=
  ⟨r.hd, by have := r.dp; show A.depth + 1 + 3 * k + 5 < _; omega, by have := r.un; show A.units + 3 + 16 * k + 200 < _; omega⟩
theorem make_depth {A : Around} {C : Addr} {us : List Value} {kw : List (Str × Value)} : (A.under (.builtin "type.__call__" ⟨.ref C :: us, kw⟩)).depth = A.depth + 1 := by
  first | rfl | simp [Around.under, Code.weight, Code.isCreation, Code.isGuard, Code.isCaller, Code.frames, Code.isFrame, guardIds]
theorem make_units {A : Around} {C : Addr} {us : List Value} {kw : List (Str × Value)} : (A.under (.builtin "type.__call__" ⟨.ref C :: us, kw⟩)).units = A.units + 1 := by
  first | rfl | simp [Around.under, Code.cUnits, Code.frames, Code.isFrame]
theorem Room.make {k : Nat} {A : Around} (r : Room (k + 1) A) (C : Addr) (us : List Value) (kw : List (Str × Value)) : Room k (A.under (.builtin "type.__call__" ⟨.ref C :: us, kw⟩)) :=
  ⟨r.hd, by have := r.dp; rw [make_depth]; omega, by have := r.un; rw [make_units]; omega⟩
theorem Room.depth {k : Nat} {A : Around} (r : Room k A) : A.depth < recursionLimit := by have := r.dp; omega
theorem Room.units {k : Nat} {A : Around} (r : Room k A) : A.units + 64 < cLine := by have := r.un; omega
theorem Room.units0 {k : Nat} {A : Around} (r : Room k A) : A.units < cLine := by have := r.un; omega

/-! ### argument lists and displays -/
def tNil : TA := fun _ H Q => Q [] H
def tCons (ta : TE) (tr : TA) : TA := fun σ H Q => ta σ H fun x H1 => tr σ H1 fun xs H2 => Q (x :: xs) H2
section
variable {X : Cx} {e : Expr} {es : List Expr} {te : TE} {t : TA} {pos : Pos}
theorem pa_nil : PA X [] tNil := fun _ _ _ _ H Q I h => Calls.spliced_nil ⟨[], H, I, .nil, h⟩
theorem pa_cons (ha : PE X e te) (hr : PA X es t) (hs : starEach (e :: es) X.env = (false, eval e X.env) :: starEach es X.env := by rfl) : PA X (e :: es) (tCons te t) := by
  intro pos pins s σ H Q I h
  rw [hs]
  show wpAny _ _ (spliced ((false, eval e X.env) :: backTo pos (starEach es X.env))) _ _ s
  refine Calls.spliced_cons (thn (ha pins s σ H _ I h) fun u s1 ⟨x, H1, I1, r1, q1⟩ => ?_)
  exact thn (hr pos pins s1 σ H1 _ I1 q1) fun us s2 ⟨xs, H2, I2, r2, q2⟩ => ⟨x :: xs, H2, I2, .cons r1 r2, q2⟩

/-- a tuple, a list of written items -/
def tTup (t : TA) : TE := fun σ H Q => t σ H fun xs H1 => xs.length ≤ sizeLine ∧ ∀ p, H1 p = none → Q (.ref p) (upd H1 p (.tup xs))
def tLst (t : TA) : TE := fun σ H Q => t σ H fun xs H1 => xs.length ≤ sizeLine ∧ ∀ p, H1 p = none → Q (.ref p) (upd H1 p (.lst xs))
theorem pe_tup {x1} (h : PA X es t) : PE X (.Tuple es x1 pos) (tTup t) := by
  intro pins s σ H Q I hq
  refine wpAny_Tuple_spliced (thn (h pos pins s σ H _ I hq) fun us s1 ⟨xs, H1, I1, r, z, q⟩ => ⟨by rw [← r.length]; exact z, ?_⟩)
  have hf : H1 s1.heap.objs.size = none := I1.hok.fresh (Nat.le_refl _)
  refine ⟨.ref s1.heap.objs.size, upd H1 s1.heap.objs.size (.tup xs), I1.laid (t' := s1.toks) (fun b u e => Heap.get?_push_of_some _ e) (Nat.le_refl _) ?_, rfl, q _ hf⟩
  exact ⟨z, us, r, ⟨_, Heap.get?_push_size _ rfl, rfl, _, rfl⟩⟩
theorem pe_lst (h : PA X es t) : PE X (.List es pos) (tLst t) := by
  intro pins s σ H Q I hq
  refine wpAny_List_spliced (thn (h pos pins s σ H _ I hq) fun us s1 ⟨xs, H1, I1, r, z, q⟩ => ⟨by rw [← r.length]; exact z, ?_⟩)
  have hf : H1 s1.heap.objs.size = none := I1.hok.fresh (Nat.le_refl _)
  refine ⟨.ref s1.heap.objs.size, upd H1 s1.heap.objs.size (.lst xs), I1.laid (t' := s1.toks) (fun b u e => Heap.get?_push_of_some _ e) (Nat.le_refl _) ?_, rfl, q _ hf⟩
  exact ⟨z, us, 0, r, Heap.get?_push_size _ rfl⟩
end

/-! ### what a def promises -/
/-- a def's promise: the bound arguments in the parameters' order, the heap, the wanted end, the wanted exception -/
abbrev Sp := List V → Hp → VK → XK → Prop
/-- how an exception lies behind a call (file 08 gives it): the callers' frames, abstract heap and state ahead of the call, the wish, the exception, the state -/
abbrev CXT := List Env → Hp → Shared → XK → Value → Shared → Prop

/-- the state at a call -/
structure Env0 (P : Program) (w : World) (K : PySem.W.Frag) (mg : Str → Option Value) (base : Heap) (A : Around) (outer : List Env) (s : Shared) (H : Hp) : Prop where
  frames : A.frames = some outer
  mod : Mod K mg base
  bs : ∀ b o, base.get? b = some o → s.heap.get? b = some o ∧ H b = none
  bsz : base.objs.size ≤ s.heap.objs.size
  funs : s.heap.FunFrames base outer
  frf : ∀ b ∈ frs outer, H b = none
  hok : HOk P w H s.heap
  bare : AllBare s.gens
/-- a call's end -/
def CE (outer : List Env) (P : Program) (w : World) (H : Hp) (s : Shared) (Q : VK) (u : Value) (s' : Shared) : Prop :=
  ∃ v H', s'.os = s.os ∧ AllBare s'.gens ∧ Un (frs outer) [] H H' s.heap s'.heap ∧ HOk P w H' s'.heap ∧ RelV v u ∧ Q v H'
def CR (CX : CXT) (outer : List Env) (P : Program) (w : World) (H : Hp) (s : Shared) (Q : VK) (E : XK) (r : Result) (s' : Shared) : Prop :=
  match r with
  | .ok (.ret u) => CE outer P w H s Q u s'
  | .ok _ => False
  | .error e => CX outer H s E e s'
structure FnOk (P : Program) (w : World) (K : PySem.W.Frag) (mg : Str → Option Value) (base : Heap) (CX : CXT) (k : Nat) (f : Addr) (fd : FuncData) (ps : List Str) (sp : Sp) : Prop where
  len : ∀ vs H Q E, sp vs H Q E → vs.length = ps.length
  run : ∀ (A : Around) (outer : List Env) (s : Shared) (H : Hp) (args : Args) (us : List Value) (vs : List V) (Q : VK) (E : XK), Room k A → Env0 P w K mg base A outer s H → BindsTo s fd args (ps.zip us) → Vals vs us → sp vs H Q E →
    codeAny (model P w) A (.call (.ref f) args) (CR CX outer P w H s Q E) s
theorem Env0.make {P : Program} {w : World} {K : PySem.W.Frag} {mg : Str → Option Value} {base : Heap} {A : Around} {outer : List Env} {s : Shared} {H : Hp} (e : Env0 P w K mg base A outer s H) (C : Addr) (us : List Value) (kw : List (Str × Value)) :
    Env0 P w K mg base (A.under (.builtin "type.__call__" ⟨.ref C :: us, kw⟩)) outer s H := ⟨by first | exact e.frames | (simpa [Around.under, Code.envs, Code.isFrame, pushEnvs] using e.frames), e.mod, e.bs, e.bsz, e.funs, e.frf, e.hok, e.bare⟩
section
variable {X : Cx} {pins : List (Addr × Obj)} {σ : St} {H : Hp} {s s' : Shared}
/-- from a body: what a callee wants -/
theorem Inv.env0 (I : Inv X pins σ H s) : Env0 X.prog X.w X.K X.mg X.base X.A X.stack s H :=
  ⟨I.ok.frames, I.ok.mod, I.bs, Nat.le_trans I.ok.bsz I.sz, I.stack, I.stkFree, I.hok, I.bare⟩
/-- behind a call -/
theorem Inv.after {Q : VK} {u : Value} (I : Inv X pins σ H s) (h : CE X.stack X.prog X.w H s Q u s') : EP X pins σ Q u s' := by
  obtain ⟨v, H', os, bare, un, hok, r, q⟩ := h
  obtain ⟨hh, g, d, t, os'⟩ := s'
  obtain rfl : os' = s.os := os
  exact ⟨v, H', I.call (h' := hh) (g' := g) (d' := d) (t' := t) (ch := []) un hok bare (fun b z => absurd z (by simp)), r, q⟩
end

/-! ### calls -/
/-- f(..): the written arguments, then the defaults dvs; E: what is wanted of an exception -/
def tCall (sp : Sp) (dvs : List V) (E : XK) (t : TA) : TE := fun σ H Q => t σ H fun vs H1 => sp (vs ++ dvs) H1 Q E
/-- o.m(..) of an instance of the class at C -/
def tMeth (C : Addr) (m : Str) (sp : Sp) (dvs : List V) (E : XK) (ta : TE) (t : TA) : TE := fun σ H Q => ta σ H fun x H1 => ∃ a dx fs, x = .ref a ∧ H1 a = some (.ins C dx fs) ∧ fs.lookup m = none ∧
  t σ H1 fun vs H2 => sp (x :: (vs ++ dvs)) H2 Q E
/-- C(..): a new instance and its dict, then __init__ -/
def tMake (C : Addr) (sp : Sp) (dvs : List V) (E : XK) (t : TA) : TE := fun σ H Q => t σ H fun vs H1 => ∀ x dx, H1 x = none → H1 dx = none → dx ≠ x →
  sp (.ref x :: (vs ++ dvs)) (upd (upd H1 dx (.own x)) x (.ins C dx [])) (fun v H2 => v = .non ∧ Q (.ref x) H2) E

/-- how the parameters are bound: us the positional arguments, kw the keywords' values by name, ds the defaults that fill up -/
def Binds (K : PySem.W.Frag) (fd : FuncData) (ps : List Str) (ds : List Value) : Prop :=
  ∀ (s : Shared) (us : List Value), K.In s.heap → (us ++ ds).length = ps.length → BindsTo s fd ⟨us, []⟩ (ps.zip (us ++ ds))
/-- every parameter is given -/
theorem Binds.all {K : PySem.W.Frag} {fd : FuncData} {ps : List Str} (h : ∀ us : List Value, us.length = ps.length → bindArgs fd ⟨us, []⟩ = pure (ps.zip us)) : Binds K fd ps [] := fun s us _ hl => by
  rw [List.append_nil] at hl ⊢
  exact .of_eq (h us hl)

/-- an exception of a callee reaches what this body wants of exceptions -/
def Passes (CX : CXT) (X : Cx) (E : XK) : Prop := ∀ (pins : List (Addr × Obj)) (σ : St) (H : Hp) (s : Shared) (e : Value) (s' : Shared), Inv X pins σ H s → CX X.stack H s E e s' → X.xe e s'

section
variable {X : Cx} {CX : CXT} {k : Nat} {f C : Addr} {fd : FuncData} {ps : List Str} {sp : Sp} {dvs : List V} {ds : List Value} {E : XK} {x m : Str} {p pos apos : Pos} {e o : Expr} {es : List Expr} {ta : TE} {t : TA}

/-- the callee runs -/
theorem run_fn {pins : List (Addr × Obj)} {σ : St} {H : Hp} {s : Shared} {Q : VK} {us : List Value} {vs : List V} (F : FnOk X.prog X.w X.K X.mg X.base CX k f fd ps sp) (hr : Room k X.A) (hb : Binds X.K fd ps ds) (hd : Vals dvs ds) (hx : Passes CX X E)
    (I : Inv X pins σ H s) (r : Vals vs us) (h : sp (vs ++ dvs) H Q E) : wpAny (model X.prog X.w) X.A (call (.ref f) us) (EP X pins σ Q) X.xe s := by
  have r2 : Vals (vs ++ dvs) (us ++ ds) := r.append hd
  have hl : (us ++ ds).length = ps.length := by rw [← r2.length]; exact F.len _ _ _ _ h
  refine wpAny_call (codeAny_mono (F.run X.A X.stack s H ⟨us, []⟩ (us ++ ds) (vs ++ dvs) Q E hr I.env0 (hb s us I.kIn hl) r2 h) fun r s' hq => ?_)
  cases r with
  | error e => exact hx pins σ H s e s' I hq
  | ok fl =>
    cases fl with
    | ret u => exact I.after hq
    | next => exact False.elim hq
    | brk => exact False.elim hq
    | cont => exact False.elim hq

theorem pe_call (F : FnOk X.prog X.w X.K X.mg X.base CX k f fd ps sp) (hr : Room k X.A) (hg : Gl X x) (hm : X.mg x = some (.ref f)) (hk : PySem.W.keepIn X.K (.ref f) = true) (hb : Binds X.K fd ps ds) (hd : Vals dvs ds) (hx : Passes CX X E)
    (ha : PA X (e :: es) t) (hdb : (x == ("__debug__" : Str)) = false := by decide) (he : starEach (e :: es) X.env = (false, eval e X.env) :: starEach es X.env := by rfl) (hpl : (backTo pos (starEach es X.env)).any (·.1) = false := by rfl) :
    PE X (.Call (.Name x p) (e :: es) [] pos) (tCall sp dvs E t) := by
  intro pins s σ H Q I h
  refine wpAny_Call_Name_kw (ld_glob I hg hm ?_ hdb)
  refine PySem.W.callWith_K (h₀ := X.base) I.ok.mod.kin hk (thn (ha pos pins s σ H _ I h) fun us s1 ⟨vs, H1, I1, r, q⟩ => ⟨I1.kIn, ?_⟩) he hpl
  exact run_fn F hr hb hd hx I1 r q
/-- o.m(e, ..) -/
theorem pe_meth {pl : Sem Bool} (he : PE X o ta) (c : Cls X.K C) (hm : Meth X.K C m f) (F : FnOk X.prog X.w X.K X.mg X.base CX k f fd ps sp) (hr : Room k X.A) (hb : Binds X.K fd ps ds) (hd : Vals dvs ds) (hx : Passes CX X E) (ha : PA X (e :: es) t)
    (hst : starEach (e :: es) X.env = (false, eval e X.env) :: starEach es X.env := by rfl) (hpl : (backTo pos (starEach es X.env)).any (·.1) = false := by rfl)
    (ht : eval (.Call (.Attribute o m apos) (e :: es) [] pos) X.env = (do
      let ov ← eval o X.env
      standAt apos.atName
      let (f, first) ← holding [ov] (getMethod ov m pl)
      callWith pos f first (backTo pos (starEach (e :: es) X.env)) (backToKw pos (keywordEach [] X.env))) := by rfl) :
    PE X (.Call (.Attribute o m apos) (e :: es) [] pos) (tMeth C m sp dvs E ta t) := by
  intro pins s σ H Q I h
  refine PySem.W.methodCall_KW (pl := pl) (thn (he pins s σ H _ I h) fun u s1 ⟨x, H1, I1, rx, a, dx, fs, ex, ea, l, q⟩ => ?_) ht
  subst ex
  obtain rfl : u = Value.ref a := rx
  refine getmeth_ok I1 ea c hm l ?_
  refine PySem.W.callWith_K (first := [.ref a]) (h₀ := X.base) I.ok.mod.kin hm.kp (thn (ha pos pins s1 σ H1 _ I1 q) fun us s2 ⟨vs, H2, I2, r, q2⟩ => ⟨I2.kIn, ?_⟩) hst hpl
  exact run_fn (us := .ref a :: us) (vs := .ref a :: vs) F hr hb hd hx I2 (.cons rfl r) q2
/-- o.m() -/
theorem pe_meth0 {pl : Sem Bool} (he : PE X o ta) (c : Cls X.K C) (hm : Meth X.K C m f) (F : FnOk X.prog X.w X.K X.mg X.base CX k f fd ps sp) (hr : Room k X.A) (hb : Binds X.K fd ps ds) (hd : Vals dvs ds) (hx : Passes CX X E)
    (ht : eval (.Call (.Attribute o m apos) [] [] pos) X.env = (do
      let ov ← eval o X.env
      standAt apos.atName
      let (f, first) ← holding [ov] (getMethod ov m pl)
      callWith pos f first (backTo pos (starEach [] X.env)) (backToKw pos (keywordEach [] X.env))) := by rfl) :
    PE X (.Call (.Attribute o m apos) [] [] pos) (tMeth C m sp dvs E ta tNil) := by
  intro pins s σ H Q I h
  refine PySem.W.methodCall_KW (pl := pl) (thn (he pins s σ H _ I h) fun u s1 ⟨x, H1, I1, rx, a, dx, fs, ex, ea, l, q⟩ => ?_) ht
  subst ex
  obtain rfl : u = Value.ref a := rx
  refine getmeth_ok I1 ea c hm l ?_
  exact PySem.W.callWith_K0 (first := [.ref a]) I1.kIn hm.kp (run_fn (us := [.ref a]) (vs := [.ref a]) F hr hb hd hx I1 (.cons rfl .nil) q)

/-- what a class must have to be made -/
structure Mk (K : PySem.W.Frag) (C f : Addr) : Prop where
  makes : PySem.W.makesIn K C = true
  init : PySem.W.findIn K (.ref C) "__init__" = some (some (.ref f))
  fn : PySem.W.isFn K (.ref f) = true
  kp : PySem.W.keepIn K (.ref C) = true

theorem run_make {pins : List (Addr × Obj)} {σ : St} {H : Hp} {s : Shared} {Q : VK} {us : List Value} {vs : List V} (M : Mk X.K C f) (F : FnOk X.prog X.w X.K X.mg X.base CX k f fd ps sp) (hr : Room (k + 1) X.A) (hb : Binds X.K fd ps ds) (hd : Vals dvs ds)
    (hx : Passes CX X E) (I : Inv X pins σ H s) (r : Vals vs us)
    (h : ∀ x dx, H x = none → H dx = none → dx ≠ x → sp (.ref x :: (vs ++ dvs)) (upd (upd H dx (.own x)) x (.ins C dx [])) (fun v H2 => v = .non ∧ Q (.ref x) H2) E) :
    wpAny (model X.prog X.w) X.A (call (.ref C) us) (EP X pins σ Q) X.xe s := by
  have hq := h (s.heap.objs.size + 1) s.heap.objs.size (I.hok.fresh (Nat.le_succ _)) (I.hok.fresh (Nat.le_refl _)) (Nat.ne_of_lt (Nat.lt_succ_self _))
  have I2 := Inv.made (C := C) I
  have r2 : Vals (V.ref (s.heap.objs.size + 1) :: (vs ++ dvs)) (Value.ref (s.heap.objs.size + 1) :: (us ++ ds)) := .cons rfl (r.append hd)
  have hl : (Value.ref (s.heap.objs.size + 1) :: us ++ ds).length = ps.length := by
    have e := r2.length
    rw [F.len _ _ _ _ hq] at e
    exact e.symm
  refine wpAny_call (make_map (f := f) I.kIn M.makes M.init (beq_iff_eq.mp M.fn) (codeAny_mono (F.run _ X.stack _ _ ⟨Value.ref (s.heap.objs.size + 1) :: us, []⟩ (Value.ref (s.heap.objs.size + 1) :: (us ++ ds)) _ _ E (hr.make C us [])
    (I2.env0.make C us []) (hb _ (Value.ref (s.heap.objs.size + 1) :: us) I2.kIn hl) r2 hq) fun r s' hq' => ?_))
  cases r with
  | error e => exact hx pins σ _ _ e s' I2 hq'
  | ok fl =>
    cases fl with
    | ret u =>
      obtain ⟨v, H', I3, rv, ev, q3⟩ := I2.after hq'
      subst ev
      exact ⟨rv, ⟨V.ref (s.heap.objs.size + 1), H', I3, rfl, q3⟩⟩
    | next => exact False.elim hq'
    | brk => exact False.elim hq'
    | cont => exact False.elim hq'
theorem pe_make (M : Mk X.K C f) (F : FnOk X.prog X.w X.K X.mg X.base CX k f fd ps sp) (hr : Room (k + 1) X.A) (hg : Gl X x) (hm : X.mg x = some (.ref C)) (hb : Binds X.K fd ps ds) (hd : Vals dvs ds) (hx : Passes CX X E)
    (ha : PA X (e :: es) t) (hdb : (x == ("__debug__" : Str)) = false := by decide) (he : starEach (e :: es) X.env = (false, eval e X.env) :: starEach es X.env := by rfl) (hpl : (backTo pos (starEach es X.env)).any (·.1) = false := by rfl) :
    PE X (.Call (.Name x p) (e :: es) [] pos) (tMake C sp dvs E t) := by
  intro pins s σ H Q I h
  refine wpAny_Call_Name_kw (ld_glob I hg hm ?_ hdb)
  refine PySem.W.callWith_K (h₀ := X.base) I.ok.mod.kin M.kp (thn (ha pos pins s σ H _ I h) fun us s1 ⟨vs, H1, I1, r, q⟩ => ⟨I1.kIn, ?_⟩) he hpl
  exact run_make M F hr hb hd hx I1 r q
end

/-! ### keywords -/
/-- the values of the keywords, from the left -/
def PK (X : Cx) (kws : List Keyword) (t : TA) : Prop :=
  ∀ (pos : Pos) (pins : List (Addr × Obj)) (s : Shared) (σ : St) (H : Hp) (Q : List V → Hp → Prop), Inv X pins σ H s → t σ H Q → wpAny (model X.prog X.w) X.A (evalAll ((backToKw pos (keywordEach kws X.env)).map (·.2))) (AP X pins σ Q) X.xe s
section
variable {X : Cx} {CX : CXT} {k : Nat} {f C : Addr} {fd : FuncData} {ps ks : List Str} {sp : Sp} {E : XK} {x m : Str} {p pos apos kpos : Pos} {e o : Expr} {es : List Expr} {kws : List Keyword} {te ta : TE} {t tk : TA} {nm : Option Str}
/-- how a call with keywords binds: g puts the positional values us and the keywords' values ws (names ks) in the parameters' order, defaults among them -/
structure KBinds (K : PySem.W.Frag) (fd : FuncData) (ps ks : List Str) (g : List Value → List Value → List Value) (gV : List V → List V → List V) : Prop where
  to : ∀ (s : Shared) (us ws : List Value), K.In s.heap → (g us ws).length = ps.length → BindsTo s fd ⟨us, ks.zip ws⟩ (ps.zip (g us ws))
  rel : ∀ {vs : List V} {us : List Value} {zs : List V} {ws : List Value}, Vals vs us → Vals zs ws → Vals (gV vs zs) (g us ws)
def tCallK (sp : Sp) (gV : List V → List V → List V) (E : XK) (t tk : TA) : TE := fun σ H Q => t σ H fun vs H1 => tk σ H1 fun zs H2 => sp (gV vs zs) H2 Q E
variable {g : List Value → List Value → List Value} {gV : List V → List V → List V}
end

/-! ### a def's body keeps its promise -/
/-- names: the parameters first -/
structure FnScope (N P : List Str) (sc : Scope) : Prop where
  kind : sc.kind = .function
  co : sc.isCoroutine = false
  gen : sc.isGenerator = false
  nd : N.Nodup
  pre : N.take P.length = P
  par : ∀ x ∈ P, sc.names.lookup x = some .local ∨ sc.names.lookup x = some .cell
  nofree : ∀ y ∈ sc.names, y.2 ≠ .free

theorem bindL_out {kindOf : Str → Option NameKind} {x : Str} : ∀ {binds : List (Str × Value)} {m : Str → Option Value}, (∀ v, (x, v) ∉ binds) → bindL kindOf binds m x = m x
  | [], _, _ => rfl
  | (n, v) :: r, m, h => by
    unfold bindL
    rw [bindL_out fun w hw => h w (List.mem_cons_of_mem _ hw)]
    split
    · have : x ≠ n := by rintro rfl; exact h v List.mem_cons_self
      simp [this]
    · rfl
theorem bindC_out {kindOf : Str → Option NameKind} {x : Str} : ∀ {binds : List (Str × Value)} {m : Str → Option Value}, (∀ v, (x, v) ∉ binds) → bindC kindOf binds m x = m x
  | [], _, _ => rfl
  | (n, v) :: r, m, h => by
    unfold bindC
    rw [bindC_out fun w hw => h w (List.mem_cons_of_mem _ hw)]
    split
    · rfl
    · have : x ≠ n := by rintro rfl; exact h v List.mem_cons_self
      simp [this]
theorem bindL_get {kindOf : Str → Option NameKind} {x : Str} {v : Value} : ∀ {P : List Str} {vs : List Value} {i : Nat} {m : Str → Option Value}, P.Nodup → P[i]? = some x → vs[i]? = some v → kindOf x = some .local →
    bindL kindOf (P.zip vs) m x = some v
  | [], _, _, _, _, h, _, _ => by simp at h
  | _ :: _, [], _, _, _, _, h, _ => by simp at h
  | p :: P, w :: vs, 0, m, nd, h1, h2, hk => by
    simp at h1 h2; subst h1; subst h2
    show bindL kindOf ((p, w) :: P.zip vs) m p = _
    unfold bindL
    rw [bindL_out fun v hv => (List.nodup_cons.mp nd).1 (List.of_mem_zip hv).1, if_pos hk]
    simp
  | p :: P, w :: vs, i + 1, m, nd, h1, h2, hk => by
    show bindL kindOf ((p, w) :: P.zip vs) m x = _
    unfold bindL
    exact bindL_get (i := i) (List.nodup_cons.mp nd).2 (by simpa using h1) (by simpa using h2) hk
theorem bindC_get {kindOf : Str → Option NameKind} {x : Str} {v : Value} : ∀ {P : List Str} {vs : List Value} {i : Nat} {m : Str → Option Value}, P.Nodup → P[i]? = some x → vs[i]? = some v → kindOf x ≠ some .local →
    bindC kindOf (P.zip vs) m x = some v
  | [], _, _, _, _, h, _, _ => by simp at h
  | _ :: _, [], _, _, _, _, h, _ => by simp at h
  | p :: P, w :: vs, 0, m, nd, h1, h2, hk => by
    simp at h1 h2; subst h1; subst h2
    show bindC kindOf ((p, w) :: P.zip vs) m p = _
    unfold bindC
    rw [bindC_out fun v hv => (List.nodup_cons.mp nd).1 (List.of_mem_zip hv).1, if_neg hk]
    simp
  | p :: P, w :: vs, i + 1, m, nd, h1, h2, hk => by
    show bindC kindOf ((p, w) :: P.zip vs) m x = _
    unfold bindC
    exact bindC_get (i := i) (List.nodup_cons.mp nd).2 (by simpa using h1) (by simpa using h2) hk

/-- the names' values at the entry -/
def start (N : List Str) (vs : List V) : St := vs.map some ++ List.replicate (N.length - vs.length) none

/-- the context of a def's body, at its entry; an exception leaves the frame, then lies as CX says -/
def cxOf (CX : CXT) (P : Program) (w : World) (K : PySem.W.Frag) (mg : Str → Option Value) (base : Heap) (N : List Str) (qual : Str) (scope : Scope) (f : Addr) (cd : Value) (A : Around) (outer : List Env) (s : Shared) (H : Hp) (E : XK) : Cx where
  prog := P
  w := w
  K := K
  mg := mg
  base := base
  A := A.deeper (envOfC qual scope s.heap.objs.size f cd)
  N := N
  s₀ := s
  H₀ := H
  env := envOfC qual scope s.heap.objs.size f cd
  outer := outer
  stack := envOfC qual scope s.heap.objs.size f cd :: outer
  ex := []
  calm := true
  fn := fun _ => true
  pn := []
  xe := fun e s' => wpAny (model P w) (A.deeper (envOfC qual scope s.heap.objs.size f cd)) (leaving (envOfC qual scope s.heap.objs.size f cd) e) (fun _ s'' => CX outer H s E e s'') (fun e' s'' => CX outer H s E e' s'') s'

theorem cell_has {sc : Scope} {n : Nat} {x : Str} (h : sc.names.lookup x = some .cell) : ∃ c, (cellsFrom n sc.names []).lookup x = some c := by
  have q := PySem.W.cellsFrom_some sc.names n [] (.inl h)
  exact Option.isSome_iff_exists.mp q

theorem inv_start {CX : CXT} {P : Program} {w : World} {K : PySem.W.Frag} {mg : Str → Option Value} {base : Heap} {N ps : List Str} {qual : Str} {scope : Scope} {f : Addr} {cd : Value} {A : Around} {outer : List Env} {s s1 : Shared} {H : Hp} {E : XK} {us : List Value} {vs : List V}
    (S : FnScope N ps scope) (hd : A.handled = none) (e0 : Env0 P w K mg base A outer s H) (hl : vs.length = ps.length) (r : Vals vs us)
    (x : InCallC s s.heap.objs.size (bindL (envOfC qual scope s.heap.objs.size f cd).kindOf (ps.zip us) fun _ => none) (cellsFrom (s.heap.objs.size + 1) scope.names []) (bindC (envOfC qual scope s.heap.objs.size f cd).kindOf (ps.zip us) fun _ => none) s1) :
    Inv (cxOf CX P w K mg base N qual scope f cd A outer s H E) [] (start N vs) H s1 := by
  have hpl : ps.length ≤ N.length := by have := congrArg List.length S.pre; rw [List.length_take] at this; omega
  obtain ⟨h1, tk, rfl, hk⟩ := x.done
  have noA : ∀ b : Addr, b ∉ (cxOf CX P w K mg base N qual scope f cd A outer s H E).ex := fun b z => absurd (show b ∈ ([] : List Addr) from z) (by simp)
  refine ⟨⟨e0.mod, S.kind, rfl, rfl, Nat.le_refl _, fun y z c h1 h2 => ?_, fun y hy => ?_, fun y c _ h => ?_, fun _ => hd, Around.frames_deeper e0.frames, .inr ⟨rfl, rfl⟩, fun b z => absurd z (noA b), e0.bs, e0.bsz, fun b _ _ => noA b, fun b z => absurd z (noA b), e0.funs, e0.frf⟩,
    rfl, e0.bare, Un.kept hk, ⟨_, x.toInCall.ns, fun i y v h1 h2 h3 => ?_⟩, fun y c h => ⟨_, x.cell y c h⟩, e0.hok.fresh (Nat.le_refl _), fun y c h => ?_, fun p hp => absurd (show p ∈ ([] : List (Addr × Obj)) from hp) (by simp), e0.hok.kept hk, ?_⟩
  · exact name_of_addr x.apart (PySem.mem_of_lookup h1) (PySem.mem_of_lookup h2)
  · have hy : scope.names.lookup y = some .cell ∨ scope.names.lookup y = some .free := hy
    rcases hy with hy | hy
    · exact cell_has hy
    · exact absurd rfl (S.nofree _ (PySem.mem_of_lookup hy))
  · exact Nat.le_of_lt (x.above y c (PySem.mem_of_lookup h))
  · have hi : i < vs.length := by
      unfold start at h2
      by_cases hi : i < vs.length
      · exact hi
      · rw [List.getElem?_append_right (by simpa using hi)] at h2
        rw [List.getElem?_replicate] at h2
        split at h2 <;> cases h2
    have ha : vs[i]? = some v := by
      unfold start at h2
      rw [List.getElem?_append_left (by simpa using hi), List.getElem?_map] at h2
      cases e : vs[i]? with
      | none => rw [e] at h2; cases h2
      | some a => rw [e] at h2; cases h2; rfl
    obtain ⟨u, hu, rv⟩ := r.get ha
    have hp : ps[i]? = some y := by
      rw [← S.pre, List.getElem?_take_of_lt (by omega)]; exact h1
    have ndP : ps.Nodup := by rw [← S.pre]; exact S.nd.sublist (List.take_sublist _ _)
    refine ⟨u, rv, ?_⟩
    rcases S.par y (List.mem_of_getElem? hp) with k | k
    · exact .inl ⟨k, bindL_get ndP hp hu k⟩
    · obtain ⟨c, e⟩ := cell_has (n := s.heap.objs.size + 1) k
      refine .inr ⟨.inl k, c, e, ?_⟩
      have q := x.cell y c e
      rw [bindC_get ndP hp hu (by show scope.names.lookup y ≠ _; rw [k]; decide)] at q
      exact q
  · exact e0.hok.fresh (Nat.le_of_lt (x.above y c (PySem.mem_of_lookup h)))
  · unfold start
    show _ = N.length
    rw [List.length_append, List.length_map, List.length_replicate]
    omega

/-- THE RULE: a def (or a method) of the text, by its body. The body's reading t is chosen for each entry; it is run at the parameters' values -/
theorem fn_of {CX : CXT} {P : Program} {w : World} {K : PySem.W.Frag} {mg : Str → Option Value} {base : Heap} {k : Nat} {f : Addr} {name qual : Str} {params : Arguments} {body : List Stmt} {scope : Scope} {dV kV doc pm cdv ct oc : Value} {an od : Option Addr}
    {osl : Array (Option Value)} {N ps : List Str} {sp : Sp} (lk : K.lookup f = some ⟨oc, od, .func (PySem.W.fnOf name qual params body scope dV kV doc pm an cdv ct), osl⟩) (hcd : PySem.W.codeIn K cdv qual = true) (S : FnScope N ps scope)
    (len : ∀ vs H Q E, sp vs H Q E → vs.length = ps.length)
    (hbody : ∀ (A : Around) (outer : List Env) (s : Shared) (H : Hp) (vs : List V) (Q : VK) (E : XK), Room k (A.deeper (envOfC qual scope s.heap.objs.size f cdv)) → sp vs H Q E →
      ∃ t, PSs (cxOf CX P w K mg base N qual scope f cdv A outer s H E) body t ∧ t { nx := fun _ H' => Q .non H', rt := Q } (start N vs) H) :
    FnOk P w K mg base CX (k + 1) f (PySem.W.fnOf name qual params body scope dV kV doc pm an cdv ct) ps sp := by
  refine ⟨len, fun A outer s H args us vs Q E hr e0 hb r hsp => ?_⟩
  have hl := len _ _ _ _ hsp
  have KX : K.In s.heap := e0.mod.kin.keeps fun b o e => (e0.bs b o e).1
  have lim : s.heap.NoLimit := e0.mod.nolimit.keeps fun b o e => (e0.bs b o e).1
  have hkind : ∀ y ∈ ps.zip us, scope.names.lookup y.1 = some .local ∨ (scope.names.lookup y.1 = some .cell ∧ ((cellsFrom (s.heap.objs.size + 1) scope.names []).lookup y.1).isSome = true) := fun ⟨n, v⟩ hy => by
    rcases S.par n (List.of_mem_zip hy).1 with q | q
    · exact .inl q
    · exact .inr ⟨q, PySem.W.cellsFrom_some _ _ _ (.inl q)⟩
  refine codeAny_call_function hr.depth (KX _ _ lk) rfl S.co S.gen rfl (PySem.W.codeRec_of KX hcd) (hb _ _ _ _ ?_)
  refine wpAny_newFunctionEnv_cells S.kind hkind fun env he s1 x => ?_
  subst he
  refine ⟨lim.keeps x.toInCall.keep, codeAny_func ?_⟩
  obtain ⟨t, ht, hq⟩ := hbody A outer s H vs Q E (hr.deeper _) hsp
  have I : Inv (cxOf CX P w K mg base N qual scope f cdv A outer s H E) [] (start N vs) H s1 := inv_start S hr.hd e0 hl r x
  refine wpAny_mono (ht [] s1 (start N vs) H _ I hq) (fun fl s' hs => ?_) fun e s' hs => hs
  have fin : ∀ {σ' : St} {H' : Hp} {v : V} {u : Value}, Inv (cxOf CX P w K mg base N qual scope f cdv A outer s H E) [] σ' H' s' → RelV v u → Q v H' → CE outer P w H s Q u s' :=
    fun {σ' H' v u} J rv q => ⟨v, H', J.os, J.bare, J.base, J.hok, rv, q⟩
  cases fl with
  | ret u =>
    obtain ⟨v, σ', H', J, rv, q⟩ := hs
    exact fin J rv q
  | next =>
    obtain ⟨σ', H', J, q⟩ := hs
    exact fin (v := V.non) (u := Value.none) J rfl q
  | brk =>
    obtain ⟨_, _, _, q⟩ := hs
    exact False.elim q
  | cont =>
    obtain ⟨_, _, _, q⟩ := hs
    exact False.elim q
end L2

namespace L2
open PySem PySem.Spec PyProof.Rows
section
variable {X : Cx} {x : Str} {p pos : Pos} {e : Expr} {es : List Expr} {t : TA} {id T : String} {r : List V → Hp → VK → Prop}

def tCB (r : List V → Hp → VK → Prop) (t : TA) : TE := fun σ H Q => t σ H fun vs H1 => r vs H1 Q
/-- f(e, ..), f a built-in function -/
theorem pe_callB (hc : CallR X (.builtin id) r) (hg : Gl X x) (hm : X.mg x = none) (hv : bootBuiltins x = some (.builtin id)) (ha : PA X (e :: es) t) (hn : x ≠ "__name__" := by decide) (hdb : (x == ("__debug__" : Str)) = false := by decide)
    (he : starEach (e :: es) X.env = (false, eval e X.env) :: starEach es X.env := by rfl) (hpl : (backTo pos (starEach es X.env)).any (·.1) = false := by rfl) : PE X (.Call (.Name x p) (e :: es) [] pos) (tCB r t) := by
  intro pins s σ H Q I h
  refine wpAny_Call_Name_kw (ld_blt I hg hm hv ?_ hn hdb)
  exact PyProof.Rows.callWith_builtin1 (thn (ha pos pins s σ H _ I h) fun us s1 ⟨vs, H1, I1, r1, q1⟩ => hc pins s1 σ H1 vs us Q I1 r1 q1) he hpl
/-- T(e, ..), T a built-in type -/
theorem pe_callTy (hc : CallR X (.type T) r) (hg : Gl X x) (hm : X.mg x = none) (hv : bootBuiltins x = some (.type T)) (ha : PA X (e :: es) t) (hn : x ≠ "__name__" := by decide) (hdb : (x == ("__debug__" : Str)) = false := by decide)
    (he : starEach (e :: es) X.env = (false, eval e X.env) :: starEach es X.env := by rfl) (hpl : (backTo pos (starEach es X.env)).any (·.1) = false := by rfl) : PE X (.Call (.Name x p) (e :: es) [] pos) (tCB r t) := by
  intro pins s σ H Q I h
  refine wpAny_Call_Name_kw (ld_blt I hg hm hv ?_ hn hdb)
  exact PyProof.Rows.callWith_type1 (thn (ha pos pins s σ H _ I h) fun us s1 ⟨vs, H1, I1, r1, q1⟩ => hc pins s1 σ H1 vs us Q I1 r1 q1) he hpl
end
end L2

namespace HT
open PySem PyProof.Rows

/-- t < u of tuples of ints -/
def lexLt : List Int → List Int → Bool
  | [], [] => false
  | [], _ :: _ => true
  | _ :: _, [] => false
  | x :: xs, y :: ys => if x = y then lexLt xs ys else decide (x < y)
section
open PySem.SeqAt
open PySem.AutoSeq1 (wpAny_loadPart')
open PySem.MeetsSeq PySem.MeetsSeq2 PySem.MeetsSeq3

end

section
variable {prog : Program} {w : World} {A : Around} {E : Value → Shared → Prop} {s : Shared}

/-! ### t[a:b], not the whole -/
/-- a slice's bound as a place among n (d where it is left out) -/
def sIx (n d : Nat) : Option Int → Nat
  | none => d
  | some v => if v < 0 then (v + (n : Int)).toNat else min v.toNat n
theorem sIx_none (n d : Nat) : sIx n d none = d := rfl
theorem sIx_nat (n d k : Nat) : sIx n d (some (k : Int)) = min k n := by
  show (if (k : Int) < 0 then ((k : Int) + (n : Int)).toNat else min (k : Int).toNat n) = min k n
  rw [if_neg (by omega), Int.toNat_natCast]
end
end HT

namespace L2
open PySem PySem.Spec PyProof.Rows

/-! ### the parts of a slice -/
abbrev TO := St → Hp → (Option Int → Hp → Prop) → Prop
/-- a slice's part (left out, or an int) -/
def PO (X : Cx) (e : Option Expr) (t : TO) : Prop :=
  ∀ (pins : List (Addr × Obj)) (s : Shared) (σ : St) (H : Hp) (Q : Option Int → Hp → Prop), Inv X pins σ H s → t σ H Q →
    wpAny (model X.prog X.w) X.A (evalPart e X.env) (fun u s' => ∃ o H', Inv X pins σ H' s' ∧ IsPart u o ∧ Q o H') X.xe s
def tNoPart : TO := fun _ H Q => Q none H
def tPart (t : TE) : TO := fun σ H Q => t σ H fun x H1 => ∃ i, x = .int i ∧ Q (some i) H1

theorem intsAre_of {ns : List Int} : ∀ {us : List Value}, Vals (ns.map V.int) us → IntsAre us ns := by
  induction ns with
  | nil => intro us r; rw [List.map_nil] at r; cases r; exact .nil
  | cons n ns ih =>
    intro us r
    rw [List.map_cons] at r
    cases r with
    | cons r1 r2 =>
      obtain ⟨t, e⟩ := r1
      subst e
      exact .cons n t (ih r2)

section
variable {X : Cx} {e : Expr} {te : TE} {lo hi : Option Expr} {tl th : TO} {pos p2 : Pos}

theorem po_none : PO X none tNoPart := by
  intro pins s σ H Q I h
  rw [evalPart_none]
  exact wpAny_pure ⟨none, H, I, .none, h⟩
theorem po_some (h : PE X e te) : PO X (some e) (tPart te) := by
  intro pins s σ H Q I hw
  rw [evalPart_some]
  refine thn (h pins s σ H _ I hw) fun u s1 ⟨x, H1, I1, r1, q1⟩ => ?_
  obtain ⟨i, rfl, q⟩ := q1
  obtain ⟨t, rfl⟩ := r1
  exact ⟨some i, H1, I1, .int i t, q⟩

/-- what a slice of a value is, by values: the slice object stands at sl -/
def SlR (X : Cx) (r : V → Option Int → Option Int → Hp → VK → Prop) : Prop :=
  ∀ (pins : List (Addr × Obj)) (s : Shared) (σ : St) (H : Hp) (x : V) (v vl vu : Value) (lo hi : Option Int) (sl : Addr) (Q : VK), Inv X pins σ H s → RelV x v → s.heap.IsSliceOf sl vl vu .none → IsPart vl lo → IsPart vu hi → r x lo hi H Q →
    ∃ T id, typeLookup (.type T) "__getitem__" = pure (some (.builtin id)) ∧ s.TypeIs v T ∧ wpAny (model X.prog X.w) X.A (getItem v (.ref sl)) (EP X pins σ Q) X.xe s
def tSl (r : V → Option Int → Option Int → Hp → VK → Prop) (te : TE) (tl th : TO) : TE := fun σ H Q => te σ H fun x H1 => tl σ H1 fun l H2 => th σ H2 fun u H3 => r x l u H3 Q
/-- a[lo:hi], any a -/
theorem pe_slice {r : V → Option Int → Option Int → Hp → VK → Prop} (hr : SlR X r) (he : PE X e te) (hl : PO X lo tl) (hu : PO X hi th) : PE X (.Subscript e (.Slice lo hi none p2) pos) (tSl r te tl th) := by
  intro pins s σ H Q I h
  refine Subscript_ (thn (he pins s σ H _ I h) fun v s1 ⟨x, H1, I1, r1, q1⟩ => ?_)
  refine wpAny_Slice (thn (hl pins s1 σ H1 _ I1 q1) fun vl s2 ⟨l, H2, I2, pl, q2⟩ => thn (hu pins s2 σ H2 _ I2 q2) fun vu s3 ⟨u, H3, I3, pu, q3⟩ => ?_)
  rw [evalPart_none]
  refine wpAny_pure ?_
  have I4 : Inv X pins σ H3 { s3 with heap := s3.heap.push { cls := .type "slice", data := .fields #[vl, vu, .none] } } := I3.kept (t' := s3.toks) fun b ob q => Heap.get?_push_of_some _ q
  obtain ⟨T, id, hT, ht, hg⟩ := hr pins { s3 with heap := s3.heap.push { cls := .type "slice", data := .fields #[vl, vu, .none] } } σ H3 x v vl vu l u s3.heap.objs.size Q I4 r1 (Heap.IsSliceOf.new ..) pl pu q3
  show wpAny (model X.prog X.w) X.A (subscriptTail e (.Slice lo hi none p2) v (.ref s3.heap.objs.size)) (EP X pins σ Q) X.xe { s3 with heap := s3.heap.push { cls := .type "slice", data := .fields #[vl, vu, .none] } }
  exact tail_any (ops := [.ref s3.heap.objs.size, v]) ht hT hg (by with_unfolding_all rfl)

/-- the items of xs[lo:hi] -/
def cutV (xs : List V) (lo hi : Option Int) : List V := (xs.drop (HT.sIx xs.length 0 lo)).take (HT.sIx xs.length xs.length hi - HT.sIx xs.length 0 lo)
theorem cutV_length (xs : List V) (lo hi : Option Int) : (cutV xs lo hi).length ≤ xs.length := by
  unfold cutV
  rw [List.length_take, List.length_drop]
  omega
/-- t[lo:hi], not the whole of it (the whole would be t itself) -/
def rSlT (K : PySem.W.Frag) : V → Option Int → Option Int → Hp → VK → Prop := fun x lo hi H Q => ∃ a xs, x = .ref a ∧ SqT K H a xs ∧
  ¬ (HT.sIx xs.length 0 lo = 0 ∧ HT.sIx xs.length xs.length hi = xs.length) ∧ ∀ p, H p = none → Q (.ref p) (upd H p (.tup (cutV xs lo hi)))
/-! ### t < u, t + u -/
def rLtT (K : PySem.W.Frag) : R2 := fun x y H Q => ∃ a b ns ms, x = .ref a ∧ y = .ref b ∧ SqT K H a (ns.map V.int) ∧ SqT K H b (ms.map V.int) ∧ Q (.bl (HT.lexLt ns ms)) H
/-- t + u, t not empty: u empty gives t itself -/
def rCatT (K : PySem.W.Frag) : R2 := fun x y H Q => ∃ a b xs ys, x = .ref a ∧ y = .ref b ∧ SqT K H a xs ∧ SqT K H b ys ∧ xs ≠ [] ∧ xs.length + ys.length ≤ sizeLine ∧
  (ys = [] → Q (.ref a) H) ∧ (ys ≠ [] → ∀ p, H p = none → Q (.ref p) (upd H p (.tup (xs ++ ys))))
end
end L2

namespace L2
open PySem PySem.Spec PyProof.Rows

/-! ### places -/
/-- the place that an index of any sign means -/
def ixN (n : Nat) (i : Int) : Option Nat := if 0 ≤ i then (if i < n then some i.toNat else none) else if -(n : Int) ≤ i then some (i + n).toNat else none
def atI {α : Type} (xs : List α) (i : Int) : Option α := (ixN xs.length i).bind fun j => xs[j]?
theorem ixN_seq {n : Nat} {i : Int} {j : Nat} (h : ixN n i = some j) : seqIndex? i n = some j ∧ j < n ∧ -(n : Int) ≤ i ∧ i < n := by
  unfold ixN at h
  by_cases h0 : 0 ≤ i
  · rw [if_pos h0] at h
    by_cases h1 : i < n
    · rw [if_pos h1] at h
      have e : i.toNat = j := Option.some.inj h
      exact ⟨by rw [seqIndex_of h0 h1, e], by omega, by omega, h1⟩
    · rw [if_neg h1] at h; cases h
  · rw [if_neg h0] at h
    by_cases h1 : -(n : Int) ≤ i
    · rw [if_pos h1] at h
      have e : (i + n).toNat = j := Option.some.inj h
      exact ⟨by rw [seqIndex_neg (by omega) h1, e], by omega, h1, by omega⟩
    · rw [if_neg h1] at h; cases h
theorem atI_get {α : Type} {xs : List α} {i : Int} {v : α} (h : atI xs i = some v) : ∃ j, seqIndex? i xs.length = some j ∧ xs[j]? = some v ∧ j < xs.length ∧ -(xs.length : Int) ≤ i ∧ i < xs.length := by
  unfold atI at h
  cases e : ixN xs.length i with
  | none => rw [e] at h; cases h
  | some j =>
    rw [e] at h
    obtain ⟨h1, h2, h3, h4⟩ := ixN_seq e
    exact ⟨j, h1, h, h2, h3, h4⟩
theorem atI_nat {α : Type} {xs : List α} {j : Nat} {v : α} (h : xs[j]? = some v) : atI xs (j : Int) = some v := by
  have hj : j < xs.length := (List.getElem?_eq_some_iff.mp h).1
  have e : ixN xs.length (j : Int) = some j := by
    unfold ixN
    rw [if_pos (by omega), if_pos (by omega)]; simp
  unfold atI; rw [e]; exact h
/-! ### what may be subscripted -/
/-- what stands as an index of a plain subscript -/
def PlainIx (b : Expr) : Prop := ∀ o i, subscripted b false o i = operate [o, i] (getItem o i)
/-- a subscript by values -/
def IxR (X : Cx) (r : R2) : Prop :=
  ∀ (value slice : Expr) (pins : List (Addr × Obj)) (s : Shared) (σ : St) (H : Hp) (x y : V) (v u : Value) (Q : VK), Inv X pins σ H s → RelV x v → RelV y u → r x y H Q →
    subscripted slice false v u = operate [v, u] (getItem v u) → wpAny (model X.prog X.w) X.A (subscriptTail value slice v u) (EP X pins σ Q) X.xe s
/-- a call of a builtin's method by values: the receiver, the arguments -/
def MtR (X : Cx) (id : String) (r : V → List V → Hp → VK → Prop) : Prop :=
  ∀ (pins : List (Addr × Obj)) (s : Shared) (σ : St) (H : Hp) (x : V) (xs : List V) (v : Value) (us : List Value) (Q : VK), Inv X pins σ H s → RelV x v → Vals xs us → r x xs H Q →
    wpAny (model X.prog X.w) X.A (call (.builtin id) (v :: us)) (EP X pins σ Q) X.xe s
section
variable {X : Cx} {a b : Expr} {ta tb : TE} {pos : Pos}
/-- a[b] -/
theorem pe_ix {r : R2} (hr : IxR X r) (ha : PE X a ta) (hb : PE X b tb) (hs : PlainIx b) : PE X (.Subscript a b pos) (tOp r ta tb) := by
  intro pins s σ H Q I h
  exact Subscript_ (binT ha hb I h fun v u s2 x y H2 I2 rx ry q => hr a b pins s2 σ H2 x y v u Q I2 rx ry q (hs _ _))

inductive rIxLI (K : PySem.W.Frag) (x : V) (y : V) (H : Hp) (Q : VK) : Prop
  | mk (p : _) (xs : _) (i : _) (v : _) (z0 : x = .ref p) (z1 : y = .int i) (z2 : SqL K H p xs) (z3 : atI xs i = some v) (z4 : Q v H)
def rIxL (K : PySem.W.Frag) : R2 := fun x y H Q => rIxLI K x y H Q
inductive rIxTI (K : PySem.W.Frag) (x : V) (y : V) (H : Hp) (Q : VK) : Prop
  | mk (p : _) (xs : _) (i : _) (v : _) (z0 : x = .ref p) (z1 : y = .int i) (z2 : SqT K H p xs) (z3 : atI xs i = some v) (z4 : Q v H)
def rIxT (K : PySem.W.Frag) : R2 := fun x y H Q => rIxTI K x y H Q
def rIxS : R2 := fun x y H Q => ∃ z i c, x = .str z ∧ y = .int i ∧ z.length ≤ sizeLine ∧ atI z.cps.toList i = some c ∧ Q (.str ⟨#[c]⟩) H
theorem ix_list : IxR X (rIxL X.K) := by
  intro value slice pins s σ H x y v u Q I rx ry h hs
  obtain ⟨p, xs, i, z, rfl, rfl, hq, he, q⟩ := h
  cases rx
  obtain ⟨t, rfl⟩ := ry
  obtain ⟨its, r, pl, hz⟩ := I.list hq
  obtain ⟨j, h1, h2, h3, h4, h5⟩ := atI_get he
  obtain ⟨w, ew, rw'⟩ := r.get h2
  have hl := r.length
  have hn := line63
  have fin : EP X pins σ Q w s := ⟨z, H, I, rw', q⟩
  by_cases h0 : 0 ≤ i
  · have hj : i.toNat = j := by
      rw [seqIndex_of h0 h5] at h1
      exact Option.some.inj h1
    exact item_listR pl.isList h0 (by omega) (by rw [hj]; simpa using ew) fin hs
  · have hj : (i + (its.toArray.size : Int)).toNat = j := by
      rw [seqIndex_neg (by omega) h4] at h1
      rw [List.size_toArray, ← hl]
      exact Option.some.inj h1
    exact subscriptTail_builtinR (x := w) pl.isList.typeIs slot_list_getitem.lookup
      (wpAny_getItem_list_neg (Q := fun r s' => r = w ∧ EP X pins σ Q r s') pl.isList (by omega) (by rw [List.size_toArray] <;> omega) (by omega) (by rw [hj]; simpa using ew) ⟨rfl, fin⟩) hs
theorem ix_tup : IxR X (rIxT X.K) := by
  intro value slice pins s σ H x y v u Q I rx ry h hs
  obtain ⟨p, xs, i, z, rfl, rfl, hq, he, q⟩ := h
  cases rx
  obtain ⟨t, rfl⟩ := ry
  obtain ⟨its, r, pl, hz⟩ := I.tuple hq
  obtain ⟨j, h1, h2, h3, h4, h5⟩ := atI_get he
  obtain ⟨w, ew, rw'⟩ := r.get h2
  have hl := r.length
  have hn := line63
  have fin : EP X pins σ Q w s := ⟨z, H, I, rw', q⟩
  exact subscriptTail_builtinR (x := w) pl.typeIs slot_tuple_getitem.lookup
    (getItem_tuple (j := j) (Q := fun r s' => r = w ∧ EP X pins σ Q r s') pl (by omega) (by omega) (by rw [List.size_toArray, ← hl]; exact h1) (by simpa using ew) ⟨rfl, fin⟩) hs
/-- list, tuple or str -/
def rIx (K : PySem.W.Frag) : R2 := fun x y H Q => rIxL K x y H Q ∨ rIxT K x y H Q ∨ rIxS x y H Q
/-! ### xs[i] = v, any sign -/
/-- the list's object behind a store -/
theorem mapSeq_set (its : List Value) (n j : Nat) (u : Value) : Obj.mapSeq (·.setIfInBounds j u) { cls := .type "list", data := .seq its.toArray n } = { cls := .type "list", data := .seq (its.set j u).toArray n } := by
  simp [Obj.mapSeq]
theorem Inv.lst {pins : List (Addr × Obj)} {σ : St} {H : Hp} {s : Shared} {p : Addr} {xs : List V} (I : Inv X pins σ H s) (h : H p = some (.lst xs)) :
    ∃ (its : List Value) (n : Nat), Vals xs its ∧ s.heap.get? p = some { cls := .type "list", data := .seq its.toArray n } ∧ xs.length ≤ sizeLine := by
  obtain ⟨z, its, n, r, e⟩ := I.hok p _ h
  exact ⟨its, n, r, e, z⟩
/-- the list at p is written by an update of its object -/
theorem Inv.lstUpd {pins : List (Addr × Obj)} {σ : St} {H : Hp} {s : Shared} {p : Addr} {xs ys : List V} {its its' : List Value} {n n' : Nat} {f : Obj → Obj} (I : Inv X pins σ H s) (h : H p = some (.lst xs))
    (ho : s.heap.get? p = some { cls := .type "list", data := .seq its.toArray n }) (hf : f { cls := .type "list", data := .seq its.toArray n } = { cls := .type "list", data := .seq its'.toArray n' }) (r : Vals ys its') (hz : ys.length ≤ sizeLine) (t : Nat) :
    Inv X pins σ (upd H p (.lst ys)) { s with heap := s.heap.update p f, toks := t } := by
  have e : (s.heap.update p f).get? p = some { cls := .type "list", data := .seq its'.toArray n' } := by
    rw [Heap.get?_update_self f ho (by rw [hf] <;> rfl), hf]
  refine I.write (x := p) (e := p) (by rw [h]; trivial) (.inl rfl) (fun b u hb q => (Heap.get?_update_other _ _ (Ne.symm hb)).trans q) ⟨_, e⟩ ?_
  exact ⟨hz, its', n', r, e⟩
inductive rSetLI (o : V) (i : V) (v : V) (H : Hp) (Q : Hp → Prop) : Prop
  | mk (p : _) (xs : _) (k : _) (j : _) (z0 : o = .ref p) (z1 : i = .int k) (z2 : H p = some (.lst xs)) (z3 : ixN xs.length k = some j) (z4 : Q (upd H p (.lst (xs.set j v))))
def rSetL  : V → V → V → Hp → (Hp → Prop) → Prop := fun o i v H Q => rSetLI o i v H Q
theorem set_list : PSet X rSetL := by
  intro pins s σ H o i v ov iv u Q I ro ri rv h
  obtain ⟨p, xs, k, j, rfl, rfl, hp, hj, q⟩ := h
  cases ro
  obtain ⟨t, rfl⟩ := ri
  obtain ⟨its, n, r, ho, hz⟩ := I.lst hp
  obtain ⟨h1, h2, h3, h4⟩ := ixN_seq hj
  have hl := r.length
  have hn := line63
  have I' : Inv X pins σ (upd H p (.lst (xs.set j v))) { s with heap := s.heap.update p (Obj.mapSeq (·.setIfInBounds j u)) } :=
    I.lstUpd hp ho (mapSeq_set its n j u) (r.set rv j) (by rw [List.length_set]; exact hz) s.toks
  by_cases h0 : 0 ≤ k
  · have hk : k.toNat = j := by
      rw [seqIndex_of h0 h4] at h1
      exact Option.some.inj h1
    exact PySem.W.ki_setAt ho h0 (by omega) (by rw [List.size_toArray, ← hl]; exact h4) (by rw [hk]; exact ⟨_, I', q⟩)
  · have hk : (k + (its.toArray.size : Int)).toNat = j := by
      rw [seqIndex_neg (by omega) h3] at h1
      rw [List.size_toArray, ← hl]
      exact Option.some.inj h1
    exact PySem.W.ki_setBack ho (by omega) (by rw [List.size_toArray, ← hl]; exact h3) (by omega) (by rw [hk]; exact ⟨_, I', q⟩)

/-! ### slices -/
theorem slice_bounds (lo hi : Option Int) (n : Nat) : (sliceBounds lo hi none n).1 = ((HT.sIx n 0 lo : Nat) : Int) ∧ (sliceBounds lo hi none n).2.1 = ((HT.sIx n n hi : Nat) : Int) ∧ (sliceBounds lo hi none n).2.2 = 1 := by
  refine ⟨?_, ?_, rfl⟩
  · cases lo with
    | none => simp [sliceBounds, HT.sIx]
    | some i =>
      simp only [sliceBounds, HT.sIx, Option.getD_none, show (1 : Int) > 0 by decide, if_true]
      by_cases h : i < 0
      · simp only [h, if_true] <;> omega
      · simp only [h, if_false] <;> omega
  · cases hi with
    | none => simp [sliceBounds, HT.sIx]
    | some i =>
      simp only [sliceBounds, HT.sIx, Option.getD_none, show (1 : Int) > 0 by decide, if_true]
      by_cases h : i < 0
      · simp only [h, if_true] <;> omega
      · simp only [h, if_false] <;> omega
theorem slicePick_cut (its : List Value) (lo hi : Option Int) : slicePick its.toArray lo hi none = ((its.drop (HT.sIx its.length 0 lo)).take (HT.sIx its.length its.length hi - HT.sIx its.length 0 lo)).toArray := by
  obtain ⟨h1, h2, h3⟩ := slice_bounds lo hi its.toArray.size
  unfold slicePick
  rw [h1, h2, h3]
  simp only [sliceRange_one, pick_run, List.size_toArray] <;> rfl
/-- xs[lo:hi] of a list: a new list -/
inductive rSlLI (K : PySem.W.Frag) (x : V) (lo : Option Int) (hi : Option Int) (H : Hp) (Q : VK) : Prop
  | mk (a : _) (xs : _) (z0 : x = .ref a) (z1 : SqL K H a xs) (z2 : ∀ p, H p = none → Q (.ref p) (upd H p (.lst (cutV xs lo hi))))
def rSlL (K : PySem.W.Frag) : V → Option Int → Option Int → Hp → VK → Prop := fun x lo hi H Q => rSlLI K x lo hi H Q
theorem sl_list : SlR X (rSlL X.K) := by
  intro pins s σ H x v vl vu lo hi sl Q I rx hs pl pu h
  obtain ⟨a, xs, rfl, hx, q⟩ := h
  cases rx
  obtain ⟨its, r, ht, hz⟩ := I.list hx
  have hlen := r.length
  refine ⟨"list", _, slot_list_getitem.lookup, ht.isList.typeIs, ?_⟩
  refine wpAny_getItem_list_slice ht.isList hs pl pu .none (by simp) ?_ (by rw [List.size_toArray] <;> omega)
  rw [slicePick_cut, ← hlen]
  refine ⟨.ref s.heap.objs.size, _, I.laid (t' := s.toks) (o := .lst (cutV xs lo hi)) (fun b ob q => Heap.get?_push_of_some _ q) (Nat.le_refl _) ?_, rfl, q _ (I.hok.fresh (Nat.le_refl _))⟩
  exact ⟨Nat.le_trans (cutV_length xs lo hi) hz, _, 0, (r.drop (HT.sIx xs.length 0 lo)).take (HT.sIx xs.length xs.length hi - HT.sIx xs.length 0 lo), Heap.get?_push_size _ rfl⟩

/-! ### in, not in: flat items -/
def flatV : V → Bool
  | .non => true
  | .bl _ => true
  | .int _ => true
  | .str _ => true
  | _ => false
/-- == of flat values -/
def eqV : V → V → Bool
  | .non, .non => true
  | .bl a, .bl b => a == b
  | .bl a, .int b => (if a then 1 else 0) == b
  | .int a, .bl b => a == (if b then 1 else 0)
  | .int a, .int b => a == b
  | .str a, .str b => a == b
  | _, _ => false
theorem eqAt_V {A : Around} {s : Shared} {y x : V} {u v : Value} (ry : RelV y u) (rx : RelV x v) (fy : flatV y = true) (fx : flatV x = true) : SeqAt.EqAt A s u v (eqV y x) := by
  cases y with
  | non =>
    cases ry
    cases x with
    | non => cases rx; exact SeqAt.EqAt.same _
    | bl b => cases rx; exact SeqAt.EqAt.none_bool b
    | int b => obtain ⟨t, rfl⟩ := rx; exact SeqAt.EqAt.none_int b t
    | str b => obtain ⟨t, rfl⟩ := rx; exact SeqAt.EqAt.none_str b t
    | _ => exact absurd (show false = true from fx) Bool.false_ne_true
  | bl a =>
    cases ry
    cases x with
    | non => cases rx; exact SeqAt.EqAt.bool_none a
    | bl b => cases rx; exact SeqAt.EqAt.bool_bool a b
    | int b => obtain ⟨t, rfl⟩ := rx; exact SeqAt.EqAt.bool_int a b t
    | str b => obtain ⟨t, rfl⟩ := rx; exact SeqAt.EqAt.bool_str a b t
    | _ => exact absurd (show false = true from fx) Bool.false_ne_true
  | int a =>
    obtain ⟨t', rfl⟩ := ry
    cases x with
    | non => cases rx; exact SeqAt.EqAt.int_none a t'
    | bl b => cases rx; exact SeqAt.EqAt.int_bool a t' b
    | int b => obtain ⟨t, rfl⟩ := rx; exact SeqAt.EqAt.int_int a t' b t
    | str b => obtain ⟨t, rfl⟩ := rx; exact SeqAt.EqAt.int_str a t' b t
    | _ => exact absurd (show false = true from fx) Bool.false_ne_true
  | str a =>
    obtain ⟨t', rfl⟩ := ry
    cases x with
    | non => cases rx; exact SeqAt.EqAt.str_none a t'
    | bl b => cases rx; exact SeqAt.EqAt.str_bool a t' b
    | int b => obtain ⟨t, rfl⟩ := rx; exact SeqAt.EqAt.str_int a t' b t
    | str b => obtain ⟨t, rfl⟩ := rx; exact SeqAt.EqAt.str_str a t' b t
    | _ => exact absurd (show false = true from fx) Bool.false_ne_true
  | _ => exact absurd (show false = true from fy) Bool.false_ne_true
/-- the items' answers, read off the values (a value's own answer does not lean on its token) -/
def eqU (x : V) (u : Value) : Bool := match u with
  | .none => eqV .non x
  | .bool b => eqV (.bl b) x
  | .int i _ => eqV (.int i) x
  | .str z _ => eqV (.str z) x
  | _ => false
theorem eqU_of {x y : V} {u : Value} (r : RelV y u) (f : flatV y = true) : eqU x u = eqV y x := by
  cases y with
  | non => cases r; rfl
  | bl b => cases r; rfl
  | int i => obtain ⟨t, rfl⟩ := r; rfl
  | str z => obtain ⟨t, rfl⟩ := r; rfl
  | _ => exact absurd (show false = true from f) Bool.false_ne_true
theorem any_eqU {x : V} : ∀ {xs : List V} {us : List Value}, Vals xs us → xs.all flatV = true → us.any (eqU x) = xs.any fun y => eqV y x
  | _, _, .nil, _ => rfl
  | y :: xs, u :: us, .cons r t, f => by
    rw [List.all_cons, Bool.and_eq_true] at f
    rw [List.any_cons, List.any_cons, eqU_of r f.1, any_eqU t f.2]
theorem mem_eqAt {A : Around} {s : Shared} {x : V} {v : Value} (rx : RelV x v) (fx : flatV x = true) : ∀ {xs : List V} {us : List Value}, Vals xs us → xs.all flatV = true → ∀ u ∈ us, SeqAt.EqAt A s u v (eqU x u)
  | _, _, .nil, _ => fun u hu => by cases hu
  | y :: xs, u :: us, .cons r t, f => fun u' hu => by
    rw [List.all_cons, Bool.and_eq_true] at f
    rcases List.mem_cons.mp hu with rfl | hu
    · rw [eqU_of r f.1]; exact eqAt_V r rx f.1 fx
    · exact mem_eqAt rx fx t f.2 u' hu
def inV (x : V) (xs : List V) : Bool := xs.any fun y => eqV y x
/-- x in a list or tuple of flat items -/
inductive rInI (K : PySem.W.Frag) (neg : Bool) (x : V) (y : V) (H : Hp) (Q : VK) : Prop
  | mk (p : _) (xs : _) (z0 : y = .ref p) (z1 : (SqL K H p xs ∨ SqT K H p xs)) (z2 : flatV x = true) (z3 : xs.all flatV = true) (z4 : Q (.bl (if neg then !inV x xs else inV x xs)) H)
def rIn (K : PySem.W.Frag) (neg : Bool) : R2 := fun x y H Q => rInI K neg x y H Q
theorem op_in_seq : OpR X (compareOp .In) (rIn X.K false) := by
  intro pins s σ H x y v u Q I rx ry h
  obtain ⟨p, xs, rfl, hq, fx, fs, q⟩ := h
  cases ry
  rcases hq with hq | hq
  · obtain ⟨its, r, pl, hz⟩ := I.list hq
    refine SeqAt.in_listAt (eqU x) pl.isList (fun w hw => mem_eqAt rx fx r fs w (by simpa using hw)) ⟨.bl _, H, I, rfl, ?_⟩
    rw [show its.toArray.any (eqU x) = its.any (eqU x) by simp, any_eqU r fs]
    exact q
  · obtain ⟨its, r, pl, hz⟩ := I.tuple hq
    refine SeqAt.in_tupleAt (eqU x) pl (fun w hw => mem_eqAt rx fx r fs w (by simpa using hw)) ⟨.bl _, H, I, rfl, ?_⟩
    rw [show its.toArray.any (eqU x) = its.any (eqU x) by simp, any_eqU r fs]
    exact q
theorem op_notIn_seq : OpR X (compareOp .NotIn) (rIn X.K true) := by
  intro pins s σ H x y v u Q I rx ry h
  obtain ⟨p, xs, rfl, hq, fx, fs, q⟩ := h
  cases ry
  rcases hq with hq | hq
  · obtain ⟨its, r, pl, hz⟩ := I.list hq
    refine SeqAt.notIn_listAt (eqU x) pl.isList (fun w hw => mem_eqAt rx fx r fs w (by simpa using hw)) ⟨.bl _, H, I, rfl, ?_⟩
    rw [show its.toArray.any (eqU x) = its.any (eqU x) by simp, any_eqU r fs]
    exact q
  · obtain ⟨its, r, pl, hz⟩ := I.tuple hq
    refine SeqAt.notIn_tupleAt (eqU x) pl (fun w hw => mem_eqAt rx fx r fs w (by simpa using hw)) ⟨.bl _, H, I, rfl, ?_⟩
    rw [show its.toArray.any (eqU x) = its.any (eqU x) by simp, any_eqU r fs]
    exact q
/-! ### len, list(x), tuple(x) of any list or tuple that is read -/
theorem call_len_seq : CallR X (.builtin "len") (fun xs H Q => ∃ p ys, xs = [.ref p] ∧ (SqL X.K H p ys ∨ SqT X.K H p ys) ∧ Q (.int ys.length) H) := by
  intro pins s σ H xs us Q I r h
  obtain ⟨p, ys, rfl, hq, q⟩ := h
  obtain ⟨u, rfl, rx⟩ := vals1 r
  cases rx
  have hn := line63
  rcases hq with hq | hq
  · obtain ⟨its, r', pl, hz⟩ := I.list hq
    have hlen := r'.length
    exact Calls.call_len_list pl.isList (by simp only [List.size_toArray] <;> omega) ⟨.int ys.length, H, I.tok _, ⟨s.toks + 1, by rw [List.size_toArray, hlen]⟩, q⟩
  · obtain ⟨its, r', pl, hz⟩ := I.tuple hq
    have hlen := r'.length
    exact len_tuple pl (by simp only [List.size_toArray] <;> omega) ⟨.int ys.length, H, I.tok _, ⟨s.toks + 1, by rw [List.size_toArray, hlen]⟩, q⟩
theorem call_list_of : CallR X (.type "list") (fun xs H Q => ∃ p ys, xs = [.ref p] ∧ (SqL X.K H p ys ∨ SqT X.K H p ys) ∧ ∀ l, H l = none → Q (.ref l) (upd H l (.lst ys))) := by
  intro pins s σ H xs us Q I r h
  obtain ⟨p, ys, rfl, hq, q⟩ := h
  obtain ⟨u, rfl, rx⟩ := vals1 r
  cases rx
  have fin : ∀ (its : List Value), Vals ys its → ys.length ≤ sizeLine → ∀ (h' : Heap) (c' : Nat), (∀ b o', s.heap.get? b = some o' → h'.get? b = some o') →
      h'.get? s.heap.objs.size = some { cls := .type "list", dict := none, data := .seq its.toArray c', slots := #[] } → EP X pins σ Q (.ref s.heap.objs.size) { s with heap := h' } := fun its r' hz h' c' kp e =>
    ⟨.ref s.heap.objs.size, _, I.laid (t' := s.toks) kp (Nat.le_refl _) (show ObjOk X.prog X.w _ h' _ (.lst ys) from ⟨hz, its, c', r', e⟩), rfl, q _ (I.hok.fresh (Nat.le_refl _))⟩
  rcases hq with hq | hq
  · obtain ⟨its, r', pl, hz⟩ := I.list hq
    have hlen := r'.length
    obtain ⟨o, ho, hc, n, hd⟩ := pl.isList
    exact call_list_seq p (.inl rfl) ho hc hd (fun h' c' kp e => fin its r' hz h' c' kp e) (by simp only [List.size_toArray] <;> omega)
  · obtain ⟨its, r', pl, hz⟩ := I.tuple hq
    have hlen := r'.length
    obtain ⟨o, ho, hc, n, hd⟩ := pl
    exact call_list_seq p (.inr rfl) ho hc hd (fun h' c' kp e => fin its r' hz h' c' kp e) (by simp only [List.size_toArray] <;> omega)
/-! ### the call of a builtin's method: o.m(..) -/
/-- the value is of that builtin type -/
def tyV (K : PySem.W.Frag) (T : String) (x : V) (H : Hp) : Prop := match x with
  | .str _ => T = "str"
  | .int _ => T = "int"
  | .ref p => (T = "list" ∧ ∃ xs, SqL K H p xs) ∨ (T = "tuple" ∧ ∃ o, K.lookup p = some o ∧ o.cls = .type "tuple" ∧ o.dict = none) ∨
      (T = "dict" ∧ ((∃ kvs, H p = some (.dK kvs)) ∨ ∃ kvs, H p = some (.dT kvs))) ∨ (T = "set" ∧ ∃ S n, H p = some (.set S n))
  | _ => False
theorem tyV_is {pins : List (Addr × Obj)} {σ : St} {H : Hp} {s : Shared} {T : String} {x : V} {v : Value} (I : Inv X pins σ H s) (r : RelV x v) (ty : tyV X.K T x H) :
    s.TypeIs v T ∧ ∀ a, v = .ref a → ∃ ob, s.heap.get? a = some ob ∧ ob.dict = none := by
  cases x with
  | str z =>
    obtain ⟨t, rfl⟩ := r
    cases (show T = "str" from ty)
    exact ⟨typeIs_str s z t, fun _ e => nomatch e⟩
  | int i =>
    obtain ⟨t, rfl⟩ := r
    cases (show T = "int" from ty)
    exact ⟨typeIs_int s i t, fun _ e => nomatch e⟩
  | ref p =>
    cases r
    rcases ty with ⟨rfl, xs, hq⟩ | ⟨rfl, o, hk, hc, hd⟩ | ⟨rfl, hk⟩ | ⟨rfl, S, n, hk⟩
    · obtain ⟨its, _, pl, _⟩ := I.list hq
      refine ⟨pl.isList.typeIs, fun a e => ?_⟩
      cases e
      obtain ⟨o, n, e, c, hd, _⟩ := pl
      exact ⟨o, e, hd⟩
    · refine ⟨⟨o, I.kIn p o hk, hc⟩, fun a e => ?_⟩
      cases e
      exact ⟨o, I.kIn _ o hk, hd⟩
    · have z : ∃ o, s.heap.get? p = some o ∧ o.ExactDict := by
        rcases hk with ⟨kvs, hk⟩ | ⟨kvs, hk⟩
        · obtain ⟨_, _, _, _, o, _, _, e, ex, _⟩ := I.hok p _ hk
          exact ⟨o, e, ex⟩
        · obtain ⟨_, _, _, _, o, _, _, e, ex, _⟩ := I.hok p _ hk
          exact ⟨o, e, ex⟩
      obtain ⟨o, e, ex⟩ := z
      refine ⟨⟨o, e, ex.1⟩, fun a e2 => ?_⟩
      cases e2
      exact ⟨o, e, ex.2.1⟩
    · obtain ⟨o, _, _, _, e, ex, _⟩ := I.hok p _ hk
      refine ⟨⟨o, e, ex.1⟩, fun a e2 => ?_⟩
      cases e2
      exact ⟨o, e, ex.2.1⟩
  | _ => exact False.elim ty
def tBM0 (K : PySem.W.Frag) (T : String) (r : V → List V → Hp → VK → Prop) (to : TE) : TE := fun σ H Q => to σ H fun x H1 => tyV K T x H1 ∧ r x [] H1 Q
def tBM (K : PySem.W.Frag) (T : String) (r : V → List V → Hp → VK → Prop) (to : TE) (t : TA) : TE := fun σ H Q => to σ H fun x H1 => tyV K T x H1 ∧ t σ H1 fun xs H2 => r x xs H2 Q
variable {o e : Expr} {es : List Expr} {to : TE} {t : TA} {name : Str} {apos cpos : Pos} {T id : String} {r : V → List V → Hp → VK → Prop}
theorem pe_bm0 (pa : PlainAttrs T) (slot : Slot T name id) (hty : typeOf (.builtin id) = pure (.type "method_descriptor")) (hm : MtR X id r) (ho : PE X o to)
    (hbase : attributeBase o name X.env (eval o X.env) = eval o X.env := by rfl) (hline : (apos.endLine == cpos.line) = true := by rfl) : PE X (.Call (.Attribute o name apos) [] [] cpos) (tBM0 X.K T r to) := by
  intro pins s σ H Q I h
  refine wpAny_Call_method0_late hbase hline (thn (ho pins s σ H _ I h) fun v s1 ⟨x, H1, I1, r1, ty, q1⟩ => ?_)
  obtain ⟨h1, h2⟩ := tyV_is I1 r1 ty
  exact ⟨T, id, pa, slot, hty, h1, h2, Calls.callWith_builtin rfl (PySem.evalArgs_none (hm pins s1 σ H1 x [] v [] Q I1 r1 .nil q1))⟩
theorem pe_bm (pa : PlainAttrs T) (slot : Slot T name id) (hty : typeOf (.builtin id) = pure (.type "method_descriptor")) (hm : MtR X id r) (ho : PE X o to) (ha : PA X (e :: es) t)
    (hbase : attributeBase o name X.env (eval o X.env) = eval o X.env := by rfl)
    (hfew : ((backTo cpos (starEach (e :: es) X.env)).all (fun x => !x.1) && (backToKw cpos (keywordEach [] X.env)).all (fun x => x.1.isSome)
      && decide ((e :: es).length + ([] : List Keyword).length + (if ([] : List Keyword).isEmpty then 0 else 1) < 30)) = true := by rfl)
    (hline : (apos.endLine == cpos.line) = true := by rfl) (hs : starEach (e :: es) X.env = (false, eval e X.env) :: starEach es X.env := by rfl) (hplain : (backTo cpos (starEach es X.env)).any (·.1) = false := by rfl) :
    PE X (.Call (.Attribute o name apos) (e :: es) [] cpos) (tBM X.K T r to t) := by
  intro pins s σ H Q I h
  refine wpAny_Call_method_late hbase hfew hline rfl (thn (ho pins s σ H _ I h) fun v s1 ⟨x, H1, I1, r1, ty, q1⟩ => ?_)
  obtain ⟨h1, h2⟩ := tyV_is I1 r1 ty
  refine ⟨T, id, pa, slot, hty, h1, h2, ?_⟩
  have hA := ha cpos pins s1 σ H1 _ I1 q1
  rw [hs] at hA ⊢
  refine Calls.callWith_builtin (by show (false || (backTo cpos (starEach es X.env)).any (·.1)) = false; rw [hplain] <;> rfl) (Calls.evalArgs_plain ?_)
  exact thn hA fun us s2 ⟨vs, H2, I2, r2, q2⟩ => hm pins s2 σ H2 x vs v us Q I2 r1 r2 q2
/- xs.append(e), list.index on a module's tuple .. are MtR facts of 06m -/
end
end L2

namespace L2
open PySem PySem.Spec PyProof.Rows

def MtM (X : Cx) (id : String) (r : V → List V → Hp → VK → Prop) : Prop :=
  ∀ (pins : List (Addr × Obj)) (s : Shared) (σ : St) (H : Hp) (x : V) (xs : List V) (v : Value) (us : List Value) (Q : VK), Inv X pins σ H s → RelV x v → Vals xs us → r x xs H Q →
    wpAny (model X.prog X.w) X.A (call (.builtin id) (v :: us)) (EP X pins σ Q) X.xe s

/-! ### lists of values -/
theorem Vals.one : ∀ {x : V} {us : List Value}, Vals [x] us → ∃ u, us = [u] ∧ RelV x u
  | _, _, .cons r .nil => ⟨_, rfl, r⟩
theorem Vals.zero : ∀ {us : List Value}, Vals [] us → us = []
  | _, .nil => rfl
theorem Vals.dropLast {xs : List V} {us : List Value} (h : Vals xs us) : Vals xs.dropLast us.dropLast := by
  induction h with
  | nil => exact .nil
  | cons r t ih =>
    cases t with
    | nil => exact .nil
    | cons q t' => exact .cons r ih
theorem Vals.eraseIdx : ∀ {xs : List V} {us : List Value} (i : Nat), Vals xs us → Vals (xs.eraseIdx i) (us.eraseIdx i)
  | _, _, _, .nil => .nil
  | _, _, 0, .cons _ t => t
  | _, _, i + 1, .cons r t => .cons r (Vals.eraseIdx i t)
theorem Vals.rep {xs : List V} {us : List Value} (h : Vals xs us) : ∀ k : Nat, Vals (List.replicate k xs).flatten (List.replicate k us).flatten
  | 0 => .nil
  | k + 1 => by
    rw [List.replicate_succ, List.replicate_succ, List.flatten_cons, List.flatten_cons]
    exact Vals.append h (Vals.rep h k)
theorem erase_last {α : Type} (l : List α) : l.eraseIdx (l.length - 1) = l.dropLast := by
  induction l with
  | nil => rfl
  | cons a r ih =>
    cases r with
    | nil => rfl
    | cons b r =>
      have e : (a :: b :: r).length - 1 = ((b :: r).length - 1) + 1 := by
        have h1 : (a :: b :: r).length = r.length + 2 := rfl
        have h2 : (b :: r).length = r.length + 1 := rfl
        omega
      rw [e, List.eraseIdx_cons_succ, ih]
      all_goals rfl
theorem len_erase {α : Type} : ∀ (l : List α) (i : Nat), (l.eraseIdx i).length ≤ l.length
  | [], _ => Nat.le_refl _
  | _ :: _, 0 => Nat.le_succ _
  | _ :: r, i + 1 => Nat.succ_le_succ (len_erase r i)
theorem foldl_rep (its : List Value) : ∀ (k : Nat) (acc : List Value),
    List.foldl (fun x1 x2 => x1 ++ x2) acc.toArray (List.replicate k its.toArray) = (acc ++ (List.replicate k its).flatten).toArray
  | 0, acc => by simp
  | k + 1, acc => by
    have e : acc.toArray ++ its.toArray = (acc ++ its).toArray := by simp
    have e2 : (acc ++ its) ++ (List.replicate k its).flatten = acc ++ (List.replicate (k + 1) its).flatten := by
      rw [List.replicate_succ, List.flatten_cons, List.append_assoc]
    rw [← e2, ← foldl_rep its k (acc ++ its), ← e, List.replicate_succ, List.foldl_cons]

section
variable {X : Cx} {pins : List (Addr × Obj)} {σ : St} {H : Hp} {s : Shared} {l b : Addr} {xs ys zs : List V}

/-! ### the two steps: a tracked list is rewritten, a new list is laid -/
theorem Inv.lset {its its' : List Value} {n : Nat} {f : Array Value → Array Value} {t' : Nat} (I : Inv X pins σ H s) (hH : H l = some (.lst xs))
    (e : s.heap.get? l = some { cls := .type "list", data := .seq its.toArray n }) (hf : f its.toArray = its'.toArray) (hv : Vals ys its') (hz : ys.length ≤ sizeLine) :
    Inv X pins σ (upd H l (.lst ys)) { s with heap := s.heap.update l (Obj.mapSeq f), toks := t' } := by
  have q := PySem.IsL.update e f
  rw [hf] at q
  refine I.write (x := l) (e := l) (by rw [hH]; exact trivial) (.inl rfl) (fun b' u hb hu => (Heap.get?_update_other s.heap (Obj.mapSeq f) (Ne.symm hb)).trans hu) ⟨_, q⟩ ?_
  exact ⟨hz, its', _, hv, q⟩
theorem Inv.lnew {its : List Value} {t' : Nat} (I : Inv X pins σ H s) (hv : Vals ys its) (hz : ys.length ≤ sizeLine) :
    Inv X pins σ (upd H s.heap.objs.size (.lst ys)) { s with heap := s.heap.push { cls := .type "list", data := .seq its.toArray }, toks := t' } :=
  I.laid (fun _ _ q => Heap.get?_push_of_some _ q) (Nat.le_refl _) ⟨hz, its, 0, hv, Heap.get?_push_size _ rfl⟩
theorem Inv.fresh (I : Inv X pins σ H s) : H s.heap.objs.size = none := I.hok.fresh (Nat.le_refl _)
theorem Inv.lstM (I : Inv X pins σ H s) (hH : H l = some (.lst xs)) : xs.length ≤ sizeLine ∧ ∃ (its : List Value) (n : Nat), Vals xs its ∧ xs.length = its.length ∧ s.heap.get? l = some { cls := .type "list", data := .seq its.toArray n } := by
  obtain ⟨z, its, n, r, e⟩ := I.hok l _ hH
  exact ⟨z, its, n, r, r.length, e⟩

theorem notLongL {n : Nat} (h : n ≤ sizeLine) : Builtin.List.listTooLong n = false := by
  unfold Builtin.List.listTooLong
  exact decide_eq_false (by omega)
end

section
variable {X : Cx}

/-! ### methods -/
inductive rAppendI (x : V) (vs : List V) (H : Hp) (Q : VK) : Prop
  | mk (l : _) (xs : _) (y : _) (z0 : x = .ref l) (z1 : vs = [y]) (z2 : H l = some (.lst xs)) (z3 : xs.length < sizeLine) (z4 : Q .non (upd H l (.lst (xs ++ [y]))))
def rAppend  : V → List V → Hp → VK → Prop := fun x vs H Q => rAppendI x vs H Q
theorem mt_append : MtM X "list.append" rAppend := by
  intro pins s σ H x vs v us Q I rx rv h
  obtain ⟨l, xs, y, rfl, rfl, hH, hz, q⟩ := h
  cases rx
  obtain ⟨u, rfl, ru⟩ := rv.one
  obtain ⟨z, its, n, r, hl, e⟩ := I.lstM hH
  refine call_meets F.slot_list_append ⟨_, e, rfl⟩ F.entry_list_append (F.args_list_append_2 _ _) (PySem.list_append l its.toArray n u (by rw [List.size_toArray]; omega)) ⟨e, ?_⟩
  refine ⟨.non, _, I.lset (its' := its ++ [u]) hH e (by simp) (r.append (.cons ru .nil)) ?_, rfl, q⟩
  rw [List.length_append, List.length_singleton]
  omega

inductive rExtendI (x : V) (vs : List V) (H : Hp) (Q : VK) : Prop
  | mk (l : _) (b : _) (xs : _) (zs : _) (z0 : x = .ref l) (z1 : vs = [.ref b]) (z2 : H l = some (.lst xs)) (z3 : H b = some (.lst zs)) (z4 : xs.length + zs.length ≤ sizeLine) (z5 : Q .non (upd H l (.lst (xs ++ zs))))
def rExtend  : V → List V → Hp → VK → Prop := fun x vs H Q => rExtendI x vs H Q
theorem mt_extend : MtM X "list.extend" rExtend := by
  intro pins s σ H x vs v us Q I rx rv h
  obtain ⟨l, b, xs, zs, rfl, rfl, hH, hB, hz, q⟩ := h
  cases rx
  obtain ⟨u, rfl, ru⟩ := rv.one
  cases ru
  obtain ⟨z, its, n, r, hl, e⟩ := I.lstM hH
  obtain ⟨z2, its2, n2, r2, hl2, e2⟩ := I.lstM hB
  have hsz : its.toArray.size + its2.toArray.size ≤ sizeLine := by rw [List.size_toArray, List.size_toArray]; omega
  have hlong : ¬ (!its.toArray.isEmpty && Builtin.List.listTooLong (its.toArray.size + its2.toArray.size)) = true := by
    rw [notLongL hsz, Bool.and_false]
    exact Bool.false_ne_true
  refine call_meets F.slot_list_extend ⟨_, e, rfl⟩ F.entry_list_extend (F.args_list_extend_2 _ _)
    (AutoSeq1.list_extend_list_list_0 l its.toArray n b its2.toArray n2 hlong (by rw [List.size_toArray]; omega) (by omega)) ⟨e, e2, ?_⟩
  refine ⟨.non, _, I.lset (its' := its ++ its2) hH e (by simp) (r.append r2) ?_, rfl, q⟩
  rw [List.length_append]
  omega

inductive rPopI (x : V) (vs : List V) (H : Hp) (Q : VK) : Prop
  | mk (l : _) (xs : _) (y : _) (z0 : x = .ref l) (z1 : vs = []) (z2 : H l = some (.lst xs)) (z3 : xs[xs.length - 1]? = some y) (z4 : Q y (upd H l (.lst xs.dropLast)))
def rPop  : V → List V → Hp → VK → Prop := fun x vs H Q => rPopI x vs H Q
theorem mt_pop : MtM X "list.pop" rPop := by
  intro pins s σ H x vs v us Q I rx rv h
  obtain ⟨l, xs, y, rfl, rfl, hH, hy, q⟩ := h
  cases rx
  have hus := rv.zero
  subst hus
  obtain ⟨z, its, n, r, hl, e⟩ := I.lstM hH
  obtain ⟨u, hu, ru⟩ := r.get hy
  have hy' : its.toArray[its.toArray.size - 1]? = some u := by
    show its.toArray[its.length - 1]? = some u
    rw [← Array.getElem?_toList, ← hl]
    exact hu
  refine call_meets F.slot_list_pop ⟨_, e, rfl⟩ F.entry_list_pop (F.args_list_pop_1 _) (MeetsSeq.list_pop_last l its.toArray n u hy' (by rw [List.size_toArray]; omega)) ⟨e, ?_⟩
  refine ⟨y, _, I.lset (its' := its.dropLast) hH e ?_ r.dropLast ?_, ru, q⟩
  · show its.toArray.eraseIdxIfInBounds (its.toArray.size - 1) = its.dropLast.toArray
    rw [List.size_toArray, List.eraseIdxIfInBounds_toArray, erase_last]
  · rw [List.length_dropLast]
    omega

inductive rPopAtI (x : V) (vs : List V) (H : Hp) (Q : VK) : Prop
  | mk (l : _) (xs : _) (i : _) (k : _) (y : _) (z0 : x = .ref l) (z1 : vs = [.int i]) (z2 : H l = some (.lst xs)) (z3 : -(2 ^ 63) ≤ i) (z4 : i < 2 ^ 63) (z5 : seqIndex? i xs.length = some k) (z6 : xs[k]? = some y) (z7 : Q y (upd H l (.lst (xs.eraseIdx k))))
def rPopAt  : V → List V → Hp → VK → Prop := fun x vs H Q => rPopAtI x vs H Q
theorem mt_popAt : MtM X "list.pop" rPopAt := by
  intro pins s σ H x vs v us Q I rx rv h
  obtain ⟨l, xs, i, k, y, rfl, rfl, hH, h1, h2, hk, hy, q⟩ := h
  cases rx
  obtain ⟨u, rfl, ru⟩ := rv.one
  obtain ⟨t, rfl⟩ := ru
  obtain ⟨z, its, n, r, hl, e⟩ := I.lstM hH
  obtain ⟨w, hw, rw'⟩ := r.get hy
  refine call_meets F.slot_list_pop ⟨_, e, rfl⟩ F.entry_list_pop (F.args_list_pop_2 _ _)
    (MeetsSeq.list_pop_at l its.toArray n i t k w (fitsIndex_both h1 h2) (by rw [List.size_toArray, ← hl]; exact hk) (by rw [← Array.getElem?_toList]; exact hw) (by rw [List.size_toArray]; omega)) ⟨e, ?_⟩
  refine ⟨y, _, I.lset (its' := its.eraseIdx k) hH e ?_ (r.eraseIdx k) ?_, rw', q⟩
  · show its.toArray.eraseIdxIfInBounds k = (its.eraseIdx k).toArray
    rw [List.eraseIdxIfInBounds_toArray]
  · have := len_erase xs k
    omega

def rReverse : V → List V → Hp → VK → Prop := fun x vs H Q => ∃ l xs, x = .ref l ∧ vs = [] ∧ H l = some (.lst xs) ∧ Q .non (upd H l (.lst xs.reverse))
def rClear : V → List V → Hp → VK → Prop := fun x vs H Q => ∃ l xs, x = .ref l ∧ vs = [] ∧ H l = some (.lst xs) ∧ Q .non (upd H l (.lst []))
/-! ### list + list, list += list, list * int -/
inductive rCatI (x : V) (y : V) (H : Hp) (Q : VK) : Prop
  | mk (l : _) (b : _) (xs : _) (zs : _) (z0 : x = .ref l) (z1 : y = .ref b) (z2 : H l = some (.lst xs)) (z3 : H b = some (.lst zs)) (z4 : xs.length + zs.length ≤ sizeLine) (z5 : ∀ p, H p = none → Q (.ref p) (upd H p (.lst (xs ++ zs))))
def rCat  : R2 := fun x y H Q => rCatI x y H Q
theorem op_cat : OpR X (binaryOp .Add) rCat := by
  intro pins s σ H x y v u Q I rx ry h
  obtain ⟨l, b, xs, zs, rfl, rfl, hH, hB, hz, q⟩ := h
  cases rx
  cases ry
  obtain ⟨z, its, n, r, hl, e⟩ := I.lstM hH
  obtain ⟨z2, its2, n2, r2, hl2, e2⟩ := I.lstM hB
  refine PySem.P.add_list e e2 ?_ (by rw [List.size_toArray, List.size_toArray]; omega)
  have ea : its.toArray ++ its2.toArray = (its ++ its2).toArray := by simp
  rw [ea]
  exact ⟨.ref _, _, I.lnew (t' := s.toks) (r.append r2) (by rw [List.length_append]; omega), rfl, q _ I.fresh⟩
/-- a list times an int (a negative one is nothing) -/
inductive rRepI (x : V) (y : V) (H : Hp) (Q : VK) : Prop
  | mk (l : _) (k : _) (xs : _) (z0 : x = .ref l) (z1 : y = .int k) (z2 : H l = some (.lst xs)) (z3 : -(2 ^ 63) ≤ k) (z4 : k < 2 ^ 63) (z5 : xs.length * k.toNat ≤ sizeLine) (z6 : ∀ p, H p = none → Q (.ref p) (upd H p (.lst (List.replicate k.toNat xs).flatten)))
def rRep  : R2 := fun x y H Q => rRepI x y H Q
theorem len_rep {α : Type} (xs : List α) (k : Nat) : (List.replicate k xs).flatten.length = k * xs.length := by
  induction k with
  | zero => simp
  | succ k ih => rw [List.replicate_succ, List.flatten_cons, List.length_append, ih, Nat.succ_mul, Nat.add_comm]
theorem op_rep : OpR X (binaryOp .Mult) rRep := by
  intro pins s σ H x y v u Q I rx ry h
  obtain ⟨l, k, xs, rfl, rfl, hH, h1, h2, hz, q⟩ := h
  cases rx
  obtain ⟨t, rfl⟩ := ry
  obtain ⟨z, its, n, r, hl, e⟩ := I.lstM hH
  have hlen : its.toArray.size * k.toNat ≤ sizeLine := by rw [List.size_toArray, ← hl]; exact hz
  have hcap : ¬ its.toArray.size * k.toNat > (2 ^ 63 - 1) / 8 := by
    have : (sizeLine : Nat) ≤ (2 ^ 63 - 1) / 8 := by decide
    omega
  have hfit : ¬ (!Builtin.List.listFitsIndex k) = true := by
    rw [fitsIndex_both h1 h2]
    exact Bool.false_ne_true
  have hlong : ¬ Builtin.List.listTooLong (its.toArray.size * k.toNat) = true := by
    rw [notLongL hlen]
    exact Bool.false_ne_true
  have hnew : List.foldl (fun x1 x2 => x1 ++ x2) #[] (List.replicate (if its.toArray.isEmpty = true then 0 else k.toNat) its.toArray) = (List.replicate k.toNat its).flatten.toArray := by
    have f0 : ∀ m : Nat, List.foldl (fun x1 x2 => x1 ++ x2) #[] (List.replicate m its.toArray) = (List.replicate m its).flatten.toArray := fun m => by
      have := foldl_rep its m []
      rw [List.nil_append] at this
      exact this
    rw [f0]
    cases its with
    | nil => simp
    | cons a r' => rw [if_neg (by simp)]
  refine wpAny_binaryOp_repeat_ref (T := "list") (U := "int") (by decide) ⟨_, e, rfl⟩ (fun s' => typeIs_int s' k t) noFill_list_mul F.fills_int_mul F.slot_int_rmul repeat_list F.slot_int_index.lookup
    (call_meets F.slot_int_rmul (typeIs_int s k t) F.entry_int_rmul (F.args_int_rmul_2 _ _) (int___rmul___int_list k t l its.toArray n)
      ⟨e, rfl, ⟨_, e, rfl⟩, call_meets F.slot_list_mul ⟨_, e, rfl⟩ F.entry_list_mul (F.args_list_mul_2 _ _) (AutoListH.list___mul___list_int_3 l its.toArray n k t hfit hcap hlong) ⟨e, ?_⟩⟩)
  rw [hnew]
  exact ⟨.ref _, _, I.lnew (t' := s.toks) (r.rep k.toNat) (by rw [len_rep, Nat.mul_comm]; exact hz), rfl, q _ I.fresh⟩

/-! ### del xs[i] -/
end

/-! ### xs[a:b] = ys -/
section
variable {prog : Program} {w : World} {A : Around} {E : Value → Shared → Prop} {s : Shared}
set_option maxRecDepth 100000 in
end

section
variable {X : Cx}
end
end L2

namespace L2
open PySem PySem.Spec PyProof.Rows

/-! ### lists of pairs as tables -/
section
variable {κ : Type} [DecidableEq κ]
def valV (kvs : List (κ × V)) (k : κ) : Option V := (kvs.find? fun kv => decide (kv.1 = k)).map (·.2)
/-- in its place, or at the end -/
def putK (kvs : List (κ × V)) (k : κ) (v : V) : List (κ × V) :=
  if (kvs.any fun kv => decide (kv.1 = k)) = true then kvs.map (fun kv => if kv.1 = k then (kv.1, v) else kv) else kvs ++ [(k, v)]
def dropK (kvs : List (κ × V)) (k : κ) : List (κ × V) := kvs.filter fun kv => decide (kv.1 ≠ k)

theorem valV_pos {p : κ × V} {r : List (κ × V)} {k : κ} (e : p.1 = k) : valV (p :: r) k = some p.2 := by simp [valV, List.find?_cons, e]
theorem valV_neg {p : κ × V} {r : List (κ × V)} {k : κ} (e : ¬ p.1 = k) : valV (p :: r) k = valV r k := by simp [valV, List.find?_cons, e]
theorem valV_any (k : κ) : ∀ kvs : List (κ × V), (kvs.any fun kv => decide (kv.1 = k)) = (valV kvs k).isSome
  | [] => rfl
  | p :: r => by
    rw [List.any_cons]
    by_cases e : p.1 = k
    · simp only [valV_pos e, decide_eq_true e, Bool.true_or, Option.isSome_some]
    · rw [valV_neg e, decide_eq_false e, Bool.false_or]; exact valV_any k r
theorem length_putK (kvs : List (κ × V)) (k : κ) (v : V) : (putK kvs k v).length ≤ kvs.length + 1 := by
  unfold putK
  split
  · rw [List.length_map]; omega
  · rw [List.length_append, List.length_cons, List.length_nil]; omega
theorem RelO.isSome_eq {o : Option V} {u : Option Value} (r : RelO o u) : o.isSome = u.isSome := by
  cases o with
  | none => cases u with
    | none => rfl
    | some _ => exact (show False from r).elim
  | some _ => cases u with
    | none => exact (show False from r).elim
    | some _ => rfl
/-- raw tables of the same keys -/
theorem KV.val {kvs : List (κ × V)} {vs : List (κ × Value)} (r : KV kvs vs) (k : κ) : RelO (valV kvs k) (valueAt vs k) := by
  unfold KV at r
  induction r with
  | nil => exact True.intro
  | @cons p q ps qs h t ih =>
    obtain ⟨h1, h2⟩ := h
    by_cases e : p.1 = k
    · have e' : q.1 = k := h1.symm.trans e
      have b : valueAt (q :: qs) k = some q.2 := by simp [valueAt, List.find?_cons, e']
      rw [valV_pos e, b]; exact h2
    · have e' : ¬ q.1 = k := fun z => e (h1.trans z)
      have b : valueAt (q :: qs) k = valueAt qs k := by simp [valueAt, List.find?_cons, e']
      rw [valV_neg e, b]; exact ih
theorem KV.any {kvs : List (κ × V)} {vs : List (κ × Value)} (r : KV kvs vs) (k : κ) : (kvs.any fun kv => decide (kv.1 = k)) = vs.any fun kv => decide (kv.1 = k) := by
  unfold KV at r
  induction r with
  | nil => rfl
  | cons h t ih => rw [List.any_cons, List.any_cons, ih, h.1]
theorem KV.repl {kvs : List (κ × V)} {vs : List (κ × Value)} (r : KV kvs vs) (k : κ) {y : V} {u : Value} (ry : RelV y u) :
    KV (kvs.map fun kv => if kv.1 = k then (kv.1, y) else kv) (vs.map fun kv => if kv.1 = k then (kv.1, u) else kv) := by
  unfold KV at r ⊢
  induction r with
  | nil => exact .nil
  | @cons p q ps qs h t ih =>
    rw [List.map_cons, List.map_cons]
    refine .cons ?_ ih
    obtain ⟨h1, h2⟩ := h
    by_cases e : p.1 = k
    · rw [if_pos e, if_pos (h1.symm.trans e)]; exact ⟨h1, ry⟩
    · rw [if_neg e, if_neg (fun z => e (h1.trans z))]; exact ⟨h1, h2⟩
theorem KV.put {kvs : List (κ × V)} {vs : List (κ × Value)} (r : KV kvs vs) (k : κ) {y : V} {u : Value} (ry : RelV y u) : KV (putK kvs k y) (stored vs k u) := by
  unfold putK stored
  rw [r.any k]
  by_cases e : (vs.any fun kv => decide (kv.1 = k)) = true
  · rw [if_pos e, if_pos e]; exact r.repl k ry
  · rw [if_neg e, if_neg e]; exact Paired.snoc r ⟨rfl, ry⟩
theorem KV.length {kvs : List (κ × V)} {vs : List (κ × Value)} (r : KV kvs vs) : kvs.length = vs.length := Paired.length r
end


/-! ### a tracked dict, its keys ints and texts or tuples of these -/
theorem kV_is {P : Program} {w : World} {k : Key} {u : Value} (r : RelV (kV k) u) : (mixKind P w).is k u = true := by
  cases k with
  | inl i => obtain ⟨t, e⟩ := (show ∃ t, u = Value.int i t from r); subst e; exact mixKind_int P w i t
  | inr x => obtain ⟨t, e⟩ := (show ∃ t, u = Value.str x t from r); subst e; exact mixKind_str P w x t
theorem items_are {P : Program} {w : World} : ∀ {ks : List Key} {us : List Value}, Vals (ks.map kV) us → ItemsAre (mixKind P w) ks us
  | [], _, r => by rw [List.map_nil] at r; cases r; exact .nil
  | k :: ks, _, r => by
    rw [List.map_cons] at r
    cases r with
    | cons h t => exact .cons (kV_is h) (items_are t)

/-- raw entries of a dict with tuple keys -/
abbrev KT (H : Hp) : List (List Key × V) → List (List Key × Addr × Value) → Prop := Paired fun p q => p.1 = q.1 ∧ H q.2.1 = some (.tup (p.1.map kV)) ∧ RelV p.2 q.2.2
theorem KT.val {H : Hp} {kvs : List (List Key × V)} {xs : List (List Key × Addr × Value)} (r : KT H kvs xs) (k : List Key) : RelO (valV kvs k) ((atKey xs k).map (·.2)) := by
  induction r with
  | nil => exact True.intro
  | @cons p q ps qs h t ih =>
    obtain ⟨h1, _, h2⟩ := h
    by_cases e : p.1 = k
    · have e' : q.1 = k := h1.symm.trans e
      have b : atKey (q :: qs) k = some q.2 := by simp [atKey, List.find?_cons, e']
      rw [valV_pos e, b]; exact h2
    · have e' : ¬ q.1 = k := fun z => e (h1.trans z)
      have b : atKey (q :: qs) k = atKey qs k := by simp [atKey, List.find?_cons, e']
      rw [valV_neg e, b]; exact ih
theorem KT.repl {H : Hp} {kvs : List (List Key × V)} {xs : List (List Key × Addr × Value)} (r : KT H kvs xs) (k : List Key) {y : V} {u : Value} (ry : RelV y u) :
    KT H (kvs.map fun kv => if kv.1 = k then (kv.1, y) else kv) (xs.map (putAt k u)) := by
  induction r with
  | nil => exact .nil
  | @cons p q ps qs h t ih =>
    rw [List.map_cons, List.map_cons]
    refine .cons ?_ ih
    obtain ⟨h1, h2, h3⟩ := h
    unfold putAt
    by_cases e : p.1 = k
    · rw [if_pos e, if_pos (h1.symm.trans e)]; exact ⟨h1, h2, ry⟩
    · rw [if_neg e, if_neg (fun z => e (h1.trans z))]; exact ⟨h1, h2, h3⟩
theorem KT.put {H : Hp} {kvs : List (List Key × V)} {xs : List (List Key × Addr × Value)} (r : KT H kvs xs) (k : List Key) {b : Addr} {y : V} {u : Value} (hb : H b = some (.tup (k.map kV))) (ry : RelV y u) :
    KT H (putK kvs k y) (storedH xs k b u) := by
  have e : (kvs.any fun kv => decide (kv.1 = k)) = (atKey xs k).isSome := by
    rw [valV_any, (r.val k).isSome_eq, Option.isSome_map]
  unfold putK storedH
  rw [e]
  by_cases q : (atKey xs k).isSome = true
  · rw [if_pos q, if_pos q]; exact r.repl k ry
  · rw [if_neg q, if_neg q]; exact Paired.snoc r ⟨rfl, hb, ry⟩
theorem KT.keeps {H H' : Hp} {kvs : List (List Key × V)} {xs : List (List Key × Addr × Value)} (r : KT H kvs xs) (ht : ∀ b ys, H b = some (.tup ys) → H' b = some (.tup ys)) : KT H' kvs xs :=
  Paired.mapP r fun _ _ z => ⟨z.1, ht _ _ z.2.1, z.2.2⟩

section
variable {P : Program} {w : World} {H : Hp} {h : Heap} {a : Addr}
theorem rd_of {u : HO} (ok : HOk P w H h) (e : Rd H a u) : ObjOk P w H h a u := e.ok ok
theorem dk_rd {kvs : List (Key × V)} (ok : HOk P w H h) (e : Rd H a (.dK kvs)) : kvs.length ≤ sizeLine ∧ (a == sysModules) = false ∧ ∃ vs, KV kvs vs ∧ h.DictOf (mixKind P w) a vs :=
  show ObjOk P w H h a (.dK kvs) from rd_of ok e
theorem dk_of {kvs : List (Key × V)} (ok : HOk P w H h) (e : H a = some (.dK kvs)) : kvs.length ≤ sizeLine ∧ (a == sysModules) = false ∧ ∃ vs, KV kvs vs ∧ h.DictOf (mixKind P w) a vs := dk_rd ok (.inl e)
/-- a tracked tuple of ints and texts is a key -/
theorem key_of {ks : List Key} (ok : HOk P w H h) (e : H a = some (.tup (ks.map kV))) : (tupleKind (mixKind P w)).is h ks a := by
  obtain ⟨_, its, r, o, h1, h2, n, h3⟩ := (show ObjOk P w H h a (.tup (ks.map kV)) from ok a _ e)
  exact ⟨o, its.toArray, n, h1, h2, h3, by simpa using items_are r⟩
theorem dt_rd {kvs : List (List Key × V)} (ok : HOk P w H h) (e : Rd H a (.dT kvs)) : kvs.length ≤ sizeLine ∧ (a == sysModules) = false ∧
    ∃ xs, KT H kvs xs ∧ h.DictOfH (tupleKind (mixKind P w)) a xs := by
  obtain ⟨z, y, xs, r, o, es, ep, h1, h2, h3, h4, h5⟩ := (show ObjOk P w H h a (.dT kvs) from rd_of ok e)
  refine ⟨z, y, xs, r, o, es, ep, h1, h2, h3, h4, fun x hx => ?_, h5⟩
  have all : ∀ {l : List (List Key × V)} {m : List (List Key × Addr × Value)}, KT H l m → ∀ x ∈ m, (tupleKind (mixKind P w)).is h x.1 x.2.1 := by
    intro l m q
    induction q with
    | nil => intro x hx; exact nomatch hx
    | @cons p q ps qs hq t ih =>
      intro x hx
      rcases List.mem_cons.mp hx with e | hx
      · subst e
        exact key_of ok (by rw [← hq.1]; exact hq.2.1)
      · exact ih x hx
  exact all r x hx
theorem dt_of {kvs : List (List Key × V)} (ok : HOk P w H h) (e : H a = some (.dT kvs)) : kvs.length ≤ sizeLine ∧ (a == sysModules) = false ∧
    ∃ xs, KT H kvs xs ∧ h.DictOfH (tupleKind (mixKind P w)) a xs := dt_rd ok (.inl e)
end

/-- what the dict at a holds at the key y -/
def DGet (H : Hp) (a : Addr) (y : V) (r : Option V) : Prop :=
  (∃ kvs k, Rd H a (.dK kvs) ∧ y = kV k ∧ r = valV kvs k) ∨ ∃ kvs k b, Rd H a (.dT kvs) ∧ y = .ref b ∧ H b = some (.tup (k.map kV)) ∧ r = valV kvs k
/-- the heap behind a[y] = v -/
def DPut (H : Hp) (a : Addr) (y v : V) (H' : Hp) : Prop :=
  (∃ kvs k, H a = some (.dK kvs) ∧ y = kV k ∧ kvs.length < sizeLine ∧ H' = upd H a (.dK (putK kvs k v))) ∨
  ∃ kvs k b, H a = some (.dT kvs) ∧ y = .ref b ∧ H b = some (.tup (k.map kV)) ∧ kvs.length < sizeLine ∧ H' = upd H a (.dT (putK kvs k v))
theorem DGet.k {H : Hp} {a : Addr} {kvs : List (Key × V)} {k : Key} (e : H a = some (.dK kvs)) : DGet H a (kV k) (valV kvs k) := .inl ⟨kvs, k, .inl e, rfl, rfl⟩
theorem DPut.k {H : Hp} {a : Addr} {kvs : List (Key × V)} {k : Key} {v : V} (e : H a = some (.dK kvs)) (hl : kvs.length < sizeLine) : DPut H a (kV k) v (upd H a (.dK (putK kvs k v))) := .inl ⟨kvs, k, e, rfl, hl, rfl⟩
section
variable {X : Cx} {pins : List (Addr × Obj)} {σ : St} {H : Hp} {s : Shared} {a : Addr} {y v : V} {u r : Value} {o : Option V} {A : Around} {E : Value → Shared → Prop}

theorem Inv.big (I : Inv X pins σ H s) : sysModules < s.heap.objs.size := by
  have h : mainGlobals < s.heap.objs.size := (I.mod.glob.keeps I.bk).lt
  exact Nat.lt_trans (by decide) h

/-- d[y], there -/
theorem d_getItem {Q : Value → Shared → Prop} (hu : A.units + 1 < cLine) (I : Inv X pins σ H s) (g : DGet H a y (some v)) (ry : RelV y u) (h : ∀ w' s', Inv X pins σ H s' → RelV v w' → Q w' s') :
    wpAny (model X.prog X.w) A (getItem (.ref a) u) Q E s := by
  rcases g with ⟨kvs, k, e, ey, l⟩ | ⟨kvs, k, b, e, ey, eb, l⟩
  · subst ey
    obtain ⟨z, hd, vs, rel, dd⟩ := dk_rd I.hok e
    obtain ⟨w', hw, rw'⟩ := RelO.some_of (v := v) (o := valueAt vs k) (by rw [l]; exact rel.val k)
    exact wpAny_getItem_of (kV_is ry) dd.mapOf hw (h w' _ (I.tok _) rw')
  · subst ey
    cases (show u = Value.ref b from ry)
    obtain ⟨z, hd, xs, rel, dd⟩ := dt_rd I.hok e
    obtain ⟨w', hw, rw'⟩ := RelO.some_of (v := v) (o := (atKey xs k).map (·.2)) (by rw [l]; exact rel.val k)
    obtain ⟨p, hp, hp2⟩ := Option.map_eq_some_iff.mp hw
    refine wpAny_getItem_heap (tupleKind_room_in1 hu) (key_of I.hok eb) dd hp ?_
    rw [hp2]
    exact h w' _ (I.tok _) rw'
/-- a dict's object is replaced -/
theorem d_write {h' : Heap} {t' : Nat} {ob : HO} (I : Inv X pins σ H s) (mu : Mut (H a)) (hs : Heap.SameBut a s.heap h') (he : ∃ q, h'.get? a = some q) (new : ObjOk X.prog X.w (upd H a ob) h' a ob) :
    Inv X pins σ (upd H a ob) { s with heap := h', toks := t' } :=
  I.write (x := a) (e := a) mu (.inl rfl) (fun b q hb z => (hs.2 b hb).trans z) he new
theorem dk_new {P : Program} {w : World} {H' : Hp} {h' : Heap} {kvs : List (Key × V)} {vs : List (Key × Value)} (z : kvs.length ≤ sizeLine) (hd : (a == sysModules) = false) (rel : KV kvs vs) (dd : h'.DictOf (mixKind P w) a vs) :
    ObjOk P w H' h' a (.dK kvs) := ⟨z, hd, vs, rel, dd⟩
/-- d[y] = v -/
theorem d_setItem {H' : Hp} {Q : Unit → Shared → Prop} (hu : A.units + 1 < cLine) (I : Inv X pins σ H s) (g : DPut H a y v H') (ry : RelV y u) (rv : RelV v r) (h : ∀ s', Inv X pins σ H' s' → Q () s') :
    wpAny (model X.prog X.w) A (setItem (.ref a) u r) Q E s := by
  rcases g with ⟨kvs, k, e, ey, l, eH⟩ | ⟨kvs, k, b, e, ey, eb, l, eH⟩
  · subst ey eH
    obtain ⟨z, hd, vs, rel, dd⟩ := dk_of I.hok e
    have hz : vs.length ≤ sizeLine := by rw [← rel.length]; exact z
    have hl : (putK kvs k v).length ≤ sizeLine := by have := length_putK kvs k v; omega
    refine wpAny_setItem_pairs (hsz := hz) (kV_is ry) dd fun h' dd' hs => h _ ?_
    have he : ∃ q, h'.get? a = some q := let ⟨q, _, _, hq, _⟩ := dd'; ⟨q, hq⟩
    exact d_write I (by rw [e]; exact True.intro) hs he (dk_new hl hd (rel.put k rv) dd')
  · subst ey eH
    cases (show u = Value.ref b from ry)
    obtain ⟨z, hd, xs, rel, dd⟩ := dt_of I.hok e
    have hz : xs.length ≤ sizeLine := by rw [← Paired.length rel]; exact z
    have hl : (putK kvs k v).length ≤ sizeLine := by have := length_putK kvs k v; omega
    refine wpAny_setItem_heap (hsz := hz) (tupleKind_room_in1 hu) (key_of I.hok eb) dd fun h' dd' hs => h _ ?_
    obtain ⟨q, es, ep, hq, h2, h3, h4, _, h5⟩ := dd'
    refine d_write I (by rw [e]; exact True.intro) hs ⟨q, hq⟩ ⟨hl, hd, _, (rel.put k eb rv).keeps fun c ys ec => ?_, q, es, ep, hq, h2, h3, h4, h5⟩
    rw [upd_ne (ne_of ec e (fun z => nomatch z))]
    exact ec
end

section
variable {X : Cx} {pins : List (Addr × Obj)} {σ : St} {H : Hp} {s : Shared} {a : Addr} {kvs : List (Key × V)} {k : Key} {u : Value} {A : Around} {E : Value → Shared → Prop}
end


/-! ### readings and rules -/
/-- the element of a subscription, not a slice -/
def NoSl (i : Expr) : Prop := ∀ ov iv, subscripted i false ov iv = operate [ov, iv] (getItem ov iv)
theorem subD_of {prog : Program} {w : World} {A : Around} {E : Value → Shared → Prop} {s : Shared} {env : Env} {value slice : Expr} {pos : Pos} {T id : String} {Q : Value → Shared → Prop}
    (hl : typeLookup (.type T) "__getitem__" = pure (some (.builtin id))) (hs : NoSl slice)
    (h : wpAny (model prog w) A (eval value env) (fun o s₁ => wpAny (model prog w) A (eval slice env) (fun i s₂ => s₂.TypeIs o T ∧ wpAny (model prog w) A (getItem o i) Q E s₂) E s₁) E s) :
    wpAny (model prog w) A (eval (.Subscript value slice pos) env) Q E s := by
  refine Subscript_ (wpAny_mono h (fun o s₁ h₁ => wpAny_mono h₁ (fun i s₂ h₂ => ?_) fun _ _ x => x) fun _ _ x => x)
  obtain ⟨hT, h₂⟩ := h₂
  unfold subscriptTail
  refine wpAny_bind ?_
  rw [getitemInPython_of_ne hT.not_modules]
  refine wpAny_bind (wpAny_specialOf hT hl ?_)
  have fin : wpAny (model prog w) A (subscripted slice false o i) (fun r s₃ => wpAny (model prog w) A (letTemporaryGo value o r >>= fun _ => pure r) Q E s₃) E s₂ := by
    rw [hs o i]
    exact wpAny_operating (wpAny_mono h₂ (fun r s₃ h₃ => wpAny_bind (wpAny_letTemporaryGo (wpAny_pure h₃))) fun _ _ x => x)
  first
    | exact wpAny_pure (wpAny_bind fin)
    | exact wpAny_bind (wpAny_pure (wpAny_bind fin))
    | exact wpAny_bind fin

theorem dict_typeIs {X : Cx} {pins : List (Addr × Obj)} {σ : St} {H : Hp} {s : Shared} {a : Addr} {y : V} {o : Option V} (I : Inv X pins σ H s) (g : DGet H a y o) : s.TypeIs (.ref a) "dict" := by
  rcases g with ⟨kvs, k, e, _, _⟩ | ⟨kvs, k, b, e, _, _, _⟩
  · obtain ⟨_, _, vs, _, dd⟩ := dk_rd I.hok e
    exact dd.typeIs
  · obtain ⟨_, _, xs, _, dd⟩ := dt_rd I.hok e
    exact dd.typeIs
/-- d[y] -/
inductive tDGetI (Q : VK) (x : V) (y : V) (H2 : Hp) : Prop
  | mk (a : _) (v : _) (z0 : x = .ref a) (z1 : DGet H2 a y (some v)) (z2 : Q v H2)
def tDGet (td ty : TE) : TE := fun σ H Q => td σ H fun x H1 => ty σ H1 fun y H2 => tDGetI Q x y H2
/-- y in d, y not in d -/
inductive tDInI (Q : VK) (y : V) (x : V) (H2 : Hp) : Prop
  | mk (a : _) (o : _) (z0 : x = .ref a) (z1 : DGet H2 a y o) (z2 : Q (.bl o.isSome) H2)
def tDIn (ty td : TE) : TE := fun σ H Q => ty σ H fun y H1 => td σ H1 fun x H2 => tDInI Q y x H2
def tDNotIn (ty td : TE) : TE := fun σ H Q => ty σ H fun y H1 => td σ H1 fun x H2 => ∃ a o, x = .ref a ∧ DGet H2 a y o ∧ Q (.bl (!o.isSome)) H2
/-- d[y] = v -/
inductive sDPutI (D : Ends) (σ : St) (v : V) (x : V) (y : V) (H3 : Hp) : Prop
  | mk (a : _) (H4 : _) (z0 : x = .ref a) (z1 : DPut H3 a y v H4) (z2 : D.nx σ H4)
def sDPut (td ty tv : TE) : TS := fun D σ H => tv σ H fun v H1 => td σ H1 fun x H2 => ty σ H2 fun y H3 => sDPutI D σ v x y H3
/-- d[y] op= v -/
def sDAug (td ty tv : TE) (rd : V → V → Hp → VK → Prop) : TS := fun D σ H => td σ H fun x H1 => ty σ H1 fun y H2 => ∃ a v, x = .ref a ∧ DGet H2 a y (some v) ∧
  tv σ H2 fun y2 H3 => rd v y2 H3 fun z H4 => ∃ H5, DPut H4 a y z H5 ∧ D.nx σ H5
/-- del d[y] -/
def sDDel (td ty : TE) : TS := fun D σ H => td σ H fun x H1 => ty σ H1 fun y H2 => ∃ a kvs k, x = .ref a ∧ H2 a = some (.dK kvs) ∧ y = kV k ∧ (valV kvs k).isSome = true ∧ D.nx σ (upd H2 a (.dK (dropK kvs k)))

section
variable {X : Cx} {o i e value : Expr} {pos pos' tpos : Pos} {td ty tv : TE}
theorem pe_dget (hu : X.A.units + 1 < cLine) (ho : PE X o td) (hi : PE X i ty) (hs : NoSl i) : PE X (.Subscript o i pos) (tDGet td ty) := by
  intro pins s σ H Q I h
  refine subD_of PySem.F.slot_dict_getitem.lookup hs (thn (ho pins s σ H _ I h) fun u s1 ⟨x, H1, I1, rx, q1⟩ => thn (hi pins s1 σ H1 _ I1 q1) fun iv s2 ⟨y, H2, I2, ry, a, v, ex, g, q2⟩ => ?_)
  subst ex
  obtain rfl : u = Value.ref a := rx
  exact ⟨dict_typeIs I2 g, d_getItem hu I2 g ry fun w' s3 I3 rw' => ⟨v, H2, I3, rw', q2⟩⟩
theorem ps_dput (hu : X.A.units + 1 < cLine) (ho : PE X o td) (hi : PE X i ty) (hv : PE X value tv) (hs : swapsWith value (some (.Subscript o i pos')) pos.line X.env = pure false) :
    PS X (.Assign [.Subscript o i pos'] value pos) (sDPut td ty tv) := by
  intro pins s σ H D I h
  refine wpAny_Assign_Subscript (thn (hv pins s σ H _ I h) fun r s1 ⟨v, H1, I1, rv, q1⟩ => thn (ho pins s1 σ H1 _ I1 q1) fun u s2 ⟨x, H2, I2, rx, q2⟩ => thn (hi pins s2 σ H2 _ I2 q2) fun iv s3 ⟨y, H3, I3, ry, a, H4, ex, g, q3⟩ => ?_) hs
  subst ex
  obtain rfl : u = Value.ref a := rx
  exact d_setItem hu I3 g ry rv fun s4 I4 => ⟨σ, H4, I4, q3⟩
end


/-! ### displays -/
theorem dk_empty {P : Program} {w : World} {H : Hp} (h : Heap) (hb : sysModules < h.objs.size) : ObjOk P w H (h.push { cls := .type "dict", data := .dict #[] }) h.objs.size (.dK []) :=
  ⟨Nat.zero_le _, beq_eq_false_iff_ne.mpr (Ne.symm (Nat.ne_of_lt hb)), [], .nil, Heap.DictOf.new h⟩
/-- {}, to be a dict of the kind that is wanted -/
def tDNewK : TE := fun _ H Q => ∀ p, H p = none → Q (.ref p) (upd H p (.dK []))
def tDNewT : TE := fun _ H Q => ∀ p, H p = none → Q (.ref p) (upd H p (.dT []))
section
variable {X : Cx} {pos : Pos}
end

/-- the pairs of a display, from the left -/
def tPairs : List (TE × TE) → St → Hp → (List (V × V) → Hp → Prop) → Prop
  | [], _, H, Q => Q [] H
  | (tk, tv) :: r, σ, H, Q => tk σ H fun x H1 => tv σ H1 fun y H2 => tPairs r σ H2 fun ps H3 => Q ((x, y) :: ps) H3
abbrev VV : List (V × V) → List (Value × Value) → Prop := Paired fun p q => RelV p.1 q.1 ∧ RelV p.2 q.2
def PPs (X : Cx) (pos : Pos) (keys : List (Option Expr)) (values : List Expr) (trs : List (TE × TE)) : Prop :=
  ∀ (pins : List (Addr × Obj)) (s : Shared) (σ : St) (H : Hp) (Q : List (V × V) → Hp → Prop), Inv X pins σ H s → tPairs trs σ H Q →
    wpAny (model X.prog X.w) X.A (evalPairs (pairTrees keys values X.env pos)) (fun vs s' => ∃ ps H', Inv X pins σ H' s' ∧ VV ps vs ∧ Q ps H') X.xe s
theorem pps_nil {X : Cx} {pos : Pos} : PPs X pos [] [] [] := fun pins s σ H Q I h => pairTrees_nil_walk ⟨[], H, I, .nil, h⟩
theorem pps_cons {X : Cx} {pos : Pos} {k v : Expr} {ks : List (Option Expr)} {vs : List Expr} {tk tv : TE} {trs : List (TE × TE)} (hk : PE X k tk) (hv : PE X v tv) (hr : PPs X pos ks vs trs) :
    PPs X pos (some k :: ks) (v :: vs) ((tk, tv) :: trs) := fun pins s σ H Q I h =>
  pairTrees_cons_walk (thn (hk pins s σ H _ I h) fun u s1 ⟨x, H1, I1, rx, q1⟩ => thn (hv pins s1 σ H1 _ I1 q1) fun w2 s2 ⟨y, H2, I2, ry, q2⟩ =>
    thn (hr pins s2 σ H2 _ I2 q2) fun ws s3 ⟨ps, H3, I3, rel, q3⟩ => ⟨(x, y) :: ps, H3, I3, .cons ⟨rx, ry⟩ rel, q3⟩)

def mergeK (kvs more : List (Key × V)) : List (Key × V) := more.foldl (fun acc kv => putK acc kv.1 kv.2) kvs
theorem KV.merge : ∀ {more : List (Key × V)} {rs : List (Key × Value)} {kvs : List (Key × V)} {vs : List (Key × Value)}, KV more rs → KV kvs vs → KV (mergeK kvs more) (merged vs rs) := by
  intro more rs kvs vs r
  unfold KV at r
  induction r generalizing kvs vs with
  | nil => intro q; exact q
  | @cons p q ps qs h t ih =>
    intro r0
    have e : KV (putK kvs p.1 p.2) (stored vs q.1 q.2) := by
      have := r0.put p.1 h.2
      rw [← h.1]; exact this
    exact ih e
theorem length_mergeK : ∀ (more kvs : List (Key × V)), (mergeK kvs more).length ≤ kvs.length + more.length
  | [], kvs => by show kvs.length ≤ kvs.length + 0; omega
  | p :: r, kvs => by
    have h1 := length_mergeK r (putK kvs p.1 p.2)
    have h2 := length_putK kvs p.1 p.2
    show (mergeK (putK kvs p.1 p.2) r).length ≤ _
    rw [List.length_cons]; omega
theorem carries_of {P : Program} {w : World} : ∀ {kvs : List (Key × V)} {ws : List (Value × Value)}, VV (kvs.map fun kv => (kV kv.1, kv.2)) ws → ∃ rs, Carries (mixKind P w) ws rs ∧ KV kvs rs
  | [], _, r => by rw [List.map_nil] at r; cases r; exact ⟨[], True.intro, .nil⟩
  | p :: kvs, _, r => by
    rw [List.map_cons] at r
    cases r with
    | @cons a b as bs h t =>
      obtain ⟨rs, c, q⟩ := carries_of (P := P) (w := w) t
      obtain ⟨b1, b2⟩ := b
      exact ⟨(p.1, b2) :: rs, ⟨kV_is h.1, rfl, c⟩, .cons ⟨rfl, h.2⟩ q⟩
/-- {k: v, ..} with keys ints and texts; the new dict stands empty while the pairs are made -/
def tDisp (trs : List (TE × TE)) : TE := fun σ H Q => ∀ p, H p = none → tPairs trs σ (upd H p (.dK [])) fun ps H2 => H2 p = some (.dK []) ∧ ∃ kvs : List (Key × V), ps = kvs.map (fun kv => (kV kv.1, kv.2)) ∧ kvs.length ≤ 15 ∧ Q (.ref p) (upd H2 p (.dK (mergeK [] kvs)))
theorem pe_disp {X : Cx} {pos : Pos} {keys : List (Option Expr)} {values : List Expr} {trs : List (TE × TE)} (h : PPs X pos keys values trs) (hall : keys.all (·.isSome) = true) (hl : keys.length = values.length) (h0 : keys ≠ [])
    (h15 : keys.length ≤ 15) : PE X (.Dict keys values pos) (tDisp trs) := by
  intro pins s σ H Q I q
  have hn := I.hok.fresh (Nat.le_refl s.heap.objs.size)
  have I1 := I.laid (a := s.heap.objs.size) (o := .dK []) (h' := s.heap.push { cls := .type "dict", data := .dict #[] }) (t' := s.toks) (fun _ _ q => Heap.get?_push_of_some _ q) (Nat.le_refl _) (dk_empty s.heap I.big)
  refine wpAny_Dict_walk (knd := mixKind X.prog X.w) hall hl h0 h15 (thn (h pins _ σ _ _ I1 (q _ hn)) fun ws s2 ⟨ps, H2, I2, rel, e, kvs, ep, lk, q2⟩ => ?_)
  subst ep
  obtain ⟨rs, c, rk⟩ := carries_of (P := X.prog) (w := X.w) rel
  obtain ⟨z, hd, vs0, r0, dd⟩ := dk_of I2.hok e
  cases r0
  refine ⟨rs, c, dd, fun h' dd' hs => ⟨.ref s.heap.objs.size, _, ?_, rfl, q2⟩⟩
  have hz : (mergeK [] kvs).length ≤ sizeLine := by
    have h1 := length_mergeK kvs []
    rw [List.length_nil] at h1
    rw [sizeLine_eq]; omega
  have he : ∃ q, h'.get? s.heap.objs.size = some q := let ⟨q, _, _, hq, _⟩ := dd'; ⟨q, hq⟩
  exact d_write I2 (by rw [e]; exact True.intro) hs he (dk_new hz hd (rk.merge .nil) dd')


/-! ### methods -/
/-- a method call o.m(e) of a built-in, with one argument: what must be seen of the text -/
structure M1 (X : Cx) (o : Expr) (m : Str) (apos : Pos) (e : Expr) (cpos : Pos) : Prop where
  base : attributeBase o m X.env (eval o X.env) = eval o X.env
  few : ((backTo cpos (starEach [e] X.env)).all (fun x => !x.1) && (backToKw cpos (keywordEach [] X.env)).all (fun x => x.1.isSome)
    && decide (([e] : List Expr).length + ([] : List Keyword).length + (if ([] : List Keyword).isEmpty then 0 else 1) < 30)) = true
  line : (apos.endLine == cpos.line) = true
  trees : backTo cpos (starEach [e] X.env) = [(false, eval e X.env)]
structure M2 (X : Cx) (o : Expr) (m : Str) (apos : Pos) (e f : Expr) (cpos : Pos) : Prop where
  base : attributeBase o m X.env (eval o X.env) = eval o X.env
  few : ((backTo cpos (starEach [e, f] X.env)).all (fun x => !x.1) && (backToKw cpos (keywordEach [] X.env)).all (fun x => x.1.isSome)
    && decide (([e, f] : List Expr).length + ([] : List Keyword).length + (if ([] : List Keyword).isEmpty then 0 else 1) < 30)) = true
  line : (apos.endLine == cpos.line) = true
  trees : backTo cpos (starEach [e, f] X.env) = [(false, eval e X.env), (false, eval f X.env)]

/-- a is a dict, whatever its keys -/
def IsD (H : Hp) (a : Addr) : Prop := (∃ kvs, Rd H a (.dK kvs)) ∨ ∃ kvs, Rd H a (.dT kvs)
section
variable {X : Cx} {pins : List (Addr × Obj)} {σ : St} {H : Hp} {s : Shared} {a : Addr} {y d : V} {u r : Value} {o : Option V} {A : Around} {E : Value → Shared → Prop}
end

def tDGet1 (td ty : TE) : TE := fun σ H Q => td σ H fun x H1 => ∃ a, x = .ref a ∧ IsD H1 a ∧ ty σ H1 fun y H2 => ∃ o, DGet H2 a y o ∧ Q (o.getD .non) H2
def tDGet2 (td ty tx : TE) : TE := fun σ H Q => td σ H fun x H1 => ∃ a, x = .ref a ∧ IsD H1 a ∧ ty σ H1 fun y H2 => tx σ H2 fun z H3 => ∃ o, DGet H3 a y o ∧ Q (o.getD z) H3
/-- d.pop(k): there; d.pop(k, x): there or not -/
def tDPop1 (td ty : TE) : TE := fun σ H Q => td σ H fun x H1 => ∃ a, x = .ref a ∧ IsD H1 a ∧ ty σ H1 fun y H2 => ∃ kvs k v, H2 a = some (.dK kvs) ∧ y = kV k ∧ valV kvs k = some v ∧ Q v (upd H2 a (.dK (dropK kvs k)))
def tDPop2 (td ty tx : TE) : TE := fun σ H Q => td σ H fun x H1 => ∃ a, x = .ref a ∧ IsD H1 a ∧ ty σ H1 fun y H2 => tx σ H2 fun z H3 => ∃ kvs k, H3 a = some (.dK kvs) ∧ y = kV k ∧
  (∀ v, valV kvs k = some v → Q v (upd H3 a (.dK (dropK kvs k)))) ∧ (valV kvs k = none → Q z H3)
section
variable {X : Cx} {o e f : Expr} {apos cpos : Pos} {td ty tx : TE}
end

/-! ### dict(d): a copy -/
section
variable {X : Cx} {pins : List (Addr × Obj)} {σ : St} {H : Hp} {s : Shared} {a : Addr} {kvs : List (Key × V)} {A : Around} {E : Value → Shared → Prop}
end


section
variable {X : Cx} {pins : List (Addr × Obj)} {σ : St} {H : Hp} {s : Shared} {a : Addr} {y : V} {u : Value} {A : Around} {E : Value → Shared → Prop}
end
end L2

namespace Att
open PySem PySem.W PySem.Calls PyProof.Rows

/-! ### the script -/
theorem ints_of_wellAll {P : Params} {h : Heap} : ∀ (ns : List Int) (vs : List Value), WellAll P h vs (ns.map WData.int) → IntsAre vs ns := by
  intro ns
  induction ns with
  | nil =>
    intro vs w
    rw [List.map_nil] at w
    cases w
    exact .nil
  | cons n ns ih =>
    intro vs w
    rw [List.map_cons] at w
    cases w with
    | cons a b =>
      cases a
      exact .cons _ _ (ih _ b)

theorem script_of {l : OpenLaw} {n : Nat} (hn : l.most = some n) {P : Params} {h : Heap} {args : List WData} {vals : List Value}
    (hpre : l.row.toRowW.claim.pre args = true) (hwl : WellAll P h vals args) :
    ∃ a vs ns, vals = [Value.ref a] ∧ args = [WData.list (ns.map WData.int)] ∧ h.get? a = some { cls := .type "list", data := .seq vs.toArray } ∧ IntsAre vs ns ∧ ns.length ≤ n := by
  have hsh : WShape.hasAll [] args [.list .int] = true := (pre_splitW hpre).1
  have hc : l.pre.holds [] { args := args } = true := (pre_splitW hpre).2
  obtain ⟨d, r, rfl, h1, h2⟩ := hasAllW_cons hsh
  obtain rfl := hasAllW_nil h2
  obtain ⟨xs, rfl, h3⟩ := hasW_list h1
  obtain ⟨ns, rfl⟩ := items_int h3
  have hlen : ns.length ≤ n := by
    unfold OpenLaw.pre at hc
    have h4 : (WTm.not (.lt (.lit (.int (n : Int))) (.len (.arg 0)))).holds [] { args := [.list (ns.map .int)] } = true := by
      have h4 := (holds_andW hc).1
      rw [hn] at h4
      exact h4
    have h5 := condW_of h4 (w_not (w_lt w_lit (w_len_list (w_arg rfl))))
    rw [List.length_map] at h5
    refine Nat.le_of_not_lt fun q => ?_
    have q' : (n : Int) < ((ns.length : Nat) : Int) := by omega
    first
      | (rw [decide_eq_true q'] at h5; exact absurd h5 (by decide))
      | (simp at h5; omega)
  cases hwl with
  | cons w1 w2 =>
    cases w2
    cases w1 with
    | list ho hall => exact ⟨_, _, ns, rfl, rfl, ho, ints_of_wellAll ns _ hall, hlen⟩

theorem post_true (l : OpenLaw) (args : List WData) : l.row.toRowW.claim.post args (.bool true) args = true :=
  postW_of (r := l.row.toRowW) (X := (true == true))
    (show WShape.has [] (.bool true) .bool = true by first | rfl | decide | simp [WShape.has, WShape.arms, WShape.armsAll])
    (show (WTm.eq .res (.lit (.bool true))).value [] { args := args, res := some (.bool true), after := args } = some (.bool (true == true)) from w_eq_bool (w_res rfl) w_lit) rfl

/-! ### the attachment: holds_open's last premise (the goal 'hc' behind k_head) from a wpAny of the law's body -/
/-- the same from a codeAny of the CALL (for a layer whose function contracts speak of calls) -/
theorem attach_call {l : OpenLaw} {n : Nat} {q : Program} {loose : List Str} {XP : (Str → Option Value) → Heap → Prop} {YP : World → Heap → Prop} {d : DefRec}
    (hn : l.most = some n) (hdf : d.params.defaults = [])
    (call : ∀ (w : World) (s₀ s₁ : Shared) (mg mb : Str → Option Value) (fa : Addr) (o : Obj) (pm cd doc : Value) (a : Addr) (vs : List Value) (ns : List Int),
      Ground q loose [] XP w s₀ mg mb s₁.heap → YP w s₁.heap →
      s₁.heap.get? fa = some o → o.data = .func (docDef d.name d.params d.body d.scope pm cd doc) → s₁.heap.CodeRec cd d.name → mg d.name = some (.ref fa) →
      s₁.heap.get? a = some { cls := .type "list", data := .seq vs.toArray } → IntsAre vs ns → ns.length ≤ n → s₁.gens = #[] →
      codeAny (model l.prog w) callerA (.call (.ref fa) ⟨[.ref a], []⟩) (fun r s' => r = .ok (.ret (.bool true)) ∧ OldK s₁.heap s'.heap ∧ s'.os = s₁.os ∧ AllBare s'.gens) s₁) :
    WalkO q loose XP YP l.row.toRowW d [] (fun f vs => PySem.call f vs) := by
  intro w s₀ s₁ mg mb G Y fa o pm cd doc dV kV ho hd hcd hD hmg hg args vals as hpre hlay hrd hwl hlo
  obtain rfl : dV = .none := Dflts.none hD hdf
  obtain rfl : kV = .none := Dflts.noKw hD
  obtain ⟨a, vs, ns, rfl, rfl, hobj, hints, hlen⟩ := script_of hn hpre hwl
  refine enter_call (codeAny_mono (call w s₀ s₁ mg mb fa o pm cd doc a vs ns G Y ho (fd_plain hd) hcd hmg hobj hints hlen hg) fun r s' hq => ?_)
  obtain ⟨rfl, h2, h3, h4⟩ := hq
  exact ⟨.inl ⟨.bool true, .bool true, [], rfl, fun _ => rfl, .bool true, post_true l _, fun _ => ⟨List.Pairwise.nil, fun _ hm => (nomatch hm)⟩⟩, h2, h3, h4⟩

/-! ### rules over ANY heap (no ledger) from facts about the written part K: the library's own take a ledger (News) for what they write -/
section
variable {prog : Program} {w : World} {A : Around} {E : Value → Shared → Prop} {s : Shared} {K : Frag}

/-! the whole heap as the ledger: makes every rule that writes through a ledger a rule over any heap -/
def noObjs (h : Heap) : Heap := { h with objs := #[] }
def ledger (h : Heap) (L d : Addr) : List (Addr × Obj) := (List.range h.objs.size).filterMap fun a => if a = L ∨ a = d then none else (h.get? a).map fun o => (a, o)
end
end Att

namespace L2
open PySem PySem.Spec PyProof.Rows

theorem vals_ints : ∀ {vs : List Value} {ns : List Int}, IntsAre vs ns → Vals (ns.map V.int) vs
  | _, _, .nil => .nil
  | _, _, .cons n t h => .cons ⟨t, rfl⟩ (vals_ints h)

/-- nothing is tracked but the script, known to the object (or it is an object of the module) -/
def Only (H : Hp) : Prop := ∀ b, H b = none ∨ ∃ o xs, H b = some (.frz o (.lst xs))

/-- THE HEAD: the law's promise, at the heap behind the top. F, the promise of the law's def, may use that base is part of the heap (so K.In base, base.Ns mainGlobals mg stand in Mod) -/
theorem law_call {P : Program} {w : World} {K : PySem.W.Frag} {mg mb : Str → Option Value} {CX : CXT} {k : Nat} {fa a : Addr} {fd : FuncData} {x : Str} {sp : Sp} {s₁ : Shared} {vs : List Value} {ns : List Int}
    (KX : K.In s₁.heap) (hns : s₁.heap.Ns mainGlobals mg) (hb : s₁.heap.Ns builtinsNs mb) (hbb : ∀ x : Str, x ≠ "__name__" → mb x = bootBuiltins x) (hlim : s₁.heap.NoLimit) (hg : s₁.gens = #[])
    (ha : s₁.heap.get? a = some { cls := .type "list", data := .seq vs.toArray }) (hi : IntsAre vs ns) (hl : ns.length ≤ sizeLine) (hr : Room k callerA)
    (F : ∀ base : Heap, K.In base → base.Ns mainGlobals mg → FnOk P w K mg base CX k fa fd [x] sp) (hbind : ∀ (s : Shared) (u : Value), BindsTo s fd ⟨[u], []⟩ [(x, u)])
    (hsp : ∀ H : Hp, Only H → SqL K H a (ns.map V.int) → sp [.ref a] H (fun v _ => v = .bl true) fun _ _ _ => False)
    (hCX : ∀ H e s', CX [] H s₁ (fun _ _ _ => False) e s' → False) :
    codeAny (model P w) callerA (.call (.ref fa) ⟨[.ref a], []⟩) (fun r s' => r = .ok (.ret (.bool true)) ∧ OldK s₁.heap s'.heap ∧ s'.os = s₁.os ∧ AllBare s'.gens) s₁ := by
  have rv := vals_ints hi
  have lenV := hi.length
  -- from an abstract heap in which nothing but the script may be tracked
  have core : ∀ H : Hp, Only H → SqL K H a (ns.map V.int) → HOk P w H s₁.heap → (∀ b, H b ≠ none → b = a) → (H a ≠ none → K.lookup a = none) →
      codeAny (model P w) callerA (.call (.ref fa) ⟨[.ref a], []⟩) (fun r s' => r = .ok (.ret (.bool true)) ∧ OldK s₁.heap s'.heap ∧ s'.os = s₁.os ∧ AllBare s'.gens) s₁ := by
    intro H hO hS hok hA hK
    have base_of : ∀ {b : Addr} {o : Obj}, s₁.heap.get? b = some o → H b = none → (hidT s₁.heap H).get? b = some o := fun e n => hidT_get e n
    have noA : ∀ {b : Addr} {o : Obj} {es : Array DictEntry} {ep : Nat}, s₁.heap.get? b = some o → o.data = .dict es ep → H b = none := fun {b o es ep} e d => by
      cases q : H b with
      | none => rfl
      | some u =>
        have e' : b = a := hA b (by rw [q]; simp)
        subst e'
        rw [ha] at e; cases e
        have d' : Data.seq vs.toArray _ = Data.dict es ep := d
        cases d'
    have nsK : ∀ {b : Addr} {m : Str → Option Value}, s₁.heap.Ns b m → (hidT s₁.heap H).Ns b m := fun {b m} ⟨o, es, ep, e, d, r⟩ => ⟨o, es, ep, base_of e (noA e d), d, r⟩
    have hKb : K.In (hidT s₁.heap H) := fun b o e => base_of (KX b o e) (by
      cases q : H b with
      | none => rfl
      | some u =>
        have e' : b = a := hA b (by rw [q]; simp)
        subst e'
        rw [hK (by rw [q]; simp)] at e; cases e)
    have hM : Mod K mg (hidT s₁.heap H) := ⟨hKb, nsK hns, ⟨mb, nsK hb, hbb⟩, let ⟨mc, h1, h2⟩ := hlim; ⟨mc, nsK h1, h2⟩⟩
    have e0 : Env0 P w K mg (hidT s₁.heap H) callerA [] s₁ H := ⟨rfl, hM, fun b o e => of_hidT e, Nat.le_of_eq (hidT_size _ _), trivial, fun b hb => absurd (show b ∈ ([] : List Addr) from hb) (by simp), hok, .of_eq hg⟩
    refine codeAny_mono ((F _ hKb (nsK hns)).run callerA [] s₁ H ⟨[.ref a], []⟩ [.ref a] [.ref a] _ _ hr e0 (hbind s₁ (.ref a)) (.cons rfl .nil) (hsp H hO hS)) fun r s' h => ?_
    cases r with
    | error e => exact (hCX H e s' h).elim
    | ok fl =>
      cases fl with
      | next => exact False.elim h
      | brk => exact False.elim h
      | cont => exact False.elim h
      | ret u =>
        obtain ⟨v, H', os, bare, un, hok', r', q⟩ := h
        have q' : v = .bl true := q
        subst q'
        obtain rfl : u = Value.bool true := r'
        refine ⟨rfl, OldK.of_keep fun b o e => ?_, os, bare⟩
        cases q : H b with
        | none => exact un.keep b o e q (by intro z; exact absurd (show b ∈ ([] : List Addr) from z) (by simp)) (by simp)
        | some u =>
          rcases hO b with z | ⟨ob, xs, z⟩
          · rw [q] at z; cases z
          · have z2 := un.frzs b ob _ z
            obtain ⟨e1, _⟩ := hok b _ z
            obtain ⟨e2, _⟩ := hok' b _ z2
            rw [e] at e1; cases e1
            exact e2
  cases hk : K.lookup a with
  | some o =>
    -- the script is one of the module's own objects
    have e := KX a o hk
    rw [ha] at e
    cases e
    refine core (fun _ => none) (fun _ => .inl rfl) (.inr ⟨_, vs.toArray, _, hk, rfl, rfl, rfl, by rw [List.size_toArray, lenV]; exact hl, by simpa using rv⟩) (fun b u z => by have z' : (none : Option HO) = some u := z; cases z') (fun b z => absurd rfl z) fun z => absurd rfl z
  | none =>
    refine core (fun b => if b = a then some (.frz { cls := .type "list", data := .seq vs.toArray } (.lst (ns.map V.int))) else none) (fun b => ?_) (.inl (.inr ⟨{ cls := .type "list", data := .seq vs.toArray }, if_pos rfl⟩)) (fun b u z => ?_) (fun b z => ?_) fun _ => hk
    · by_cases hb : b = a
      · exact .inr ⟨_, _, if_pos hb⟩
      · exact .inl (if_neg hb)
    · by_cases hb : b = a
      · have z' := (if_pos hb).symm.trans z
        cases z'
        subst hb
        exact ⟨ha, by rw [List.length_map]; exact hl, vs, _, rv, ha⟩
      · have z' := (if_neg hb).symm.trans z
        cases z'
    · by_cases hb : b = a
      · exact hb
      · exact absurd (if_neg hb) z
end L2

namespace L2
open PySem PySem.Spec PyProof.Rows

abbrev KOf {K : PySem.W.Frag} {h : Heap} (_ : K.In h) : PySem.W.Frag := K

/-- the goal that k_head leaves (case hc), from the law's promise. F gives the function object fd (K's own) once, then the promise over every base -/
theorem walk_of {l : PySem.W.OpenLaw} {n k : Nat} {q : Program} {loose : List Str} {XP : (Str → Option Value) → Heap → Prop} {YP : World → Heap → Prop} {d : DefRec} {K : Params → PySem.W.Frag} {CX : World → CXT} {sp : World → Sp} {x : Str}
    (hn : l.most = some n) (hn2 : n ≤ sizeLine) (hdf : d.params.defaults = []) (hr : Room k callerA)
    (hY : ∀ (w : World) (h : Heap), YP w h → (K w.params).In h)
    (F : ∀ (w : World) (mg : Str → Option Value) (fa : Addr) (h : Heap), (K w.params).In h → h.Ns mainGlobals mg → mg d.name = some (.ref fa) →
      ∃ fd : FuncData, (∀ (s : Shared) (u : Value), BindsTo s fd ⟨[u], []⟩ [(x, u)]) ∧
        ∀ base : Heap, (K w.params).In base → base.Ns mainGlobals mg → FnOk l.prog w (K w.params) mg base (CX w) k fa fd [x] (sp w))
    (hsp : ∀ (w : World) (H : Hp) (a : Addr) (ns : List Int), ns.length ≤ n → Only H → SqL (K w.params) H a (ns.map V.int) → sp w [.ref a] H (fun v _ => v = .bl true) fun _ _ _ => False)
    (hCX : ∀ (w : World) (H : Hp) (s : Shared) (e : Value) (s' : Shared), CX w [] H s (fun _ _ _ => False) e s' → False) :
    PySem.W.WalkO q loose XP YP l.row.toRowW d [] (fun f vs => PySem.call f vs) := by
  refine Att.attach_call hn hdf fun w s₀ s₁ mg mb fa o pm cd doc a vs ns G Y ho hd hcd hmg hobj hints hlen hg => ?_
  have KX := hY w _ Y
  obtain ⟨fd, hb, hF⟩ := F w mg fa _ KX G.T.g hmg
  exact law_call KX G.T.g G.T.b G.T.builtins G.T.nolimit hg hobj hints (Nat.le_trans hlen hn2) hr hF hb (fun H hO hS => hsp w H a ns hlen hO hS) fun H e s' => hCX w H s₁ e s'
end L2

/- THE LAST THEOREM (shape; LID, My.* are yours):
   My.Adr: a structure of the addresses that your layer names (classes, functions); My.Txt K t: a structure (Prop) of the equations over K;
   My.txt_mk : {K} {implicit addresses ..} (e1 : nsIn K mainGlobals "law" = some (some (.ref f))) (e2 : K.lookup f = some ⟨oc, od, .func (fnOf "law" "law" params body scope dV kV doc pm an cdv ct), sl⟩) (e3 : codeIn K cdv "law" = true) .. : ∃ t, My.Txt K t

set_option maxRecDepth 100000 in
set_option maxHeartbeats 0 in
theorem PySem.Challenge.cw_LID_holds : PySem.Challenge.rw_LID.Holds := by
  w_on; o_law; k_head; (case hw => w_witness2)
  k_fill
  refine L2.walk_of (l := PySem.Challenge.rw_LID) (n := 63) (k := 40) (x := "script") (CX := fun w => ..) (sp := fun _ => My.sp_law) rfl (by decide) rfl ⟨rfl, by decide, by decide⟩ (fun w h Y => PySem.W.kIn_of Y) ?F ?S ?C
  case F =>
    intro w mg fa h KX G hmg
    have T : ∃ t, My.Txt (L2.KOf KX) t := by
      dsimp only [L2.KOf]                          -- K must stand as «<heap const> w.params» for k_is
      refine' My.txt_mk ?e1 ?e2 ?e3 ..
      (case e1 => PySem.W.k_is)                    -- in the order: a name -> its address -> its object -> its parts
      (case e2 => PySem.W.k_is)
      ..
    obtain ⟨t, T⟩ := T
    have e0 := hmg.symm.trans (PySem.W.mg_of KX G T.law)
    cases e0                                       -- fa is the law's own address
    exact ⟨_, fun s u => .of_eq rfl, fun base kb nb => My.law_fn T kb nb⟩     -- if «.of_eq rfl» comes too early: refine' ⟨_, ?b, fun base kb nb => My.law_fn T kb nb⟩; exact fun s u => .of_eq rfl
  case S => exact fun w H a ns hl hO hS => ..
  case C => exact ..
(the tactic k_is has no namespace: write k_is) -/

/-! SHORT WORDS over the layer: a def of the text, its body, what a loop and a test want. -/
namespace L2
open PySem PySem.Spec PyProof.Rows

/-! ### the text by places -/
/-- the j-th statement of a class's body -/
def inClass (s : Stmt) (j : Nat) : Stmt := match s with
  | .ClassDef _ _ _ body _ _ _ _ _ _ _ => body.getD j (.Pass ⟨0, 0, 0, 0⟩)
  | _ => .Pass ⟨0, 0, 0, 0⟩
def defArgs (s : Stmt) : Arguments := match s with
  | .FunctionDef _ a _ _ _ _ _ _ _ _ => a
  | _ => { posonlyargs := [], args := [], vararg := none, kwonlyargs := [], kw_defaults := [], kwarg := none, defaults := [] }
def defBody (s : Stmt) : List Stmt := match s with
  | .FunctionDef _ _ b _ _ _ _ _ _ _ => b
  | _ => []
def defScope (s : Stmt) : Scope := match s with
  | .FunctionDef _ _ _ _ _ _ sc _ _ _ => sc
  | _ => { kind := .function, names := [], isGenerator := false, isCoroutine := false }

/-! ### no exception leaves a def -/
abbrev CX0 : CXT := fun _ _ _ _ _ _ => False
abbrev E0 : XK := fun _ _ _ => False
theorem pass0 {X : Cx} : Passes CX0 X E0 := fun _ _ _ _ _ _ _ h => h.elim

/-! ### a def (or method) of the text as it stands behind the top -/
structure Fun (K : PySem.W.Frag) (x qual : Str) (st : Stmt) (f : Addr) (fd : FuncData) : Prop where
  ex : ∃ (oc : Value) (od : Option Addr) (kV doc pm : Value) (an : Option Addr) (cdv ct : Value) (osl : Array (Option Value)),
    fd = PySem.W.fnOf x qual (defArgs st) (defBody st) (defScope st) .none kV doc pm an cdv ct ∧ K.lookup f = some ⟨oc, od, .func fd, osl⟩ ∧ PySem.W.codeIn K cdv qual = true
  kp : PySem.W.keepIn K (.ref f) = true
section
variable {P : Program} {w : World} {K : PySem.W.Frag} {mg : Str → Option Value} {base : Heap}
/-- THE RULE for a def: its body as a term of rules, and the reading of that term -/
theorem Fun.ok {x qual : Str} {st : Stmt} {f : Addr} {fd : FuncData} {N ps : List Str} {k : Nat} {sp : Sp} (F : Fun K x qual st f fd) (S : FnScope N ps (defScope st)) (len : ∀ vs H Q E, sp vs H Q E → vs.length = ps.length)
    (hbody : ∀ (cdv : Value) (A : Around) (outer : List Env) (s : Shared) (H : Hp) (vs : List V) (Q : VK) (E : XK), Room k (A.deeper (envOfC qual (defScope st) s.heap.objs.size f cdv)) → sp vs H Q E →
      ∃ t, PSs (cxOf CX0 P w K mg base N qual (defScope st) f cdv A outer s H E).nox (defBody st) t ∧ t { nx := fun _ H' => Q .non H', rt := Q } (start N vs) H) : FnOk P w K mg base CX0 (k + 1) f fd ps sp := by
  obtain ⟨oc, od, kV, doc, pm, an, cdv, ct, osl, rfl, lk, hcd⟩ := F.ex
  refine fn_of lk hcd S len fun A outer s H vs Q E hr hsp => ?_
  obtain ⟨t, h, q⟩ := hbody cdv A outer s H vs Q E hr hsp
  exact ⟨t, h.nox, q⟩
/-- how its arguments bind (no defaults): h is «fun _ _ _ _ _ _ us hl => match us, hl with | [_, _], _ => rfl», one _ a parameter -/
theorem Fun.binds {x qual : Str} {st : Stmt} {f : Addr} {fd : FuncData} {ps : List Str} (F : Fun K x qual st f fd)
    (h : ∀ (kV doc pm : Value) (an : Option Addr) (cdv ct : Value) (us : List Value), us.length = ps.length → bindArgs (PySem.W.fnOf x qual (defArgs st) (defBody st) (defScope st) .none kV doc pm an cdv ct) ⟨us, []⟩ = pure (ps.zip us)) : Binds K fd ps [] := by
  obtain ⟨oc, od, kV, doc, pm, an, cdv, ct, osl, rfl, lk, hcd⟩ := F.ex
  exact .all (h kV doc pm an cdv ct)
theorem fun_mk {x qual : Str} {st : Stmt} {f : Addr} {oc : Value} {od an : Option Addr} {osl : Array (Option Value)} {kV doc pm cdv ct : Value} (l : K.lookup f = some ⟨oc, od, .func (PySem.W.fnOf x qual (defArgs st) (defBody st) (defScope st) .none kV doc pm an cdv ct), osl⟩)
    (c : PySem.W.codeIn K cdv qual = true) (k : PySem.W.keepIn K (.ref f) = true) : Fun K x qual st f (PySem.W.fnOf x qual (defArgs st) (defBody st) (defScope st) .none kV doc pm an cdv ct) := ⟨⟨oc, od, kV, doc, pm, an, cdv, ct, osl, rfl, l, c⟩, k⟩
end
theorem hu_of {A : Around} {k : Nat} (hr : Room k A) : A.units + 1 < cLine := Nat.lt_of_le_of_lt (Nat.add_le_add_left (by decide : 1 ≤ 64) _) hr.units
theorem small1000 {n : Nat} (h : n ≤ 1000) : n < sizeLine := Nat.lt_of_le_of_lt h (by decide)

/-! ### expressions in short: the name that stands in the i-th slot -/
section
variable {X : Cx}
theorem pv (i : Nat) {x : Str} {pos : Pos} (hN : X.N[i]? = some x := by rfl) (hv : Vis X.env.scope x := by first | exact Or.inl rfl | exact Or.inr (Or.inl rfl) | exact Or.inr (Or.inr rfl)) (hd : (x == ("__debug__" : Str)) = false := by decide)
    (hcd : (x == ("__classdict__" : Str)) = false := by decide) : PE X (.Name x pos) (tVar i) := pe_var hN hv hd hcd
end

/-! ### tests -/
theorem iteF {A B : Prop} (h : B) : if false = true then A else B := by
  rw [if_neg Bool.false_ne_true]
  exact h
theorem iteT {A B : Prop} (h : A) : if true = true then A else B := by
  rw [if_pos rfl]
  exact h
theorem ite2 {c A B : Prop} [Decidable c] (h1 : c → A) (h2 : ¬ c → B) : if c then A else B := by
  by_cases h : c
  · rw [if_pos h]
    exact h1 h
  · rw [if_neg h]
    exact h2 h
theorem iteNS {c A B : Prop} [Decidable c] (hc : c) (h : B) : if (!decide c) = true then A else B := by
  rw [decide_eq_true hc]
  exact iteF h

/-! ### heaps -/
/-- all that was tracked is as it was -/
def Same (H H' : Hp) : Prop := ∀ b o, H b = some o → H' b = some o
theorem Same.refl (H : Hp) : Same H H := fun _ _ h => h
theorem Same.trans {H H1 H2 : Hp} (a : Same H H1) (b : Same H1 H2) : Same H H2 := fun c o h => b c o (a c o h)
theorem Same.free {H H' : Hp} (e : Same H H') {l : Addr} (h : H' l = Option.none) : H l = Option.none := by
  cases q : H l with
  | none => rfl
  | some o =>
    rw [e l o q] at h
    cases h
theorem Same.seq {K : PySem.W.Frag} {H H' : Hp} {a : Addr} {xs : List V} (e : Same H H') (h : SqL K H a xs) : SqL K H' a xs := by
  rcases h with (h | ⟨o, h⟩) | h
  · exact .inl (.inl (e _ _ h))
  · exact .inl (.inr ⟨o, e _ _ h⟩)
  · exact .inr h

end L2

namespace L2
open PySem PySem.Spec PyProof.Rows
section
variable {X : Cx}
end
/-! ### a dict's pairs: keys that differ -/
section
variable {κ : Type} [DecidableEq κ]
end
end L2

set_option maxHeartbeats 40000000
/-! The row's text with its names as lists of codes: one function of how a name is read, so that the equation is one step (the kit's own makes a step for each name, with a binder for each: 3 MB) -/
namespace TwinA
open PySem
noncomputable def lowL (l : List Nat) : Bool := @List.rec Nat (fun _ => Bool) true (fun n _ ih => @Bool.rec (fun _ => Bool) false ih (Nat.blt n 128)) l
noncomputable def litV (l : List Nat) : Str := Str.mk (Array.mk l)
noncomputable def litU (l : List Nat) : Str := @Bool.rec (fun _ => Str) (litV l) (Str.ofString (String.ofList (l.map Char.ofNat))) (lowL l)
theorem low_map : ∀ l : List Nat, lowL l = true → (l.map Char.ofNat).map Char.toNat = l
  | [], _ => rfl
  | n :: l, h => by
    have h2 : @Bool.rec (fun _ => Bool) false (lowL l) (Nat.blt n 128) = true := h
    cases e : Nat.blt n 128 with
    | false => rw [e] at h2; cases h2
    | true =>
      rw [e] at h2
      have h3 : lowL l = true := h2
      have h4 : n < 128 := Nat.lt_of_lt_of_le (Nat.le_of_ble_eq_true e) (Nat.le_refl _)
      have h5 : (Char.ofNat n).toNat = n := by
        unfold Char.ofNat
        rw [dif_pos (show n.isValidChar from Or.inl (by omega))]
        rfl
      show (Char.ofNat n).toNat :: (l.map Char.ofNat).map Char.toNat = n :: l
      rw [h5, low_map l h3]
theorem lit_eq : litU = litV := by
  funext l
  unfold litU
  cases e : lowL l with
  | false => rfl
  | true =>
    show Str.ofString (String.ofList (l.map Char.ofNat)) = litV l
    rw [PySem.W.Fast.ofString_ofList, low_map l e]
    rfl
end TwinA

/-! Rules of our own over the hand layer: == and != beside an empty list, isinstance, extend by a tuple, count, sum -/
namespace L3
open PySem PySem.Spec PyProof.Rows L2
section
variable {X : Cx}

/-! ### a list beside an empty one -/
def rEqNil (neg : Bool) : R2 := fun x y H Q => ∃ a b xs, x = .ref a ∧ y = .ref b ∧ H a = some (.lst xs) ∧ H b = some (.lst []) ∧
  Q (.bl (if neg then !xs.isEmpty else xs.isEmpty)) H
theorem op_eqNil (hu : X.A.units < cLine) : OpR X (compareOp .Eq) (rEqNil false) := by
  intro pins s σ H x y v u Q I rx ry h
  obtain ⟨a, b, xs, rfl, rfl, ha, hb, q⟩ := h
  cases rx
  cases ry
  obtain ⟨its, r, pl, hz⟩ := I.list (SqL.of ha)
  obtain ⟨its2, r2, pl2, hz2⟩ := I.list (SqL.of hb)
  obtain rfl := Vals.zero r2
  cases xs with
  | nil =>
    obtain rfl := Vals.zero r
    exact SeqAt.eq_listAt (e := fun _ => true) pl.isList pl2.isList rfl hu (fun j h1 _ => absurd h1 (by simp)) ⟨.bl _, H, I, rfl, q⟩
  | cons y ys =>
    have hl := r.length
    refine SeqAt.eq_list_lengthsAt pl.isList pl2.isList ?_ hu ⟨.bl false, H, I, rfl, q⟩
    simp only [List.length_cons] at hl
    simp only [List.size_toArray, List.length_nil, bne_iff_ne, ne_eq]
    omega
theorem op_neNil (hu : X.A.units < cLine) : OpR X (compareOp .NotEq) (rEqNil true) := by
  intro pins s σ H x y v u Q I rx ry h
  obtain ⟨a, b, xs, rfl, rfl, ha, hb, q⟩ := h
  cases rx
  cases ry
  obtain ⟨its, r, pl, hz⟩ := I.list (SqL.of ha)
  obtain ⟨its2, r2, pl2, hz2⟩ := I.list (SqL.of hb)
  obtain rfl := Vals.zero r2
  cases xs with
  | nil =>
    obtain rfl := Vals.zero r
    exact SeqAt.RcNeAt.lists (e := fun _ => true) pl.isList pl2.isList rfl hu (fun j h1 _ => absurd h1 (by simp)) _ _ _ _ ⟨.bl _, H, I, rfl, q⟩
  | cons y ys =>
    have hl := r.length
    refine SeqAt.RcNeAt.lists_lengths pl.isList pl2.isList ?_ hu _ _ _ _ ⟨.bl true, H, I, rfl, q⟩
    simp only [List.length_cons] at hl
    simp only [List.size_toArray, List.length_nil, bne_iff_ne, ne_eq]
    omega

/-! ### isinstance -/
def rIsi (K : PySem.W.Frag) : List V → Hp → VK → Prop := fun xs H Q => ∃ x n t b, xs = [x, .ty n] ∧ TyOf K H x t ∧ PySem.W.kitOne K t (.type n) = some b ∧ Q (.bl b) H
theorem call_isi : CallR X (.builtin "isinstance") (rIsi X.K) := by
  intro pins s σ H xs us Q I r h
  obtain ⟨x, n, t, b, rfl, ty, e, q⟩ := h
  obtain ⟨u, v, rfl, rx, rc⟩ := vals2 r
  cases rc
  exact isinst_ok I rx ty e fun tk => ⟨.bl b, H, I.tok tk, rfl, q⟩
/-- .. against a tuple of types just written -/
def rIsiT (K : PySem.W.Frag) : List V → Hp → VK → Prop := fun xs H Q => ∃ (x : V) (p : Addr) (ns : List String) (t : Value) (b : Bool), xs = [x, .ref p] ∧ H p = some (.tup (ns.map V.ty)) ∧ TyOf K H x t ∧ PySem.W.kitAny K t (ns.map Value.type) = some b ∧ Q (.bl b) H
theorem tys_of : ∀ {ns : List String} {us : List Value}, Vals (ns.map V.ty) us → us = ns.map Value.type
  | [], _, .nil => rfl
  | n :: r, _, .cons e t => by
    have e' : _ = Value.type n := e
    rw [e', tys_of t]
    rfl
theorem call_isiT : CallR X (.builtin "isinstance") (rIsiT X.K) := by
  intro pins s σ H xs us Q I r h
  obtain ⟨x, p, ns, t, b, rfl, hp, ty, e, q⟩ := h
  obtain ⟨u, v, rfl, rx, rc⟩ := vals2 r
  cases rc
  obtain ⟨its, rt, tp, hz⟩ := I.tuple (SqT.of hp)
  obtain rfl := tys_of rt
  obtain ⟨⟨cls, dd, data, sl⟩, ho, hc, n, hd⟩ := tp
  simp only at hc hd
  subst hc hd
  have fin : ∀ tk, EP X pins σ Q (.bool b) { s with toks := tk } := fun tk => ⟨.bl b, H, I.tok tk, rfl, q⟩
  cases ty with
  | int i => obtain ⟨t, z⟩ := (show ∃ t, u = Value.int i t from rx); cases z; exact PySem.W.kia_tup PySem.W.kitx_int I.kIn True.intro ho e (fun z => nomatch z) fin
  | str y => obtain ⟨t, z⟩ := (show ∃ t, u = Value.str y t from rx); cases z; exact PySem.W.kia_tup PySem.W.kitx_str I.kIn True.intro ho e (fun z => nomatch z) fin
  | bl y => cases (show u = Value.bool y from rx); exact PySem.W.kia_tup PySem.W.kitx_bool I.kIn True.intro ho e (fun z => nomatch z) fin
  | non => cases (show u = Value.none from rx); exact PySem.W.kia_tup PySem.W.kitx_none I.kIn True.intro ho e (fun z => nomatch z) fin
  | flt y => obtain ⟨t, z⟩ := (show ∃ t, u = Value.float y t from rx); cases z; exact PySem.W.kia_tup PySem.W.kitx_float I.kIn True.intro ho e (fun z => nomatch z) fin
  | @lst a xs ea =>
    cases (show u = Value.ref a from rx)
    obtain ⟨_, _, n, _, h1⟩ := (show ObjOk X.prog X.w H s.heap a (.lst xs) from I.hok a _ ea)
    exact PySem.W.kia_tup PySem.W.kitx_list I.kIn ⟨_, h1, rfl⟩ ho e (fun z => nomatch z) fin
  | @frz a ob xs ea =>
    cases (show u = Value.ref a from rx)
    obtain ⟨_, _, _, n, _, h1⟩ := (show ObjOk X.prog X.w H s.heap a (.frz ob (.lst xs)) from I.hok a _ ea)
    exact PySem.W.kia_tup PySem.W.kitx_list I.kIn ⟨_, h1, rfl⟩ ho e (fun z => nomatch z) fin
  | @tup a xs ea =>
    cases (show u = Value.ref a from rx)
    obtain ⟨_, _, _, o, h1, h2, _⟩ := (show ObjOk X.prog X.w H s.heap a (.tup xs) from I.hok a _ ea)
    exact PySem.W.kia_tup PySem.W.kitx_tuple I.kIn ⟨o, h1, h2⟩ ho e (fun z => nomatch z) fin
  | @dK a kvs ea =>
    cases (show u = Value.ref a from rx)
    obtain ⟨_, _, vs, _, o, es, ep, h1, h2, _⟩ := (show ObjOk X.prog X.w H s.heap a (.dK kvs) from I.hok a _ ea)
    exact PySem.W.kia_tup PySem.W.kitx_dict I.kIn ⟨o, h1, h2.1⟩ ho e (fun z => nomatch z) fin
  | @dT a kvs ea =>
    cases (show u = Value.ref a from rx)
    obtain ⟨_, _, xs, _, o, es, ep, h1, h2, _⟩ := (show ObjOk X.prog X.w H s.heap a (.dT kvs) from I.hok a _ ea)
    exact PySem.W.kia_tup PySem.W.kitx_dict I.kIn ⟨o, h1, h2.1⟩ ho e (fun z => nomatch z) fin
  | @ins a C dx fs ea cl ha hn htk hm =>
    cases (show u = Value.ref a from rx)
    obtain ⟨mA, O, _⟩ := ins_get I.hok ea
    obtain ⟨od, J, _⟩ := O.look
    exact PySem.W.kia_tup (PySem.W.kitx_own (cl.get _) cl.hd ha hn htk hm) I.kIn J ho e (fun z => nomatch z) fin
/- what the deciders say of the built-in types -/
section
variable (K : PySem.W.Frag)
theorem k_int_int : PySem.W.kitOne K (.type "int") (.type "int") = some true := by rfl
theorem k_int_bool : PySem.W.kitOne K (.type "int") (.type "bool") = some false := by rfl
theorem k_str_str : PySem.W.kitOne K (.type "str") (.type "str") = some true := by rfl
theorem k_int_str : PySem.W.kitOne K (.type "int") (.type "str") = some false := by rfl
theorem k_list_list : PySem.W.kitOne K (.type "list") (.type "list") = some true := by rfl
theorem k_list_tuple : PySem.W.kitOne K (.type "list") (.type "tuple") = some false := by rfl
theorem k_tuple_list : PySem.W.kitOne K (.type "tuple") (.type "list") = some false := by rfl
theorem k_tuple_tuple : PySem.W.kitOne K (.type "tuple") (.type "tuple") = some true := by rfl
theorem k_list_seq : PySem.W.kitAny K (.type "list") (["list", "tuple"].map Value.type) = some true := by rfl
theorem k_tuple_seq : PySem.W.kitAny K (.type "tuple") (["list", "tuple"].map Value.type) = some true := by rfl
theorem k_int_seq : PySem.W.kitAny K (.type "int") (["list", "tuple"].map Value.type) = some false := by rfl
theorem k_str_seq : PySem.W.kitAny K (.type "str") (["list", "tuple"].map Value.type) = some false := by rfl
end

/-! ### xs.extend(t), t a tuple -/
theorem ext_tuple (l : Addr) (xs : Array Value) (n : Nat) (b : Addr) (ys : Array Value) (m : Nat) (dd : Option Addr) (sl : Array (Option Value))
    (h0 : ¬(!xs.isEmpty && Builtin.List.listTooLong (xs.size + ys.size)) = true) (h1 : xs.size ≤ sizeLine) (h2 : xs.size + ys.size ≤ sizeLine + 1) :
    Meets (Builtin.«list.extend» ⟨[.ref l, .ref b], []⟩)
      (fun _ R s => s.heap.get? l = some { cls := .type "list", dict := none, data := .seq xs n, slots := #[] } ∧
        s.heap.get? b = some { cls := .type "tuple", dict := dd, data := .seq ys m, slots := sl } ∧
        R (.ok (.ret Value.none)) { s with heap := s.heap.update l (Obj.mapSeq fun x => x ++ ys), toks := s.toks }) := by
  refine .of_wp fun prog w A R s h => ?_
  obtain ⟨hp, g, d, tk, os⟩ := s
  obtain ⟨ha, hb, h⟩ := h
  have f1 := AutoSeq1.idx_int
  have f2 := AutoSeq1.sub_tuple_tuple
  have f3 := AutoSeq1.sub_list_list
  have f4 := AutoSeq1.sub_tuple_list
  have f5 := AutoSeq1.sub_list_tuple
  have hz : (xs ++ ys).size ≤ sizeLine + 1 := by rw [Array.size_append]; exact h2
  wp_walk using (wpAny_updateSeq ha rfl (hz := h1) (_hz' := hz)), AutoSeq1.wpAny_loadPart' ha, AutoSeq1.wpAny_loadPart' hb
  exact ⟨_, rfl, h⟩
def rExtT : V → List V → Hp → VK → Prop := fun x vs H Q => ∃ l b xs zs, x = .ref l ∧ vs = [.ref b] ∧ H l = some (.lst xs) ∧ H b = some (.tup zs) ∧ xs.length + zs.length ≤ sizeLine ∧ Q .non (upd H l (.lst (xs ++ zs)))
theorem mt_extT : MtM X "list.extend" rExtT := by
  intro pins s σ H x vs v us Q I rx rv h
  obtain ⟨l, b, xs, zs, rfl, rfl, hH, hB, hz, q⟩ := h
  cases rx
  obtain ⟨u, rfl, ru⟩ := rv.one
  cases ru
  obtain ⟨z, its, n, r, hl, e⟩ := I.lstM hH
  obtain ⟨its2, r2, tp, z2⟩ := I.tuple (SqT.of hB)
  have hl2 := r2.length
  obtain ⟨⟨cls, dd, data, sl⟩, e2, hc, n2, hd⟩ := tp
  simp only at hc hd
  subst hc hd
  have hsz : its.toArray.size + its2.toArray.size ≤ sizeLine := by rw [List.size_toArray, List.size_toArray]; omega
  have hlong : ¬ (!its.toArray.isEmpty && Builtin.List.listTooLong (its.toArray.size + its2.toArray.size)) = true := by
    rw [notLongL hsz, Bool.and_false]
    exact Bool.false_ne_true
  refine call_meets F.slot_list_extend ⟨_, e, rfl⟩ F.entry_list_extend (F.args_list_extend_2 _ _)
    (ext_tuple l its.toArray n b its2.toArray n2 dd sl hlong (by rw [List.size_toArray]; omega) (by omega)) ⟨e, e2, ?_⟩
  refine ⟨.non, _, I.lset (its' := its ++ its2) hH e (by simp) (r.append r2) ?_, rfl, q⟩
  rw [List.length_append]
  omega
/-- xs.extend(t), t a list or a tuple -/
theorem mt_ext : MtM X "list.extend" (fun x vs H Q => rExtend x vs H Q ∨ rExtT x vs H Q) := by
  intro pins s σ H x vs v us Q I rx rv h
  rcases h with h | h
  · exact mt_extend pins s σ H x vs v us Q I rx rv h
  · exact mt_extT pins s σ H x vs v us Q I rx rv h

/-! ### xs.count(v) of flat items -/
theorem count_eqU {x : V} : ∀ {xs : List V} {us : List Value}, Vals xs us → xs.all flatV = true → us.countP (eqU x) = xs.countP fun y => eqV y x
  | _, _, .nil, _ => rfl
  | y :: xs, u :: us, .cons r t, h => by
    simp only [List.all_cons, Bool.and_eq_true] at h
    rw [List.countP_cons, List.countP_cons, count_eqU t h.2, eqU_of r h.1]
def rCount : V → List V → Hp → VK → Prop := fun x vs H Q => ∃ l xs y, x = .ref l ∧ vs = [y] ∧ H l = some (.lst xs) ∧ flatV y = true ∧ xs.all flatV = true ∧ Q (.int (xs.countP fun z => eqV z y)) H
theorem mt_count : MtM X "list.count" rCount := by
  intro pins s σ H x vs v us Q I rx rv h
  obtain ⟨l, xs, y, rfl, rfl, hH, fy, fx, q⟩ := h
  cases rx
  obtain ⟨u, rfl, ru⟩ := rv.one
  obtain ⟨z, its, n, r, hl, e⟩ := I.lstM hH
  refine call_meets F.slot_list_count ⟨_, e, rfl⟩ F.entry_list_count (F.args_list_count_2 _ _)
    (SeqAt.list_countAt l its.toArray n _ _ u (eqU y)) ⟨e, fun w hw => mem_eqAt ru fy r fx w (by simpa using hw), ?_⟩
  have ec : its.toArray.toList.countP (eqU y) = xs.countP (fun z => eqV z y) := count_eqU r fx
  rw [ec]
  exact ⟨.int _, H, I.tok _, ⟨_, rfl⟩, q⟩

/-! ### sum of a list of ints -/
def rSum : List V → Hp → VK → Prop := fun xs H Q => ∃ (l : Addr) (ns : List Int), xs = [.ref l] ∧ H l = some (.lst (ns.map V.int)) ∧ Q (.int ns.sum) H
theorem call_sum (hh : X.calm = true) : CallR X (.builtin "sum") rSum := by
  intro pins s σ H xs us Q I r h
  obtain ⟨l, ns, rfl, hH, q⟩ := h
  obtain ⟨u, rfl, ru⟩ := vals1 r
  cases ru
  obtain ⟨its, rv, pl, hz⟩ := I.list (SqL.of hH)
  have hi : IntsAre its ns := intsAre_of rv
  obtain ⟨xs, hx⟩ := hi.allInts.items
  refine sum_intListG (I.ok.hd hh) (xs := xs) (by rw [← hx]; exact pl.isList) fun h' tk t' hk => ?_
  refine ⟨.int ns.sum, H, I.kept hk, ⟨t', ?_⟩, q⟩
  have e : numsOf its = ns := hi.numsOf
  have e2 := nums_intItems xs
  rw [← hx] at e2
  rw [preSum_eq, List.take_of_length_le (by simp)]
  congr 1
  have e3 : numsOf its.toArray.toList = ns := e
  rw [e2] at e3
  rw [e3]
end
end L3

/-! Trees of values (ints, texts, lists, tuples): what the laws compare -/
namespace L3
open PySem PySem.Spec PyProof.Rows L2
inductive Tr where
  | int (i : Int)
  | str (x : Str)
  | lst (ts : List Tr)
  | tup (ts : List Tr)
mutual
def Tr.size : Tr → Nat
  | .int _ => 1
  | .str _ => 1
  | .lst ts => 1 + sizes ts
  | .tup ts => 1 + sizes ts
def sizes : List Tr → Nat
  | [] => 0
  | t :: r => t.size + sizes r
end
mutual
def Is (H : Hp) : Tr → V → Prop
  | .int i, v => v = .int i
  | .str x, v => v = .str x
  | .lst ts, v => ∃ a xs, v = .ref a ∧ H a = some (.lst xs) ∧ IsL H ts xs
  | .tup ts, v => ∃ a xs, v = .ref a ∧ H a = some (.tup xs) ∧ IsL H ts xs
def IsL (H : Hp) : List Tr → List V → Prop
  | [], xs => xs = []
  | t :: ts, xs => ∃ x r, xs = x :: r ∧ Is H t x ∧ IsL H ts r
end
mutual
theorem Is.mono {H H' : Hp} (k : Same H H') : ∀ (t : Tr) (v : V), Is H t v → Is H' t v
  | .int _, _, h => h
  | .str _, _, h => h
  | .lst ts, _, h => by
    obtain ⟨a, xs, e, h1, h2⟩ := h
    exact ⟨a, xs, e, k _ _ h1, IsL.mono k ts xs h2⟩
  | .tup ts, _, h => by
    obtain ⟨a, xs, e, h1, h2⟩ := h
    exact ⟨a, xs, e, k _ _ h1, IsL.mono k ts xs h2⟩
theorem IsL.mono {H H' : Hp} (k : Same H H') : ∀ (ts : List Tr) (xs : List V), IsL H ts xs → IsL H' ts xs
  | [], _, h => h
  | t :: ts, _, h => by
    obtain ⟨x, r, e, h1, h2⟩ := h
    exact ⟨x, r, e, Is.mono k t x h1, IsL.mono k ts r h2⟩
end
theorem IsL.app {H : Hp} : ∀ {ts us : List Tr} {xs ys : List V}, IsL H ts xs → IsL H us ys → IsL H (ts ++ us) (xs ++ ys)
  | [], us, xs, ys, h, h' => by
    have e : xs = [] := h
    subst e
    exact h'
  | t :: ts, us, xs, ys, h, h' => by
    obtain ⟨x, r, e, h1, h2⟩ := h
    subst e
    exact ⟨x, r ++ ys, rfl, h1, IsL.app h2 h'⟩
theorem IsL.last {H : Hp} {t : Tr} : ∀ {ts : List Tr} {xs : List V}, IsL H (ts ++ [t]) xs → ∃ ys y, xs = ys ++ [y] ∧ IsL H ts ys ∧ Is H t y
  | [], xs, h => by
    obtain ⟨x, r, e, h1, h2⟩ := h
    have e2 : r = [] := h2
    subst e2
    exact ⟨[], x, e, rfl, h1⟩
  | u :: ts, xs, h => by
    obtain ⟨x, r, e, h1, h2⟩ := h
    obtain ⟨ys, y, e2, h3, h4⟩ := IsL.last h2
    exact ⟨x :: ys, y, by rw [e, e2]; rfl, ⟨x, ys, rfl, h1, h3⟩, h4⟩
theorem IsL.len {H : Hp} : ∀ {ts : List Tr} {xs : List V}, IsL H ts xs → xs.length = ts.length
  | [], xs, h => by
    have e : xs = [] := h
    rw [e]
    rfl
  | u :: ts, xs, h => by
    obtain ⟨x, r, e, h1, h2⟩ := h
    rw [e, List.length_cons, List.length_cons, IsL.len h2]
theorem sizes_app : ∀ ts us : List Tr, sizes (ts ++ us) = sizes ts + sizes us
  | [], us => by simp [sizes]
  | t :: ts, us => by
    show t.size + sizes (ts ++ us) = t.size + sizes ts + sizes us
    rw [sizes_app ts us]
    omega
theorem size_pos : ∀ t : Tr, 1 ≤ t.size
  | .int _ => by simp [Tr.size]
  | .str _ => by simp [Tr.size]
  | .lst _ => by simp [Tr.size]
  | .tup _ => by simp [Tr.size]
theorem len_sizes : ∀ ts : List Tr, ts.length ≤ sizes ts
  | [] => Nat.zero_le _
  | t :: ts => by
    have h1 := size_pos t
    have h2 := len_sizes ts
    show ts.length + 1 ≤ t.size + sizes ts
    omega
theorem sizes_last (ts : List Tr) (t : Tr) : sizes (ts ++ [t]) = sizes ts + t.size := by
  rw [sizes_app]
  show sizes ts + (t.size + 0) = _
  omega
theorem snoc_cases {α : Type} (l : List α) : l = [] ∨ ∃ m x, l = m ++ [x] := by
  cases l with
  | nil => exact .inl rfl
  | cons a r => exact .inr ⟨(a :: r).dropLast, (a :: r).getLast (by simp), (List.dropLast_concat_getLast (by simp)).symm⟩
theorem same_new {H : Hp} {p : Addr} (h : H p = none) (o : HO) : Same H (upd H p o) := fun b u q => by rw [upd_ne (ne_of_none q h)]; exact q
theorem same_upd {H H1 : Hp} {p : Addr} (s : Same H H1) (h : H p = none) (o : HO) : Same H (upd H1 p o) := fun b u q => by rw [upd_ne (ne_of_none q h)]; exact s b u q
end L3

/-! A list comprehension of one for (a name as its target) and at most one if, over the hand layer -/
namespace L3
open PySem PySem.Spec PyProof.Rows L2

/-- the block's context: names N at C, entered at s with H; the walked iterator's records at fp; no exception leaves -/
def cxC (X : Cx) (scope : Scope) (cl : List (Str × Addr)) (N : List Str) (C : Addr) (s : Shared) (H : Hp) (fp : List Addr) : Cx :=
  { X with N := N, s₀ := s, H₀ := H, env := compEnvC scope cl C X.env, outer := X.stack, ex := fp, fn := fun _ => false, pn := [], xe := fun _ _ => False }
/-- what must be seen of the text: the closure cl, its own name x, the names of around that it reads with their slots -/
structure CompSc (X : Cx) (scope : Scope) (cl : List (Str × Addr)) (x : Str) (caps : List (Nat × Str)) : Prop where
  clos : closureFor scope X.env = pure cl
  kind : scope.kind = .function
  cell : ∀ y ∈ scope.names, y.2 ≠ .cell
  names : ∀ y ∈ scope.names, y.2 = .local → scope.names.lookup y.1 = some .local
  own : scope.names.lookup x = some .local
  from_ : ∀ p ∈ cl, X.env.cells.lookup p.1 = some p.2
  all : ∀ y ∈ scope.names, y.2 = .free → (cl.map (·.1)).contains y.1 = true
  cap : ∀ p ∈ caps, X.N[p.1]? = some p.2 ∧ Vis X.env.scope p.2 ∧ X.env.kindOf p.2 = some .cell ∧ (cl.map (·.1)).contains p.2 = true ∧ (relabel scope X.env).names.lookup p.2 = some .cell
theorem lookup_mem {β : Type} : ∀ {l : List (Str × β)} {y : Str} {c : β}, l.lookup y = some c → (y, c) ∈ l
  | [], _, _, h => by cases h
  | (n, d) :: r, y, c, h => by
    rw [List.lookup_cons] at h
    split at h
    · rename_i e
      have e' : y = n := eq_of_beq e
      cases h
      rw [e']
      exact List.mem_cons_self
    · exact List.mem_cons_of_mem _ (lookup_mem h)
theorem lookup_of_key {β : Type} : ∀ {l : List (Str × β)} {y : Str}, (l.map (·.1)).contains y = true → ∃ c, l.lookup y = some c
  | [], _, h => by simp at h
  | (n, d) :: r, y, h => by
    rw [List.lookup_cons]
    split
    · exact ⟨_, rfl⟩
    · rename_i e
      refine lookup_of_key ?_
      simp only [List.map_cons, List.contains_cons, Bool.or_eq_true] at h
      rcases h with h | h
      · rw [h] at e
        cases e
      · exact h
theorem relabel_mem {scope : Scope} {env : Env} {y : Str} {k : NameKind} (h : (relabel scope env).names.lookup y = some k) : ∃ k', (y, k') ∈ scope.names ∧ (k = k' ∨ k' = .free) := by
  have m := lookup_mem h
  obtain ⟨⟨n, k'⟩, hp, e⟩ := List.mem_map.mp m
  dsimp only at e
  split at e
  · rename_i c
    cases e
    simp only [Bool.and_eq_true, beq_iff_eq] at c
    exact ⟨k', hp, .inr c.1.1⟩
  · cases e
    exact ⟨k, hp, .inl rfl⟩

/-- the loop of a comprehension, the iterator's own step ahead of the store kept in sight; no exception leaves -/
theorem comp_loop {prog : Program} {w : World} {A : Around} {R : Result → Shared → Prop} {s : Shared} {elt target iter : Expr} {ifs : List Expr} {scope : Scope} {pos : Pos} {it acc : Value} {env : Env} (J : Nat → Shared → Prop)
    (turn : ∀ n s, J n s → wpAny (model prog w) A (pyNext it) (fun r s1 => match r with
      | none => R (.ok .next) s1
      | some v => wpAny (model prog w) A (letOwnedTupleGo target it v) (fun _ s2 => wpAny (model prog w) A (assign target env v) (fun _ s3 =>
          wpAny (model prog w) A (forIn ifs true fun c r => if r = true then do let ok ← isTrue c env (eval c env); pure (ForInStep.yield ok) else pure (ForInStep.yield r)) (fun ok s4 =>
            if ok = true then wpAny (model prog w) A (eval elt env) (fun x s5 => wpAny (model prog w) A (call (.builtin "list.append") [acc, x]) (fun _ s6 => ∃ m, m < n ∧ J m s6) (fun _ _ => False) s5) (fun _ _ => False) s4
            else ∃ m, m < n ∧ J m s4) (fun _ _ => False) s3) (fun _ _ => False) s2) (fun _ _ => False) s1) (fun _ _ => False) s)
    (n : Nat) (h : J n s) : codeAny (model prog w) A (.compLoop (.ListComp elt [⟨target, iter, ifs, 0⟩] scope pos) 0 it acc env) R s := by
  refine codeAny_loop rfl J (fun n s hI => ?_) n h
  show wpAny _ A (Sem.onRaise (compTurn _ 0 it acc env) _) _ _ s
  refine wpAny_noted (wpAny_noRaise ?_)
  rw [compTurn_list]
  refine wpAny_bind (wpAny_standAt (wpAny_bind (thn (turn n s hI) fun r s1 h1 => ?_)))
  cases r with
  | none => exact wpAny_pure h1
  | some v =>
    refine wpAny_bind (thn h1 fun _ s2 h2 => wpAny_bind (thn h2 fun _ s3 h3 => wpAny_bind (thn h3 fun ok s4 h4 => ?_)))
    cases ok with
    | false => exact wpAny_pure ⟨rfl, h4⟩
    | true => exact wpAny_bind (wpAny_bind (thn h4 fun x s5 h5 => wpAny_bind (thn h5 fun _ s6 h6 => wpAny_pure (wpAny_pure ⟨rfl, h6⟩))))

/-- the tests of a comprehension -/
def PTs (X : Cx) (ifs : List Expr) (t : TT) : Prop :=
  ∀ (pins : List (Addr × Obj)) (s : Shared) (σ : L2.St) (H : Hp) (Q : Bool → Hp → Prop), Inv X pins σ H s → t σ H Q →
    wpAny (model X.prog X.w) X.A (forIn ifs true fun c r => if r = true then do let ok ← isTrue c X.env (eval c X.env); pure (ForInStep.yield ok) else pure (ForInStep.yield r)) (TP X pins σ Q) X.xe s
def tAny : TT := fun _ H Q => Q true H
section
variable {X : Cx}
theorem pts_nil : PTs X [] tAny := fun pins s σ H Q I h => by
  rw [List.forIn_nil]
  exact wpAny_pure ⟨H, I, h⟩
theorem pts_one {c : Expr} {t : TT} (hc : PT X c t) : PTs X [c] t := fun pins s σ H Q I h => by
  rw [List.forIn_cons]
  simp only [if_true]
  refine wpAny_bind (wpAny_bind (thn (hc pins s σ H Q I h) fun b s1 h1 => ?_))
  refine wpAny_pure ?_
  simp only [List.forIn_nil]
  exact wpAny_pure h1

/-- its reading: W holds between two turns (turn, measure, what stands in the new list at p, the heap) -/
def tComp (wi : TI) (tc : TT) (te : TE) (caps : List Nat) : TE := fun σ H Q => wi σ H fun J H1 => ∀ p, H1 p = none →
  ∃ W : Nat → Nat → List V → Hp → Prop, (∃ m, W 0 m [] (upd H1 p (.lst []))) ∧ ∀ i m xs H2, W i m xs H2 → H2 p = some (.lst xs) ∧
    ((J.stop i H2 ∧ Q (.ref p) H2) ∨ (J.go i H2 ∧ ∀ x H3, J.yld i H2 x H3 → tc (some x :: caps.map fun k => σ.getD k none) H3 fun b H4 =>
      if b = true then te (some x :: caps.map fun k => σ.getD k none) H4 fun v H5 => H5 p = some (.lst xs) ∧ xs.length < sizeLine ∧ ∃ m', m' < m ∧ W (i + 1) m' (xs ++ [v]) (upd H5 p (.lst (xs ++ [v])))
      else ∃ m', m' < m ∧ W (i + 1) m' xs H4))

theorem sameBut_get {C : Addr} {h h' : Heap} (sb : Heap.SameBut C h h') {b : Addr} (n : b ≠ C) : h'.get? b = h.get? b := sb.2 b n
/-- the block is entered -/
theorem inv_comp {scope : Scope} {cl : List (Str × Addr)} {x : Str} {caps : List (Nat × Str)} {pins : List (Addr × Obj)} {σ : L2.St} {H : Hp} {s : Shared} {fp : List Addr} {h₁ : Heap} {tk : Nat}
    (S : CompSc X scope cl x caps) (I : Inv X pins σ H s) (hf : ∀ b ∈ fp, FpOk X pins H b) (ho : ∀ b ∈ fp, ∃ o, s.heap.get? b = some o)
    (hn : ∃ m, h₁.Ns s.heap.objs.size m) (hk : ∀ b o, s.heap.get? b = some o → h₁.get? b = some o) :
    Inv (cxC X scope cl (x :: caps.map (·.2)) s.heap.objs.size s H fp) [] (none :: caps.map fun p => σ.getD p.1 none) H { s with heap := h₁, toks := tk } := by
  have fr : ∀ y c, cl.lookup y = some c → X.env.cells.lookup y = some c := fun y c e => S.from_ (y, c) (lookup_mem e)
  have hC : H s.heap.objs.size = none := I.hok.fresh (Nat.le_refl _)
  have cellLt : ∀ y c, cl.lookup y = some c → c < s.heap.objs.size := fun y c e => by
    obtain ⟨v, q⟩ := I.cell y c (fr y c e)
    exact q.lt
  have kindR : (relabel scope X.env).kind = .function := S.kind
  refine ⟨?ok, rfl, I.bare, Un.kept hk, ?loc, ?cell, hC, ?freeC, fun p hp => (by cases hp), I.hok.kept hk, by simp [cxC]⟩
  case ok =>
    refine ⟨I.ok.mod, kindR, I.ok.glob, I.ok.blt, Nat.le_refl _, fun y z c e1 e2 => I.ok.inj y z c (fr y c e1) (fr z c e2), fun y h => ?_, fun y c e => (by cases e), I.ok.hd, I.ok.frames, .inl rfl, fun b hb => ⟨?_, fun y c e => (hf b hb).2.2.2.2.1 y c (fr y c e)⟩,
      fun b o e => I.bs b o e, Nat.le_trans I.ok.bsz I.sz, fun b o e hb => ?_, fun b hb z => ?_, I.stack, fun b hb => I.stkFree b hb⟩
    · have h' : ∃ k, (relabel scope X.env).names.lookup y = some k ∧ (k = .cell ∨ k = .free) := h.elim (fun z => ⟨_, z, .inl rfl⟩) fun z => ⟨_, z, .inr rfl⟩
      obtain ⟨k, e, hk⟩ := h'
      obtain ⟨k', m, d⟩ := relabel_mem e
      have hfree : k' = .free := by
        rcases d with d | d
        · subst d
          rcases hk with z | z
          · exact absurd z (S.cell _ m)
          · exact z
        · exact d
      exact lookup_of_key (S.all _ m hfree)
    · obtain ⟨o, e⟩ := ho b hb
      exact Nat.ne_of_lt (Heap.lt_size e)
    · rcases (hf b hb).2.2.2.1 with z | z
      · exact I.ok.noex b o e z
      · exact absurd (Nat.lt_of_lt_of_le (Nat.lt_of_lt_of_le (Heap.lt_size e) I.ok.bsz) z) (Nat.lt_irrefl _)
    · rcases List.mem_cons.mp (I.stkSub b z) with q | q
      · exact (hf b hb).2.1 q
      · exact (hf b hb).2.2.1 q
  case loc =>
    obtain ⟨m, hm⟩ := hn
    refine ⟨m, hm, fun i y v e1 e2 e3 => ?_⟩
    cases i with
    | zero => cases e2
    | succ i =>
      have e1' : (caps.map (·.2))[i]? = some y := e1
      have e2' : (caps.map fun p => σ.getD p.1 none)[i]? = some (some v) := e2
      rw [List.getElem?_map] at e1' e2'
      cases q : caps[i]? with
      | none => rw [q] at e1'; cases e1'
      | some p =>
        rw [q] at e1' e2'
        have ey : p.2 = y := Option.some.inj e1'
        have ev : σ.getD p.1 none = some v := Option.some.inj e2'
        obtain ⟨c1, c2, c3, c4, c5⟩ := S.cap p (List.mem_of_getElem? q)
        rw [ey] at c1 c2 c3 c4 c5
        have ev' : σ[p.1]? = some (some v) := by
          unfold List.getD at ev
          cases z : σ[p.1]? with
          | none => rw [z] at ev; cases ev
          | some w => rw [z] at ev; exact congrArg some ev
        obtain ⟨m0, hm0, hl⟩ := I.loc
        obtain ⟨u, r, l⟩ := hl p.1 y v c1 ev' c2
        refine ⟨u, r, .inr ⟨.inl c5, ?_⟩⟩
        obtain ⟨c, ec⟩ := lookup_of_key c4
        refine ⟨c, ec, ?_⟩
        rcases l with ⟨k, _⟩ | ⟨_, c', ec', z⟩
        · rw [c3] at k
          cases k
        · rw [fr y c ec] at ec'
          cases ec'
          obtain ⟨o, ho, hd⟩ := z
          exact ⟨o, hk _ _ ho, hd⟩
  case cell =>
    intro y c e
    obtain ⟨v, o, ho, hd⟩ := I.cell y c (fr y c e)
    exact ⟨v, o, hk _ _ ho, hd⟩
  case freeC =>
    intro y c e
    exact I.freeC y c (fr y c e)

/-- the block is left -/
theorem inv_back {scope : Scope} {cl : List (Str × Addr)} {N : List Str} {pins pins' : List (Addr × Obj)} {σ σ' : L2.St} {H H' : Hp} {s s' : Shared} {fp : List Addr} {h' : Heap}
    (I : Inv X pins σ H s) (hf : ∀ b ∈ fp, FpOk X pins H b) (J : Inv (cxC X scope cl N s.heap.objs.size s H fp) pins' σ' H' s') (sb : Heap.SameBut s.heap.objs.size s'.heap h') :
    Inv X pins σ H' { s' with heap := h' } := by
  have ne : ∀ b o, s.heap.get? b = some o → b ≠ s.heap.objs.size := fun b o e => Nat.ne_of_lt (Heap.lt_size e)
  have u := J.base
  have fC : H' s.heap.objs.size = none := J.free
  refine I.call' (s' := { s' with heap := h' }) (ch := fp) J.os ⟨fun b o e n hb hx => ?_, fun b o e n hb hx => ?_, u.free, fun b o e hx => ?_, u.tups, u.frzs, u.tbls⟩ (fun b o e => ?_) J.bare fun b hb => ⟨(hf b hb).2.2.2.1, (hf b hb).2.1, (hf b hb).2.2.2.2.1, (hf b hb).2.2.2.2.2⟩
  · show h'.get? b = some o
    rw [sameBut_get sb (ne b o e)]
    exact u.keep b o e n hb hx
  · obtain ⟨sl, q⟩ := u.slot b o e n hb hx
    refine ⟨sl, ?_⟩
    show h'.get? b = _
    rw [sameBut_get sb (ne b o e)]
    exact q
  · obtain ⟨o', q⟩ := u.there b o e hx
    refine ⟨o', ?_⟩
    show h'.get? b = _
    rw [sameBut_get sb (ne b o e)]
    exact q
  · refine (J.hok b o e).stay (fun c v hc q => ?_) (fun _ q => q) fun _ _ q => q
    show h'.get? c = some v
    rw [sameBut_get sb ?_]
    · exact q
    · rintro rfl
      rcases hc with z | z
      · rw [← z] at e
        rw [fC] at e
        cases e
      · rw [fC] at z
        cases z

/-- how a block ends: its frame C is behind, all else is as it was -/
structure Left (X : Cx) (pins : List (Addr × Obj)) (σ : L2.St) (H : Hp) (C : Addr) (s : Shared) : Prop where
  ns : ∃ m, s.heap.Ns C m
  free : H C = none
  loc : C ≠ X.env.locals
  new : X.s₀.heap.objs.size ≤ C
  cell : ∀ y c, X.env.cells.lookup y = some c → c ≠ C
  pin : ∀ p ∈ X.pn ++ pins, p.1 ≠ C
  inv : ∀ h', Heap.SameBut C s.heap h' → Inv X pins σ H { s with heap := h' }
theorem comp_core {elt iter : Expr} {x : Str} {px pos fpos : Pos} {ifs : List Expr} {scope : Scope} {cl : List (Str × Addr)} {caps : List (Nat × Str)} {wi : TI} {tc : TT} {te : TE} {use : Option (Value → Sem Unit)} {Qs : Value → Shared → Prop}
    {pins : List (Addr × Obj)} {s : Shared} {σ : L2.St} {H : Hp} {Q : VK}
    (hc : X.calm = true) (S : CompSc X scope cl x caps) (hN : (x :: caps.map (·.2)).Nodup) (hi : PI X (.Name x px) iter wi)
    (ht : ∀ C s H fp, PTs (cxC X scope cl (x :: caps.map (·.2)) C s H fp) ifs tc) (he : ∀ C s H fp, PE (cxC X scope cl (x :: caps.map (·.2)) C s H fp) elt te)
    (hs : ∀ y, foldedSetIterable iter X.env y = pure y) (I : Inv X pins σ H s) (h : tComp wi tc te (caps.map (·.1)) σ H Q)
    (fin : ∀ (D C : Addr) (s' : Shared) (H' : Hp), Left X pins σ H' C s' → Q (.ref D) H' → compPost (model X.prog X.w) X.A X.xe use Qs (.ref D) C (.ok .next) s') :
    wpAny (model X.prog X.w) X.A (comprehension (.ListComp elt [⟨.Name x px, iter, ifs, 0⟩] scope pos) scope X.env fpos (newList []) false (eval iter X.env) use) Qs X.xe s := by
  refine wpAny_comprehension_free (use := use) rfl hs S.clos S.kind S.names (thn (hi pins s σ H _ I h) fun v s1 h1 => thn h1 fun itv s2 h2 => ?_)
  obtain ⟨it, fp, tn, J, H2, e, I2, T, st2, f2, k⟩ := h2
  subst e
  -- the new list
  refine wpAny_newObj_type ?_
  have I3 : Inv X pins σ (upd H2 s2.heap.objs.size (.lst [])) { s2 with heap := s2.heap.push { cls := .type "list", data := .seq ([] : List Value).toArray }, toks := s2.toks } := I2.lnew (its := []) (t' := s2.toks) .nil (Nat.zero_le _)
  obtain ⟨W, ⟨m0, w0⟩, turn⟩ := k s2.heap.objs.size (I2.hok.fresh (Nat.le_refl _))
  generalize hD : s2.heap.objs.size = D at *
  have eD : ∀ b ∈ fp, b ≠ D := fun b hb => by
    obtain ⟨o, e, _⟩ := T.obj _ _ st2 b hb
    rw [← hD]
    exact Nat.ne_of_lt (Heap.lt_size e)
  have st3 : tn 0 (s2.heap.push { cls := .type "list", data := .seq ([] : List Value).toArray }) := T.keep _ _ _ st2 fun b hb o e => Heap.get?_push_of_some _ e
  have f3 : ∀ b ∈ fp, FpOk X pins (upd H2 D (.lst [])) b := fun b hb => ⟨by rw [upd_ne (eD b hb)]; exact (f2 b hb).1, (f2 b hb).2⟩
  generalize hs3 : ({ s2 with heap := s2.heap.push { cls := .type "list", data := .seq ([] : List Value).toArray }, toks := s2.toks } : Shared) = s3 at *
  have st3' : tn 0 s3.heap := by rw [← hs3]; exact st3
  show wpAny _ _ _ _ _ s3
  refine wpAny_newFunctionEnv S.cell (by intro y hy; simp at hy) (fun h₁ hns₁ hsb₁ => ?_) S.kind
  have hk : ∀ b o, s3.heap.get? b = some o → h₁.get? b = some o := fun b o e => by
    rw [sameBut_get hsb₁ (Nat.ne_of_lt (Heap.lt_size e))]
    exact Heap.get?_push_of_some _ e
  have I4 := inv_comp (tk := s3.toks + ([] : List (Str × Value)).length) S I3 f3 (fun b hb => by obtain ⟨o, e, _⟩ := T.obj _ _ st3' b hb; exact ⟨o, e⟩) ⟨_, hns₁⟩ hk
  have st4 : tn 0 h₁ := T.keep _ _ _ st3' fun b hb o e => hk b o e
  generalize hX : cxC X scope cl (x :: caps.map (·.2)) s3.heap.objs.size s3 (upd H2 D (.lst [])) fp = X' at *
  have eP : X'.prog = X.prog := by rw [← hX]; rfl
  have eW : X'.w = X.w := by rw [← hX]; rfl
  have eK : X'.K = X.K := by rw [← hX]; rfl
  have eA : X'.A = X.A := by rw [← hX]; rfl
  have eE : X'.env = compEnvC scope cl s3.heap.objs.size X.env := by rw [← hX]; rfl
  have eC : X'.calm = true := by rw [← hX]; exact hc
  have eN : X'.N = x :: caps.map (·.2) := by rw [← hX]; rfl
  have eX : X'.xe = fun _ _ => False := by rw [← hX]; rfl
  have ht' : PTs X' ifs tc := by rw [← hX]; exact ht _ _ _ _
  have he' : PE X' elt te := by rw [← hX]; exact he _ _ _ _
  have fpX : ∀ (H' : Hp), (∀ b ∈ fp, H' b = none) → ∀ b ∈ fp, FpOk X' [] H' b := fun H' hn b hb => by
    obtain ⟨o, e, _⟩ := T.obj _ _ st3' b hb
    obtain ⟨_, g1, g2, g3, g4, g5⟩ := f3 b hb
    refine ⟨hn b hb, ?_, ?_, .inl (by rw [← hX]; exact hb), fun y c ec => ?_, fun p hp => ?_⟩
    · rw [eE]
      exact Nat.ne_of_lt (Heap.lt_size e)
    · rw [← hX]
      intro z
      rcases List.mem_cons.mp (I3.stkSub b z) with q | q
      · exact g1 q
      · exact g2 q
    · rw [eE] at ec
      exact g4 y c (S.from_ (y, c) (lookup_mem ec))
    · rw [← hX] at hp
      cases hp
  -- the loop
  have loop : ∀ s4 : Shared, Inv X' [] (none :: caps.map fun p => σ.getD p.1 none) (upd H2 D (.lst [])) s4 → tn 0 s4.heap →
      codeAny (model X.prog X.w) X.A (.compLoop (.ListComp elt [⟨.Name x px, iter, ifs, 0⟩] scope pos) 0 (.ref it) (.ref D) (compEnvC scope cl s3.heap.objs.size X.env))
        (compPost (model X.prog X.w) X.A X.xe use Qs (.ref D) s3.heap.objs.size) s4 := by
    intro s4 I4 st4
    refine comp_loop (fun n s' => ∃ i xs H', Inv X' [] (none :: caps.map fun p => σ.getD p.1 none) H' s' ∧ tn i s'.heap ∧ (∀ b ∈ fp, H' b = none) ∧ W i n xs H') ?_ m0 ⟨0, [], _, I4, st4, fun b hb => (f3 b hb).1, w0⟩
    rintro n s5 ⟨i, xs, H5, I5, st5, fr5, w5⟩
    obtain ⟨hp5, hh⟩ := turn i n xs H5 w5
    have up : ∀ {α : Type} {t : Sem α} {Q : α → Shared → Prop} {s : Shared}, wpAny (model X'.prog X'.w) X'.A t Q X'.xe s → wpAny (model X.prog X.w) X.A t Q (fun _ _ => False) s := fun {α t Q s} h => by
      rw [eP, eW, eA, eX] at h
      exact h
    rcases hh with ⟨stop, qn⟩ | ⟨go, step⟩
    · have t := T.done X' eP eW eK eC i [] s5 _ H5 (fun _ _ => False) I5 (fpX H5 fr5) st5 stop
      rw [eA] at t
      refine thn t fun r s6 ⟨hr, I6⟩ => ?_
      subst hr
      obtain ⟨m6, hm6, _⟩ := I6.loc
      rw [eE] at hm6
      have fC : H5 s3.heap.objs.size = none := by
        have := I6.free
        rw [eE] at this
        exact this
      subst hX
      refine fin D _ _ H5 ⟨⟨m6, hm6⟩, fC, Nat.ne_of_gt I3.lt, I3.sz, fun y c ec => ?_, fun p hp => ?_, fun h' sb => inv_back I3 f3 I6 sb⟩ qn
      · obtain ⟨v', o, ho, _⟩ := I3.cell y c ec
        exact Nat.ne_of_lt (Heap.lt_size ho)
      · exact Nat.ne_of_lt (Heap.lt_size (I3.pin p hp).1)
    · have t := T.item X' eP eW eK eC i [] s5 _ H5 (fun _ _ => False) I5 (fpX H5 fr5) st5 go
      rw [eA] at t
      refine thn t fun r s6' ⟨u, hr, h6⟩ => ?_
      subst hr
      refine thn h6 fun _ s6 ⟨z, H7, I7, r7, y7, st7, fr7⟩ => ?_
      have I7' := I7.pinned (fpX H7 fr7) (T.obj _ _ st7)
      have hg : PG X' (.Name x px) (gName 0) := pg_name (by rw [eN]; exact hN) (by rw [eN]; rfl) (.inl (by rw [eE]; exact lookup_relabel_local S.own)) (.inr (by rw [eE]; exact lookup_relabel_local S.own))
      have t2 := hg _ s6 _ H7 z u (fun σ' H' => σ' = some z :: caps.map (fun p => σ.getD p.1 none) ∧ H' = H7) I7' r7 ⟨rfl, rfl⟩
      rw [eE] at t2
      refine up (thn t2 ?_)
      rintro _ s8 ⟨σ8, H8, I8, rfl, rfl⟩
      have ecap : (caps.map fun p => σ.getD p.1 none) = (caps.map (·.1)).map fun k => σ.getD k none := by rw [List.map_map]; rfl
      have q8 := step z H8 y7
      rw [← ecap] at q8
      have t3 := ht' _ s8 _ H8 _ I8 q8
      rw [eE] at t3
      refine up (thn t3 ?_)
      rintro b s9 ⟨H9, I9, q9⟩
      have forget : ∀ {s' : Shared} {H' : Hp}, Inv X' ([] ++ pinsAt fp s6.heap) (some z :: caps.map fun p => σ.getD p.1 none) H' s' → ∀ xs' m', m' < n → W (i + 1) m' xs' H' →
          ∃ m, m < n ∧ ∃ i xs H', Inv X' [] (none :: caps.map fun p => σ.getD p.1 none) H' s' ∧ tn i s'.heap ∧ (∀ b ∈ fp, H' b = none) ∧ W i m xs H' := fun {s' H'} I' xs' m' hm w' => by
        refine ⟨m', hm, i + 1, xs', H', (I'.unpinned).weak rfl (fun j v e => ?_), T.keep _ _ _ st7 fun b hb o e => (I'.pin (b, o) (List.mem_append_right _ (List.mem_append_right _ (mem_pinsAt hb e)))).1, fun b hb => ?_, w'⟩
        · cases j with
          | zero => cases e
          | succ j => exact e
        · obtain ⟨o, e, d⟩ := T.obj _ _ st7 b hb
          exact (I'.pin (b, o) (List.mem_append_right _ (List.mem_append_right _ (mem_pinsAt hb e)))).2.1
      cases b with
      | false =>
        rw [if_neg Bool.false_ne_true]
        rw [if_neg Bool.false_ne_true] at q9
        obtain ⟨m', hm, w'⟩ := q9
        exact forget I9 xs m' hm w'
      | true =>
        rw [if_pos rfl]
        rw [if_pos rfl] at q9
        have t4 := he' _ s9 _ H9 _ I9 q9
        rw [eE] at t4
        refine up (thn t4 ?_)
        rintro yv s10 ⟨y, H10, I10, r10, hp10, hl10, m', hm, w'⟩
        have t5 := mt_append (X := X') _ s10 _ H10 (.ref D) [y] (.ref D) [yv] (fun _ H' => H' = upd H10 D (.lst (xs ++ [y]))) I10 rfl (.cons r10 .nil) ⟨D, xs, y, rfl, rfl, hp10, hl10, rfl⟩
        refine up (thn t5 ?_)
        rintro _ s11 ⟨_, H11, I11, _, rfl⟩
        exact forget I11 _ m' hm w'
  exact codeAny_compStart_list (loop _ I4 st4) (T.self _ 0 _ _ _ st4 (loop _ I4 st4))
theorem pe_comp {elt iter : Expr} {x : Str} {px pos : Pos} {ifs : List Expr} {scope : Scope} {cl : List (Str × Addr)} {caps : List (Nat × Str)} {wi : TI} {tc : TT} {te : TE}
    (hc : X.calm = true) (S : CompSc X scope cl x caps) (hN : (x :: caps.map (·.2)).Nodup) (hi : PI X (.Name x px) iter wi)
    (ht : ∀ C s H fp, PTs (cxC X scope cl (x :: caps.map (·.2)) C s H fp) ifs tc) (he : ∀ C s H fp, PE (cxC X scope cl (x :: caps.map (·.2)) C s H fp) elt te)
    (hs : ∀ y, foldedSetIterable iter X.env y = pure y := by intro _; rfl) :
    PE X (.ListComp elt [⟨.Name x px, iter, ifs, 0⟩] scope pos) (tComp wi tc te (caps.map (·.1))) := by
  intro pins s σ H Q I h
  rw [eval_ListComp]
  refine comp_core hc S hN hi ht he hs I h fun D C s' H' L q => ?_
  obtain ⟨m, hm⟩ := L.ns
  exact ⟨m, hm, fun h' sb => ⟨.ref D, H', L.inv h' sb, rfl, q⟩⟩
end

/-! ### the forms one uses -/
/-- over range(n): Pv at each turn, the list's items so far -/
theorem comp_range {p : Addr} {n : Nat} {tc : TT} {te : TE} {cs : L2.St} {Qf : Hp → Prop} {H : Hp} (Pv : Nat → List V → Hp → Prop) (h0 : Pv 0 [] (upd H p (.lst []))) (hl : ∀ i xs H, Pv i xs H → H p = some (.lst xs))
    (hs : ∀ i xs H, i < n → Pv i xs H → tc (some (.int i) :: cs) H fun b H4 => if b = true then te (some (.int i) :: cs) H4 fun v H5 => H5 p = some (.lst xs) ∧ xs.length < sizeLine ∧ Pv (i + 1) (xs ++ [v]) (upd H5 p (.lst (xs ++ [v]))) else Pv (i + 1) xs H4)
    (hm : ∀ σ H Q Q', (∀ b H1, Q b H1 → Q' b H1) → tc σ H Q → tc σ H Q') (he : ∀ σ H Q Q', (∀ b H1, Q b H1 → Q' b H1) → te σ H Q → te σ H Q') (hd : ∀ xs H, Pv n xs H → Qf H) :
    ∃ W : Nat → Nat → List V → Hp → Prop, (∃ m, W 0 m [] (upd H p (.lst []))) ∧ ∀ i m xs H2, W i m xs H2 → H2 p = some (.lst xs) ∧
      (((Itr 0 n).stop i H2 ∧ Qf H2) ∨ ((Itr 0 n).go i H2 ∧ ∀ x H3, (Itr 0 n).yld i H2 x H3 → tc (some x :: cs) H3 fun b H4 =>
        if b = true then te (some x :: cs) H4 fun v H5 => H5 p = some (.lst xs) ∧ xs.length < sizeLine ∧ ∃ m', m' < m ∧ W (i + 1) m' (xs ++ [v]) (upd H5 p (.lst (xs ++ [v])))
        else ∃ m', m' < m ∧ W (i + 1) m' xs H4)) := by
  refine ⟨fun i m xs H => m = n - i ∧ i ≤ n ∧ Pv i xs H, ⟨n, by simp, Nat.zero_le _, h0⟩, ?_⟩
  rintro i m xs H ⟨rfl, hi, pv⟩
  refine ⟨hl i xs H pv, ?_⟩
  by_cases hlt : i < n
  · refine .inr ⟨hlt, fun x H3 y => ?_⟩
    obtain ⟨e1, e2⟩ := y
    subst e1
    have e2' : x = .int i := by rw [e2, Int.zero_add]
    subst e2'
    refine hm _ _ _ _ (fun b H4 q => ?_) (hs i xs _ hlt pv)
    cases b with
    | true =>
      rw [if_pos rfl] at q ⊢
      exact he _ _ _ _ (fun v H5 ⟨z1, z2, z3⟩ => ⟨z1, z2, n - (i + 1), by omega, rfl, hlt, z3⟩) q
    | false =>
      rw [if_neg Bool.false_ne_true] at q ⊢
      exact ⟨n - (i + 1), by omega, rfl, hlt, q⟩
  · have e : i = n := by omega
    subst e
    exact .inl ⟨Nat.le_refl _, hd xs H pv⟩
/-- over a list that stays -/
theorem comp_list {K : PySem.W.Frag} {a p : Addr} {ys : List V} {tc : TT} {te : TE} {cs : L2.St} {Qf : Hp → Prop} {H : Hp} (Pv : Nat → List V → Hp → Prop) (h0 : Pv 0 [] (upd H p (.lst []))) (hl : ∀ i xs H, Pv i xs H → H p = some (.lst xs) ∧ SqL K H a ys)
    (hs : ∀ i y xs H, ys[i]? = some y → Pv i xs H → tc (some y :: cs) H fun b H4 => if b = true then te (some y :: cs) H4 fun v H5 => H5 p = some (.lst xs) ∧ xs.length < sizeLine ∧ Pv (i + 1) (xs ++ [v]) (upd H5 p (.lst (xs ++ [v]))) else Pv (i + 1) xs H4)
    (hm : ∀ σ H Q Q', (∀ b H1, Q b H1 → Q' b H1) → tc σ H Q → tc σ H Q') (he : ∀ σ H Q Q', (∀ b H1, Q b H1 → Q' b H1) → te σ H Q → te σ H Q') (hd : ∀ xs H, Pv ys.length xs H → Qf H) :
    ∃ W : Nat → Nat → List V → Hp → Prop, (∃ m, W 0 m [] (upd H p (.lst []))) ∧ ∀ i m xs H2, W i m xs H2 → H2 p = some (.lst xs) ∧
      (((Itl K a).stop i H2 ∧ Qf H2) ∨ ((Itl K a).go i H2 ∧ ∀ x H3, (Itl K a).yld i H2 x H3 → tc (some x :: cs) H3 fun b H4 =>
        if b = true then te (some x :: cs) H4 fun v H5 => H5 p = some (.lst xs) ∧ xs.length < sizeLine ∧ ∃ m', m' < m ∧ W (i + 1) m' (xs ++ [v]) (upd H5 p (.lst (xs ++ [v])))
        else ∃ m', m' < m ∧ W (i + 1) m' xs H4)) := by
  refine ⟨fun i m xs H => m = ys.length - i ∧ i ≤ ys.length ∧ Pv i xs H, ⟨ys.length, by simp, Nat.zero_le _, h0⟩, ?_⟩
  rintro i m xs H ⟨rfl, hi, pv⟩
  obtain ⟨hp, sq⟩ := hl i xs H pv
  refine ⟨hp, ?_⟩
  by_cases hlt : i < ys.length
  · refine .inr ⟨⟨ys, ys[i], sq, by simp [hlt]⟩, fun x H3 y => ?_⟩
    obtain ⟨e1, e2⟩ := y
    subst e1
    refine hm _ _ _ _ (fun b H4 q => ?_) (hs i x xs _ (e2 ys sq) pv)
    cases b with
    | true =>
      rw [if_pos rfl] at q ⊢
      exact he _ _ _ _ (fun v H5 ⟨z1, z2, z3⟩ => ⟨z1, z2, ys.length - (i + 1), by omega, rfl, hlt, z3⟩) q
    | false =>
      rw [if_neg Bool.false_ne_true] at q ⊢
      exact ⟨ys.length - (i + 1), by omega, rfl, hlt, q⟩
  · have e : i = ys.length := by omega
    subst e
    exact .inl ⟨⟨ys, sq, Nat.le_refl _⟩, hd xs H pv⟩
/-! ### the readings of a comprehension's test and element grow with what they promise -/
theorem m_var {i : Nat} (σ : L2.St) (H : Hp) (Q Q' : VK) (h : ∀ b H1, Q b H1 → Q' b H1) (x : tVar i σ H Q) : tVar i σ H Q' := by
  obtain ⟨v, e, q⟩ := x
  exact ⟨v, e, h _ _ q⟩
theorem m_c {v : V} (σ : L2.St) (H : Hp) (Q Q' : VK) (h : ∀ b H1, Q b H1 → Q' b H1) (x : tC v σ H Q) : tC v σ H Q' := h _ _ x
theorem m_op {r : R2} {ta tb : TE} (hr : ∀ (x y : V) (H : Hp) (Q Q' : VK), (∀ b H1, Q b H1 → Q' b H1) → r x y H Q → r x y H Q') (ha : ∀ (σ : L2.St) (H : Hp) (Q Q' : VK), (∀ b H1, Q b H1 → Q' b H1) → ta σ H Q → ta σ H Q') (hb : ∀ (σ : L2.St) (H : Hp) (Q Q' : VK), (∀ b H1, Q b H1 → Q' b H1) → tb σ H Q → tb σ H Q')
    (σ : L2.St) (H : Hp) (Q Q' : VK) (h : ∀ b H1, Q b H1 → Q' b H1) (x : tOp r ta tb σ H Q) : tOp r ta tb σ H Q' := ha σ H _ _ (fun _ _ => hb σ _ _ _ fun _ _ => hr _ _ _ _ _ h) x
theorem m_ixT {K : PySem.W.Frag} (x y : V) (H : Hp) (Q Q' : VK) (h : ∀ b H1, Q b H1 → Q' b H1) (z : rIxT K x y H Q) : rIxT K x y H Q' := by
  obtain ⟨p, xs, i, v, e1, e2, e3, e4, q⟩ := z
  exact ⟨p, xs, i, v, e1, e2, e3, e4, h _ _ q⟩
theorem m_eq (x y : V) (H : Hp) (Q Q' : VK) (h : ∀ b H1, Q b H1 → Q' b H1) (z : rEq x y H Q) : rEq x y H Q' := ⟨z.1, h _ _ z.2⟩
theorem m_ne (x y : V) (H : Hp) (Q Q' : VK) (h : ∀ b H1, Q b H1 → Q' b H1) (z : rNe x y H Q) : rNe x y H Q' := ⟨z.1, h _ _ z.2⟩
theorem m_test {t : TE} (ht : ∀ (σ : L2.St) (H : Hp) (Q Q' : VK), (∀ b H1, Q b H1 → Q' b H1) → t σ H Q → t σ H Q') (σ : L2.St) (H : Hp) (Q Q' : Bool → Hp → Prop) (h : ∀ b H1, Q b H1 → Q' b H1) (x : tTest t σ H Q) : tTest t σ H Q' := ht σ H _ _ (fun _ _ z => by obtain ⟨c, e, q⟩ := z; exact ⟨c, e, h _ _ q⟩) x
/-! ### a list of so many -/
theorem len1 {α : Type} {C : List α → Prop} {us : List α} (h : us.length = 1) (k : ∀ a, C [a]) : C us := by
  obtain ⟨a, rfl⟩ := List.length_eq_one_iff.mp h
  exact k a
theorem lenS {α : Type} {C : List α → Prop} {us : List α} {n : Nat} (h : us.length = n + 1) (k : ∀ a vs, vs.length = n → C (a :: vs)) : C us := by
  obtain ⟨a, vs, rfl⟩ := List.exists_cons_of_length_eq_add_one h
  exact k a vs (Nat.succ.inj h)
theorem len2 {α : Type} {C : List α → Prop} {us : List α} (h : us.length = 2) (k : ∀ a b, C [a, b]) : C us := lenS h fun a _ h => len1 (C := fun vs => C (a :: vs)) h (k a)
theorem len3 {α : Type} {C : List α → Prop} {us : List α} (h : us.length = 3) (k : ∀ a b c, C [a, b, c]) : C us := lenS h fun a _ h => len2 (C := fun vs => C (a :: vs)) h (k a)
theorem len4 {α : Type} {C : List α → Prop} {us : List α} (h : us.length = 4) (k : ∀ a b c d, C [a, b, c, d]) : C us := lenS h fun a _ h => len3 (C := fun vs => C (a :: vs)) h (k a)
theorem len5 {α : Type} {C : List α → Prop} {us : List α} (h : us.length = 5) (k : ∀ a b c d e, C [a, b, c, d, e]) : C us := lenS h fun a _ h => len4 (C := fun vs => C (a :: vs)) h (k a)
/-! ### the fragment in the readings: K, not the context's -/
end L3

/-! Statements joined by an invariant, calls by a bundle, an item of a list just written, a list beside [] -/
namespace L3
open PySem PySem.Spec PyProof.Rows L2
section
variable {X : Cx}

/-! ### two statements, joined by what holds between them -/
def tJoin (t u : TS) : TS := fun D σ H => ∃ J : L2.St → Hp → Prop, t { D with nx := J } σ H ∧ ∀ σ' H', J σ' H' → u D σ' H'
theorem pss_join {st : Stmt} {rest : List Stmt} {t u : TS} (h1 : PS X st t) (h2 : PSs X rest u) : PSs X (st :: rest) (tJoin t u) := by
  intro pins s σ H D I h
  obtain ⟨J, h, k⟩ := h
  refine wpAny_execs_cons (thn (h1 pins s σ H { D with nx := J } I h) fun f s1 q => ?_)
  cases f with
  | next =>
    obtain ⟨σ', H', I', q⟩ := q
    exact h2 pins s1 σ' H' D I' (k σ' H' q)
  | ret v => exact q
  | brk => exact q
  | cont => exact q

/-! ### a def of the text, ready to be called -/
structure Callee (P : Program) (w : World) (K : PySem.W.Frag) (mg : Str → Option Value) (base : Heap) (k : Nat) (x : Str) (ps : List Str) (sp : Sp) : Prop where
  ex : ∃ (f : Addr) (fd : FuncData), FnOk P w K mg base CX0 k f fd ps sp ∧ Binds K fd ps [] ∧ PySem.W.keepIn K (.ref f) = true ∧ mg x = some (.ref f)
theorem pe_callC {k : Nat} {x : Str} {ps : List Str} {sp : Sp} {p pos : Pos} {e : Expr} {es : List Expr} {t : TA} (C : Callee X.prog X.w X.K X.mg X.base k x ps sp) (hr : Room k X.A) (hg : Gl X x)
    (ha : PA X (e :: es) t) (hdb : (x == ("__debug__" : Str)) = false := by decide) (he : starEach (e :: es) X.env = (false, eval e X.env) :: starEach es X.env := by rfl) (hpl : (backTo pos (starEach es X.env)).any (·.1) = false := by rfl) :
    PE X (.Call (.Name x p) (e :: es) [] pos) (tCall sp [] E0 t) := by
  obtain ⟨f, fd, G, b, kp, m⟩ := C.ex
  exact pe_call G hr hg m kp b .nil pass0 ha hdb he hpl

/-! ### [a, b, ..][i]: the list is not kept in sight -/
def tPick (t : TA) (ti : TE) : TE := fun σ H Q => t σ H fun vs H1 => vs.length ≤ sizeLine ∧ ti σ H1 fun y H2 => ∃ i v, y = .int i ∧ atI vs i = some v ∧ Q v H2
theorem pin_new {pins : List (Addr × Obj)} {σ : L2.St} {H : Hp} {s : Shared} {o : Obj} {tk : Nat} (I : Inv X pins σ H s) (hc : ∀ v, o.data ≠ .cell v) (hfr : (s.heap.push o).get? s.heap.objs.size = some o) :
    Inv X (pins ++ [(s.heap.objs.size, o)]) σ H { s with heap := s.heap.push o, toks := tk } := by
  have I1 : Inv X pins σ H { s with heap := s.heap.push o, toks := tk } := I.kept fun b u e => Heap.get?_push_of_some _ e
  refine I1.pins_of fun p hp => ?_
  rcases List.mem_append.mp hp with z | z
  · exact I1.pin p (List.mem_append_right _ z)
  · have e : p = (s.heap.objs.size, o) := by simpa using z
    subst e
    exact ⟨hfr, I.hok.fresh (Nat.le_refl _), Nat.ne_of_gt I.lt, I.nofs (Nat.le_refl _), hc⟩
theorem pe_pick {es : List Expr} {idx : Expr} {p1 pos : Pos} {t : TA} {ti : TE} (ha : PA X es t) (hi : PE X idx ti) (hs : PlainIx idx) : PE X (.Subscript (.List es p1) idx pos) (tPick t ti) := by
  intro pins s σ H Q I hq
  refine Subscript_ (wpAny_List_spliced (thn (ha p1 pins s σ H _ I hq) fun us s1 ⟨xs, H1, I1, r, z, q⟩ => ⟨by rw [← r.length]; exact z, ?_⟩))
  have I2 := pin_new (tk := s1.toks) I1 (o := { cls := .type "list", data := .seq us.toArray }) (fun v e => nomatch e) (Heap.get?_push_size _ rfl)
  refine thn (hi _ _ σ H1 _ I2 q) fun yv s3 ⟨y, H3, I3, ry, i, v, ey, hat, q3⟩ => ?_
  subst ey
  obtain ⟨tk, rfl⟩ := ry
  have hp := (I3.pin (s1.heap.objs.size, { cls := .type "list", data := .seq us.toArray }) (by simp)).1
  have hl : s3.heap.IsList s1.heap.objs.size us.toArray := ⟨_, hp, rfl, _, rfl⟩
  obtain ⟨j, h1, h2, h3, h4, h5⟩ := atI_get hat
  obtain ⟨w, ew, rw'⟩ := r.get h2
  have hln := r.length
  have hn := line63
  have fin : EP X pins σ Q w s3 := ⟨v, H3, I3.unpinned, rw', q3⟩
  have hss := hs (.ref s1.heap.objs.size) (.int i tk)
  by_cases h0 : 0 ≤ i
  · have hj : i.toNat = j := by
      rw [seqIndex_of h0 h5] at h1
      exact Option.some.inj h1
    exact item_listR hl h0 (by omega) (by rw [hj]; simpa using ew) fin hss
  · have hj : (i + (us.toArray.size : Int)).toNat = j := by
      rw [PySem.seqIndex_neg (by omega) h4] at h1
      rw [List.size_toArray, ← hln]
      exact Option.some.inj h1
    exact subscriptTail_builtinR (x := w) hl.typeIs slot_list_getitem.lookup
      (wpAny_getItem_list_neg (Q := fun r s' => r = w ∧ EP X pins σ Q r s') hl (by omega) (by rw [List.size_toArray] <;> omega) (by omega) (by rw [hj]; simpa using ew) ⟨rfl, fin⟩) hss

/-! ### within a comprehension: the text's own part by its name -/
theorem ix_tupK {K : PySem.W.Frag} (hK : X.K = K := by rfl) : IxR X (rIxT K) := by
  subst hK
  exact ix_tup
/-! ### x == [], x != []: the empty list is not kept in sight -/
def tIsNil (neg : Bool) (ta : TE) : TE := fun σ H Q => ta σ H fun x H1 => ∃ a xs, x = .ref a ∧ H1 a = some (.lst xs) ∧ Q (.bl (if neg then !xs.isEmpty else xs.isEmpty)) H1
theorem nil_cmp {neg : Bool} {a : Addr} {xs : List V} {pins : List (Addr × Obj)} {σ : L2.St} {H : Hp} {s : Shared} {Q : VK} (hu : X.A.units < cLine) (I : Inv X pins σ H s) (ha : H a = some (.lst xs)) (q : Q (.bl (if neg then !xs.isEmpty else xs.isEmpty)) H) :
    wpAny (model X.prog X.w) X.A (compareOp (if neg then .NotEq else .Eq) (.ref a) (.ref s.heap.objs.size)) (EP X pins σ Q) X.xe { s with heap := s.heap.push { cls := .type "list", data := .seq ([] : List Value).toArray }, toks := s.toks } := by
  have I2 : Inv X pins σ H { s with heap := s.heap.push { cls := .type "list", data := .seq ([] : List Value).toArray }, toks := s.toks } := I.kept fun b u e => Heap.get?_push_of_some _ e
  obtain ⟨its, r, pl, hz⟩ := I2.list (SqL.of ha)
  have hl2 : (s.heap.push { cls := .type "list", data := .seq ([] : List Value).toArray }).IsList s.heap.objs.size ([] : List Value).toArray := ⟨_, Heap.get?_push_size _ rfl, rfl, _, rfl⟩
  cases xs with
  | nil =>
    obtain rfl := Vals.zero r
    cases neg with
    | false => exact SeqAt.eq_listAt (e := fun _ => true) pl.isList hl2 rfl hu (fun j h1 _ => absurd h1 (by simp)) ⟨.bl _, H, I2, rfl, q⟩
    | true => exact SeqAt.RcNeAt.lists (e := fun _ => true) pl.isList hl2 rfl hu (fun j h1 _ => absurd h1 (by simp)) _ _ _ _ ⟨.bl _, H, I2, rfl, q⟩
  | cons y ys =>
    have hl := r.length
    have hne : (its.toArray.size != ([] : List Value).toArray.size) = true := by
      simp only [List.length_cons] at hl
      simp only [List.size_toArray, List.length_nil, bne_iff_ne, ne_eq]
      omega
    cases neg with
    | false => exact SeqAt.eq_list_lengthsAt pl.isList hl2 hne hu ⟨.bl false, H, I2, rfl, q⟩
    | true => exact SeqAt.RcNeAt.lists_lengths pl.isList hl2 hne hu _ _ _ _ ⟨.bl true, H, I2, rfl, q⟩
theorem nil_walk {neg : Bool} {a : Expr} {ta : TE} {p1 : Pos} (hu : X.A.units < cLine) (ha : PE X a ta) {pins : List (Addr × Obj)} {σ : L2.St} {H : Hp} {s : Shared} {Q : VK} (I : Inv X pins σ H s) (h : tIsNil neg ta σ H Q) :
    wpAny (model X.prog X.w) X.A (eval a X.env) (fun v s₁ => wpAny (model X.prog X.w) X.A (eval (.List [] p1) X.env) (fun u s₂ => wpAny (model X.prog X.w) X.A (compareOp (if neg then .NotEq else .Eq) v u) (EP X pins σ Q) X.xe s₂) X.xe s₁) X.xe s := by
  refine thn (ha pins s σ H _ I h) fun v s1 ⟨x, H1, I1, r1, b, xs, e, hb, q⟩ => ?_
  subst e
  cases r1
  refine wpAny_List_spliced (thn (pa_nil p1 pins s1 σ H1 (fun vs H' => vs = [] ∧ H' = H1) I1 ⟨rfl, rfl⟩) fun us s2 ⟨vs, H2, I2, r, e1, e2⟩ => ⟨by rw [← r.length, e1]; exact Nat.zero_le _, ?_⟩)
  subst e1 e2
  obtain rfl := Vals.zero r
  exact nil_cmp hu I2 hb q
theorem pt_nil {neg : Bool} {op : CmpOp} {a : Expr} {ta : TE} {p1 pos : Pos} (hop : op = if neg then .NotEq else .Eq) (hu : X.A.units < cLine) (ha : PE X a ta) (hm : behindInMarks op (.List [] p1) = false) : PT X (.Compare a [op] [.List [] p1] pos) (tTest (tIsNil neg ta)) := by
  intro pins s σ H Q I h
  subst hop
  refine wpAny_isTrue_Compare1 (thn (nil_walk hu ha I h) fun v s1 h1 => thn h1 fun u s2 h2 => thn h2 fun c s3 ⟨z, H3, I3, r3, k, e, q3⟩ => ?_) hm
  subst e
  cases r3
  exact wpAny_truthy_bool ⟨H3, I3, q3⟩
theorem pt_eqNil {a : Expr} {ta : TE} {p1 pos : Pos} (hu : X.A.units < cLine) (ha : PE X a ta) : PT X (.Compare a [.Eq] [.List [] p1] pos) (tTest (tIsNil false ta)) := pt_nil rfl hu ha (nomark _)
end
end L3

/-! Exceptions of the text's own classes over the hand layer: raised, passed on by a call, caught by a try -/
namespace L3
open PySem PySem.Spec PyProof.Rows L2
/-- a record of the heap -/
def Rec (h : Heap) (b : Addr) : Prop := ∃ o vs, h.get? b = some o ∧ o.data = .fields vs
/-- an exception of class C that is not of the heap g: just made, or left by a callee -/
structure ExcIn (g : Heap) (H : Hp) (h : Heap) (e : Addr) (C : Value) : Prop where
  ex : ∃ oe vs a0, h.get? e = some oe ∧ oe.cls = C ∧ oe.data = .fields vs ∧ vs[0]? = some a0 ∧ g.get? e = none ∧ H e = none ∧
    (vs[1]? = some .none ∨ ∃ T oT ts, vs[1]? = some (.ref T) ∧ T ≠ e ∧ h.get? T = some oT ∧ oT.data = .fields ts ∧ ts[3]? = some .none ∧ g.get? T = none ∧ H T = none)
section
variable {M : Model} {A : Around} {E : Value → Shared → Prop} {s : Shared} {base : Heap} {env : Env} {outer : List Env} {L e : Addr} {Q : Unit → Shared → Prop}
/-- a new entry of the traceback, then out of flight -/
theorem new_entry {oe : Obj} {vs : Array Value} {head : Value} {hadNext : Bool}
    (hfr : A.frames = some (env :: outer)) (hl : s.heap.FunFrames base (env :: outer)) (hf : env.frame = some L)
    (he : s.heap.get? e = some oe) (hd : oe.data = .fields vs) (hsz : 1 < vs.size)
    (k : ∀ h' T oT ts, s.heap.objs.size ≤ T → T ≠ e → (∀ b o, b ∉ frs (env :: outer) → b ≠ e → s.heap.get? b = some o → h'.get? b = some o) →
      (∀ b o, b ∈ frs (env :: outer) → s.heap.get? b = some o → ∃ sl, h'.get? b = some { o with slots := sl }) →
      h'.get? e = some (oe.mapFields (·.setIfInBounds 1 (.ref T))) → h'.get? T = some oT → oT.data = .fields ts → ts[3]? = some .none → Q () { s with heap := h' }) :
    wpAny M A (do let a ← frameOf env; let pl ← entryPlaceOf L hadNext; let b ← EntryCells.newEntry head a .none (rawInt L) .none pl; setField (.ref e) 1 b)
      (fun _ s' => wpAny M A (setFlight (.ref e) none) Q E s') E s := by
  have hne : e ∉ frs (env :: outer) := fun hm => by
    obtain ⟨_, o, ho, hnf⟩ := hl.mem hm
    rw [he] at ho
    cases ho
    exact hnf vs hd
  refine wpAny_bind (wpAny_frameOf_fun hfr hl hf fun h₁ so => ?_)
  refine wpAny_bind (wpAny_entryPlaceOf fun pl hpl => ?_)
  unfold EntryCells.newEntry newFields
  refine wpAny_bind (wpAny_newObj_type ?_ (hpl.sizeOk5 _ _ _ _ _))
  have ez : h₁.objs.size = s.heap.objs.size := so.1
  have e1 : h₁.get? e = some oe := (so.2.1 e hne).trans he
  generalize hts : ([head, .ref L, .none, rawInt L, .none] ++ (if pl.isEmpty then List.replicate 6 Value.none else pl) : List Value) = ts0
  have t3 : 3 < ts0.length := by
    rw [← hts, List.length_append]
    show 3 < 5 + _
    omega
  have e2 := Heap.get?_push_of_some (h := h₁) { cls := .type "traceback", dict := none, data := .fields ts0.toArray } e1
  refine wpAny_setField e2 hd hsz ?_
  have nTe : h₁.objs.size ≠ e := Nat.ne_of_gt (Heap.lt_size e1)
  have d3 := Obj.data_mapFields hd (·.setIfInBounds 1 (Value.ref h₁.objs.size))
  have e3 := Heap.get?_update_self (Obj.mapFields (·.setIfInBounds 1 (Value.ref h₁.objs.size))) e2 (Obj.isFreed_of_fields d3)
  have T3 := (Heap.get?_update_other (h₁.push { cls := .type "traceback", dict := none, data := .fields ts0.toArray }) (Obj.mapFields (·.setIfInBounds 1 (Value.ref h₁.objs.size))) (Ne.symm nTe)).trans (Heap.get?_push_size h₁ rfl)
  unfold setFlight
  refine wpAny_bind (wpAny_field e3 d3 (x := .ref h₁.objs.size) (by simp [hsz]) ?_)
  rw [if_pos (show (Value.ref h₁.objs.size != Value.none) = true from by simp)]
  refine wpAny_setField T3 rfl (by rw [List.size_toArray]; exact t3) ?_
  have T4 := Heap.get?_update_self (Obj.mapFields (·.setIfInBounds 3 ((none : Option Addr).elim Value.none fun f => rawInt f))) T3 (Obj.isFreed_of_fields (Obj.data_mapFields rfl _))
  have keep : ∀ b o, b ≠ e → h₁.get? b = some o → _ := fun b o hb hq =>
    ((Heap.get?_update_other _ (Obj.mapFields (·.setIfInBounds 3 ((none : Option Addr).elim Value.none fun f => rawInt f))) (Nat.ne_of_gt (Heap.lt_size hq))).trans
      ((Heap.get?_update_other _ (Obj.mapFields (·.setIfInBounds 1 (Value.ref h₁.objs.size))) (Ne.symm hb)).trans (Heap.get?_push_of_some { cls := .type "traceback", dict := none, data := .fields ts0.toArray } hq)))
  refine k _ h₁.objs.size _ _ (Nat.le_of_eq ez.symm) nTe (fun b o hb hbe hq => keep b o hbe ((so.2.1 b hb).trans hq)) (fun b o hb hq => ?_) ?_ T4 (Obj.data_mapFields rfl _) ?_
  · obtain ⟨sl, h2⟩ := so.2.2 b o hq
    exact ⟨sl, keep b _ (fun z => hne (z ▸ hb)) h2⟩
  · rw [Heap.get?_update_other _ _ nTe]
    exact e3
  · have : 3 < ts0.toArray.size := by rw [List.size_toArray]; exact t3
    rw [Array.getElem?_setIfInBounds_self_of_lt this]
    rfl
/-- an exception is noted in this frame and set down: what a leaving frame and a try both do -/
theorem note_set {g : Heap} {H : Hp} {C : Value} (hfr : A.frames = some (env :: outer)) (hl : s.heap.FunFrames base (env :: outer)) (hf : env.frame = some L) (x : ExcIn g H s.heap e C)
    (hlo : ∀ b o, g.get? b = some o → ∃ o', s.heap.get? b = some o') (hfresh : ∀ b, s.heap.objs.size ≤ b → H b = none)
    (k : ∀ (h' : Heap) (ch : List Addr), (∀ b ∈ ch, g.get? b = none ∧ H b = none ∧ Rec s.heap b) → (∀ b o, b ∉ frs (env :: outer) → b ∉ ch → s.heap.get? b = some o → h'.get? b = some o) →
      (∀ b o, b ∈ frs (env :: outer) → b ∉ ch → s.heap.get? b = some o → ∃ sl, h'.get? b = some { o with slots := sl }) → ExcIn g H h' e C → (∀ b o, s.heap.get? b = some o → ∃ o', h'.get? b = some o') → Q () { s with heap := h' }) :
    wpAny M A (noteFrame (.ref e) env) (fun _ s' => wpAny M A (setFlight (.ref e) none) Q E s') E s := by
  obtain ⟨oe, vs, a0, he, hc, hd, h0, hle, hHe, x1⟩ := x.ex
  have gnone : ∀ T, s.heap.objs.size ≤ T → g.get? T = none := fun T hT => by
    cases q : g.get? T with
    | none => rfl
    | some o =>
      obtain ⟨o', z⟩ := hlo T o q
      exact absurd (Nat.lt_of_lt_of_le (Heap.lt_size z) hT) (Nat.lt_irrefl _)
  unfold noteFrame
  simp only [hf]
  have fin : ∀ (h' : Heap) (T : Addr) (oT : Obj) (ts : Array Value), 1 < vs.size → s.heap.objs.size ≤ T → T ≠ e → h'.get? e = some (oe.mapFields (·.setIfInBounds 1 (.ref T))) → h'.get? T = some oT → oT.data = .fields ts → ts[3]? = some .none → ExcIn g H h' e C := by
    intro h' T oT ts hsz hT hTe q1 q2 q3 q4
    refine ⟨_, _, a0, q1, (Obj.cls_mapFields _ _).trans hc, Obj.data_mapFields hd _, by rw [Array.getElem?_setIfInBounds_ne (by decide)]; exact h0, hle, hHe, .inr ⟨T, oT, ts, by simp [hsz], hTe, q2, q3, q4, gnone T hT, hfresh T hT⟩⟩
  rcases x1 with h1 | ⟨T, oT, ts, h1, hTe, hT, hdT, h3, hlT, hHT⟩
  · have hsz := (Array.getElem?_eq_some_iff.mp h1).1
    refine wpAny_bind (wpAny_field he hd h1 ?_)
    rw [if_neg (by decide)]
    refine new_entry hfr hl hf he hd hsz fun h' T oT ts hT hTe q1 q2 q3 q4 q5 q6 => ?_
    exact k h' [e] (fun b hb => by have : b = e := by simpa using hb
                                   subst this; exact ⟨hle, hHe, oe, vs, he, hd⟩) (fun b o hb hn hq => q1 b o hb (by simpa using hn) hq) (fun b o hb hn hq => q2 b o hb hq) (fin h' T oT ts hsz hT hTe q3 q4 q5 q6) (fun b o hq => by
      by_cases z : b = e
      · rw [z]
        exact ⟨_, q3⟩
      · by_cases y : b ∈ frs (env :: outer)
        · obtain ⟨sl, u⟩ := q2 b o y hq
          exact ⟨_, u⟩
        · exact ⟨o, q1 b o y z hq⟩)
  · have hsz := (Array.getElem?_eq_some_iff.mp h1).1
    refine wpAny_bind (wpAny_field he hd h1 ?_)
    rw [if_pos (show (Value.ref T != Value.none) = true from by simp)]
    refine wpAny_bind (wpAny_field hT hdT h3 ?_)
    rw [if_neg (show ¬ ((Value.none == rawInt L) = true) from by simp [rawInt])]
    refine wpAny_bind (wpAny_setField hT hdT (Array.getElem?_eq_some_iff.mp h3).1 ?_)
    have oth : ∀ b, b ≠ T → (s.heap.update T (Obj.mapFields (·.setIfInBounds 3 Value.none))).get? b = s.heap.get? b := fun b hb => Heap.get?_update_other _ _ (Ne.symm hb)
    have nT : T ∉ frs (env :: outer) := fun hm => by
      obtain ⟨_, o, ho, hnf⟩ := hl.mem hm
      rw [hT] at ho
      cases ho
      exact hnf ts hdT
    have ez : (s.heap.update T (Obj.mapFields (·.setIfInBounds 3 Value.none))).objs.size = s.heap.objs.size := Heap.size_after_update ..
    refine new_entry (s := { s with heap := s.heap.update T (Obj.mapFields (·.setIfInBounds 3 Value.none)) }) hfr (hl.of_keeps fun b o hb hnf => ⟨o, (oth b fun z => by rw [z, hT] at hb; cases hb; exact hnf ts hdT).trans hb, rfl⟩) hf ((oth e (Ne.symm hTe)).trans he) hd hsz fun h' T2 oT2 ts2 hT2 hTe2 q1 q2 q3 q4 q5 q6 => ?_
    have hT2' : s.heap.objs.size ≤ T2 := by rw [← ez]; exact hT2
    refine k h' [e, T] (fun b hb => ?_) (fun b o hb hn hq => ?_) (fun b o hb hn hq => ?_) (fin h' T2 oT2 ts2 hsz hT2' hTe2 q3 q4 q5 q6) (fun b o hq => ?_)
    · rcases List.mem_cons.mp hb with z | z
      · subst z
        exact ⟨hle, hHe, oe, vs, he, hd⟩
      · have z' : b = T := by simpa using z
        subst z'
        exact ⟨hlT, hHT, oT, ts, hT, hdT⟩
    · have n1 : b ≠ e := fun z => hn (by simp [z])
      have n2 : b ≠ T := fun z => hn (by simp [z])
      exact q1 b o hb n1 ((oth b n2).trans hq)
    · have n2 : b ≠ T := fun z => hn (by simp [z])
      exact q2 b o hb ((oth b n2).trans hq)
    · by_cases z : b = e
      · rw [z]
        exact ⟨_, q3⟩
      · have hq' : ∃ o', (s.heap.update T (Obj.mapFields (·.setIfInBounds 3 Value.none))).get? b = some o' := by
          by_cases y : b = T
          · rw [y]
            exact ⟨_, Heap.get?_update_self _ hT (Obj.isFreed_of_fields (Obj.data_mapFields hdT _))⟩
          · exact ⟨o, (oth b y).trans hq⟩
        obtain ⟨o', hq'⟩ := hq'
        by_cases y : b ∈ frs (env :: outer)
        · obtain ⟨sl, u⟩ := q2 b o' y hq'
          exact ⟨_, u⟩
        · exact ⟨o', q1 b o' y z hq'⟩
end

theorem ExcIn.mono {g g' : Heap} {H : Hp} {h : Heap} {e : Addr} {C : Value} (x : ExcIn g H h e C) (l : ∀ b o, g'.get? b = some o → ∃ o', g.get? b = some o') : ExcIn g' H h e C := by
  have none_of : ∀ b, g.get? b = none → g'.get? b = none := fun b z => by
    cases q : g'.get? b with
    | none => rfl
    | some o =>
      obtain ⟨o', y⟩ := l b o q
      rw [z] at y
      cases y
  obtain ⟨oe, vs, a0, h1, h2, h3, h4, h5, h6, x1⟩ := x.ex
  refine ⟨oe, vs, a0, h1, h2, h3, h4, none_of _ h5, h6, x1.imp id fun ⟨T, oT, ts, g1, g2, g3, g4, g5, g6, g7⟩ => ⟨T, oT, ts, g1, g2, g3, g4, g5, none_of _ g6, g7⟩⟩
/-- a def's body runs here (no comprehension's block) -/
structure FnCx (X : Cx) : Prop where
  stk : X.stack = X.env :: X.outer
  frm : X.env.frame = some X.env.locals
  exn : X.ex = []
/-- what was there ahead of the exception -/
structure Ahead (X : Cx) (pins : List (Addr × Obj)) (g : Heap) : Prop where
  loc : ∃ o, g.get? X.env.locals = some o
  pin : ∀ p ∈ X.pn ++ pins, ∃ o, g.get? p.1 = some o
  old : ∀ b o, X.s₀.heap.get? b = some o → ∃ o', g.get? b = some o'
/-- an exception in a body: where it lies, R of its class and the heap -/
inductive XP (X : Cx) (pins : List (Addr × Obj)) (σ : L2.St) (R : Value → Hp → Prop) (ev : Value) (s : Shared) : Prop
  | mk (e : Addr) (C : Value) (H : Hp) (g : Heap) (ee : ev = .ref e) (I : Inv X pins σ H s) (x : ExcIn g H s.heap e C) (h0 : ∀ b o, g.get? b = some o → ∃ o', s.heap.get? b = some o') (ah : Ahead X pins g) (r : R C H)
section
variable {X : Cx} {pins : List (Addr × Obj)} {σ : L2.St} {H : Hp} {s : Shared}
theorem ahead_of (F : FnCx X) (I : Inv X pins σ H s) : Ahead X pins s.heap :=
  ⟨let ⟨_, ⟨o, _, _, ho, _⟩, _⟩ := I.loc; ⟨o, ho⟩, fun p hp => ⟨_, (I.pin p hp).1⟩, fun b o e => I.base.there b o e (by rw [F.exn]; simp)⟩
/-- behind note_set -/
theorem inv_noted {g h' : Heap} {ch : List Addr} (F : FnCx X) (I : Inv X pins σ H s) (ah : Ahead X pins g)
    (c1 : ∀ b ∈ ch, g.get? b = none ∧ H b = none ∧ Rec s.heap b) (c2 : ∀ b o, b ∉ frs (X.env :: X.outer) → b ∉ ch → s.heap.get? b = some o → h'.get? b = some o)
    (c3 : ∀ b o, b ∈ frs (X.env :: X.outer) → b ∉ ch → s.heap.get? b = some o → ∃ sl, h'.get? b = some { o with slots := sl }) : Inv X pins σ H { s with heap := h' } := by
  have es : frs X.stack = frs (X.env :: X.outer) := by rw [F.stk]
  have ef : frs (X.env :: X.outer) = X.env.locals :: X.fs := by
    show (X.env :: X.outer).filterMap (·.frame) = _
    rw [List.filterMap_cons, F.frm]
    rfl
  have some_not : ∀ b o, g.get? b = some o → b ∉ ch := fun b o e hb => by
    rw [(c1 b hb).1] at e
    cases e
  have old_not : ∀ b o, X.s₀.heap.get? b = some o → b ∉ ch := fun b o e => let ⟨o', z⟩ := ah.old b o e; some_not b o' z
  have upto : ∀ b o, b ∉ ch → s.heap.get? b = some o → ∃ sl, h'.get? b = some { o with slots := sl } := fun b o hn e => by
    by_cases hb : b ∈ frs (X.env :: X.outer)
    · exact c3 b o hb hn e
    · exact ⟨o.slots, c2 b o hb hn e⟩
  have neL : ∀ b o, X.s₀.heap.get? b = some o → b ≠ X.env.locals := fun b o e => Nat.ne_of_lt (Nat.lt_of_lt_of_le (Heap.lt_size e) I.ok.above)
  have notin : ∀ b, b ≠ X.env.locals → b ∉ X.fs → b ∉ frs (X.env :: X.outer) := fun b h1 h2 z => by
    rw [ef] at z
    rcases List.mem_cons.mp z with y | y
    · exact h1 y
    · exact h2 y
  have cellK : ∀ c v, s.heap.IsCell c v → h'.IsCell c v := fun c v ⟨o, ho, hd⟩ => by
    have hn : c ∉ ch := fun z => by
      obtain ⟨_, _, o2, vs, g3, g4⟩ := c1 c z
      rw [ho] at g3
      cases g3
      rw [g4] at hd
      cases hd
    obtain ⟨sl, q⟩ := upto c o hn ho
    exact ⟨_, q, hd⟩
  have hx : ∀ b, b ∉ X.ex := fun b => by rw [F.exn]; simp
  refine ⟨I.ok, I.os, I.bare, ⟨fun b o e n hb _ => ?_, fun b o e n hb _ => ?_, I.base.free, fun b o e _ => ?_, I.base.tups, I.base.frzs, I.base.tbls⟩, ?_, fun x c e => ?_, I.free, I.freeC, fun p hp => ?_, fun b u q => ?_, I.len⟩
  · exact c2 b o (notin b (neL b o e) hb) (old_not b o e) (I.base.keep b o e n hb (hx b))
  · obtain ⟨sl, q⟩ := I.base.slot b o e n hb (hx b)
    obtain ⟨sl', q'⟩ := upto b _ (old_not b o e) q
    exact ⟨sl', q'⟩
  · obtain ⟨o', q⟩ := I.base.there b o e (hx b)
    obtain ⟨sl', q'⟩ := upto b _ (old_not b o e) q
    exact ⟨_, q'⟩
  · obtain ⟨m, ⟨o, es, ep, ho, r⟩, hl⟩ := I.loc
    obtain ⟨ol, hol⟩ := ah.loc
    obtain ⟨sl, q⟩ := upto X.env.locals o (some_not _ _ hol) ho
    refine ⟨m, ⟨_, es, ep, q, r⟩, fun i x v e1 e2 e3 => ?_⟩
    obtain ⟨u, ru, l⟩ := hl i x v e1 e2 e3
    refine ⟨u, ru, l.imp id fun ⟨k, c, e, z⟩ => ⟨k, c, e, cellK c _ z⟩⟩
  · obtain ⟨v, z⟩ := I.cell x c e
    exact ⟨v, cellK c v z⟩
  · obtain ⟨e, n, ne, nf, d⟩ := I.pin p hp
    obtain ⟨o, z⟩ := ah.pin p hp
    exact ⟨c2 p.1 p.2 (notin _ ne nf) (some_not _ _ z) e, n, ne, nf, d⟩
  · refine (I.hok b u q).stay (fun c v hc z => ?_) (fun _ z => z) fun _ _ z => z
    have tr : H c ≠ none := by
      rcases hc with y | y
      · rw [y, q]
        exact fun y => nomatch y
      · rw [y]
        exact fun y => nomatch y
    exact c2 c v (fun y => tr (I.stkFree c (by rw [es]; exact y))) (fun y => tr (c1 c y).2.1) z
/-- what a frame needs to be noted -/
theorem Inv.fun_frames (F : FnCx X) (I : Inv X pins σ H s) : s.heap.FunFrames X.base (X.env :: X.outer) := by
  have := I.stack
  rw [F.stk] at this
  exact this
/-- the exception is noted and set down, then Q with the body's invariant again -/
theorem xp_note {M : Model} {E : Value → Shared → Prop} {R : Value → Hp → Prop} {ev : Value} {Q : Unit → Shared → Prop} (F : FnCx X) (x : XP X pins σ R ev s) (k : ∀ s', XP X pins σ R ev s' → Q () s') :
    wpAny M X.A (noteFrame ev X.env) (fun _ s' => wpAny M X.A (setFlight ev none) Q E s') E s := by
  obtain ⟨e, C, H, g, rfl, I, x1, h0, ah, r⟩ := x
  refine note_set (base := X.base) (g := g) (H := H) (C := C) (by rw [I.ok.frames, F.stk]) (Inv.fun_frames F I) F.frm x1 h0 (fun b hb => I.hok.fresh hb) fun h' ch c1 c2 c3 x2 hs => ?_
  exact k _ ⟨e, C, H, g, rfl, inv_noted F I ah c1 c2 c3, x2, (fun b o q => let ⟨o', z⟩ := h0 b o q; hs b o' z), ah, r⟩
end
/-- how an exception lies behind a call -/
def CXE (P : Program) (w : World) : CXT := fun outer H s E ev s' => ∃ e C H', ev = .ref e ∧ s'.os = s.os ∧ AllBare s'.gens ∧ Un (frs outer) [] H H' s.heap s'.heap ∧ HOk P w H' s'.heap ∧ ExcIn s.heap H' s'.heap e C ∧ E C none H'
/-! ### judgements with what is wanted of an exception -/
abbrev XR := Value → Hp → Prop
abbrev TEX := L2.St → Hp → VK → XR → Prop
abbrev TSX := Ends → (L2.St → XR) → L2.St → Hp → Prop
def XPs (X : Cx) (pins : List (Addr × Obj)) (R : L2.St → XR) (ev : Value) (s : Shared) : Prop := ∃ σ, XP X pins σ (R σ) ev s
def PEX (X : Cx) (e : Expr) (t : TEX) : Prop :=
  ∀ (pins : List (Addr × Obj)) (s : Shared) (σ : L2.St) (H : Hp) (Q : VK) (R : XR), Inv X pins σ H s → t σ H Q R → wpAny (model X.prog X.w) X.A (eval e X.env) (EP X pins σ Q) (XP X pins σ R) s
def PSX (X : Cx) (st : Stmt) (t : TSX) : Prop :=
  ∀ (pins : List (Addr × Obj)) (s : Shared) (σ : L2.St) (H : Hp) (D : Ends) (R : L2.St → XR), Inv X pins σ H s → t D R σ H → wpAny (model X.prog X.w) X.A (exec st X.env) (SP X pins D) (XPs X pins R) s
def PSsX (X : Cx) (sts : List Stmt) (t : TSX) : Prop :=
  ∀ (pins : List (Addr × Obj)) (s : Shared) (σ : L2.St) (H : Hp) (D : Ends) (R : L2.St → XR), Inv X pins σ H s → t D R σ H → wpAny (model X.prog X.w) X.A (execs sts X.env) (SP X pins D) (XPs X pins R) s
section
variable {X : Cx}
theorem nr {α : Type} {t : Sem α} {Q Q' : α → Shared → Prop} {M : Model} {A : Around} {E E' : Value → Shared → Prop} {s : Shared} (hE : E = fun _ _ => False) (h : wpAny M A t Q E s) (hQ : ∀ a s, Q a s → Q' a s) : wpAny M A t Q' E' s := by
  subst hE
  exact wpAny_mono h hQ fun _ _ x => x.elim
theorem psx_of {st : Stmt} {t : TS} (h : PS X st t) (hx : X.xe = fun _ _ => False := by rfl) : PSX X st (fun D _ σ H => t D σ H) := fun pins s σ H D R I q => nr hx (h pins s σ H D I q) fun _ _ z => z
theorem pssx_of {sts : List Stmt} {t : TS} (h : PSs X sts t) (hx : X.xe = fun _ _ => False := by rfl) : PSsX X sts (fun D _ σ H => t D σ H) := fun pins s σ H D R I q => nr hx (h pins s σ H D I q) fun _ _ z => z
theorem pssx_cons {st : Stmt} {rest : List Stmt} {t u : TSX} (h1 : PSX X st t) (h2 : PSsX X rest u) : PSsX X (st :: rest) (fun D R σ H => t { D with nx := fun σ' H' => u D R σ' H' } R σ H) := by
  intro pins s σ H D R I h
  refine wpAny_execs_cons (thn (h1 pins s σ H _ R I h) fun f s1 q => ?_)
  cases f with
  | next =>
    obtain ⟨σ', H', I', q⟩ := q
    exact h2 pins s1 σ' H' D R I' q
  | ret v => exact q
  | brk => exact q
  | cont => exact q
theorem pssx_one {st : Stmt} {t : TSX} (h1 : PSX X st t) : PSsX X [st] t := by
  intro pins s σ H D R I h
  refine wpAny_execs_cons (thn (h1 pins s σ H D R I h) fun f s1 q => ?_)
  cases f with
  | next => exact wpAny_execs_nil q
  | ret v => exact q
  | brk => exact q
  | cont => exact q
theorem psx_if {c : Expr} {a b : List Stmt} {tc : TT} {t u : TSX} {pos : Pos} (hc : PT X c tc) (ha : PSsX X a t) (hb : PSsX X b u) (hx : X.xe = fun _ _ => False := by rfl) :
    PSX X (.If c a b pos) (fun D R σ H => tc σ H fun b H1 => if b = true then t D R σ H1 else u D R σ H1) := by
  intro pins s σ H D R I h
  refine wpAny_If (nr hx (hc pins s σ H _ I h) fun d s1 ⟨H1, I1, q1⟩ => ?_)
  cases d with
  | true => exact ha pins s1 σ H1 D R I1 q1
  | false => exact hb pins s1 σ H1 D R I1 q1
theorem xps {pins : List (Addr × Obj)} {σ : L2.St} {R : L2.St → XR} : ∀ e s, XP X pins σ (R σ) e s → XPs X pins R e s := fun _ _ x => ⟨σ, x⟩
theorem psx_ret {e : Expr} {te : TEX} {pos : Pos} (he : PEX X e te) : PSX X (.Return (some e) pos) (fun D R σ H => te σ H D.rt (R σ)) := by
  intro pins s σ H D R I h
  exact wpAny_Return_some (wpAny_mono (he pins s σ H _ _ I h) (fun v s1 ⟨x, H1, I1, r1, q1⟩ => ⟨x, σ, H1, I1, r1, q1⟩) xps)
theorem psx_expr {e : Expr} {te : TEX} {pos : Pos} (he : PEX X e te) (hs : swapsWith e none pos.line X.env = pure false := by rfl) : PSX X (.Expr e pos) (fun D R σ H => te σ H (fun _ H1 => D.nx σ H1) (R σ)) := by
  intro pins s σ H D R I h
  exact wpAny_Expr_any (wpAny_mono (he pins s σ H _ _ I h) (fun v s1 ⟨x, H1, I1, r1, q1⟩ => ⟨σ, H1, I1, q1⟩) xps) I.quiet hs
theorem psx_set {i : Nat} {x : Str} {e : Expr} {te : TEX} {pos pos' : Pos} (hN : X.N.Nodup) (hi : X.N[i]? = some x) (hx : Loc X.env.scope x) (he : PEX X e te) (hs : swapsWith e (some (.Name x pos')) pos.line X.env = pure false := by rfl) (hf : X.fn x = true ∨ X.env.scope.names.lookup x = some .local := by first | exact .inl rfl | exact .inr rfl | assumption) :
    PSX X (.Assign [.Name x pos'] e pos) (fun D R σ H => te σ H (fun y H1 => D.nx (σ.set i (some y)) H1) (R σ)) := by
  intro pins s σ H D R I h
  refine wpAny_Assign_Name (wpAny_mono (he pins s σ H _ _ I h) (fun v s1 ⟨y, H1, I1, r1, q1⟩ => ?_) xps) hs
  exact store_ok I1 hN hi hx r1 (fun s2 I2 => ⟨_, H1, I2, q1⟩) hf
/-! ### a call that may raise -/
structure CalleeX (P : Program) (w : World) (K : PySem.W.Frag) (mg : Str → Option Value) (base : Heap) (k : Nat) (x : Str) (ps : List Str) (sp : Sp) : Prop where
  ex : ∃ (f : Addr) (fd : FuncData), FnOk P w K mg base (CXE P w) k f fd ps sp ∧ Binds K fd ps [] ∧ PySem.W.keepIn K (.ref f) = true ∧ mg x = some (.ref f)
theorem run_fnx {k : Nat} {f : Addr} {fd : FuncData} {ps : List Str} {sp : Sp} {R : XR} {pins : List (Addr × Obj)} {σ : L2.St} {H : Hp} {s : Shared} {Q : VK} {us : List Value} {vs : List V} (F : FnOk X.prog X.w X.K X.mg X.base (CXE X.prog X.w) k f fd ps sp) (hr : Room k X.A)
    (hb : Binds X.K fd ps []) (Fc : FnCx X) (I : Inv X pins σ H s) (r : Vals vs us) (h : sp vs H Q (fun C _ H' => R C H')) : wpAny (model X.prog X.w) X.A (call (.ref f) us) (EP X pins σ Q) (XP X pins σ R) s := by
  have hl : (us ++ []).length = ps.length := by rw [List.append_nil, ← r.length]; exact F.len _ _ _ _ h
  have hbb := hb s us I.kIn hl
  rw [List.append_nil] at hbb
  refine wpAny_call (codeAny_mono (F.run X.A X.stack s H ⟨us, []⟩ us vs Q _ hr I.env0 hbb r h) fun r s' hq => ?_)
  cases r with
  | error e =>
    obtain ⟨a, C, H', rfl, ho, hg, u, hok, x1, q⟩ := hq
    exact ⟨a, C, H', s.heap, rfl, I.call' ho u hok hg (fun b hb => nomatch hb), x1, (fun b o e => u.there b o e (by simp)), ahead_of Fc I, q⟩
  | ok fl =>
    cases fl with
    | ret u => exact I.after hq
    | next => exact False.elim hq
    | brk => exact False.elim hq
    | cont => exact False.elim hq
theorem pex_call {k : Nat} {x : Str} {ps : List Str} {sp : Sp} {p pos : Pos} {e : Expr} {es : List Expr} {t : TA} (C : CalleeX X.prog X.w X.K X.mg X.base k x ps sp) (hr : Room k X.A) (hg : Gl X x)
    (ha : PA X (e :: es) t) (Fc : FnCx X := by exact ⟨rfl, rfl, rfl⟩) (hx : X.xe = fun _ _ => False := by rfl) (hdb : (x == ("__debug__" : Str)) = false := by decide) (he : starEach (e :: es) X.env = (false, eval e X.env) :: starEach es X.env := by rfl) (hpl : (backTo pos (starEach es X.env)).any (·.1) = false := by rfl) :
    PEX X (.Call (.Name x p) (e :: es) [] pos) (fun σ H Q R => t σ H fun vs H1 => sp vs H1 Q (fun C _ H' => R C H')) := by
  obtain ⟨f, fd, G, b, kp, m⟩ := C.ex
  intro pins s σ H Q R I h
  refine wpAny_Call_Name_kw (ld_glob I hg m ?_ hdb)
  refine PySem.W.callWith_K (h₀ := X.base) I.ok.mod.kin kp (nr hx (ha pos pins s σ H _ I h) fun us s1 ⟨vs, H1, I1, r, q⟩ => ⟨I1.kIn, ?_⟩) he hpl
  exact run_fnx G hr b Fc I1 r q
/-- o.m(e, ..) that may raise -/
theorem pex_meth {k : Nat} {Cl f : Addr} {fd : FuncData} {m : Str} {ps : List Str} {sp : Sp} {pos apos : Pos} {o e : Expr} {es : List Expr} {ta : TE} {t : TA} {pl : Sem Bool} (he : PE X o ta) (c : Cls X.K Cl) (hm : Meth X.K Cl m f) (F : FnOk X.prog X.w X.K X.mg X.base (CXE X.prog X.w) k f fd ps sp) (hr : Room k X.A) (hb : Binds X.K fd ps [])
    (ha : PA X (e :: es) t) (Fc : FnCx X := by exact ⟨rfl, rfl, rfl⟩) (hx : X.xe = fun _ _ => False := by rfl) (hst : starEach (e :: es) X.env = (false, eval e X.env) :: starEach es X.env := by rfl) (hpl : (backTo pos (starEach es X.env)).any (·.1) = false := by rfl)
    (ht : eval (.Call (.Attribute o m apos) (e :: es) [] pos) X.env = (do
      let ov ← eval o X.env
      standAt apos.atName
      let (f, first) ← holding [ov] (getMethod ov m pl)
      callWith pos f first (backTo pos (starEach (e :: es) X.env)) (backToKw pos (keywordEach [] X.env))) := by rfl) :
    PEX X (.Call (.Attribute o m apos) (e :: es) [] pos) (fun σ H Q R => ta σ H fun x H1 => ∃ a dx fs, x = .ref a ∧ H1 a = some (.ins Cl dx fs) ∧ fs.lookup m = none ∧ t σ H1 fun vs H2 => sp (x :: vs) H2 Q (fun C _ H' => R C H')) := by
  intro pins s σ H Q R I h
  refine PySem.W.methodCall_KW (pl := pl) (nr hx (he pins s σ H _ I h) fun u s1 ⟨x, H1, I1, rx, a, dx, fs, ex, ea, l, q⟩ => ?_) ht
  subst ex
  obtain rfl : u = Value.ref a := rx
  refine getmeth_ok I1 ea c hm l ?_
  refine PySem.W.callWith_K (first := [.ref a]) (h₀ := X.base) I.ok.mod.kin hm.kp (nr hx (ha pos pins s1 σ H1 _ I1 q) fun us s2 ⟨vs, H2, I2, r, q2⟩ => ⟨I2.kIn, ?_⟩) hst hpl
  exact run_fnx (us := .ref a :: us) (vs := .ref a :: vs) F hr hb Fc I2 (.cons rfl r) q2
end
/-! ### a def that may raise keeps its promise -/
section
variable {P : Program} {w : World} {K : PySem.W.Frag} {mg : Str → Option Value} {base : Heap}
theorem fncx {CX : CXT} {N : List Str} {qual : Str} {scope : Scope} {f : Addr} {cd : Value} {A : Around} {outer : List Env} {s : Shared} {H : Hp} {E : XK} : FnCx (cxOf CX P w K mg base N qual scope f cd A outer s H E) := ⟨rfl, rfl, rfl⟩
theorem xp_leave {N : List Str} {qual : Str} {scope : Scope} {f : Addr} {cd : Value} {A : Around} {outer : List Env} {s s' : Shared} {H : Hp} {E : XK} {pins : List (Addr × Obj)} {σ : L2.St} {ev : Value}
    (x : XP (cxOf (CXE P w) P w K mg base N qual scope f cd A outer s H E) pins σ (fun C H' => E C none H') ev s') : (cxOf (CXE P w) P w K mg base N qual scope f cd A outer s H E).xe ev s' := by
  show wpAny _ _ (leaving _ ev) _ _ s'
  unfold leaving
  refine wpAny_bind (xp_note fncx x fun s2 x2 => ?_)
  obtain ⟨e, C, H', g, rfl, I, x1, h0, ah, r⟩ := x2
  exact ⟨e, C, H', rfl, I.os, I.bare, I.base, I.hok, x1.mono ah.old, r⟩
theorem xp_unwish {X : Cx} {E' : Value → Shared → Prop} {pins : List (Addr × Obj)} {σ : L2.St} {R : XR} {ev : Value} {s : Shared} (x : XP (X.wish E') pins σ R ev s) : XP X pins σ R ev s := by
  obtain ⟨e, C, H, g, h1, I, h2, h3, h4, r⟩ := x
  exact ⟨e, C, H, g, h1, I.unwish, h2, h3, ⟨h4.loc, h4.pin, h4.old⟩, r⟩
theorem fun_okX {x qual : Str} {st : Stmt} {f : Addr} {fd : FuncData} {N ps : List Str} {k : Nat} {sp : Sp} (F : Fun K x qual st f fd) (S : FnScope N ps (defScope st)) (len : ∀ vs H Q E, sp vs H Q E → vs.length = ps.length)
    (hbody : ∀ (cdv : Value) (A : Around) (outer : List Env) (s : Shared) (H : Hp) (vs : List V) (Q : VK) (E : XK), Room k (A.deeper (envOfC qual (defScope st) s.heap.objs.size f cdv)) → sp vs H Q E →
      ∃ t, PSsX (cxOf (CXE P w) P w K mg base N qual (defScope st) f cdv A outer s H E).nox (defBody st) t ∧ t { nx := fun _ H' => Q .non H', rt := Q } (fun _ C H' => E C none H') (start N vs) H) :
    FnOk P w K mg base (CXE P w) (k + 1) f fd ps sp := by
  obtain ⟨oc, od, kV, doc, pm, an, cdv, ct, osl, rfl, lk, hcd⟩ := F.ex
  refine fn_of lk hcd S len fun A outer s H vs Q E hr hsp => ?_
  obtain ⟨t, h, q⟩ := hbody cdv A outer s H vs Q E hr hsp
  refine ⟨fun D σ H' => t D (fun _ C H' => E C none H') σ H', fun pins s1 σ H1 D I h1 => ?_, q⟩
  refine wpAny_mono (h pins s1 σ H1 D _ (I.wish _) h1) (fun f s2 z => z.unwish) fun ev s2 ⟨σ2, z⟩ => xp_leave (xp_unwish z)
end
/-! ### raise C() -/
/-- an error class of the text that stands under ValueError, without an __init__ of its own -/
structure Err (K : PySem.W.Frag) (C : Addr) : Prop where
  own : PySem.W.excIn K C [.type "ValueError", .type "Exception", .type "BaseException", .type "object"] "ValueError.__new__" = true
inductive ErrObj (h : Heap) (C : Addr) : Prop
  | mk (bm : List Value) (N : Addr) (nm q : Str) (bs : List Value) (hdct : Bool) (sn : List Str) (sub : List Value) (ab : Bool) (col : Option Bool) (dd : Option Addr) (k0 k1 k2 k3 k5 : Option Value) (mN : Str → Option Value)
    (hC : h.get? C = some (excClassObj nm q C N bs bm hdct sn sub ab col dd k0 k1 k2 k3 k5 "ValueError.__new__")) (hN : h.Ns N mN) (hni : mN "__init__" = none) (T : OwnTail h [.type "ValueError", .type "Exception", .type "BaseException", .type "object"] bm)
theorem err_obj {K : PySem.W.Frag} {h : Heap} {C : Addr} (X : K.In h) (E : Err K C) : ErrObj h C := by
  have q := E.own
  unfold PySem.W.excIn at q
  split at q
  · rename_i dd cd sl ho
    split at q
    · rename_i C' bm k0 k1 k2 k3 n k5 hm hs
      simp only [Bool.and_eq_true, beq_iff_eq, Bool.not_eq_true'] at q
      obtain ⟨⟨⟨⟨⟨rfl, rfl⟩, hdel⟩, ht⟩, hok⟩, hni⟩ := q
      obtain ⟨nm, bs, mro, ns, qn, hd, sn, sub, ab, col, del⟩ := cd
      dsimp only at hm hdel hok hni
      subst hm hdel
      have hsl : sl = #[k0, k1, k2, k3, some (.builtin "ValueError.__new__"), k5] := by
        obtain ⟨l⟩ := sl
        simp only at hs
        rw [hs]
      subst hsl
      exact ⟨bm, ns, nm, qn, bs, hd, sn, sub, ab, col, dd, k0, k1, k2, k3, k5, _, X _ _ ho, .of_isNs (PySem.W.isNs_of_in X hok), PySem.W.nsMap_none_of_in X hok hni, PySem.W.tail_of_in X ht⟩
    · cases q
  · cases q
section
variable {X : Cx}
theorem obj_at {P : Program} {w : World} {H : Hp} {h : Heap} {a : Addr} {o : HO} (x : ObjOk P w H h a o) : ∃ u, h.get? a = some u := by
  cases o with
  | lst xs => obtain ⟨_, _, _, _, e⟩ := x; exact ⟨_, e⟩
  | tup xs => obtain ⟨_, _, _, o, e, _⟩ := x; exact ⟨o, e⟩
  | dK kvs => obtain ⟨_, _, _, _, o, _, _, e, _⟩ := x; exact ⟨o, e⟩
  | dT kvs => obtain ⟨_, _, _, _, o, _, _, e, _⟩ := x; exact ⟨o, e⟩
  | set S n => obtain ⟨o, _, _, _, e, _⟩ := x; exact ⟨o, e⟩
  | ins C dx fs => obtain ⟨_, _, _, e, _⟩ := x; exact ⟨_, e⟩
  | own y => exact x
  | xd fs => obtain ⟨_, ⟨o, _, _, e, _⟩, _⟩ := x; exact ⟨o, e⟩
  | rng lo hi => obtain ⟨_, _, _, e⟩ := x; exact ⟨_, e⟩
  | frz ob u => obtain ⟨e, _⟩ := x; exact ⟨_, e⟩
  | tbl ps => exact ⟨_, (show h.get? a = some _ from x)⟩
  | met f y => exact ⟨_, (show h.get? a = some _ from x)⟩
  | ext φ => exact x.2.1
/-- the exception has just been made -/
theorem xp_made {pins : List (Addr × Obj)} {σ : L2.St} {H : Hp} {s : Shared} {h' : Heap} {e C : Addr} {vs : List Value} {R : XR} (Fc : FnCx X) (I : Inv X pins σ H s) (m : Heap.MadeExcOf s.heap h' e (.ref C) vs) (r : R (.ref C) H) : XP X pins σ R (.ref e) { s with heap := h' } := by
  obtain ⟨t, ht, hn, htt⟩ := m.there
  have I2 : Inv X pins σ H { s with heap := h', toks := s.toks } := I.kept m.keeps
  have He : H e = none := by
    cases q : H e with
    | none => rfl
    | some o =>
      obtain ⟨u, z⟩ := obj_at (I.hok e o q)
      rw [m.new] at z
      cases z
  exact ⟨e, .ref C, H, s.heap, rfl, I2, ⟨_, _, _, ht, rfl, rfl, rfl, m.new, He, .inl rfl⟩, fun b o q => ⟨o, m.keeps b o q⟩, ahead_of Fc I, r⟩
end
/-! ### try: body, then handlers that take every exception -/
/-- within a handler's suite -/
def markX (X : Cx) (ev : Value) : Cx := { X with A := X.A.mark (some ev), calm := false }
section
variable {X : Cx} {pins : List (Addr × Obj)} {σ : L2.St} {H : Hp} {s : Shared} {ev : Value}
theorem inv_mark (I : Inv X pins σ H s) : Inv (markX X ev) pins σ H s :=
  ⟨⟨I.ok.mod, I.ok.kind, I.ok.glob, I.ok.blt, I.ok.above, I.ok.inj, I.ok.has, I.ok.cab, fun h => Bool.noConfusion h, I.ok.frames, I.ok.stk, I.ok.exf, I.ok.bs, I.ok.bsz, I.ok.noex, I.ok.exfs, I.ok.funs, I.ok.frf⟩, I.os, I.bare, I.base, I.loc, I.cell, I.free, I.freeC, I.pin, I.hok, I.len⟩
theorem inv_unmark (O : X.Ok) (I : Inv (markX X ev) pins σ H s) : Inv X pins σ H s := ⟨O, I.os, I.bare, I.base, I.loc, I.cell, I.free, I.freeC, I.pin, I.hok, I.len⟩
theorem sp_unmark {D : Ends} {f : Flow} (O : X.Ok) (h : SP (markX X ev) pins D f s) : SP X pins D f s := by
  cases f with
  | next => obtain ⟨a, b, I, q⟩ := h; exact ⟨a, b, inv_unmark O I, q⟩
  | brk => obtain ⟨a, b, I, q⟩ := h; exact ⟨a, b, inv_unmark O I, q⟩
  | cont => obtain ⟨a, b, I, q⟩ := h; exact ⟨a, b, inv_unmark O I, q⟩
  | ret u => obtain ⟨v, a, b, I, r, q⟩ := h; exact ⟨v, a, b, inv_unmark O I, r, q⟩
/-- the exception's flight is set down once more -/
theorem set_down {M : Model} {A : Around} {E : Value → Shared → Prop} {R : XR} {Q : Unit → Shared → Prop} (F : FnCx X) (x : XP X pins σ R ev s) (k : ∀ s' C H', Inv X pins σ H' s' → R C H' → Q () s') : wpAny M A (setFlight ev none) Q E s := by
  obtain ⟨e, C, H, g, rfl, I, x1, h0, ah, r⟩ := x
  obtain ⟨oe, vs, a0, he, hc, hd, h2, h3, h4, x2⟩ := x1.ex
  rcases x2 with h1 | ⟨T, oT, ts, h1, hTe, hT, hdT, h5, h6, h7⟩
  · unfold setFlight
    refine wpAny_bind (wpAny_field he hd h1 ?_)
    rw [if_neg (by decide)]
    exact wpAny_pure (k s C H I r)
  · refine wpAny_setFlight_none he hd h1 hT hdT (Array.getElem?_eq_some_iff.mp h5).1 (k _ C H ?_ r)
    refine inv_noted (ch := [T]) F I ah (fun b hb => ?_) (fun b o hb hn e => ?_) (fun b o hb hn e => ?_)
    · have z : b = T := by simpa using hb
      subst z
      exact ⟨h6, h7, oT, ts, hT, hdT⟩
    · rw [Heap.get?_update_other _ _ (fun z => hn (by simp [z]))]
      exact e
    · refine ⟨o.slots, ?_⟩
      rw [Heap.get?_update_other _ _ (fun z => hn (by simp [z]))]
      exact e
end
/-- handlers, by the exception's class -/
def HB (X : Cx) (hs : List ExceptHandler) (t : Ends → L2.St → XR) : Prop :=
  ∀ (pins : List (Addr × Obj)) (s : Shared) (σ : L2.St) (D : Ends) (ev : Value), XP X pins σ (t D σ) ev s → wpAny (model X.prog X.w) X.A (handleBy ev X.env hs) (SP X pins D) (fun _ _ => False) s
section
variable {X : Cx}
theorem hb_nil : HB X [] (fun _ _ _ _ => False) := fun _ _ _ _ _ ⟨_, _, _, _, _, _, _, _, _, r⟩ => r.elim
theorem hb_cons {x : Str} {np pos : Pos} {C' : Addr} {b₀ : Stmt} {suite : List Stmt} {rest : List ExceptHandler} {t : TS} {u : Ends → L2.St → XR} (Fc : FnCx X) (hg : Gl X x) (hm : X.mg x = some (.ref C')) (hs : ∀ ev, PSs (markX X ev) (b₀ :: suite) t) (hr : HB X rest u)
    (hx : X.xe = fun _ _ => False := by rfl) (hdb : (x == ("__debug__" : Str)) = false := by decide) :
    HB X (.ExceptHandler (some (.Name x np)) none (b₀ :: suite) pos :: rest) (fun D σ C H => ∃ b, PySem.W.exmOne X.K C (.ref C') = some b ∧ if b = true then t D σ H else u D σ C H) := by
  intro pins s σ D ev xp
  obtain ⟨e, C, H, g, rfl, I, x1, h0, ah, b, hb, r⟩ := xp
  obtain ⟨oe, vs, a0, he, hc, _⟩ := id x1.ex
  refine wpAny_handleBy_cons (codeAny_handlers_test ?_) (by intro q; cases q)
  have Im := inv_mark (ev := .ref e) I
  refine ld_glob (X := markX X (.ref e)) Im hg hm ?_ hdb
  have LT : PySem.W.Looks (model X.prog X.w) s.heap (typeOf (.ref e)) C := by
    rw [← hc]
    exact (PySem.W.Looks.ld he).andThen .now
  refine (PySem.W.exm_one (M := model X.prog X.w) I.kIn LT hb).here ?_
  cases b with
  | false =>
    rw [if_neg Bool.false_ne_true] at r
    exact hr pins s σ D (.ref e) ⟨e, C, H, g, rfl, I, x1, h0, ah, r⟩
  | true =>
    rw [if_pos rfl] at r
    refine codeAny_handlers_suite (set_down (R := fun _ H => t D σ H) Fc ⟨e, C, H, g, rfl, I, x1, h0, ah, r⟩ fun s1 C1 H1 I1 r1 => ?_)
    refine nr (E := (markX X (.ref e)).xe) hx (hs (.ref e) pins s1 σ H1 D (inv_mark I1) r1) fun f s2 q => sp_unmark I.ok q
theorem ps_try {body : List Stmt} {h₀ : ExceptHandler} {hs : List ExceptHandler} {pos : Pos} {tb : TSX} {th : Ends → L2.St → XR} (Fc : FnCx X) (hb : PSsX X body tb) (hh : HB X (h₀ :: hs) th) (hx : X.xe = fun _ _ => False := by rfl) :
    PS X (.Try body (h₀ :: hs) [] [] pos) (fun D σ H => tb D (fun σ' => th D σ') σ H) := by
  intro pins s σ H D I h
  rw [hx]
  refine wpAny_Try_except (wpAny_mono (hb pins s σ H D _ I h) (fun f s1 q => ?_) fun ev s1 ⟨σ1, q⟩ => ?_)
  · cases f with
    | next => exact wpAny_execs_nil q
    | ret v => exact q
    | brk => exact q
    | cont => exact q
  · exact xp_note Fc q fun s2 q2 => hh pins s2 σ1 D ev q2
end
end L3

/-! enumerate over a list, a raise with one argument, a list's method whose argument may raise, an item of a list changed in place -/
namespace L3
open PySem PySem.Spec PyProof.Rows L2
/-! ### enumerate -/
section
variable {X : Cx} {pins : List (Addr × Obj)} {σ : L2.St} {H : Hp} {s : Shared} {h' : Heap}
/-- some untracked records of ours have turned -/
theorem inv_turned {t' : Nat} {fp : List Addr} (I : Inv X pins σ H s) (k : ∀ b o, b ∉ fp → s.heap.get? b = some o → h'.get? b = some o) (hf : ∀ b ∈ fp, FpOk X pins H b) : Inv X pins σ H { s with heap := h', toks := t' } := by
  have nit : ∀ b u, H b = some u → b ∉ fp := fun b u e z => by rw [(hf b z).1] at e; cases e
  refine I.step (g' := s.gens) (d' := s.drawn) (ch := fp) (fun b hb => ?_) (fun b o _ _ hc e _ => k b o hc e) (fun b o _ _ hc e _ => ⟨o.slots, k b o hc e⟩) (fun _ _ _ _ n => n)
    (fun b o hc e => ⟨o, k b o hc e⟩) (fun _ _ e => e) (fun _ _ _ e => e) (fun b ps e => ⟨#[], by rw [e]; simp⟩) (fun m hm => ?_) (fun b u e => ?_) I.bare
  · obtain ⟨f0, f1, f2, f3, f4, f5⟩ := hf b hb
    exact ⟨f3, f1, f4, f5⟩
  · obtain ⟨o, es, ep, ho, r⟩ := hm
    exact ⟨o, es, ep, k _ o (fun z => (hf _ z).2.1 rfl) ho, r⟩
  · refine (I.hok b u e).stay (fun c v hc q => k c v ?_ q) (fun _ q => q) fun _ _ q => q
    rcases hc with z | z
    · rw [z]; exact nit b u e
    · exact nit c _ z
end
section
variable {X : Cx} {pins : List (Addr × Obj)} {σ : L2.St} {H : Hp} {s : Shared} {h' : Heap}
/-- .. and a new object is laid and tracked -/
theorem inv_turned_new {t' : Nat} {fp : List Addr} {a : Addr} {o' : HO} (I : Inv X pins σ H s) (k : ∀ b o, b ∉ fp → s.heap.get? b = some o → h'.get? b = some o) (hf : ∀ b ∈ fp, FpOk X pins H b) (hp : s.heap.objs.size ≤ a) (new : ObjOk X.prog X.w (upd H a o') h' a o') :
    Inv X pins σ (upd H a o') { s with heap := h', toks := t' } := by
  have hn : H a = none := I.hok.fresh hp
  have nit : ∀ b u, H b = some u → b ∉ fp := fun b u e z => by rw [(hf b z).1] at e; cases e
  have hlt : ∀ b (o : Obj), s.heap.get? b = some o → b ≠ a := fun b o e => Nat.ne_of_lt (Nat.lt_of_lt_of_le (Heap.lt_size e) hp)
  refine I.step (g' := s.gens) (d' := s.drawn) (ch := fp) (fun b hb => ?_) (fun b o _ _ hc e _ => k b o hc e) (fun b o _ _ hc e _ => ⟨o.slots, k b o hc e⟩) (fun b o hc e n => by rw [upd_ne (hlt b o e)]; exact n)
    (fun b o hc e => ⟨o, k b o hc e⟩) (fun b xs q => by rw [upd_ne (ne_of_none q hn)]; exact q) (fun b u xs q => by rw [upd_ne (ne_of_none q hn)]; exact q) (fun b ps q => ⟨#[], by rw [upd_ne (ne_of_none q hn), q]; simp⟩) (fun m hm => ?_) (fun b u e => ?_) I.bare
  · obtain ⟨f0, f1, f2, f3, f4, f5⟩ := hf b hb
    exact ⟨f3, f1, f4, f5⟩
  · obtain ⟨o, es, ep, ho, r⟩ := hm
    exact ⟨o, es, ep, k _ o (fun z => (hf _ z).2.1 rfl) ho, r⟩
  · by_cases hb : b = a
    · subst hb
      rw [upd_same] at e
      cases e
      exact new
    · rw [upd_ne hb] at e
      refine (I.hok b u e).stay (fun c v hc q => k c v ?_ q) (fun c q => by rw [upd_ne (ne_of_none q hn)]; exact q) fun c xs q => by rw [upd_ne (ne_of_none q hn)]; exact q
      rcases hc with z | z
      · rw [z]; exact nit b u e
      · exact nit c _ z
end
/-- the pairs of places and items of the list at a -/
def Ite (K : PySem.W.Frag) (a : Addr) : It :=
  ⟨fun i H => ∃ xs x, SqL K H a xs ∧ xs[i]? = some x, fun i H x H' => ∃ p y, x = .ref p ∧ H p = none ∧ H' = upd H p (.tup [.int i, y]) ∧ ∀ xs, SqL K H a xs → xs[i]? = some y, fun i H => ∃ xs, SqL K H a xs ∧ xs.length ≤ i⟩
theorem turn_enum {P : Program} {w : World} {K : PySem.W.Frag} {elts : List Expr} {x1} {pos : Pos} (a e it : Addr) (hne : e ≠ it) : Turn P w K (.Tuple elts x1 pos) (Ite K a) [e, it] e (fun i h => (∃ old, IsEnum h e it ((i : Nat) : Int) old) ∧ h.IsListIter it a i) where
  mem := by simp
  obj := fun i h st b hb => by
    obtain ⟨⟨old, he⟩, o, ho, c, d⟩ := st
    rcases List.mem_cons.mp hb with z | z
    · subst z
      exact ⟨_, he, fun v z => by
        have z' : Data.fields _ = Data.cell v := z
        cases z'⟩
    · have z' : b = it := by simpa using z
      subst z'
      exact ⟨o, ho, fun v z => by rw [d] at z; cases z⟩
  keep := fun i h h' st k => ⟨let ⟨old, he⟩ := st.1; ⟨old, k e (by simp) _ he⟩, st.2.at fun o e => k it (by simp) o e⟩
  item := by
    intro X hP hw hK hc i pins s σ H E I hf st hg
    subst hP hw hK
    obtain ⟨⟨old, he⟩, hit⟩ := st
    obtain ⟨xs, x, hq, hx⟩ := hg
    obtain ⟨its, rv, p, hz⟩ := I.list hq
    obtain ⟨u, hu, ru⟩ := rv.get hx
    refine wpAny_pyNext_enum_item he hit p.isList (x := u) (by simpa using hu) hne fun h1 heo hit1 ht hsz hk => ?_
    refine ⟨.ref s.heap.objs.size, rfl, wpAny_letOwnedTupleGo_enum heo fun h2 he2 sb => ?_⟩
    replace sb : Heap.SameBut e h1 h2 := sb
    have hfr : H s.heap.objs.size = none := I.hok.fresh (Nat.le_refl _)
    have kp : ∀ b o, b ∉ [e, it] → s.heap.get? b = some o → h2.get? b = some o := fun b o hb q => by
      have n1 : b ≠ e := fun z => hb (by simp [z])
      have n2 : b ≠ it := fun z => hb (by simp [z])
      exact (sb.2 b n1).trans (hk b o n1 n2 q)
    have ne : s.heap.objs.size ≠ e := Nat.ne_of_gt (Heap.lt_size he)
    have t2 : h2.get? s.heap.objs.size = some { cls := .type "tuple", data := .seq #[.int i s.toks, u] } := (sb.2 _ ne).trans ht
    have rr : Vals [V.int i, x] [Value.int i s.toks, u] := .cons ⟨_, rfl⟩ (.cons ru .nil)
    have I2 : Inv X pins σ (upd H s.heap.objs.size (.tup [V.int i, x])) { s with heap := h2, toks := s.toks + 1 } :=
      inv_turned_new I kp hf (Nat.le_refl _) ⟨by show 2 ≤ sizeLine; decide, _, rr, ⟨_, t2, rfl, _, rfl⟩⟩
    have hit2 : h2.IsListIter it a (i + 1) := hit1.at fun o q => (sb.2 it (Ne.symm hne)).trans q
    refine ⟨.ref s.heap.objs.size, _, I2, rfl, ⟨_, x, rfl, hfr, rfl, fun ys hy => by rw [I.list_inj hy hq]; exact hx⟩, ⟨⟨u, ?_⟩, hit2⟩, fun b hb => ?_⟩
    · have : ((i + 1 : Nat) : Int) = (i : Int) + 1 := by push_cast; rfl
      rw [this]
      exact he2
    · rw [upd_ne]
      · exact (hf b hb).1
      · rcases List.mem_cons.mp hb with z | z
        · rw [z]
          exact Ne.symm ne
        · have z' : b = it := by simpa using z
          rw [z']
          obtain ⟨o, ho, _⟩ := hit
          exact Nat.ne_of_lt (Heap.lt_size ho)
  done := by
    intro X hP hw hK hc i pins s σ H E I hf st hg
    subst hP hw hK
    obtain ⟨⟨old, he⟩, hit⟩ := st
    obtain ⟨xs, hq, hx⟩ := hg
    obtain ⟨its, rv, p, hz⟩ := I.list hq
    have hl := rv.length
    refine wpAny_pyNext_enum_end (I.ok.hd hc) he hit p.isList (by simp; omega) fun h' eb => ⟨rfl, ?_⟩
    exact inv_turned (t' := s.toks) I (fun b o hb e => eb b o (fun z => hb (by simp [z])) e) hf
  self := fun _ _ _ _ _ st h => let ⟨old, he⟩ := st.1; wpAny_pyIter_enum he h
section
variable {X : Cx}
def iEnum (K : PySem.W.Frag) (tl : TE) : TI := fun σ H R => tl σ H fun x H1 => ∃ a, x = .ref a ∧ (∃ xs, SqL K H1 a xs) ∧ R (Ite K a) H1
theorem pi_enum {elts : List Expr} {x1} {tpos : Pos} {l : Expr} {tl : TE} {p pos : Pos} (hg : Gl X "enumerate") (hm : X.mg "enumerate" = none) (hl : PE X l tl) (hs : starEach [l] X.env = [(false, eval l X.env)] := by rfl) :
    PI X (.Tuple elts x1 tpos) (.Call (.Name "enumerate" p) [l] [] pos) (iEnum X.K tl) := by
  intro pins s σ H R I h
  refine Call_ (ld_blt I hg hm boot_enumerate (PyProof.Rows.callWith_type1 (spliced_more (thn (hl pins s σ H _ I h) fun v s1 ⟨x, H1, I1, r1, q1⟩ => spliced_none ?_) hs) hs rfl))
  obtain ⟨a, e, ⟨xs, hq⟩, q⟩ := q1
  subst e
  cases r1
  obtain ⟨its, rv, pl, hz⟩ := I1.list hq
  refine call_enumerate_list pl.isList fun h1 he hit hsz hk => ?_
  refine wpAny_pyIter_enum he ?_
  have ne : s1.heap.objs.size + 1 ≠ s1.heap.objs.size := Nat.succ_ne_self _
  refine ⟨s1.heap.objs.size + 1, [s1.heap.objs.size + 1, s1.heap.objs.size], _, _, H1, rfl, I1.kept (t' := s1.toks) hk, turn_enum a _ _ ne, ⟨⟨_, he⟩, hit⟩, fun b hb => ?_, q⟩
  have hb' : s1.heap.objs.size ≤ b := by
    rcases List.mem_cons.mp hb with z | z
    · rw [z]
      exact Nat.le_succ _
    · have z' : b = s1.heap.objs.size := by simpa using z
      exact Nat.le_of_eq z'.symm
  exact I1.fpOk hb' (I1.hok.fresh hb')
theorem for_enum {K : PySem.W.Frag} {a : Addr} {xs : List V} {g : TG} {tb : TS} {D : Ends} {σ : L2.St} {H : Hp} (Pv : Nat → L2.St → Hp → Prop) (h0 : Pv 0 σ H) (hl : ∀ i σ H, i ≤ xs.length → Pv i σ H → SqL K H a xs)
    (hs : ∀ (i : Nat) x σ H p, xs[i]? = some x → Pv i σ H → H p = none → g (.ref p) σ (upd H p (.tup [.int i, x])) fun σ2 H2 => tb { D with nx := Pv (i + 1), ct := Pv (i + 1), bk := D.nx } σ2 H2) (hd : ∀ σ H, Pv xs.length σ H → D.nx σ H) :
    ∃ W : Nat → Nat → L2.St → Hp → Prop, (∃ m, W 0 m σ H) ∧ ∀ i m σ H, W i m σ H →
      ((Ite K a).stop i H ∧ D.nx σ H) ∨ ((Ite K a).go i H ∧ ∃ N : L2.St → Hp → Prop, (∀ σ' H', N σ' H' → ∃ m', m' < m ∧ W (i + 1) m' σ' H') ∧ ∀ x H', (Ite K a).yld i H x H' → g x σ H' fun σ2 H2 => tb { D with nx := N, ct := N, bk := D.nx } σ2 H2) := by
  refine ⟨fun i m σ H => m = xs.length - i ∧ i ≤ xs.length ∧ Pv i σ H, ⟨xs.length, by simp, Nat.zero_le _, h0⟩, ?_⟩
  rintro i m σ H ⟨rfl, hi, p⟩
  have q := hl i σ H hi p
  by_cases hlt : i < xs.length
  · refine .inr ⟨⟨xs, xs[i], q, by simp [hlt]⟩, Pv (i + 1), fun σ' H' p' => ⟨xs.length - (i + 1), by omega, rfl, hlt, p'⟩, fun x H' y => ?_⟩
    obtain ⟨p', y', e1, e2, e3, y⟩ := y
    subst e1 e3
    exact hs i y' σ _ p' (y xs q) p e2
  · have e : i = xs.length := by omega
    subst e
    exact .inl ⟨⟨xs, q, Nat.le_refl _⟩, hd σ H p⟩
/-! ### raise C(e) -/
theorem psx_raise1 {x : Str} {np cpos pos : Pos} {C : Addr} {e : Expr} {te : TE} (Fc : FnCx X) (hc : X.calm = true) (hg : Gl X x) (hm : X.mg x = some (.ref C)) (Er : Err X.K C) (he : PE X e te) (hx : X.xe = fun _ _ => False := by rfl)
    (hs : starEach [e] X.env = [(false, eval e X.env)] := by rfl) (hdb : (x == ("__debug__" : Str)) = false := by decide) :
    PSX X (.Raise (some (.Call (.Name x np) [e] [] cpos)) none pos) (fun _ R σ H => te σ H fun _ H1 => R σ (.ref C) H1) := by
  intro pins s σ H D R I h
  obtain ⟨bm, N, nm, q, bs, hdct, sn, sub, ab, col, dd, k0, k1, k2, k3, k5, mN, hC, hN, hni, T⟩ := err_obj I.ok.mod.kin Er
  refine wpAny_Raise_call_subU (C := C) (nm := nm) (q := q) (N := N) (bs := bs) (bm := bm) (hdct := hdct) (sn := sn) (sub := sub) (ab := ab) (col := col) (dd := dd) (k0 := k0) (k1 := k1) (k2 := k2) (k3 := k3) (k5 := k5)
    PySem.F.excBase_ValueError rfl PySem.F.excBase_ValueError (mN := mN) (T.hasType PySem.F.excBase_ValueError.hasBase) (I.ok.hd hc) (by rw [hs]; rfl) hni (ld_glob I hg hm ⟨rfl, ?_⟩ hdb)
  rw [hs]
  refine Calls.evalArgs_plain (Calls.spliced_cons (nr hx (he pins s σ H _ I h) fun v s1 ⟨y, H1, I1, r1, q1⟩ => Calls.spliced_nil ?_))
  refine ⟨rfl, (by show 1 ≤ sizeLine; decide), I1.bk _ _ hC, hN.keeps I1.bk, T.keeps I1.bk, fun h' e' m => ⟨σ, xp_made Fc I1 m q1⟩⟩
/-! ### o.name(e), where e may raise -/
theorem pex_bm1 {o e : Expr} {to : TE} {te : TEX} {name : Str} {apos cpos : Pos} {T id : String} {r : V → List V → Hp → VK → Prop} (pa : PlainAttrs T) (slot : Slot T name id) (hty : typeOf (.builtin id) = pure (.type "method_descriptor")) (hm : MtR X id r) (ho : PE X o to) (he : PEX X e te)
    (hx : X.xe = fun _ _ => False := by rfl) (hbase : attributeBase o name X.env (eval o X.env) = eval o X.env := by rfl)
    (hfew : ((backTo cpos (starEach [e] X.env)).all (fun x => !x.1) && (backToKw cpos (keywordEach [] X.env)).all (fun x => x.1.isSome)
      && decide ([e].length + ([] : List Keyword).length + (if ([] : List Keyword).isEmpty then 0 else 1) < 30)) = true := by rfl)
    (hline : (apos.endLine == cpos.line) = true := by rfl) (hs : starEach [e] X.env = [(false, eval e X.env)] := by rfl) :
    PEX X (.Call (.Attribute o name apos) [e] [] cpos) (fun σ H Q R => to σ H fun x H1 => tyV X.K T x H1 ∧ te σ H1 (fun y H2 => r x [y] H2 Q) R) := by
  intro pins s σ H Q R I h
  refine wpAny_Call_method_late hbase hfew hline rfl (nr hx (ho pins s σ H _ I h) fun v s1 ⟨x, H1, I1, r1, ty, q1⟩ => ?_)
  obtain ⟨h1, h2⟩ := tyV_is I1 r1 ty
  refine ⟨T, id, pa, slot, hty, h1, h2, ?_⟩
  rw [hs]
  refine Calls.callWith_builtin rfl (Calls.evalArgs_plain (Calls.spliced_cons (wpAny_mono (he pins s1 σ H1 _ R I1 q1) (fun u s2 ⟨y, H2, I2, r2, q2⟩ => Calls.spliced_nil ?_) fun _ _ z => z)))
  exact nr hx (hm pins s2 σ H2 x [y] v [u] Q I2 r1 (.cons r2 .nil) q2) fun _ _ z => z
/-! ### l[i] by values -/
theorem get_list : PGet X (rIxL X.K) := by
  intro pins s σ H o i ov iv Q I r1 r2 h
  obtain ⟨p, xs, j, z, rfl, rfl, hq, he, q⟩ := h
  cases r1
  obtain ⟨t, rfl⟩ := r2
  obtain ⟨its, r, pl, hz⟩ := I.list hq
  obtain ⟨jj, h1, h2, h3, h4, h5⟩ := atI_get he
  obtain ⟨w, ew, rw'⟩ := r.get h2
  have hl := r.length
  have hn := line63
  have fin : EP X pins σ Q w s := ⟨z, H, I, rw', q⟩
  by_cases h0 : 0 ≤ j
  · have hj : j.toNat = jj := by
      rw [seqIndex_of h0 h5] at h1
      exact Option.some.inj h1
    exact wpAny_getItem_list pl.isList h0 (by omega) (by rw [hj]; simpa using ew) fin
  · have hj : (j + (its.toArray.size : Int)).toNat = jj := by
      rw [PySem.seqIndex_neg (by omega) h4] at h1
      rw [List.size_toArray, ← hl]
      exact Option.some.inj h1
    exact wpAny_getItem_list_neg pl.isList (by omega) (by rw [List.size_toArray] <;> omega) (by omega) (by rw [hj]; simpa using ew) fin
theorem pssx_nil : PSsX X [] (fun D _ σ H => D.nx σ H) := fun pins s σ H D R I h => wpAny_execs_nil ⟨σ, H, I, h⟩
end
/-! ### methods and classes of the text, ready to be called -/
structure MCallee (P : Program) (w : World) (K : PySem.W.Frag) (mg : Str → Option Value) (base : Heap) (C : Addr) (k : Nat) (m : Str) (ps : List Str) (sp : Sp) : Prop where
  ex : ∃ (f : Addr) (fd : FuncData), FnOk P w K mg base CX0 k f fd ps sp ∧ Binds K fd ps [] ∧ Meth K C m f
structure MCalleeX (P : Program) (w : World) (K : PySem.W.Frag) (mg : Str → Option Value) (base : Heap) (C : Addr) (k : Nat) (m : Str) (ps : List Str) (sp : Sp) : Prop where
  ex : ∃ (f : Addr) (fd : FuncData), FnOk P w K mg base (CXE P w) k f fd ps sp ∧ Binds K fd ps [] ∧ Meth K C m f
structure KCallee (P : Program) (w : World) (K : PySem.W.Frag) (mg : Str → Option Value) (base : Heap) (C : Addr) (k : Nat) (x : Str) (ps : List Str) (sp : Sp) : Prop where
  ex : ∃ (f : Addr) (fd : FuncData), FnOk P w K mg base CX0 k f fd ps sp ∧ Binds K fd ps [] ∧ Mk K C f ∧ mg x = some (.ref C)
section
variable {X : Cx} {C : Addr} {k : Nat} {m x : Str} {ps : List Str} {sp : Sp} {o e : Expr} {es : List Expr} {ta : TE} {t : TA} {apos pos p : Pos} {pl : Sem Bool}
theorem pe_methC (he : PE X o ta) (c : Cls X.K C) (M : MCallee X.prog X.w X.K X.mg X.base C k m ps sp) (hr : Room k X.A) (ha : PA X (e :: es) t)
    (hst : starEach (e :: es) X.env = (false, eval e X.env) :: starEach es X.env := by rfl) (hpl : (backTo pos (starEach es X.env)).any (·.1) = false := by rfl)
    (ht : eval (.Call (.Attribute o m apos) (e :: es) [] pos) X.env = (do
      let ov ← eval o X.env
      standAt apos.atName
      let (f, first) ← holding [ov] (getMethod ov m pl)
      callWith pos f first (backTo pos (starEach (e :: es) X.env)) (backToKw pos (keywordEach [] X.env))) := by rfl) :
    PE X (.Call (.Attribute o m apos) (e :: es) [] pos) (tMeth C m sp [] E0 ta t) := by
  obtain ⟨f, fd, G, b, mm⟩ := M.ex
  exact pe_meth he c mm G hr b .nil pass0 ha hst hpl ht
theorem pe_methC0 (he : PE X o ta) (c : Cls X.K C) (M : MCallee X.prog X.w X.K X.mg X.base C k m ps sp) (hr : Room k X.A)
    (ht : eval (.Call (.Attribute o m apos) [] [] pos) X.env = (do
      let ov ← eval o X.env
      standAt apos.atName
      let (f, first) ← holding [ov] (getMethod ov m pl)
      callWith pos f first (backTo pos (starEach [] X.env)) (backToKw pos (keywordEach [] X.env))) := by rfl) :
    PE X (.Call (.Attribute o m apos) [] [] pos) (tMeth C m sp [] E0 ta tNil) := by
  obtain ⟨f, fd, G, b, mm⟩ := M.ex
  exact pe_meth0 he c mm G hr b .nil pass0 ht
def tMethX (C : Addr) (m : Str) (sp : Sp) (ta : TE) (t : TA) : TEX := fun σ H Q R => ta σ H fun x H1 => ∃ a dx fs, x = .ref a ∧ H1 a = some (.ins C dx fs) ∧ fs.lookup m = none ∧ t σ H1 fun vs H2 => sp (x :: vs) H2 Q (fun C _ H' => R C H')
theorem pex_methC (he : PE X o ta) (c : Cls X.K C) (M : MCalleeX X.prog X.w X.K X.mg X.base C k m ps sp) (hr : Room k X.A) (ha : PA X (e :: es) t) (Fc : FnCx X := by exact ⟨rfl, rfl, rfl⟩) (hx : X.xe = fun _ _ => False := by rfl)
    (hst : starEach (e :: es) X.env = (false, eval e X.env) :: starEach es X.env := by rfl) (hpl : (backTo pos (starEach es X.env)).any (·.1) = false := by rfl)
    (ht : eval (.Call (.Attribute o m apos) (e :: es) [] pos) X.env = (do
      let ov ← eval o X.env
      standAt apos.atName
      let (f, first) ← holding [ov] (getMethod ov m pl)
      callWith pos f first (backTo pos (starEach (e :: es) X.env)) (backToKw pos (keywordEach [] X.env))) := by rfl) :
    PEX X (.Call (.Attribute o m apos) (e :: es) [] pos) (tMethX C m sp ta t) := by
  obtain ⟨f, fd, G, b, mm⟩ := M.ex
  exact pex_meth he c mm G hr b ha Fc hx hst hpl ht
theorem pe_makeC (M : KCallee X.prog X.w X.K X.mg X.base C k x ps sp) (hr : Room (k + 1) X.A) (hg : Gl X x) (ha : PA X (e :: es) t) (hdb : (x == ("__debug__" : Str)) = false := by decide)
    (he : starEach (e :: es) X.env = (false, eval e X.env) :: starEach es X.env := by rfl) (hpl : (backTo pos (starEach es X.env)).any (·.1) = false := by rfl) :
    PE X (.Call (.Name x p) (e :: es) [] pos) (tMake C sp [] E0 t) := by
  obtain ⟨f, fd, G, b, mm, hm⟩ := M.ex
  exact pe_make mm G hr hg hm b .nil pass0 ha hdb he hpl
end
section
variable {X : Cx}
/-- if e op b: .., where e may raise -/
theorem psx_ifC {op : CmpOp} {r : R2} {e b : Expr} {te : TEX} {tb : TE} {ss us : List Stmt} {t u : TSX} {pos pos' : Pos} (ho : OpR X (compareOp op) r) (he : PEX X e te) (hb : PE X b tb) (hm : behindInMarks op b = false) (hs : PSsX X ss t) (hu : PSsX X us u) (hx : X.xe = fun _ _ => False := by rfl) :
    PSX X (.If (.Compare e [op] [b] pos') ss us pos) (fun D R σ H => te σ H (fun x H1 => tb σ H1 fun y H2 => r x y H2 fun z H3 => ∃ k, z = .bl k ∧ if k = true then t D R σ H3 else u D R σ H3) (R σ)) := by
  intro pins s σ H D R I h
  refine wpAny_If (wpAny_isTrue_Compare1 (wpAny_mono (he pins s σ H _ _ I h) (fun v s1 ⟨x, H1, I1, r1, q1⟩ => nr hx (hb pins s1 σ H1 _ I1 q1) fun v2 s2 ⟨y, H2, I2, r2, q2⟩ => nr hx (ho pins s2 σ H2 x y v v2 _ I2 r1 r2 q2) fun c s3 ⟨z, H3, I3, r3, k, e, q3⟩ => ?_) xps) hm)
  subst e
  cases r3
  refine wpAny_truthy_bool ?_
  cases k with
  | true => exact hs pins s3 σ H3 D R I3 q3
  | false => exact hu pins s3 σ H3 D R I3 q3
end
end L3

/-! An exception under its name: `except C as e`, isinstance(e, C) -/
namespace L3
open PySem PySem.Spec PyProof.Rows L2
/-- the object of an exception of class C -/
def ExcAt (e : Addr) (C : Value) (h : Heap) : Prop := ∃ o vs, h.get? e = some o ∧ o.cls = C ∧ o.data = .fields vs
def ExcO (e : Addr) (C : Value) : HO := .ext (ExcAt e C)
theorem exc_ok {P : Program} {w : World} {H : Hp} {h : Heap} {e : Addr} {C : Value} (x : ExcAt e C h) : ObjOk P w H h e (ExcO e C) := by
  obtain ⟨o, vs, h1, h2, h3⟩ := id x
  refine ⟨x, ⟨o, h1⟩, fun g1 g2 y k => ?_⟩
  obtain ⟨o, vs, a, b, c⟩ := y
  exact ⟨o, vs, k _ a, b, c⟩
theorem exc_at {P : Program} {w : World} {H : Hp} {h : Heap} {e : Addr} {C : Value} (x : ObjOk P w H h e (ExcO e C)) : ExcAt e C h := x.1
section
variable {X : Cx} {pins : List (Addr × Obj)} {σ : L2.St} {H : Hp} {s : Shared} {e : Addr} {C : Value} {g : Heap}
theorem inv_track (I : Inv X pins σ H s) (ah : Ahead X pins g) (ge : g.get? e = none) (He : H e = none) (x : ExcAt e C s.heap) : Inv X pins σ (upd H e (ExcO e C)) s := by
  obtain ⟨oe, vs, h1, h2, h3⟩ := id x
  have ng : ∀ b o, g.get? b = some o → b ≠ e := fun b o q z => by rw [z, ge] at q; cases q
  have nH : ∀ b o, H b = some o → b ≠ e := fun b o q z => by rw [z, He] at q; cases q
  have old : ∀ b o, X.s₀.heap.get? b = some o → b ≠ e := fun b o q => let ⟨o', z⟩ := ah.old b o q; ng b o' z
  have nL : X.env.locals ≠ e := let ⟨o, z⟩ := ah.loc; ng _ o z
  refine ⟨I.ok, I.os, I.bare, ⟨I.base.keep, I.base.slot, fun b o q n hx => ?_, I.base.there, fun b xs q => ?_, fun b o u q => ?_, fun b ps q => ?_⟩, I.loc, I.cell, ?_, fun y c q => ?_, fun p hp => ?_, fun b u q => ?_, I.len⟩
  · rw [upd_ne (old b o q)]
    exact I.base.free b o q n hx
  · have z := I.base.tups b xs q
    rw [upd_ne (nH _ _ z)]
    exact z
  · have z := I.base.frzs b o u q
    rw [upd_ne (nH _ _ z)]
    exact z
  · obtain ⟨more, z⟩ := I.base.tbls b ps q
    exact ⟨more, by rw [upd_ne (nH _ _ z)]; exact z⟩
  · rw [upd_ne nL]
    exact I.free
  · obtain ⟨v, o, ho, hd⟩ := I.cell y c q
    have nc : c ≠ e := fun z => by
      rw [z, h1] at ho
      cases ho
      rw [h3] at hd
      cases hd
    rw [upd_ne nc]
    exact I.freeC y c q
  · obtain ⟨q1, q2, q3⟩ := I.pin p hp
    obtain ⟨o, z⟩ := ah.pin p hp
    exact ⟨q1, by rw [upd_ne (ng _ o z)]; exact q2, q3⟩
  · by_cases z : b = e
    · subst z
      rw [upd_same] at q
      cases q
      exact exc_ok x
    · rw [upd_ne z] at q
      exact (I.hok b u q).stay (fun c v _ r => r) (fun c r => by rw [upd_ne (nH _ _ r)]; exact r) fun c xs r => by rw [upd_ne (nH _ _ r)]; exact r
/-- the exception's flight is set down, its object is tracked -/
theorem set_down2 {M : Model} {A : Around} {E : Value → Shared → Prop} {R : XR} {Q : Unit → Shared → Prop} (F : FnCx X) (x : XP X pins σ R (.ref e) s) (k : ∀ s' C H', Inv X pins σ (upd H' e (ExcO e C)) s' → H' e = none → R C H' → Q () s') : wpAny M A (setFlight (.ref e) none) Q E s := by
  obtain ⟨e', C, H, g, ee, I, x1, h0, ah, r⟩ := x
  cases ee
  obtain ⟨oe, vs, a0, he, hc, hd, h2, h3, h4, x2⟩ := x1.ex
  rcases x2 with h1 | ⟨T, oT, ts, h1, hTe, hT, hdT, h5, h6, h7⟩
  · unfold setFlight
    refine wpAny_bind (wpAny_field he hd h1 ?_)
    rw [if_neg (by decide)]
    exact wpAny_pure (k s C H (inv_track I ah h3 h4 ⟨oe, vs, he, hc, hd⟩) h4 r)
  · refine wpAny_setFlight_none he hd h1 hT hdT (Array.getElem?_eq_some_iff.mp h5).1 (k _ C H (inv_track ?_ ah h3 h4 ⟨oe, vs, ?_, hc, hd⟩) h4 r)
    · refine inv_noted (ch := [T]) F I ah (fun b hb => ?_) (fun b o hb hn e => ?_) (fun b o hb hn e => ?_)
      · have z : b = T := by simpa using hb
        subst z
        exact ⟨h6, h7, oT, ts, hT, hdT⟩
      · rw [Heap.get?_update_other _ _ (fun z => hn (by simp [z]))]
        exact e
      · refine ⟨o.slots, ?_⟩
        rw [Heap.get?_update_other _ _ (fun z => hn (by simp [z]))]
        exact e
    · rw [Heap.get?_update_other _ _ hTe]
      exact he
/-- the name goes behind the suite -/
theorem inv_gone {M : Model} {A : Around} {E : Value → Shared → Prop} {n : Str} {i : Nat} {pos : Pos} {Q : Unit → Shared → Prop} (I : Inv X pins σ H s) (hN : X.N.Nodup) (hi : X.N[i]? = some n) (hl : X.env.kindOf n = some .local) (h : ∀ s', Inv X pins (σ.set i none) H s' → Q () s') :
    wpAny M A (do bindName X.env n .none; unbindBehindTheSuite X.env n pos) Q E s := by
  obtain ⟨m, hn, hl'⟩ := id I.loc
  have hcls : (X.env.scope.kind == .class || (X.env.scope.kind == .module && X.env.locals != X.env.globals)) = false := by rw [I.ok.kind]; rfl
  have hiσ : i < σ.length := by rw [I.len]; exact (List.getElem?_eq_some_iff.mp hi).1
  have cne := I.cne
  refine wpAny_nameGoes_keeps hl hn hcls fun h' v hn' hs => h _ ?_
  obtain ⟨oL, _, _, hoL, _⟩ := id hn
  have neL : ∀ b o, X.s₀.heap.get? b = some o → b ≠ X.env.locals := fun b o e => Nat.ne_of_lt (Nat.lt_of_lt_of_le (Heap.lt_size e) I.ok.above)
  refine ⟨I.ok, I.os, I.bare, ⟨fun b o e n hb hx => ?_, fun b o e n hb hx => ?_, I.base.free, fun b o e hx => ?_, I.base.tups, I.base.frzs, I.base.tbls⟩, ⟨_, hn', fun j y v' e1 e2 e3 => ?_⟩, fun y c e => ?_, I.free, I.freeC, fun p hp => ?_, fun b ob e => ?_, by simpa using I.len⟩
  · exact (hs.2 b (neL b o e)).trans (I.base.keep b o e n hb hx)
  · obtain ⟨sl, e1⟩ := I.base.slot b o e n hb hx
    exact ⟨sl, (hs.2 b (neL b o e)).trans e1⟩
  · obtain ⟨o', e1⟩ := I.base.there b o e hx
    exact ⟨o', (hs.2 b (neL b o e)).trans e1⟩
  · by_cases hj : j = i
    · subst hj
      rw [List.getElem?_set_self hiσ] at e2
      cases e2
    · rw [List.getElem?_set_ne (Ne.symm hj)] at e2
      obtain ⟨u', r', q⟩ := hl' j y v' e1 e2 e3
      refine ⟨u', r', ?_⟩
      rcases q with ⟨k, e⟩ | ⟨k, c, e, z⟩
      · refine .inl ⟨k, ?_⟩
        have : y ≠ n := fun e => hj (nodup_ix hN e1 (e ▸ hi))
        simp [this, e]
      · exact .inr ⟨k, c, e, z.sameBut hs (cne y c e)⟩
  · obtain ⟨w', z⟩ := I.cell y c e
    exact ⟨w', z.sameBut hs (cne y c e)⟩
  · obtain ⟨e, n, ne, nf, d⟩ := I.pin p hp
    exact ⟨(hs.2 p.1 ne).trans e, n, ne, nf, d⟩
  · refine (I.hok b ob e).stay (fun c w' hc q => (hs.2 c ?_).trans q) (fun _ q => q) fun _ _ q => q
    rintro rfl
    rcases hc with rfl | hc
    · rw [I.free] at e; cases e
    · rw [I.free] at hc; cases hc
end
/-- the ends of a suite behind which a name goes -/
def Ends.less (D : Ends) (i : Nat) : Ends := { nx := fun σ H => D.nx (σ.set i none) H, rt := D.rt, bk := fun σ H => D.bk (σ.set i none) H, ct := fun σ H => D.ct (σ.set i none) H }
section
variable {X : Cx}
theorem pss_weak {b : List Stmt} {t t' : TS} (h : PSs X b t) (k : ∀ D σ H, t' D σ H → t D σ H) : PSs X b t' := fun pins s σ H D I q => h pins s σ H D I (k D σ H q)
theorem hb_as {x n : Str} {np pos : Pos} {i : Nat} {C' : Addr} {b₀ : Stmt} {suite : List Stmt} {rest : List ExceptHandler} {t : TS} {u : Ends → L2.St → XR} (Fc : FnCx X) (hN : X.N.Nodup) (hi : X.N[i]? = some n) (hl : X.env.scope.names.lookup n = some .local) (hg : Gl X x) (hm : X.mg x = some (.ref C'))
    (hs : ∀ ev, PSs (markX X ev) (b₀ :: suite) t) (hr : HB X rest u) (hx : X.xe = fun _ _ => False := by rfl) (hdb : (x == ("__debug__" : Str)) = false := by decide) :
    HB X (.ExceptHandler (some (.Name x np)) (some n) (b₀ :: suite) pos :: rest) (fun D σ C H => ∃ b, PySem.W.exmOne X.K C (.ref C') = some b ∧ if b = true then (∀ e, H e = none → t (Ends.less D i) (σ.set i (some (.ref e))) (upd H e (ExcO e C))) else u D σ C H) := by
  intro pins s σ D ev xp
  obtain ⟨e, C, H, g, rfl, I, x1, h0, ah, b, hb, r⟩ := xp
  obtain ⟨oe, vs, a0, he, hc, _⟩ := id x1.ex
  refine wpAny_handleBy_cons (codeAny_handlers_test ?_) (by intro q; cases q)
  have Im := inv_mark (ev := .ref e) I
  refine ld_glob (X := markX X (.ref e)) Im hg hm ?_ hdb
  have LT : PySem.W.Looks (model X.prog X.w) s.heap (typeOf (.ref e)) C := by
    rw [← hc]
    exact (PySem.W.Looks.ld he).andThen .now
  refine (PySem.W.exm_one (M := model X.prog X.w) I.kIn LT hb).here ?_
  cases b with
  | false =>
    rw [if_neg Bool.false_ne_true] at r
    exact hr pins s σ D (.ref e) ⟨e, C, H, g, rfl, I, x1, h0, ah, r⟩
  | true =>
    rw [if_pos rfl] at r
    refine codeAny_handlers_suite_as (set_down2 (R := fun C H => ∀ e, H e = none → t (Ends.less D i) (σ.set i (some (.ref e))) (upd H e (ExcO e C))) Fc ⟨e, C, H, g, rfl, I, x1, h0, ah, r⟩ fun s1 C1 H1 I1 He r1 => ?_)
    refine store_ok (X := markX X (.ref e)) (v := .ref e) (inv_mark I1) hN hi (.inl hl) rfl (fun s2 I2 => ?_) (.inr hl)
    refine nr (E := (markX X (.ref e)).xe) hx (hs (.ref e) pins s2 _ _ _ I2 (r1 e He)) fun f s3 q => ?_
    have q2 := sp_unmark I.ok q
    cases f with
    | next =>
      obtain ⟨σ', H', I', q'⟩ := q2
      exact inv_gone I' hN hi hl fun s4 I4 => ⟨_, H', I4, q'⟩
    | brk =>
      obtain ⟨σ', H', I', q'⟩ := q2
      exact inv_gone I' hN hi hl fun s4 I4 => ⟨_, H', I4, q'⟩
    | cont =>
      obtain ⟨σ', H', I', q'⟩ := q2
      exact inv_gone I' hN hi hl fun s4 I4 => ⟨_, H', I4, q'⟩
    | ret v =>
      obtain ⟨v', σ', H', I', rv, q'⟩ := q2
      exact inv_gone I' hN hi hl fun s4 I4 => ⟨v', _, H', I4, rv, q'⟩
end
/-! ### isinstance(e, C) -/
/-- a class of the text that stands under BaseException, read as every exception is -/
structure ExcCls (K : PySem.W.Frag) (C : Addr) : Prop where
  hd : PySem.W.hasDictIn K C = true
  ga : PySem.W.findIn K (.ref C) "__getattribute__" = some (some (.builtin "BaseException.__getattribute__"))
  gx : PySem.W.findIn K (.ref C) "__getattr__" = some none
  ha : PySem.W.findIn K (.ref C) "__class__" = some (some (.builtin "object.__class__"))
  hm : PySem.W.mroIn K C (.type "object") = some true
  hb : PySem.W.mroIn K C (.type "BaseException") = some true
  hn : PySem.W.specialIn K (.builtin "object.__class__") "__get__" = some (some (.builtin "getset_descriptor.__get__"))
  ht : PySem.W.takesIn K (.builtin "object.__class__") = some true
section
open PySem.W PySem.Builtin PySem.Builtin.ObjectAttr PySem.Builtin.Getset_descriptor
variable {prog : Program} {w : World} {A : Around} {E : Value → Shared → Prop} {s : Shared} {K : Frag} {e C : Addr}
theorem exc_find {M : Model} {h : Heap} (X : K.In h) (F : ExcCls K C) : Looks M h (find (.ref e) (.ref C) "__class__") (.bind (.builtin "getset_descriptor.__get__") (.builtin "object.__class__")) := by
  have L1 := looks_findIn (M := M) X F.ha
  have L2 : Looks M h (getOf (some (.builtin "object.__class__"))) (some (.builtin "getset_descriptor.__get__")) := looks_specialIn X F.hn
  have L3 := looks_takesIn (M := M) X F.ht
  exact L1.andThen (L2.andThen ((show Looks M h (dataDescriptor? (some (.builtin "object.__class__")) (some (.builtin "getset_descriptor.__get__"))) (some (.builtin "getset_descriptor.__get__", .builtin "object.__class__")) from L3.andThen .now).andThen (Looks.tag .now)))
theorem exc_get {tp : Value} {R : Result → Shared → Prop} (X : K.In s.heap) (L0 : Looks (model prog w) s.heap (typeOf (.ref e)) (.ref C)) (F : ExcCls K C) (h : R (.ok (.ret (.ref C))) s) :
    codeAny (model prog w) A (.call (.builtin "getset_descriptor.__get__") ⟨[.builtin "object.__class__", .ref e, tp], []⟩) R s := by
  obtain ⟨h0, g0, d0, t0, os0⟩ := s
  have L1 := looks_mroIn (M := model prog w) X F.hm
  refine codeAny_call_builtin KF.slot_gs.plain KF.entry_gs
    (KF.slot_gs.check _ _ _ _ _ _ _ _ KF.type_class (KF.args_gs _ _ _) ?_)
  unfold Builtin.«getset_descriptor.__get__»
  unfold descrGet
  rw [dga_obj]
  refine wpAny_bind (wpAny_pure (?_))
  unfold descrGetter descrCheckInstance
  unfold descrNameAndClass isInstance
  simp only [KF.owner_class]
  repeat lk
  refine ⟨Code.quiet_builtin _ (by decide +kernel),
    codeAny_builtin KF.entry_class ?_⟩
  unfold Builtin.«object.__class__»
  unfold shownTypeOf
  repeat lk
  exact h
theorem exc_check {n : Value} {Q : Unit → Shared → Prop} (X : K.In s.heap) (L0 : Looks (model prog w) s.heap (typeOf (.ref e)) (.ref C)) (F : ExcCls K C) (h : Q () s) : wpAny (model prog w) A (checkBuiltinCall "BaseException.__getattribute__" ⟨[.ref e, n], []⟩) Q E s := by
  obtain ⟨h0, g0, d0, t0, os0⟩ := s
  have hk : builtinKind "BaseException.__getattribute__" = some .slot := by decide +kernel
  have hp : splitId "BaseException.__getattribute__" = some ("BaseException", "__getattribute__") := by decide +kernel
  have L3 := looks_mroIn (M := model prog w) X F.hb
  have ha := PySem.F.args_bexc_ga (.ref e) n
  simp only [checkBuiltinCall, hk, hp]
  refine wpAny_bind (?_)
  unfold isInstance
  refine wpAny_bind (L0.at (L3.at ?_))
  rw [if_neg (by decide)]
  cases q : Manifest.signature? "BaseException.__getattribute__" with
  | none => exact wpAny_pure h
  | some sig =>
    simp only [argsOk, q] at ha
    have h2 : Bind.checkArgs "BaseException.__getattribute__" sig ⟨[.ref e, n], []⟩ = pure () := ha
    show wpAny _ _ (Bind.checkArgs "BaseException.__getattribute__" sig ⟨[.ref e, n], []⟩) _ _ _
    rw [h2]
    exact wpAny_pure h
theorem exc_attr {Q : Option Value → Shared → Prop} (X : K.In s.heap) (J : ExcAt e (.ref C) s.heap) (F : ExcCls K C) (h : Q (some (.ref C)) { s with toks := s.toks + 1 }) : wpAny (model prog w) A (getAttr? (.ref e) "__class__") Q E s := by
  obtain ⟨h0, g0, d0, t0, os0⟩ := s
  obtain ⟨o, vs, he, hc, hd⟩ := J
  have L0 : Looks (model prog w) h0 (typeOf (.ref e)) (.ref C) := hc ▸ (Looks.ld he).andThen .now
  have L1 := looks_findIn (M := model prog w) X F.ga
  have L2 := looks_findIn (M := model prog w) X F.gx
  have L4 := exc_find (M := model prog w) (e := e) X F
  unfold getAttr? getAttrBy? getAttrBy
  refine wpAny_bind (wpAny_mkText (wpAny_bind (wpAny_attempt (wpAny_holding
    (wpAny_bind (L0.at (wpAny_bind (L1.at ?_))))))))
  show wpAny _ _ (getAttrByItsOwn (.ref e) (.str "__class__" t0) (.ref C) (.builtin "BaseException.__getattribute__") false false) _ _ _
  unfold getAttrByItsOwn
  refine wpAny_bind (show wpAny _ _ (typeLookup (.ref C) "__getattr__") _ _ _ from L2.at ?_)
  refine wpAny_bind (wpAny_attempt (wpAny_holding ?_))
  show wpAny _ _ (boundAndCalled (.builtin "BaseException.__getattribute__") (.ref e) (.str "__class__" t0)) _ _ _
  unfold boundAndCalled
  rw [PySem.F.excAttr_ValueError.ga.bind (.ref e)]
  refine wpAny_bind (wpAny_pure (?_))
  show wpAny _ _ (call (.builtin "BaseException.__getattribute__") [.ref e, .str "__class__" t0]) _ _ _
  refine wpAny_call (codeAny_call_builtin PySem.F.excAttr_ValueError.ga.plain PySem.F.entry_bexc_ga (exc_check X L0 F ?_))
  unfold Builtin.«object.__getattribute__»
  refine wpAny_bind (wpAny_pure (?_))
  refine wpAny_bind (wpAny_pure (wpAny_bind (L0.at (wpAny_bind (L4.at ?_)))))
  show wpAny _ _ (holding [.builtin "object.__class__"] (call (.builtin "getset_descriptor.__get__") [.builtin "object.__class__", .ref e, .ref C]) >>= ret) _ _ _
  refine wpAny_bind (wpAny_holding (wpAny_call (exc_get X L0 F ?_)))
  refine wpAny_pure (?_)
  exact handed_on rfl (wpAny_pure h)
theorem exc_obj {h : Heap} (X : K.In h) (F : ExcCls K C) : ∃ c d cd sl, h.get? C = some ⟨c, d, .cls cd, sl⟩ := by
  obtain ⟨cd, hc, _⟩ := any_some F.hd
  unfold clsIn at hc
  split at hc
  · rename_i ho
    exact ⟨_, _, _, _, X _ _ ho⟩
  · cases hc
theorem kitx_exc (F : ExcCls K C) : KitX K (.ref e) (.ref C) (ExcAt e (.ref C)) := by
  refine ⟨fun M h X J => ?_, fun M h X J => ?_, fun h tp dd its n sl X htp => ?_, fun X J h => exc_attr X J F h⟩
  · obtain ⟨o, vs, he, hc, hd⟩ := J
    exact hc ▸ (Looks.ld he).andThen .now
  · intro A' Q' E' s' k q
    obtain ⟨c, d, cd, sl, ho⟩ := exc_obj (X.keeps k) F
    unfold isType
    unfold loadHead
    exact wpAny_bind (wpAny_loadPart ho (wpAny_pure q))
  · refine Bool.eq_false_iff.mpr fun q => ?_
    cases Value.ref.inj (beq_iff_eq.mp q)
    obtain ⟨c, d, cd, sl, ho⟩ := exc_obj X F
    rw [ho] at htp
    cases htp
end
def clsV : V → Option Value
  | .ref a => some (.ref a)
  | .ty n => some (.type n)
  | _ => none
inductive rIsiE (K : PySem.W.Frag) (xs : List V) (H : Hp) (Q : VK) : Prop
  | mk (e C : Addr) (y : V) (c : Value) (b : Bool) (z0 : xs = [.ref e, y]) (z1 : clsV y = some c) (z2 : H e = some (ExcO e (.ref C))) (z3 : ExcCls K C) (z4 : PySem.W.kitOne K (.ref C) c = some b) (z5 : Q (.bl b) H)
theorem call_isiE {X : Cx} : CallR X (.builtin "isinstance") (rIsiE X.K) := by
  intro pins s σ H xs us Q I r h
  obtain ⟨e, C, y, c, b, rfl, hy, he, F, hk, q⟩ := h
  obtain ⟨u, v, rfl, rx, rc⟩ := vals2 r
  cases rx
  have ev : v = c := by
    cases y with
    | ref a => exact Eq.trans (show v = Value.ref a from rc) (Option.some.inj hy)
    | ty n => exact Eq.trans (show v = Value.type n from rc) (Option.some.inj hy)
    | _ => cases hy
  subst ev
  exact PySem.W.kia_one (kitx_exc F) I.kIn (exc_at (I.hok _ _ he)) hk (fun z => nomatch z) fun tk => ⟨.bl b, H, I.tok tk, rfl, q⟩
end L3

/-! The laws' own reckoning as plain functions (rows of jobs, a press, deeds), and how it lies on the heap -/
namespace L3
open PySem PySem.Spec PyProof.Rows L2
/-! ### deeds -/
inductive Deed where
  | send (o p : Int)
  | stop (j : Int)
  | run (m : Int)
  | grant (o m : Int)
def Deed.vals : Deed → List V
  | .send o p => [.str "send", .int o, .int p]
  | .stop j => [.str "stop", .int j]
  | .run m => [.str "run", .int m]
  | .grant o m => [.str "grant", .int o, .int m]
/-- what the laws' makings keep to -/
def Deed.ok : Deed → Prop
  | .send _ _ => True
  | .stop _ => True
  | .run m => 0 ≤ m ∧ m < 300
  | .grant _ m => 0 ≤ m
def DeedsAt (H : Hp) : List Addr → List Deed → Prop
  | [], [] => True
  | p :: ps, d :: ds => H p = some (.tup d.vals) ∧ DeedsAt H ps ds
  | _, _ => False
theorem DeedsAt.mono {H H' : Hp} (k : Same H H') : ∀ {ps : List Addr} {ds : List Deed}, DeedsAt H ps ds → DeedsAt H' ps ds
  | [], [], _ => trivial
  | _ :: _, _ :: _, h => ⟨k _ _ h.1, DeedsAt.mono k h.2⟩
  | [], _ :: _, h => h.elim
  | _ :: _, [], h => h.elim
theorem DeedsAt.len {H : Hp} : ∀ {ps : List Addr} {ds : List Deed}, DeedsAt H ps ds → ps.length = ds.length
  | [], [], _ => rfl
  | _ :: _, _ :: _, h => congrArg (· + 1) (DeedsAt.len h.2)
  | [], _ :: _, h => h.elim
  | _ :: _, [], h => h.elim
inductive GotDeed (H : Hp) (ds : List Deed) (i : Nat) (p : Addr) : Prop
  | mk (d : Deed) (h1 : ds[i]? = some d) (h2 : H p = some (.tup d.vals)) (h3 : ds.drop i = d :: ds.drop (i + 1))
theorem DeedsAt.get {H : Hp} : ∀ {ps : List Addr} {ds : List Deed} {i : Nat} {p : Addr}, DeedsAt H ps ds → ps[i]? = some p → GotDeed H ds i p
  | [], [], _, _, _, e => by simp at e
  | q :: ps, d :: ds, 0, p, h, e => by
    have e' : q = p := by simpa using e
    exact ⟨d, rfl, e' ▸ h.1, rfl⟩
  | _ :: ps, _ :: ds, i + 1, p, h, e => by
    obtain ⟨d, h1, h2, h3⟩ := DeedsAt.get (i := i) h.2 (by simpa using e)
    exact ⟨d, by simpa using h1, h2, by simpa using h3⟩
  | [], _ :: _, _, _, h, _ => h.elim
  | _ :: _, [], _, _, h, _ => h.elim
theorem DeedsAt.snoc {H : Hp} {q : Addr} {d : Deed} (hq : H q = some (.tup d.vals)) : ∀ {ps : List Addr} {ds : List Deed}, DeedsAt H ps ds → DeedsAt H (ps ++ [q]) (ds ++ [d])
  | [], [], _ => ⟨hq, trivial⟩
  | _ :: _, _ :: _, h => ⟨h.1, DeedsAt.snoc hq h.2⟩
  | [], _ :: _, h => h.elim
  | _ :: _, [], h => h.elim
theorem deeds_keep {H H' : Hp} (k : ∀ b xs, H b = some (.tup xs) → H' b = some (.tup xs)) : ∀ {ps : List Addr} {ds : List Deed}, DeedsAt H ps ds → DeedsAt H' ps ds
  | [], [], _ => trivial
  | _ :: _, _ :: _, h => ⟨k _ _ h.1, deeds_keep k h.2⟩
  | [], _ :: _, h => h.elim
  | _ :: _, [], h => h.elim
/-! ### rows -/
abbrev Rw := Int × Int × Int
def rowV (r : Rw) : List V := [.int r.1, .int r.2.1, .int r.2.2]
def TupsAt (H : Hp) : List Addr → List Rw → Prop
  | [], [] => True
  | p :: ps, r :: rs => H p = some (.tup (rowV r)) ∧ TupsAt H ps rs
  | _, _ => False
theorem TupsAt.mono {H H' : Hp} (k : ∀ b xs, H b = some (.tup xs) → H' b = some (.tup xs)) : ∀ {ps : List Addr} {rs : List Rw}, TupsAt H ps rs → TupsAt H' ps rs
  | [], [], _ => trivial
  | _ :: _, _ :: _, h => ⟨k _ _ h.1, TupsAt.mono k h.2⟩
  | [], _ :: _, h => h.elim
  | _ :: _, [], h => h.elim
theorem TupsAt.len {H : Hp} : ∀ {ps : List Addr} {rs : List Rw}, TupsAt H ps rs → ps.length = rs.length
  | [], [], _ => rfl
  | _ :: _, _ :: _, h => congrArg (· + 1) (TupsAt.len h.2)
  | [], _ :: _, h => h.elim
  | _ :: _, [], h => h.elim
inductive GotRow (H : Hp) (rs : List Rw) (i : Nat) (p : Addr) : Prop
  | mk (r : Rw) (h1 : rs[i]? = some r) (h2 : H p = some (.tup (rowV r))) (h3 : rs.drop i = r :: rs.drop (i + 1)) (h4 : rs.take (i + 1) = rs.take i ++ [r])
theorem TupsAt.get {H : Hp} : ∀ {ps : List Addr} {rs : List Rw} {i : Nat} {p : Addr}, TupsAt H ps rs → ps[i]? = some p → GotRow H rs i p
  | [], [], _, _, _, e => by simp at e
  | q :: ps, r :: rs, 0, p, h, e => by
    have e' : q = p := by simpa using e
    exact ⟨r, rfl, e' ▸ h.1, rfl, rfl⟩
  | _ :: ps, _ :: rs, i + 1, p, h, e => by
    obtain ⟨r, h1, h2, h3, h4⟩ := TupsAt.get (i := i) h.2 (by simpa using e)
    exact ⟨r, by simpa using h1, h2, by simpa using h3, by simpa using h4⟩
  | [], _ :: _, _, _, h, _ => h.elim
  | _ :: _, [], _, _, h, _ => h.elim
theorem TupsAt.snoc {H : Hp} {q : Addr} {r : Rw} (hq : H q = some (.tup (rowV r))) : ∀ {ps : List Addr} {rs : List Rw}, TupsAt H ps rs → TupsAt H (ps ++ [q]) (rs ++ [r])
  | [], [], _ => ⟨hq, trivial⟩
  | _ :: _, _ :: _, h => ⟨h.1, TupsAt.snoc hq h.2⟩
  | [], _ :: _, h => h.elim
  | _ :: _, [], h => h.elim
/-- a list of rows stands at a -/
def RowsAt (H : Hp) (a : Addr) (rs : List Rw) : Prop := ∃ ps : List Addr, H a = some (.lst (ps.map V.ref)) ∧ TupsAt H ps rs
theorem RowsAt.mono {H H' : Hp} {a : Addr} {rs : List Rw} (h : RowsAt H a rs) (k : Same H H') : RowsAt H' a rs := by
  obtain ⟨ps, h1, h2⟩ := h
  exact ⟨ps, k _ _ h1, h2.mono fun b xs e => k b _ e⟩
theorem RowsAt.keep {H H' : Hp} {a : Addr} {rs : List Rw} (h : RowsAt H a rs) (ka : ∀ o, H a = some o → H' a = some o) (kt : ∀ b xs, H b = some (.tup xs) → H' b = some (.tup xs)) : RowsAt H' a rs := by
  obtain ⟨ps, h1, h2⟩ := h
  exact ⟨ps, ka _ h1, h2.mono kt⟩
inductive GotRef (ps : List Addr) (i : Nat) (x : V) : Prop
  | mk (p : Addr) (h : ps[i]? = some p) (e : x = .ref p)
theorem map_ref_get {ps : List Addr} {i : Nat} {x : V} (h : (ps.map V.ref)[i]? = some x) : GotRef ps i x := by
  rw [List.getElem?_map] at h
  cases e : ps[i]? with
  | none => rw [e] at h; cases h
  | some p => rw [e] at h; exact ⟨p, e, (Option.some.inj h).symm⟩
/-! ### the press -/
/-- one page of the first job -/
def step1 : List Rw → List Rw
  | [] => []
  | r :: rs => if 1 < r.2.2 then (r.1, r.2.1, r.2.2 - 1) :: rs else rs
/-- as the law's loop does it -/
def prF : Int → List Rw → List Rw
  | _, [] => []
  | left, r :: rs => let g := if r.2.2 < left then r.2.2 else left; if g < r.2.2 then (r.1, r.2.1, r.2.2 - g) :: prF (left - g) rs else prF (left - g) rs
theorem step1_cons (r : Rw) (rs : List Rw) : step1 (r :: rs) = if 1 < r.2.2 then (r.1, r.2.1, r.2.2 - 1) :: rs else rs := rfl
theorem prF_cons (left : Int) (r : Rw) (rs : List Rw) : prF left (r :: rs) = if (if r.2.2 < left then r.2.2 else left) < r.2.2 then (r.1, r.2.1, r.2.2 - (if r.2.2 < left then r.2.2 else left)) :: prF (left - (if r.2.2 < left then r.2.2 else left)) rs else prF (left - (if r.2.2 < left then r.2.2 else left)) rs := rfl
theorem prF_zero : ∀ rs : List Rw, (∀ r ∈ rs, 1 ≤ r.2.2) → prF 0 rs = rs
  | [], _ => rfl
  | r :: rs, h => by
    have h1 := h r (by simp)
    have ih := prF_zero rs fun x hx => h x (by simp [hx])
    have e : (if r.2.2 < 0 then r.2.2 else (0 : Int)) = 0 := if_neg (by omega)
    rw [prF_cons, e, if_pos (by omega), Int.sub_zero, Int.sub_zero, ih]
theorem prF_one : ∀ rs : List Rw, (∀ r ∈ rs, 1 ≤ r.2.2) → prF 1 rs = step1 rs
  | [], _ => rfl
  | r :: rs, h => by
    have h1 := h r (by simp)
    have ih := prF_zero rs fun x hx => h x (by simp [hx])
    have e : (if r.2.2 < 1 then r.2.2 else (1 : Int)) = 1 := if_neg (by omega)
    rw [prF_cons, e, Int.sub_self, ih, step1_cons]
theorem step1_pos {rs : List Rw} (h : ∀ r ∈ rs, 1 ≤ r.2.2) : ∀ r ∈ step1 rs, 1 ≤ r.2.2 := by
  cases rs with
  | nil => exact h
  | cons r rs =>
    intro x hx
    rw [step1_cons] at hx
    split at hx
    · rcases List.mem_cons.mp hx with z | z
      · rw [z]
        show 1 ≤ r.2.2 - 1
        omega
      · exact h x (by simp [z])
    · exact h x (by simp [hx])
theorem step1_len (rs : List Rw) : (step1 rs).length ≤ rs.length := by
  cases rs with
  | nil => exact Nat.le_refl _
  | cons r rs =>
    rw [step1_cons]
    split <;> simp
/-- the law's lane -/
structure Ln where
  limit : Int
  pause : Int
  purse : List Int
  rows : List Rw
  sent : Int
  hot : Int
  resting : Int
def tickW (L : Ln) : Str := if 0 < L.resting then "rest" else if L.rows = [] then "idle" else "page"
def tickL (L : Ln) : Ln :=
  if 0 < L.resting then { L with resting := L.resting - 1 }
  else if L.rows = [] then { L with hot := 0 }
  else if L.hot + 1 = L.limit then { L with rows := step1 L.rows, hot := 0, resting := L.pause }
  else { L with rows := step1 L.rows, hot := L.hot + 1 }
def runL : Nat → Ln → Ln
  | 0, L => L
  | n + 1, L => runL n (tickL L)
def runW : Nat → Ln → List Str
  | 0, _ => []
  | n + 1, L => tickW L :: runW n (tickL L)
def refusal (purse : List Int) (rows : List Rw) : Deed → Str
  | .send o p => if o < 0 ∨ (purse.length : Int) ≤ o then "no owner" else if p < 1 then "no pages" else if purse.getD o.toNat 0 < p then "broke" else "done"
  | .grant o _ => if o < 0 ∨ (purse.length : Int) ≤ o then "no owner" else "done"
  | .stop j => if j ∈ rows.map (·.1) then "done" else "no job"
  | .run _ => "done"
section
variable {purse : List Int} {rows : List Rw} {o pg m j : Int}
theorem ref_send_no (h : o < 0 ∨ (purse.length : Int) ≤ o) : refusal purse rows (.send o pg) = "no owner" := if_pos h
theorem ref_send_yes (h : ¬ (o < 0 ∨ (purse.length : Int) ≤ o)) : refusal purse rows (.send o pg) = if pg < 1 then ("no pages" : Str) else if purse.getD o.toNat 0 < pg then ("broke" : Str) else ("done" : Str) := if_neg h
theorem ref_grant_no (h : o < 0 ∨ (purse.length : Int) ≤ o) : refusal purse rows (.grant o m) = "no owner" := if_pos h
theorem ref_grant_yes (h : ¬ (o < 0 ∨ (purse.length : Int) ≤ o)) : refusal purse rows (.grant o m) = "done" := if_neg h
theorem ref_stop_yes (h : j ∈ rows.map (·.1)) : refusal purse rows (.stop j) = "done" := if_pos h
theorem ref_stop_no (h : ¬ j ∈ rows.map (·.1)) : refusal purse rows (.stop j) = "no job" := if_neg h
end
/-- the budgets behind a stop, as the law's loop does it -/
def backAll (j : Int) : List Rw → List Int → List Int
  | [], pu => pu
  | r :: rs, pu => backAll j rs (if r.1 = j then pu.set r.2.1.toNat (pu.getD r.2.1.toNat 0 + r.2.2) else pu)
def didPurse (purse : List Int) (rows : List Rw) : Deed → List Int
  | .send o p => purse.set o.toNat (purse.getD o.toNat 0 - p)
  | .grant o m => purse.set o.toNat (purse.getD o.toNat 0 + m)
  | .stop j => backAll j rows purse
  | .run _ => purse
def didRows (rows : List Rw) (sent : Int) : Deed → List Rw
  | .send o p => rows ++ [(sent, o, p)]
  | .grant _ _ => rows
  | .stop j => rows.filter fun r => decide (r.1 ≠ j)
  | .run _ => rows
def countPage (ws : List Str) : Nat := ws.countP fun w => w == ("page" : Str)
/-- what the law's lane answers -/
def ansV (L : Ln) : Deed → V
  | .run m => .int (countPage (runW m.toNat L))
  | .send o p => if refusal L.purse L.rows (.send o p) = "done" then .int L.sent else .str (refusal L.purse L.rows (.send o p))
  | .stop j => if refusal L.purse L.rows (.stop j) = "done" then .int ((L.rows.filter fun r => decide (r.1 = j)).map (·.2.2)).sum else .str (refusal L.purse L.rows (.stop j))
  | .grant o m => .str (refusal L.purse L.rows (.grant o m))
def ansL (L : Ln) (d : Deed) : Ln :=
  match d with
  | .run m => runL m.toNat L
  | d => if refusal L.purse L.rows d = "done" then { L with purse := didPurse L.purse L.rows d, rows := didRows L.rows L.sent d, sent := match d with | .send _ _ => L.sent + 1 | _ => L.sent } else L
/-! ### on the heap -/
def laneK (lim pz : Int) (q a : Addr) (sent hot rs : Int) : List (Key × V) :=
  [(.inr "limit", .int lim), (.inr "pause", .int pz), (.inr "purse", .ref q), (.inr "rows", .ref a), (.inr "sent", .int sent), (.inr "hot", .int hot), (.inr "resting", .int rs)]
section
variable {lim pz sent hot rs : Int} {q a : Addr}
theorem g_limit : valV (laneK lim pz q a sent hot rs) (.inr "limit" : Key) = some (.int lim) := by rfl
theorem g_pause : valV (laneK lim pz q a sent hot rs) (.inr "pause" : Key) = some (.int pz) := by rfl
theorem g_purse : valV (laneK lim pz q a sent hot rs) (.inr "purse" : Key) = some (.ref q) := by rfl
theorem g_rows : valV (laneK lim pz q a sent hot rs) (.inr "rows" : Key) = some (.ref a) := by rfl
theorem g_sent : valV (laneK lim pz q a sent hot rs) (.inr "sent" : Key) = some (.int sent) := by rfl
theorem g_hot : valV (laneK lim pz q a sent hot rs) (.inr "hot" : Key) = some (.int hot) := by rfl
theorem g_rest : valV (laneK lim pz q a sent hot rs) (.inr "resting" : Key) = some (.int rs) := by rfl
theorem p_rows (b : Addr) : putK (laneK lim pz q a sent hot rs) (.inr "rows" : Key) (.ref b) = laneK lim pz q b sent hot rs := by rfl
theorem p_sent (y : Int) : putK (laneK lim pz q a sent hot rs) (.inr "sent" : Key) (.int y) = laneK lim pz q a y hot rs := by rfl
theorem p_hot (y : Int) : putK (laneK lim pz q a sent hot rs) (.inr "hot" : Key) (.int y) = laneK lim pz q a sent y rs := by rfl
theorem p_rest (y : Int) : putK (laneK lim pz q a sent hot rs) (.inr "resting" : Key) (.int y) = laneK lim pz q a sent hot y := by rfl
end
/-- the law's lane stands at d, its budgets at q, its row at a -/
structure LaneAt (H : Hp) (d q a : Addr) (L : Ln) : Prop where
  di : H d = some (.dK (laneK L.limit L.pause q a L.sent L.hot L.resting))
  ro : RowsAt H a L.rows
  pu : H q = some (.lst (L.purse.map V.int))
theorem LaneAt.keep {H H' : Hp} {d q a : Addr} {L : Ln} (h : LaneAt H d q a L) (kd : ∀ o, H d = some o → H' d = some o) (kq : ∀ o, H q = some o → H' q = some o) (ka : ∀ o, H a = some o → H' a = some o)
    (kt : ∀ b xs, H b = some (.tup xs) → H' b = some (.tup xs)) : LaneAt H' d q a L := ⟨kd _ h.di, h.ro.keep ka kt, kq _ h.pu⟩
theorem LaneAt.mono {H H' : Hp} {d q a : Addr} {L : Ln} (h : LaneAt H d q a L) (k : Same H H') : LaneAt H' d q a L := h.keep (k d) (k q) (k a) fun b xs e => k b _ e
theorem ne_lists {H : Hp} {a q : Addr} {rs : List Rw} {purse : List Int} (ha : RowsAt H a rs) (hq : H q = some (.lst (purse.map V.int))) (hne : purse ≠ []) : a ≠ q := by
  obtain ⟨ps, h1, _⟩ := ha
  refine ne_of h1 hq fun z => ?_
  cases purse with
  | nil => exact hne rfl
  | cons n ns =>
    cases ps with
    | nil => cases z
    | cons p ps => cases z
/-- what the lane always keeps to -/
structure LnOk (n : Nat) (L : Ln) : Prop where
  pages : ∀ r ∈ L.rows, 1 ≤ r.2.2
  owners : ∀ r ∈ L.rows, 0 ≤ r.2.1 ∧ r.2.1 < (L.purse.length : Int)
  few : L.rows.length ≤ n
  purses : L.purse.length ≤ 12
theorem backAll_len (j : Int) : ∀ (rs : List Rw) (pu : List Int), (backAll j rs pu).length = pu.length
  | [], _ => rfl
  | r :: rs, pu => by
    show (backAll j rs _).length = _
    rw [backAll_len j rs]
    split
    · rw [List.length_set]
    · rfl
theorem runL_ok {n : Nat} : ∀ (k : Nat) {L : Ln}, (∀ L, LnOk n L → LnOk n (tickL L)) → LnOk n L → LnOk n (runL k L)
  | 0, _, _, h => h
  | k + 1, _, t, h => runL_ok k t (t _ h)
theorem tickL_ok {n : Nat} {L : Ln} (h : LnOk n L) : LnOk n (tickL L) := by
  unfold tickL
  have hs := step1_pos h.pages
  have hl := step1_len L.rows
  have ho : ∀ r ∈ step1 L.rows, 0 ≤ r.2.1 ∧ r.2.1 < (L.purse.length : Int) := fun r hr => by
    cases e : L.rows with
    | nil => rw [e] at hr; cases hr
    | cons x xs =>
      rw [e, step1_cons] at hr
      split at hr
      · rcases List.mem_cons.mp hr with z | z
        · rw [z]
          exact h.owners x (by rw [e]; simp)
        · exact h.owners r (by rw [e]; simp [z])
      · exact h.owners r (by rw [e]; simp [hr])
  split
  · exact ⟨h.pages, h.owners, h.few, h.purses⟩
  · split
    · exact ⟨h.pages, h.owners, h.few, h.purses⟩
    · split
      · exact ⟨hs, ho, Nat.le_trans hl h.few, h.purses⟩
      · exact ⟨hs, ho, Nat.le_trans hl h.few, h.purses⟩
theorem ansL_ok {n : Nat} {L : Ln} (h : LnOk n L) (d : Deed) : LnOk (n + 1) (ansL L d) := by
  have h' : LnOk (n + 1) L := ⟨h.pages, h.owners, Nat.le_succ_of_le h.few, h.purses⟩
  cases d with
  | run m => exact runL_ok _ (fun _ => tickL_ok) h'
  | send o p =>
    show LnOk (n + 1) (if refusal L.purse L.rows (.send o p) = "done" then _ else L)
    split
    · rename_i e
      by_cases c : o < 0 ∨ (L.purse.length : Int) ≤ o
      · rw [ref_send_no c] at e
        exact absurd e (by decide +kernel)
      · rw [ref_send_yes c] at e
        split at e
        · exact absurd e (by decide +kernel)
        · rename_i c1
          refine ⟨fun r hr => ?_, fun r hr => ?_, ?_, ?_⟩
          · rcases List.mem_append.mp hr with z | z
            · exact h.pages r z
            · have e : r = (L.sent, o, p) := by simpa using z
              rw [e]
              show 1 ≤ p
              omega
          · show 0 ≤ r.2.1 ∧ r.2.1 < ((L.purse.set o.toNat _).length : Int)
            rw [List.length_set]
            rcases List.mem_append.mp hr with z | z
            · exact h.owners r z
            · have e : r = (L.sent, o, p) := by simpa using z
              rw [e]
              show 0 ≤ o ∧ o < _
              omega
          · show (L.rows ++ [(L.sent, o, p)]).length ≤ n + 1
            rw [List.length_append]
            have := h.few
            show L.rows.length + 1 ≤ n + 1
            omega
          · show (L.purse.set o.toNat _).length ≤ 12
            rw [List.length_set]
            exact h.purses
    · exact h'
  | grant o m =>
    show LnOk (n + 1) (if refusal L.purse L.rows (.grant o m) = "done" then _ else L)
    split
    · refine ⟨h.pages, fun r hr => ?_, Nat.le_succ_of_le h.few, ?_⟩
      · show 0 ≤ r.2.1 ∧ r.2.1 < ((L.purse.set o.toNat _).length : Int)
        rw [List.length_set]
        exact h.owners r hr
      · show (L.purse.set o.toNat _).length ≤ 12
        rw [List.length_set]
        exact h.purses
    · exact h'
  | stop j =>
    show LnOk (n + 1) (if refusal L.purse L.rows (.stop j) = "done" then _ else L)
    split
    · have hm : ∀ r, r ∈ L.rows.filter (fun r => decide (r.1 ≠ j)) → r ∈ L.rows := fun r hr => (List.mem_filter.mp hr).1
      refine ⟨fun r hr => h.pages r (hm r hr), fun r hr => ?_, ?_, ?_⟩
      · show 0 ≤ r.2.1 ∧ r.2.1 < ((backAll j L.rows L.purse).length : Int)
        rw [backAll_len]
        exact h.owners r (hm r hr)
      · exact Nat.le_trans (List.length_filter_le _ _) (Nat.le_succ_of_le h.few)
      · show (backAll j L.rows L.purse).length ≤ 12
        rw [backAll_len]
        exact h.purses
    · exact h'
def Deed.isRun : Deed → Bool
  | .run _ => true
  | _ => false
theorem runL_succ : ∀ (i : Nat) (L : Ln), runL (i + 1) L = tickL (runL i L)
  | 0, _ => rfl
  | i + 1, L => runL_succ i (tickL L)
theorem runW_succ : ∀ (i : Nat) (L : Ln), runW (i + 1) L = runW i L ++ [tickW (runL i L)]
  | 0, _ => rfl
  | i + 1, L => by
    show tickW L :: runW (i + 1) (tickL L) = tickW L :: (runW i (tickL L) ++ [tickW (runL i (tickL L))])
    rw [runW_succ i (tickL L)]
theorem runW_len : ∀ (i : Nat) (L : Ln), (runW i L).length = i
  | 0, _ => rfl
  | i + 1, L => congrArg (· + 1) (runW_len i (tickL L))
theorem count_strs (ws : List Str) : (ws.map V.str).countP (fun z => eqV z (.str "page")) = countPage ws := by
  unfold countPage
  rw [List.countP_map]
  rfl
theorem flat_strs : ∀ ws : List Str, (ws.map V.str).all flatV = true
  | [] => rfl
  | n :: ns => by simp only [List.map_cons, List.all_cons, flatV, flat_strs ns, Bool.and_self]
/-! ### a day -/
def L0 (lim pz : Int) (bs : List Int) : Ln := ⟨lim, pz, bs, [], 0, 0, 0⟩
def endL : Ln → List Deed → Ln
  | L, [] => L
  | L, d :: ds => endL (ansL L d) ds
def ansAll : Ln → List Deed → List V
  | _, [] => []
  | L, d :: ds => ansV L d :: ansAll (ansL L d) ds
theorem endL_snoc : ∀ (L : Ln) (ds : List Deed) (d : Deed), endL L (ds ++ [d]) = ansL (endL L ds) d
  | _, [], _ => rfl
  | L, x :: ds, d => endL_snoc (ansL L x) ds d
theorem ansAll_snoc : ∀ (L : Ln) (ds : List Deed) (d : Deed), ansAll L (ds ++ [d]) = ansAll L ds ++ [ansV (endL L ds) d]
  | _, [], _ => rfl
  | L, x :: ds, d => congrArg (ansV L x :: ·) (ansAll_snoc (ansL L x) ds d)
theorem ansAll_len : ∀ (L : Ln) (ds : List Deed), (ansAll L ds).length = ds.length
  | _, [] => rfl
  | L, x :: ds => congrArg (· + 1) (ansAll_len (ansL L x) ds)
theorem LnOk.mono {n m : Nat} {L : Ln} (h : LnOk n L) (l : n ≤ m) : LnOk m L := ⟨h.pages, h.owners, Nat.le_trans h.few l, h.purses⟩
theorem endL_ok : ∀ {n : Nat} {L : Ln} (ds : List Deed), LnOk n L → LnOk (n + ds.length) (endL L ds)
  | n, L, [], h => h
  | n, L, d :: ds, h => by
    have := endL_ok ds (ansL_ok h d)
    rw [List.length_cons]
    exact this.mono (by omega)
theorem tickL_purse (L : Ln) : (tickL L).purse = L.purse := by
  unfold tickL
  split
  · rfl
  · split
    · rfl
    · split <;> rfl
theorem runL_purse : ∀ (k : Nat) (L : Ln), (runL k L).purse = L.purse
  | 0, _ => rfl
  | k + 1, L => (runL_purse k (tickL L)).trans (tickL_purse L)
theorem ansL_purse (L : Ln) (d : Deed) : (ansL L d).purse.length = L.purse.length := by
  cases d with
  | run m => exact congrArg List.length (runL_purse _ L)
  | send o p =>
    show (if refusal L.purse L.rows (.send o p) = "done" then _ else L : Ln).purse.length = _
    split
    · exact List.length_set
    · rfl
  | grant o m =>
    show (if refusal L.purse L.rows (.grant o m) = "done" then _ else L : Ln).purse.length = _
    split
    · exact List.length_set
    · rfl
  | stop j =>
    show (if refusal L.purse L.rows (.stop j) = "done" then _ else L : Ln).purse.length = _
    split
    · exact backAll_len _ _ _
    · rfl
theorem endL_purse : ∀ (L : Ln) (ds : List Deed), (endL L ds).purse.length = L.purse.length
  | _, [] => rfl
  | L, d :: ds => (endL_purse (ansL L d) ds).trans (ansL_purse L d)
theorem L0_ok {lim pz : Int} {bs : List Int} (h : bs.length ≤ 12) : LnOk 0 (L0 lim pz bs) := ⟨fun _ z => (by cases z), fun _ z => (by cases z), Nat.le_refl _, h⟩
/-! ### trees -/
theorem is_ints {H : Hp} {a : Addr} {ns : List Int} (h : H a = some (.lst (ns.map V.int))) : Is H (.lst (ns.map Tr.int)) (.ref a) := by
  refine ⟨a, _, rfl, h, ?_⟩
  clear h
  induction ns with
  | nil => rfl
  | cons n ns ih => exact ⟨_, _, rfl, rfl, ih⟩
def Deed.tr : Deed → Tr
  | .send o p => .tup [.str "send", .int o, .int p]
  | .stop j => .tup [.str "stop", .int j]
  | .run m => .tup [.str "run", .int m]
  | .grant o m => .tup [.str "grant", .int o, .int m]
def trV : V → Tr
  | .int i => .int i
  | .str x => .str x
  | _ => .int 0
def flat2 : V → Bool
  | .int _ => true
  | .str _ => true
  | _ => false
theorem is_flat {H : Hp} : ∀ {vs : List V}, vs.all flat2 = true → IsL H (vs.map trV) vs
  | [], _ => rfl
  | v :: vs, h => by
    simp only [List.all_cons, Bool.and_eq_true] at h
    refine ⟨v, vs, rfl, ?_, is_flat h.2⟩
    cases v with
    | int i => rfl
    | str x => rfl
    | non => exact absurd h.1 Bool.false_ne_true
    | bl b => exact absurd h.1 Bool.false_ne_true
    | byt b => exact absurd h.1 Bool.false_ne_true
    | flt b => exact absurd h.1 Bool.false_ne_true
    | ref a => exact absurd h.1 Bool.false_ne_true
    | ty n => exact absurd h.1 Bool.false_ne_true
theorem ansV_flat (L : Ln) (d : Deed) : flat2 (ansV L d) = true := by
  cases d with
  | run m => rfl
  | grant o m => rfl
  | send o p =>
    show flat2 (if refusal L.purse L.rows (.send o p) = "done" then _ else _) = true
    split <;> rfl
  | stop j =>
    show flat2 (if refusal L.purse L.rows (.stop j) = "done" then _ else _) = true
    split <;> rfl
theorem ansAll_flat : ∀ (L : Ln) (ds : List Deed), (ansAll L ds).all flat2 = true
  | _, [] => rfl
  | L, d :: ds => by
    show (flat2 (ansV L d) && _) = true
    rw [ansV_flat]
    exact ansAll_flat (ansL L d) ds
theorem sizes_ints : ∀ ns : List Int, sizes (ns.map Tr.int) = ns.length
  | [] => rfl
  | n :: ns => by
    show 1 + sizes (ns.map Tr.int) = ns.length + 1
    rw [sizes_ints ns]
    omega
theorem sizes_flat : ∀ vs : List V, sizes (vs.map trV) = vs.length
  | [] => rfl
  | v :: vs => by
    show (trV v).size + sizes (vs.map trV) = vs.length + 1
    rw [sizes_flat vs]
    have h : (trV v).size = 1 := by cases v <;> rfl
    omega
end L3

/-! The program's lane: as plain data, beside the laws' lane, and on the heap -/
namespace L3
open PySem PySem.Spec PyProof.Rows L2
/-! ### plain -/
structure Jb where
  n : Int
  o : Int
  p : Int
  k : Int
structure Pl where
  limit : Int
  pause : Int
  purse : List Int
  pr : List Int
  jobs : List Jb
  sent : Int
  hot : Int
  resting : Int
def rowOf (j : Jb) : Rw := (j.n, j.o, j.p - j.k)
def toLn (P : Pl) : Ln := ⟨P.limit, P.pause, P.purse, P.jobs.map rowOf, P.sent, if 0 < P.resting then 0 else P.hot, P.resting⟩
structure POk (P : Pl) : Prop where
  lim : 1 ≤ P.limit
  pau : 0 ≤ P.pause
  res : 0 ≤ P.resting
  rhot : 0 < P.resting → P.hot = P.limit
  hot : P.resting = 0 → P.hot < P.limit
  lef : ∀ j ∈ P.jobs, 1 ≤ j.p - j.k
  own : ∀ j ∈ P.jobs, 0 ≤ j.o ∧ j.o < (P.purse.length : Int)
  prl : P.pr.length = P.purse.length
  num : (P.jobs.map (·.n)).Nodup
  old : ∀ j ∈ P.jobs, j.n < P.sent
/-- one page of the first job -/
def pageP (P : Pl) : Pl := match P.jobs with
  | [] => P
  | j :: js => { P with pr := P.pr.set j.o.toNat (P.pr.getD j.o.toNat 0 + 1), jobs := if j.p - (j.k + 1) = 0 then js else ⟨j.n, j.o, j.p, j.k + 1⟩ :: js }
def heat (P : Pl) : Int × Int :=
  if 0 < P.resting then (if 1 < P.resting then (P.hot, P.resting - 1) else (0, 0))
  else if P.jobs.isEmpty = true then (0, 0) else if P.hot + 1 < P.limit then (P.hot + 1, 0) else if 0 < P.pause then (P.hot + 1, P.pause) else (0, 0)
def heated (P : Pl) : Pl := { P with hot := (heat P).1, resting := (heat P).2 }
def tickP (P : Pl) : Pl := if 0 < P.resting then heated P else pageP (heated P)
def tickT (P : Pl) : List V := if 0 < P.resting then [.str "rest"] else match P.jobs with
  | [] => [.str "idle"]
  | j :: _ => [.str "page", .int j.n, .int (j.k + 1)]
def runP : Nat → Pl → Pl
  | 0, P => P
  | n + 1, P => runP n (tickP P)
def runT : Nat → Pl → List (List V)
  | 0, _ => []
  | n + 1, P => tickT P :: runT n (tickP P)
theorem runP_succ : ∀ (i : Nat) (P : Pl), runP (i + 1) P = tickP (runP i P)
  | 0, _ => rfl
  | i + 1, P => runP_succ i (tickP P)
theorem runT_succ : ∀ (i : Nat) (P : Pl), runT (i + 1) P = runT i P ++ [tickT (runP i P)]
  | 0, _ => rfl
  | i + 1, P => by
    show tickT P :: runT (i + 1) (tickP P) = tickT P :: (runT i (tickP P) ++ [tickT (runP i (tickP P))])
    rw [runT_succ i (tickP P)]
theorem runT_len : ∀ (i : Nat) (P : Pl), (runT i P).length = i
  | 0, _ => rfl
  | i + 1, P => congrArg (· + 1) (runT_len i (tickP P))
def sendP (P : Pl) (o p : Int) : Pl := { P with purse := P.purse.set o.toNat (P.purse.getD o.toNat 0 - p), jobs := P.jobs ++ [⟨P.sent, o, p, 0⟩], sent := P.sent + 1 }
def grantP (P : Pl) (o m : Int) : Pl := { P with purse := P.purse.set o.toNat (P.purse.getD o.toNat 0 + m) }
def stopP (P : Pl) (i : Nat) (x : Jb) : Pl := { P with purse := P.purse.set x.o.toNat (P.purse.getD x.o.toNat 0 + (x.p - x.k)), jobs := P.jobs.eraseIdx i }
/-- the place of the first job with that number -/
def placeJ (j : Int) : List Jb → Option (Nat × Jb)
  | [] => none
  | x :: xs => if x.n = j then some (0, x) else (placeJ j xs).map fun y => (y.1 + 1, y.2)
def stepP (P : Pl) : Deed → Pl
  | .run m => runP m.toNat P
  | .send o p => if refusal P.purse (P.jobs.map rowOf) (.send o p) = "done" then sendP P o p else P
  | .grant o m => if refusal P.purse (P.jobs.map rowOf) (.grant o m) = "done" then grantP P o m else P
  | .stop j => match placeJ j P.jobs with
    | some y => stopP P y.1 y.2
    | none => P
theorem placeJ_some {j : Int} : ∀ {l : List Jb} {y : Nat × Jb}, placeJ j l = some y → l[y.1]? = some y.2 ∧ y.2.n = j ∧ y.1 < l.length
  | [], _, h => by cases h
  | x :: xs, y, h => by
    unfold placeJ at h
    split at h
    · rename_i e
      cases h
      exact ⟨rfl, e, Nat.succ_pos _⟩
    · cases q : placeJ j xs with
      | none => rw [q] at h; cases h
      | some z =>
        rw [q] at h
        cases h
        obtain ⟨h1, h2, h3⟩ := placeJ_some q
        exact ⟨by simpa using h1, h2, Nat.succ_lt_succ h3⟩
theorem placeJ_none {j : Int} : ∀ {l : List Jb}, placeJ j l = none → ∀ x ∈ l, x.n ≠ j
  | [], _ => fun _ z => by cases z
  | x :: xs, h => by
    unfold placeJ at h
    split at h
    · cases h
    · rename_i e
      cases q : placeJ j xs with
      | some z => rw [q] at h; cases h
      | none =>
        intro y hy
        rcases List.mem_cons.mp hy with z | z
        · rw [z]; exact e
        · exact placeJ_none q y z
theorem stop_rows {j : Int} : ∀ {l : List Jb} {y : Nat × Jb}, (l.map (·.n)).Nodup → placeJ j l = some y → (l.map rowOf).filter (fun r => decide (r.1 ≠ j)) = (l.eraseIdx y.1).map rowOf ∧
    ((l.map rowOf).filter fun r => decide (r.1 = j)).map (·.2.2) = [y.2.p - y.2.k] ∧ ∀ pu, backAll j (l.map rowOf) pu = pu.set y.2.o.toNat (pu.getD y.2.o.toNat 0 + (y.2.p - y.2.k))
  | [], _, _, h => by cases h
  | x :: xs, y, nd, h => by
    have nd' := List.nodup_cons.mp nd
    unfold placeJ at h
    split at h
    · rename_i e
      cases h
      have no : ∀ z ∈ xs, z.n ≠ j := fun z hz q => nd'.1 (List.mem_map.mpr ⟨z, hz, q.trans e.symm⟩)
      have f1 : (xs.map rowOf).filter (fun r => decide (r.1 ≠ j)) = xs.map rowOf := List.filter_eq_self.mpr fun r hr => by
        obtain ⟨z, hz, rfl⟩ := List.mem_map.mp hr
        exact decide_eq_true (no z hz)
      have f2 : (xs.map rowOf).filter (fun r => decide (r.1 = j)) = [] := List.filter_eq_nil_iff.mpr fun r hr => by
        obtain ⟨z, hz, rfl⟩ := List.mem_map.mp hr
        intro q
        exact no z hz (of_decide_eq_true q)
      have f3 : ∀ pu, backAll j (xs.map rowOf) pu = pu := by
        intro pu
        clear f1 f2 nd nd'
        induction xs generalizing pu with
        | nil => rfl
        | cons z zs ih =>
          show backAll j (zs.map rowOf) (if z.n = j then _ else pu) = pu
          rw [if_neg (no z (by simp))]
          exact ih (fun u hu => no u (by simp [hu])) pu
      have ex : (rowOf x).1 = j := e
      refine ⟨?_, ?_, fun pu => ?_⟩
      · show ((rowOf x) :: xs.map rowOf).filter _ = xs.map rowOf
        rw [List.filter_cons_of_neg (by simp [ex]), f1]
      · show (((rowOf x) :: xs.map rowOf).filter _).map _ = _
        rw [List.filter_cons_of_pos (by simp [ex]), f2]
        rfl
      · show backAll j (xs.map rowOf) (if x.n = j then _ else pu) = _
        rw [if_pos e, f3]
        rfl
    · rename_i e
      cases q : placeJ j xs with
      | none => rw [q] at h; cases h
      | some z =>
        rw [q] at h
        cases h
        obtain ⟨i1, i2, i3⟩ := stop_rows nd'.2 q
        have ex : ¬ (rowOf x).1 = j := e
        refine ⟨?_, ?_, fun pu => ?_⟩
        · show ((rowOf x) :: xs.map rowOf).filter _ = rowOf x :: (xs.eraseIdx z.1).map rowOf
          rw [List.filter_cons_of_pos (by simp [ex]), i1]
        · show (((rowOf x) :: xs.map rowOf).filter _).map _ = _
          rw [List.filter_cons_of_neg (by simp [ex]), i2]
        · show backAll j (xs.map rowOf) (if x.n = j then _ else pu) = _
          rw [if_neg e, i3]
theorem refusal_stop {purse : List Int} {l : List Jb} {j : Int} : refusal purse (l.map rowOf) (.stop j) = if (placeJ j l).isSome = true then ("done" : Str) else ("no job" : Str) := by
  cases q : placeJ j l with
  | none =>
    rw [ref_stop_no]
    · rfl
    · intro z
      obtain ⟨r, hr, e⟩ := List.mem_map.mp z
      obtain ⟨x, hx, rfl⟩ := List.mem_map.mp hr
      exact placeJ_none q x hx e
  | some y =>
    obtain ⟨h1, h2, h3⟩ := placeJ_some q
    rw [ref_stop_yes]
    · rfl
    · exact List.mem_map.mpr ⟨rowOf y.2, List.mem_map.mpr ⟨y.2, List.mem_of_getElem? h1, rfl⟩, h2⟩
/-! ### the two presses go together -/
theorem tick_rest {P : Pl} {a b : Int} (c : 0 < P.resting) (e : heat P = (a, b)) : tickP P = { P with hot := a, resting := b } := by
  unfold tickP heated
  rw [if_pos c, e]
theorem tick_idle {P : Pl} {a b : Int} (c : ¬ 0 < P.resting) (e : heat P = (a, b)) (hj : P.jobs = []) : tickP P = { P with hot := a, resting := b } := by
  unfold tickP heated pageP
  rw [if_neg c, e]
  dsimp only
  rw [hj]
theorem tick_page {P : Pl} {a b : Int} {j : Jb} {js : List Jb} (c : ¬ 0 < P.resting) (e : heat P = (a, b)) (hj : P.jobs = j :: js) :
    tickP P = ⟨P.limit, P.pause, P.purse, P.pr.set j.o.toNat (P.pr.getD j.o.toNat 0 + 1), (if j.p - (j.k + 1) = 0 then js else ⟨j.n, j.o, j.p, j.k + 1⟩ :: js), P.sent, a, b⟩ := by
  unfold tickP heated pageP
  rw [if_neg c, e]
  dsimp only
  rw [hj]
theorem ln_eq {l p s x x' q q' : Int} {u : List Int} {r r' : List Rw} (er : r = r') (e : x = x') (eq : q = q') : (⟨l, p, u, r, s, x, q⟩ : Ln) = ⟨l, p, u, r', s, x', q'⟩ := by
  rw [er, e, eq]
/-- the row after a page of its first job -/
theorem page_rows {j : Jb} {js : List Jb} (hj : 1 ≤ j.p - j.k) : (if j.p - (j.k + 1) = 0 then js else ⟨j.n, j.o, j.p, j.k + 1⟩ :: js : List Jb).map rowOf = step1 ((j :: js).map rowOf) := by
  show _ = step1 (rowOf j :: js.map rowOf)
  rw [step1_cons]
  by_cases e : j.p - (j.k + 1) = 0
  · rw [if_pos e, if_neg (show ¬ 1 < (rowOf j).2.2 from by show ¬ 1 < j.p - j.k; omega)]
  · rw [if_neg e, if_pos (show 1 < (rowOf j).2.2 from by show 1 < j.p - j.k; omega)]
    show (j.n, j.o, j.p - (j.k + 1)) :: js.map rowOf = (j.n, j.o, j.p - j.k - 1) :: js.map rowOf
    rw [show j.p - (j.k + 1) = j.p - j.k - 1 from by omega]
theorem page_jobs {P : Pl} (h : POk P) {j : Jb} {js : List Jb} (hj : P.jobs = j :: js) (x : Jb) (hx : x ∈ (if j.p - (j.k + 1) = 0 then js else ⟨j.n, j.o, j.p, j.k + 1⟩ :: js : List Jb)) : (1 ≤ x.p - x.k) ∧ (0 ≤ x.o ∧ x.o < (P.purse.length : Int)) ∧ x.n < P.sent := by
  have old : ∀ y, y ∈ j :: js → (1 ≤ y.p - y.k) ∧ (0 ≤ y.o ∧ y.o < (P.purse.length : Int)) ∧ y.n < P.sent := fun y hy => ⟨h.lef y (hj ▸ hy), h.own y (hj ▸ hy), h.old y (hj ▸ hy)⟩
  by_cases e : j.p - (j.k + 1) = 0
  · rw [if_pos e] at hx
    exact old x (List.mem_cons_of_mem _ hx)
  · rw [if_neg e] at hx
    rcases List.mem_cons.mp hx with z | z
    · have q := old j List.mem_cons_self
      rw [z]
      exact ⟨by show 1 ≤ j.p - (j.k + 1); omega, q.2⟩
    · exact old x (List.mem_cons_of_mem _ z)
theorem page_ok {P : Pl} (h : POk P) {j : Jb} {js : List Jb} (hj : P.jobs = j :: js) {a b : Int} (q1 : 0 ≤ b) (q2 : 0 < b → a = P.limit) (q3 : b = 0 → a < P.limit) :
    POk ⟨P.limit, P.pause, P.purse, P.pr.set j.o.toNat (P.pr.getD j.o.toNat 0 + 1), (if j.p - (j.k + 1) = 0 then js else ⟨j.n, j.o, j.p, j.k + 1⟩ :: js), P.sent, a, b⟩ := by
  refine ⟨h.lim, h.pau, q1, q2, q3, fun x hx => (page_jobs h hj x hx).1, fun x hx => (page_jobs h hj x hx).2.1, (List.length_set ..).trans h.prl, ?_, fun x hx => (page_jobs h hj x hx).2.2⟩
  have nd := h.num
  rw [hj] at nd
  show ((if j.p - (j.k + 1) = 0 then js else ⟨j.n, j.o, j.p, j.k + 1⟩ :: js : List Jb).map (·.n)).Nodup
  split
  · exact (List.nodup_cons.mp nd).2
  · exact nd
theorem tick_sim {P : Pl} (h : POk P) : toLn (tickP P) = tickL (toLn P) ∧ POk (tickP P) := by
  have hlim := h.lim
  have hres := h.res
  by_cases c : 0 < P.resting
  · have tl : tickL (toLn P) = { toLn P with resting := P.resting - 1 } := if_pos c
    by_cases c1 : 1 < P.resting
    · rw [tick_rest c ((if_pos c).trans (if_pos c1)), tl]
      exact ⟨ln_eq rfl ((if_pos (show 0 < P.resting - 1 by omega)).trans (if_pos c).symm) rfl, h.lim, h.pau, by show 0 ≤ P.resting - 1; omega, fun _ => h.rhot c, fun z => absurd (show P.resting - 1 = 0 from z) (by omega), h.lef, h.own, h.prl, h.num, h.old⟩
    · rw [tick_rest c ((if_pos c).trans (if_neg c1)), tl]
      exact ⟨ln_eq rfl ((if_neg (by show ¬ (0 : Int) < 0; decide)).trans (if_pos c).symm) (by show 0 = P.resting - 1; omega), h.lim, h.pau, by show (0 : Int) ≤ 0; decide, fun z => absurd (show (0 : Int) < 0 from z) (by decide), fun _ => by show 0 < P.limit; omega, h.lef, h.own, h.prl, h.num, h.old⟩
  · have r0 : P.resting = 0 := by omega
    have hl := h.hot r0
    have th : (toLn P).hot = P.hot := if_neg c
    cases hj : P.jobs with
    | nil =>
      have tl : tickL (toLn P) = { toLn P with hot := 0 } := (if_neg c).trans (if_pos (by show P.jobs.map rowOf = []; rw [hj]; rfl))
      rw [tick_idle c ((if_neg c).trans (if_pos (by rw [hj]; rfl))) hj, tl]
      exact ⟨ln_eq rfl (if_neg (by show ¬ (0 : Int) < 0; decide)) r0.symm, h.lim, h.pau, by show (0 : Int) ≤ 0; decide, fun z => absurd (show (0 : Int) < 0 from z) (by decide), fun _ => by show 0 < P.limit; omega, h.lef, h.own, h.prl, h.num, h.old⟩
    | cons j js =>
      have hl1 : 1 ≤ j.p - j.k := h.lef j (by rw [hj]; exact List.mem_cons_self)
      have ne : ¬ ((toLn P).rows = []) := by show ¬ (P.jobs.map rowOf = []); rw [hj]; exact fun z => nomatch z
      have e0 : ¬ (P.jobs.isEmpty = true) := by rw [hj]; exact fun z => nomatch z
      have rows : (if j.p - (j.k + 1) = 0 then js else ⟨j.n, j.o, j.p, j.k + 1⟩ :: js : List Jb).map rowOf = step1 (toLn P).rows := by
        rw [page_rows hl1]
        show _ = step1 (P.jobs.map rowOf)
        rw [hj]
      by_cases c1 : P.hot + 1 < P.limit
      · have tl : tickL (toLn P) = { toLn P with rows := step1 (toLn P).rows, hot := (toLn P).hot + 1 } := (if_neg c).trans ((if_neg ne).trans (if_neg (by rw [th]; show ¬ P.hot + 1 = P.limit; omega)))
        rw [tick_page c ((if_neg c).trans ((if_neg e0).trans (if_pos c1))) hj, tl]
        exact ⟨ln_eq rows ((if_neg (by show ¬ (0 : Int) < 0; decide)).trans (by rw [th])) r0.symm, page_ok h hj (by decide) (fun z => absurd z (by decide)) fun _ => c1⟩
      · have tl : tickL (toLn P) = { toLn P with rows := step1 (toLn P).rows, hot := 0, resting := P.pause } := (if_neg c).trans ((if_neg ne).trans (if_pos (by rw [th]; show P.hot + 1 = P.limit; omega)))
        by_cases c2 : 0 < P.pause
        · rw [tick_page c ((if_neg c).trans ((if_neg e0).trans ((if_neg c1).trans (if_pos c2)))) hj, tl]
          exact ⟨ln_eq rows (if_pos c2) rfl, page_ok h hj h.pau (fun _ => by omega) fun z => absurd z (by omega)⟩
        · have p0 : P.pause = 0 := by have := h.pau; omega
          rw [tick_page c ((if_neg c).trans ((if_neg e0).trans ((if_neg c1).trans (if_neg c2)))) hj, tl]
          exact ⟨ln_eq rows (if_neg (by show ¬ (0 : Int) < 0; decide)) p0.symm, page_ok h hj (by decide) (fun z => absurd z (by decide)) fun _ => by omega⟩
theorem tick_word (P : Pl) : (tickT P).head? = some (.str (tickW (toLn P))) := by
  unfold tickT tickW
  show _ = some (V.str (if 0 < P.resting then _ else if P.jobs.map rowOf = [] then _ else _))
  by_cases c : 0 < P.resting
  · rw [if_pos c, if_pos c]
    rfl
  · rw [if_neg c, if_neg c]
    cases P.jobs with
    | nil => rfl
    | cons j js => rfl
theorem run_sim : ∀ (n : Nat) {P : Pl}, POk P → toLn (runP n P) = runL n (toLn P) ∧ POk (runP n P) ∧ (runT n P).map (·.head?) = (runW n (toLn P)).map fun w => some (V.str w)
  | 0, P, h => ⟨rfl, h, rfl⟩
  | n + 1, P, h => by
    obtain ⟨t1, t2⟩ := tick_sim h
    obtain ⟨i1, i2, i3⟩ := run_sim n t2
    refine ⟨?_, i2, ?_⟩
    · show toLn (runP n (tickP P)) = runL n (tickL (toLn P))
      rw [i1, t1]
    · show (tickT P).head? :: (runT n (tickP P)).map (·.head?) = some (V.str (tickW (toLn P))) :: _
      rw [tick_word, i3, t1]
def isPage (t : List V) : Bool := t.head? == some (.str "page")
theorem run_count (n : Nat) {P : Pl} (h : POk P) : (runT n P).countP isPage = countPage (runW n (toLn P)) := by
  have e := (run_sim n h).2.2
  unfold countPage isPage
  have a : (runT n P).countP (fun t => t.head? == some (V.str "page")) = ((runT n P).map (·.head?)).countP (fun x => x == some (V.str "page")) := by
    rw [List.countP_map]
    rfl
  rw [a, e, List.countP_map]
  refine List.countP_congr fun w _ => ?_
  show (some (V.str w) == some (V.str "page")) = true ↔ (w == "page") = true
  simp
theorem pl_few_tick {P : Pl} : (tickP P).jobs.length ≤ P.jobs.length := by
  unfold tickP
  split
  · exact Nat.le_refl _
  · unfold pageP
    have e : (heated P).jobs = P.jobs := rfl
    split
    · rw [e]; exact Nat.le_refl _
    · rename_i j js q
      rw [e] at q
      rw [q]
      dsimp only
      split <;> simp
theorem pl_few_run : ∀ (n : Nat) {P : Pl}, (runP n P).jobs.length ≤ P.jobs.length
  | 0, _ => Nat.le_refl _
  | n + 1, P => Nat.le_trans (pl_few_run n (P := tickP P)) pl_few_tick
theorem pl_purse_tick {P : Pl} : (tickP P).purse = P.purse := by
  unfold tickP
  split
  · rfl
  · unfold pageP
    split <;> rfl
theorem pl_purse_run : ∀ (n : Nat) {P : Pl}, (runP n P).purse = P.purse
  | 0, _ => rfl
  | n + 1, P => (pl_purse_run n (P := tickP P)).trans pl_purse_tick
/-- a deed: the two lanes go together -/
theorem step_sim {P : Pl} (h : POk P) (d : Deed) : toLn (stepP P d) = ansL (toLn P) d ∧ POk (stepP P d) ∧ (stepP P d).jobs.length ≤ P.jobs.length + 1 ∧ (stepP P d).purse.length = P.purse.length := by
  cases d with
  | run m => exact ⟨(run_sim _ h).1, (run_sim _ h).2.1, Nat.le_succ_of_le (pl_few_run _), congrArg List.length (pl_purse_run _)⟩
  | send o p =>
    show toLn (if refusal P.purse (P.jobs.map rowOf) (.send o p) = "done" then sendP P o p else P) = (if refusal P.purse (P.jobs.map rowOf) (.send o p) = "done" then _ else toLn P) ∧ POk (if refusal P.purse (P.jobs.map rowOf) (.send o p) = "done" then sendP P o p else P) ∧
      (if refusal P.purse (P.jobs.map rowOf) (.send o p) = "done" then sendP P o p else P).jobs.length ≤ _ ∧ (if refusal P.purse (P.jobs.map rowOf) (.send o p) = "done" then sendP P o p else P).purse.length = _
    by_cases e : refusal P.purse (P.jobs.map rowOf) (.send o p) = "done"
    · rw [if_pos e, if_pos e]
      have c : ¬ (o < 0 ∨ (P.purse.length : Int) ≤ o) := fun c => by rw [ref_send_no c] at e; exact absurd e (by decide +kernel)
      rw [ref_send_yes c] at e
      have c1 : ¬ p < 1 := fun c1 => by rw [if_pos c1] at e; exact absurd e (by decide +kernel)
      refine ⟨?_, ⟨h.lim, h.pau, h.res, h.rhot, h.hot, fun j hj => ?_, fun j hj => ?_, ?_, ?_, fun j hj => ?_⟩, ?_, List.length_set⟩
      · show (⟨P.limit, P.pause, _, (P.jobs ++ [(⟨P.sent, o, p, 0⟩ : Jb)]).map rowOf, P.sent + 1, _, P.resting⟩ : Ln) = _
        rw [List.map_append]
        show (⟨P.limit, P.pause, _, P.jobs.map rowOf ++ [(P.sent, o, p - 0)], P.sent + 1, _, P.resting⟩ : Ln) = _
        rw [Int.sub_zero]
        rfl
      · rcases List.mem_append.mp hj with z | z
        · exact h.lef j z
        · have z' : j = ⟨P.sent, o, p, 0⟩ := by simpa using z
          rw [z']
          show 1 ≤ p - 0
          omega
      · show 0 ≤ j.o ∧ j.o < ((P.purse.set o.toNat _).length : Int)
        rw [List.length_set]
        rcases List.mem_append.mp hj with z | z
        · exact h.own j z
        · have z' : j = ⟨P.sent, o, p, 0⟩ := by simpa using z
          rw [z']
          show 0 ≤ o ∧ o < _
          omega
      · show P.pr.length = (P.purse.set o.toNat _).length
        rw [List.length_set]
        exact h.prl
      · show ((P.jobs ++ [(⟨P.sent, o, p, 0⟩ : Jb)]).map (·.n)).Nodup
        rw [List.map_append]
        refine List.nodup_append.mpr ⟨h.num, by simp, fun a ha b hb => ?_⟩
        obtain ⟨j, hj, rfl⟩ := List.mem_map.mp ha
        have : b = P.sent := by simpa using hb
        have := h.old j hj
        omega
      · show j.n < P.sent + 1
        rcases List.mem_append.mp hj with z | z
        · have := h.old j z
          omega
        · have z' : j = ⟨P.sent, o, p, 0⟩ := by simpa using z
          rw [z']
          show P.sent < P.sent + 1
          omega
      · show (P.jobs ++ [_]).length ≤ _
        rw [List.length_append]
        exact Nat.le_refl _
    · rw [if_neg e, if_neg e]
      exact ⟨rfl, h, Nat.le_succ _, rfl⟩
  | grant o m =>
    show toLn (if refusal P.purse (P.jobs.map rowOf) (.grant o m) = "done" then grantP P o m else P) = (if refusal P.purse (P.jobs.map rowOf) (.grant o m) = "done" then _ else toLn P) ∧ POk (if refusal P.purse (P.jobs.map rowOf) (.grant o m) = "done" then grantP P o m else P) ∧
      (if refusal P.purse (P.jobs.map rowOf) (.grant o m) = "done" then grantP P o m else P).jobs.length ≤ _ ∧ (if refusal P.purse (P.jobs.map rowOf) (.grant o m) = "done" then grantP P o m else P).purse.length = _
    by_cases e : refusal P.purse (P.jobs.map rowOf) (.grant o m) = "done"
    · rw [if_pos e, if_pos e]
      refine ⟨rfl, ⟨h.lim, h.pau, h.res, h.rhot, h.hot, h.lef, fun j hj => ?_, ?_, h.num, h.old⟩, Nat.le_succ _, List.length_set⟩
      · show 0 ≤ j.o ∧ j.o < ((P.purse.set o.toNat _).length : Int)
        rw [List.length_set]
        exact h.own j hj
      · show P.pr.length = (P.purse.set o.toNat _).length
        rw [List.length_set]
        exact h.prl
    · rw [if_neg e, if_neg e]
      exact ⟨rfl, h, Nat.le_succ _, rfl⟩
  | stop j =>
    show toLn (match placeJ j P.jobs with | some y => stopP P y.1 y.2 | none => P) = (if refusal P.purse (P.jobs.map rowOf) (.stop j) = "done" then _ else toLn P) ∧ POk (match placeJ j P.jobs with | some y => stopP P y.1 y.2 | none => P) ∧ _ ∧ _
    rw [refusal_stop]
    cases q : placeJ j P.jobs with
    | none =>
      have e : (stepP P (.stop j)) = P := by
        show (match placeJ j P.jobs with | some y => stopP P y.1 y.2 | none => P) = P
        rw [q]
      rw [e]
      refine ⟨?_, h, Nat.le_succ _, rfl⟩
      rw [if_neg]
      · decide +kernel
    | some y =>
      have e : (stepP P (.stop j)) = stopP P y.1 y.2 := by
        show (match placeJ j P.jobs with | some y => stopP P y.1 y.2 | none => P) = _
        rw [q]
      rw [e]
      obtain ⟨r1, r2, r3⟩ := stop_rows h.num q
      have sub : ∀ x ∈ P.jobs.eraseIdx y.1, x ∈ P.jobs := fun x hx => List.mem_of_mem_eraseIdx hx
      refine ⟨?_, ⟨h.lim, h.pau, h.res, h.rhot, h.hot, fun x hx => h.lef x (sub x hx), fun x hx => ?_, ?_, ?_, fun x hx => h.old x (sub x hx)⟩, ?_, List.length_set⟩
      · rw [if_pos (show (if (some y).isSome = true then ("done" : Str) else ("no job" : Str)) = ("done" : Str) from rfl)]
        show (⟨P.limit, P.pause, P.purse.set _ _, (P.jobs.eraseIdx y.1).map rowOf, P.sent, _, P.resting⟩ : Ln) = ⟨P.limit, P.pause, backAll j (P.jobs.map rowOf) P.purse, (P.jobs.map rowOf).filter (fun r => decide (r.1 ≠ j)), P.sent, _, P.resting⟩
        rw [r1, r3]
        rfl
      · show 0 ≤ x.o ∧ x.o < ((P.purse.set _ _).length : Int)
        rw [List.length_set]
        exact h.own x (sub x hx)
      · show P.pr.length = (P.purse.set _ _).length
        rw [List.length_set]
        exact h.prl
      · show ((P.jobs.eraseIdx y.1).map (·.n)).Nodup
        exact List.Nodup.sublist ((List.eraseIdx_sublist _ _).map _) h.num
      · exact Nat.le_succ_of_le (List.length_eraseIdx_le _ _)
/-! ### a day -/
def P0 (lim pz : Int) (bs : List Int) : Pl := ⟨lim, pz, bs, List.replicate bs.length 0, [], 0, 0, 0⟩
/-! the day as the program has it -/
def endP : Pl → List Deed → Pl
  | L, [] => L
  | L, d :: ds => endP (stepP L d) ds
theorem endP_snoc : ∀ (L : Pl) (ds : List Deed) (d : Deed), endP L (ds ++ [d]) = stepP (endP L ds) d
  | _, [], _ => rfl
  | L, x :: ds, d => endP_snoc (stepP L x) ds d
theorem P0_ok {lim pz : Int} {bs : List Int} (h1 : 1 ≤ lim) (h2 : 0 ≤ pz) : POk (P0 lim pz bs) :=
  ⟨h1, h2, by show (0 : Int) ≤ 0; omega, fun z => absurd (show (0 : Int) < 0 from z) (by omega), fun _ => by show (0 : Int) < lim; omega, fun _ z => (by cases z), fun _ z => (by cases z), List.length_replicate, List.nodup_nil, fun _ z => (by cases z)⟩
theorem end_sim : ∀ (ds : List Deed) {L : Pl}, POk L → toLn (endP L ds) = endL (toLn L) ds ∧ POk (endP L ds) ∧ (endP L ds).jobs.length ≤ L.jobs.length + ds.length ∧ (endP L ds).purse.length = L.purse.length
  | [], L, h => ⟨rfl, h, Nat.le_refl _, rfl⟩
  | d :: ds, L, h => by
    obtain ⟨s1, s2, s3, s4⟩ := step_sim h d
    obtain ⟨i1, i2, i3, i4⟩ := end_sim ds s2
    refine ⟨?_, i2, ?_, i4.trans s4⟩
    · show toLn (endP (stepP L d) ds) = endL (ansL (toLn L) d) ds
      rw [i1, s1]
    · show (endP (stepP L d) ds).jobs.length ≤ L.jobs.length + (ds.length + 1)
      omega
theorem take_snoc {α : Type} : ∀ {l : List α} {i : Nat} {x : α}, l[i]? = some x → l.take (i + 1) = l.take i ++ [x]
  | [], _, _, e => by simp at e
  | y :: ys, 0, x, e => by
    have : y = x := by simpa using e
    rw [this]
    rfl
  | y :: ys, i + 1, x, e => congrArg (y :: ·) (take_snoc (l := ys) (i := i) (by simpa using e))
/-- the ticks that a deed tells -/
def tkOf (L : Pl) : Deed → List (List V)
  | .run m => runT m.toNat L
  | _ => []
def diaT : Pl → List Deed → List (List V)
  | _, [] => []
  | L, d :: ds => tkOf L d ++ diaT (stepP L d) ds
/-- what a tick looks like -/
def TShape (t : List V) : Prop := t = [.str "rest"] ∨ t = [.str "idle"] ∨ ∃ a b : Int, t = [.str "page", .int a, .int b]
/-! ### on the heap -/
def jobF (j : Jb) : List (Str × V) := [("number", .int j.n), ("owner", .int j.o), ("pages", .int j.p), ("printed", .int j.k)]
def laneF (P : Pl) (qb qp qr : Addr) : List (Str × V) := [("limit", .int P.limit), ("pause", .int P.pause), ("budgets", .ref qb), ("printed", .ref qp), ("row", .ref qr), ("sent", .int P.sent), ("hot", .int P.hot), ("resting", .int P.resting)]
def JobsAt (C : Addr) (H : Hp) : List Addr → List Jb → Prop
  | [], [] => True
  | a :: as, j :: js => (∃ dx, H a = some (.ins C dx (jobF j))) ∧ JobsAt C H as js
  | _, _ => False
section
variable {C : Addr} {H H' : Hp}
theorem JobsAt.keep : ∀ {as : List Addr} {js : List Jb}, JobsAt C H as js → (∀ a ∈ as, ∀ o, H a = some o → H' a = some o) → JobsAt C H' as js
  | [], [], _, _ => trivial
  | a :: as, j :: js, h, k => ⟨let ⟨dx, e⟩ := h.1; ⟨dx, k a (by simp) _ e⟩, JobsAt.keep h.2 fun b hb => k b (by simp [hb])⟩
  | [], _ :: _, h, _ => h.elim
  | _ :: _, [], h, _ => h.elim
theorem JobsAt.len : ∀ {as : List Addr} {js : List Jb}, JobsAt C H as js → as.length = js.length
  | [], [], _ => rfl
  | a :: as, j :: js, h => congrArg (· + 1) (JobsAt.len h.2)
  | [], _ :: _, h => h.elim
  | _ :: _, [], h => h.elim
theorem JobsAt.mem : ∀ {as : List Addr} {js : List Jb} {a : Addr}, JobsAt C H as js → a ∈ as → ∃ dx j, H a = some (.ins C dx (jobF j)) ∧ j ∈ js
  | [], _, _, _, z => by cases z
  | b :: as, j :: js, a, h, z => by
    rcases List.mem_cons.mp z with e | e
    · obtain ⟨dx, q⟩ := h.1
      exact ⟨dx, j, by rw [e]; exact q, by simp⟩
    · obtain ⟨dx, j', q, m⟩ := JobsAt.mem h.2 e
      exact ⟨dx, j', q, by simp [m]⟩
  | _ :: _, [], _, h, _ => h.elim
theorem JobsAt.get : ∀ {as : List Addr} {js : List Jb} {i : Nat} {a : Addr}, JobsAt C H as js → as[i]? = some a → ∃ dx j, H a = some (.ins C dx (jobF j)) ∧ js[i]? = some j
  | [], _, _, _, _, z => by simp at z
  | b :: as, j :: js, 0, a, h, z => by
    have e : b = a := by simpa using z
    obtain ⟨dx, q⟩ := h.1
    exact ⟨dx, j, e ▸ q, rfl⟩
  | b :: as, j :: js, i + 1, a, h, z => by
    obtain ⟨dx, j', q, m⟩ := JobsAt.get (i := i) h.2 (by simpa using z)
    exact ⟨dx, j', q, by simpa using m⟩
  | _ :: _, [], _, _, h, _ => h.elim
theorem JobsAt.snoc {a : Addr} {j : Jb} (e : ∃ dx, H a = some (.ins C dx (jobF j))) : ∀ {as : List Addr} {js : List Jb}, JobsAt C H as js → JobsAt C H (as ++ [a]) (js ++ [j])
  | [], [], _ => ⟨e, trivial⟩
  | b :: as, k :: js, h => ⟨h.1, JobsAt.snoc e h.2⟩
  | [], _ :: _, h => h.elim
  | _ :: _, [], h => h.elim
theorem JobsAt.erase : ∀ {as : List Addr} {js : List Jb} (i : Nat), JobsAt C H as js → JobsAt C H (as.eraseIdx i) (js.eraseIdx i)
  | [], [], _, _ => trivial
  | b :: as, k :: js, 0, h => h.2
  | b :: as, k :: js, i + 1, h => ⟨h.1, JobsAt.erase i h.2⟩
  | [], _ :: _, _, h => h.elim
  | _ :: _, [], _, h => h.elim
end
/-- the lane stands at l; B: what stands beside it -/
structure LaneX (CL CJ : Addr) (B H : Hp) (l dx qb qp qr : Addr) (js : List Addr) (P : Pl) : Prop where
  la : H l = some (.ins CL dx (laneF P qb qp qr))
  bu : H qb = some (.lst (P.purse.map V.int))
  pi : H qp = some (.lst (P.pr.map V.int))
  ro : H qr = some (.lst (js.map V.ref))
  jo : JobsAt CJ H js P.jobs
  nd : js.Nodup
  n1 : qb ≠ qp
  n2 : qb ≠ qr
  n3 : qp ≠ qr
  nb : ∀ x ∈ l :: qb :: qp :: qr :: js, B x = none
  sa : Same B H
inductive LaneP (CL CJ : Addr) (B H : Hp) (l : Addr) (P : Pl) : Prop
  | mk (dx qb qp qr : Addr) (js : List Addr) (X : LaneX CL CJ B H l dx qb qp qr js P)
section
variable {CL CJ : Addr} {B B' H H' : Hp} {l dx qb qp qr : Addr} {js : List Addr} {P : Pl}
theorem LaneX.len (h : LaneX CL CJ B H l dx qb qp qr js P) : js.length = P.jobs.length := h.jo.len
theorem LaneX.lq {q : Addr} {xs : List V} (h : LaneX CL CJ B H l dx qb qp qr js P) (e : H q = some (.lst xs)) : l ≠ q := ne_of h.la e (by intro z; cases z)
theorem LaneX.jq {q a : Addr} {xs : List V} (h : LaneX CL CJ B H l dx qb qp qr js P) (e : H q = some (.lst xs)) (ha : a ∈ js) : a ≠ q := by
  obtain ⟨dx, j, q', _⟩ := h.jo.mem ha
  exact ne_of q' e (by intro z; cases z)
theorem LaneX.jl {a : Addr} (h : LaneX CL CJ B H l dx qb qp qr js P) (ha : a ∈ js) : a ≠ l := by
  obtain ⟨dx, j, q', _⟩ := h.jo.mem ha
  refine ne_of q' h.la fun z => ?_
  have e : jobF j = laneF P qb qp qr := by
    have := HO.ins.inj z
    exact this.2.2
  have := congrArg List.length e
  exact absurd this (by show ¬ (4 = 8); decide)
theorem LaneX.same (h : LaneX CL CJ B H l dx qb qp qr js P) (k : Same H H') : LaneX CL CJ B H' l dx qb qp qr js P :=
  ⟨k _ _ h.la, k _ _ h.bu, k _ _ h.pi, k _ _ h.ro, h.jo.keep fun a _ o e => k _ _ e, h.nd, h.n1, h.n2, h.n3, h.nb, h.sa.trans k⟩
theorem LaneX.weak (h : LaneX CL CJ B' H l dx qb qp qr js P) (k : Same B B') : LaneX CL CJ B H l dx qb qp qr js P :=
  ⟨h.la, h.bu, h.pi, h.ro, h.jo, h.nd, h.n1, h.n2, h.n3, fun x hx => k.free (h.nb x hx), k.trans h.sa⟩
inductive LaneMax (CL CJ : Addr) (B H : Hp) (l dx qb qp qr : Addr) (js : List Addr) (P : Pl) : Prop
  | mk (B' : Hp) (X : LaneX CL CJ B' H l dx qb qp qr js P) (s : Same B B') (t : ∀ b xs, H b = some (.tup xs) → B' b = some (.tup xs)) (o : ∀ b o, H b = some o → b ∉ l :: qb :: qp :: qr :: js → B' b = some o)
/-- everything beside it is beside it -/
theorem LaneX.max (h : LaneX CL CJ B H l dx qb qp qr js P) : LaneMax CL CJ B H l dx qb qp qr js P := by
  refine ⟨fun b => if b ∈ l :: qb :: qp :: qr :: js then none else H b, ⟨h.la, h.bu, h.pi, h.ro, h.jo, h.nd, h.n1, h.n2, h.n3, fun x hx => if_pos hx, fun b o e => ?_⟩, fun b o e => ?_, fun b xs e => ?_, fun b o e hb => (if_neg hb).trans e⟩
  · have e' : (if b ∈ l :: qb :: qp :: qr :: js then none else H b) = some o := e
    split at e'
    · cases e'
    · exact e'
  · refine (if_neg fun hb => ?_).trans (h.sa b o e)
    rw [h.nb b hb] at e
    cases e
  · refine (if_neg fun hb => ?_).trans e
    simp only [List.mem_cons] at hb
    rcases hb with z | z | z | z | z
    · rw [z, h.la] at e; cases e
    · rw [z, h.bu] at e; cases e
    · rw [z, h.pi] at e; cases e
    · rw [z, h.ro] at e; cases e
    · obtain ⟨dx, j, q', _⟩ := h.jo.mem z
      rw [q'] at e
      cases e
/-- another object is written: one that stands beside it -/
theorem LaneX.put {t : Addr} {o o' : HO} (h : LaneX CL CJ B H l dx qb qp qr js P) (e : B t = some o) : LaneX CL CJ (upd B t o') (upd H t o') l dx qb qp qr js P := by
  have ne : ∀ x ∈ l :: qb :: qp :: qr :: js, x ≠ t := fun x hx z => by
    have := h.nb x hx
    rw [z, e] at this
    cases this
  refine ⟨?_, ?_, ?_, ?_, h.jo.keep fun a ha o q => ?_, h.nd, h.n1, h.n2, h.n3, fun x hx => ?_, fun b o q => ?_⟩
  · rw [upd_ne (ne l (by simp))]; exact h.la
  · rw [upd_ne (ne qb (by simp))]; exact h.bu
  · rw [upd_ne (ne qp (by simp))]; exact h.pi
  · rw [upd_ne (ne qr (by simp))]; exact h.ro
  · rw [upd_ne (ne a (by simp [ha]))]; exact q
  · rw [upd_ne (ne x hx)]; exact h.nb x hx
  · by_cases z : b = t
    · rw [z, upd_same] at q ⊢; exact q
    · rw [upd_ne z] at q ⊢; exact h.sa _ _ q
/-- .. or a new one -/
theorem LaneX.new {t : Addr} {o' : HO} (h : LaneX CL CJ B H l dx qb qp qr js P) (e : H t = none) : LaneX CL CJ (upd B t o') (upd H t o') l dx qb qp qr js P := by
  have ne : ∀ x ∈ l :: qb :: qp :: qr :: js, x ≠ t := fun x hx z => by
    simp only [List.mem_cons] at hx
    rcases hx with y | y | y | y | y
    · have := h.la; rw [← y, z, e] at this; cases this
    · have := h.bu; rw [← y, z, e] at this; cases this
    · have := h.pi; rw [← y, z, e] at this; cases this
    · have := h.ro; rw [← y, z, e] at this; cases this
    · obtain ⟨dx, j, q', _⟩ := h.jo.mem y
      rw [z, e] at q'; cases q'
  refine ⟨?_, ?_, ?_, ?_, h.jo.keep fun a ha o q => ?_, h.nd, h.n1, h.n2, h.n3, fun x hx => ?_, fun b o q => ?_⟩
  · rw [upd_ne (ne l (by simp))]; exact h.la
  · rw [upd_ne (ne qb (by simp))]; exact h.bu
  · rw [upd_ne (ne qp (by simp))]; exact h.pi
  · rw [upd_ne (ne qr (by simp))]; exact h.ro
  · rw [upd_ne (ne a (by simp [ha]))]; exact q
  · rw [upd_ne (ne x hx)]; exact h.nb x hx
  · by_cases z : b = t
    · rw [z, upd_same] at q ⊢; exact q
    · rw [upd_ne z] at q ⊢; exact h.sa _ _ q
/-- its own fields -/
theorem LaneX.fld {fs : List (Str × V)} (h : LaneX CL CJ B H l dx qb qp qr js P) (sent hot resting : Int) (e : fs = laneF { P with sent := sent, hot := hot, resting := resting } qb qp qr) :
    LaneX CL CJ B (upd H l (.ins CL dx fs)) l dx qb qp qr js { P with sent := sent, hot := hot, resting := resting } := by
  subst e
  refine ⟨upd_same, ?_, ?_, ?_, h.jo.keep fun a ha o q => ?_, h.nd, h.n1, h.n2, h.n3, h.nb, same_upd h.sa (h.nb l (by simp)) _⟩
  · rw [upd_ne (h.lq h.bu).symm]; exact h.bu
  · rw [upd_ne (h.lq h.pi).symm]; exact h.pi
  · rw [upd_ne (h.lq h.ro).symm]; exact h.ro
  · rw [upd_ne (h.jl ha)]; exact q
theorem LaneX.bud {vs : List V} (h : LaneX CL CJ B H l dx qb qp qr js P) (pu : List Int) (e : vs = pu.map V.int) : LaneX CL CJ B (upd H qb (.lst vs)) l dx qb qp qr js { P with purse := pu } := by
  subst e
  refine ⟨?_, upd_same, ?_, ?_, h.jo.keep fun a ha o q => ?_, h.nd, h.n1, h.n2, h.n3, h.nb, same_upd h.sa (h.nb qb (by simp)) _⟩
  · rw [upd_ne (h.lq h.bu)]; exact h.la
  · rw [upd_ne h.n1.symm]; exact h.pi
  · rw [upd_ne h.n2.symm]; exact h.ro
  · rw [upd_ne (h.jq h.bu ha)]; exact q
theorem LaneX.prn {vs : List V} (h : LaneX CL CJ B H l dx qb qp qr js P) (pr : List Int) (e : vs = pr.map V.int) : LaneX CL CJ B (upd H qp (.lst vs)) l dx qb qp qr js { P with pr := pr } := by
  subst e
  refine ⟨?_, ?_, upd_same, ?_, h.jo.keep fun a ha o q => ?_, h.nd, h.n1, h.n2, h.n3, h.nb, same_upd h.sa (h.nb qp (by simp)) _⟩
  · rw [upd_ne (h.lq h.pi)]; exact h.la
  · rw [upd_ne h.n1]; exact h.bu
  · rw [upd_ne h.n3.symm]; exact h.ro
  · rw [upd_ne (h.jq h.pi ha)]; exact q
theorem LaneX.row {vs : List V} (h : LaneX CL CJ B H l dx qb qp qr js P) (as : List Addr) (jobs : List Jb) (e : vs = as.map V.ref) (jo : JobsAt CJ H as jobs) (nd : as.Nodup) (nb : ∀ x ∈ as, B x = none) :
    LaneX CL CJ B (upd H qr (.lst vs)) l dx qb qp qr as { P with jobs := jobs } := by
  subst e
  refine ⟨?_, ?_, ?_, upd_same, jo.keep fun a ha o q => ?_, nd, h.n1, h.n2, h.n3, fun x hx => ?_, same_upd h.sa (h.nb qr (by simp)) _⟩
  · rw [upd_ne (h.lq h.ro)]; exact h.la
  · rw [upd_ne h.n2]; exact h.bu
  · rw [upd_ne h.n3]; exact h.pi
  · obtain ⟨dy, j, q', _⟩ := jo.mem ha
    rw [upd_ne (ne_of q' h.ro (by intro z; cases z))]
    exact q
  · simp only [List.mem_cons] at hx
    rcases hx with z | z | z | z | z
    · exact h.nb x (by simp [z])
    · exact h.nb x (by simp [z])
    · exact h.nb x (by simp [z])
    · exact h.nb x (by simp [z])
    · exact nb x z
theorem LaneX.job0 {a : Addr} {as : List Addr} {j j' : Jb} {rest : List Jb} {dy : Addr} {fs : List (Str × V)} (h : LaneX CL CJ B H l dx qb qp qr (a :: as) P) (ej : P.jobs = j :: rest) (e : fs = jobF j') :
    LaneX CL CJ B (upd H a (.ins CJ dy fs)) l dx qb qp qr (a :: as) { P with jobs := j' :: rest } := by
  subst e
  have ha : a ∈ a :: as := by simp
  have jo := h.jo
  rw [ej] at jo
  have nd := List.nodup_cons.mp h.nd
  refine ⟨?_, ?_, ?_, ?_, ⟨⟨dy, upd_same⟩, jo.2.keep fun b hb o q => ?_⟩, h.nd, h.n1, h.n2, h.n3, h.nb, same_upd h.sa (h.nb a (by simp)) _⟩
  · rw [upd_ne (h.jl ha).symm]; exact h.la
  · rw [upd_ne (h.jq h.bu ha).symm]; exact h.bu
  · rw [upd_ne (h.jq h.pi ha).symm]; exact h.pi
  · rw [upd_ne (h.jq h.ro ha).symm]; exact h.ro
  · rw [upd_ne fun z => nd.1 (by rw [← z]; exact hb)]; exact q
theorem LaneX.p (h : LaneX CL CJ B H l dx qb qp qr js P) : LaneP CL CJ B H l P := ⟨dx, qb, qp, qr, js, h⟩
theorem LaneP.weak (h : LaneP CL CJ B' H l P) (k : Same B B') : LaneP CL CJ B H l P := let ⟨_, _, _, _, _, x⟩ := h; (x.weak k).p
theorem LaneP.sa (h : LaneP CL CJ B H l P) : Same B H := let ⟨_, _, _, _, _, x⟩ := h; x.sa
end
section
variable {P : Pl} {qb qp qr : Addr} {j : Jb}
theorem lf_limit : (laneF P qb qp qr).lookup ("limit" : Str) = some (.int P.limit) := by rfl
theorem lf_pause : (laneF P qb qp qr).lookup ("pause" : Str) = some (.int P.pause) := by rfl
theorem lf_budgets : (laneF P qb qp qr).lookup ("budgets" : Str) = some (.ref qb) := by rfl
theorem lf_printed : (laneF P qb qp qr).lookup ("printed" : Str) = some (.ref qp) := by rfl
theorem lf_row : (laneF P qb qp qr).lookup ("row" : Str) = some (.ref qr) := by rfl
theorem lf_sent : (laneF P qb qp qr).lookup ("sent" : Str) = some (.int P.sent) := by rfl
theorem lf_hot : (laneF P qb qp qr).lookup ("hot" : Str) = some (.int P.hot) := by rfl
theorem lf_resting : (laneF P qb qp qr).lookup ("resting" : Str) = some (.int P.resting) := by rfl
theorem pf_sent (y : Int) : putF "sent" (.int y) (laneF P qb qp qr) = laneF { P with sent := y } qb qp qr := by rfl
theorem pf_hot (y : Int) : putF "hot" (.int y) (laneF P qb qp qr) = laneF { P with hot := y } qb qp qr := by rfl
theorem pf_resting (y : Int) : putF "resting" (.int y) (laneF P qb qp qr) = laneF { P with resting := y } qb qp qr := by rfl
theorem jf_number : (jobF j).lookup ("number" : Str) = some (.int j.n) := by rfl
theorem jf_owner : (jobF j).lookup ("owner" : Str) = some (.int j.o) := by rfl
theorem jf_pages : (jobF j).lookup ("pages" : Str) = some (.int j.p) := by rfl
theorem jf_printed : (jobF j).lookup ("printed" : Str) = some (.int j.k) := by rfl
theorem pj_printed (y : Int) : putF "printed" (.int y) (jobF j) = jobF ⟨j.n, j.o, j.p, y⟩ := by rfl
end
end L3

/-! Two lanes of the program beside each other, and the rest of the heap beside both -/
namespace L3
open PySem PySem.Spec PyProof.Rows L2
section
variable {CL CJ : Addr} {B B' H H' : Hp} {l dx qb qp qr : Addr} {js : List Addr} {P : Pl}
theorem LaneX.there (h : LaneX CL CJ B H l dx qb qp qr js P) {x : Addr} (hx : x ∈ l :: qb :: qp :: qr :: js) : ∃ o, H x = some o ∧ ∀ xs, o ≠ .tup xs := by
  simp only [List.mem_cons] at hx
  rcases hx with z | z | z | z | z
  · exact ⟨_, (congrArg H z).trans h.la, fun _ y => nomatch y⟩
  · exact ⟨_, (congrArg H z).trans h.bu, fun _ y => nomatch y⟩
  · exact ⟨_, (congrArg H z).trans h.pi, fun _ y => nomatch y⟩
  · exact ⟨_, (congrArg H z).trans h.ro, fun _ y => nomatch y⟩
  · obtain ⟨dx, j, q', _⟩ := h.jo.mem z
    exact ⟨_, q', fun _ y => nomatch y⟩
theorem LaneX.move (h : LaneX CL CJ B H l dx qb qp qr js P) (k : ∀ x ∈ l :: qb :: qp :: qr :: js, ∀ o, H x = some o → H' x = some o) (nb : ∀ x ∈ l :: qb :: qp :: qr :: js, B' x = none) (sa : Same B' H') : LaneX CL CJ B' H' l dx qb qp qr js P :=
  ⟨k l (by simp) _ h.la, k qb (by simp) _ h.bu, k qp (by simp) _ h.pi, k qr (by simp) _ h.ro, h.jo.keep fun a ha o q => k a (by simp [ha]) o q, h.nd, h.n1, h.n2, h.n3, nb, sa⟩
end
inductive Two (CL CJ : Addr) (R H : Hp) (l1 : Addr) (P1 : Pl) (l2 : Addr) (P2 : Pl) : Prop
  | mk (B : Hp) (h1 : LaneP CL CJ B H l1 P1) (h2 : LaneP CL CJ R B l2 P2)
inductive Gone (CL CJ : Addr) (R H H' : Hp) (l1 : Addr) (P1 : Pl) (l2 : Addr) (P2 : Pl) : Prop
  | mk (R' : Hp) (T : Two CL CJ R' H' l1 P1 l2 P2) (c : ∀ b o, H' b = some o → (R b ≠ none ∨ H b = none ∨ ∃ xs, o = .tup xs) → R' b = some o)
section
variable {CL CJ : Addr} {R H H' : Hp} {l1 l2 : Addr} {P1 P1' P2 : Pl}
theorem Two.sa (h : Two CL CJ R H l1 P1 l2 P2) : Same R H := by
  obtain ⟨_, h1, h2⟩ := h
  exact h2.sa.trans h1.sa
theorem Two.swap (h : Two CL CJ R H l1 P1 l2 P2) : Two CL CJ R H l2 P2 l1 P1 := by
  obtain ⟨B, ⟨dx1, qb1, qp1, qr1, js1, X1⟩, ⟨dx2, qb2, qp2, qr2, js2, X2⟩⟩ := h
  have n21 : ∀ x ∈ l1 :: qb1 :: qp1 :: qr1 :: js1, ¬ x ∈ l2 :: qb2 :: qp2 :: qr2 :: js2 := fun x hx hy => by
    obtain ⟨o, e, _⟩ := X2.there hy
    rw [X1.nb x hx] at e
    cases e
  refine ⟨fun b => if b ∈ l2 :: qb2 :: qp2 :: qr2 :: js2 then none else H b, (X2.move (fun x _ o e => X1.sa x o e) (fun x hx => if_pos hx) (fun b o e => ?_)).p, (X1.move (fun x hx o e => (if_neg (n21 x hx)).trans e) (fun x hx => X2.sa.free (X1.nb x hx)) (fun b o e => ?_)).p⟩
  · have e' : (if b ∈ l2 :: qb2 :: qp2 :: qr2 :: js2 then none else H b) = some o := e
    split at e'
    · cases e'
    · exact e'
  · refine (if_neg fun hb => ?_).trans (X1.sa b o (X2.sa b o e))
    rw [X2.nb b hb] at e
    cases e
/-- everything outside the rest is kept: the two lanes are kept -/
theorem Two.go (h : Two CL CJ R H l1 P1 l2 P2) (k : ∀ b o, H b = some o → R b = none → H' b = some o) : Gone CL CJ R H H' l1 P1 l2 P2 := by
  obtain ⟨B, ⟨dx1, qb1, qp1, qr1, js1, X1⟩, ⟨dx2, qb2, qp2, qr2, js2, X2⟩⟩ := h
  have r1 : ∀ x ∈ l1 :: qb1 :: qp1 :: qr1 :: js1, R x = none := fun x hx => X2.sa.free (X1.nb x hx)
  have n12 : ∀ x ∈ l2 :: qb2 :: qp2 :: qr2 :: js2, ¬ x ∈ l1 :: qb1 :: qp1 :: qr1 :: js1 := fun x hx hy => by
    obtain ⟨o, e, _⟩ := X2.there hx
    rw [X1.nb x hy] at e
    cases e
  refine ⟨fun b => if b ∈ l1 :: qb1 :: qp1 :: qr1 :: js1 ∨ b ∈ l2 :: qb2 :: qp2 :: qr2 :: js2 then none else H' b,
    ⟨fun b => if b ∈ l1 :: qb1 :: qp1 :: qr1 :: js1 then none else H' b, (X1.move (fun x hx o e => k x o e (r1 x hx)) (fun x hx => if_pos hx) (fun b o e => ?_)).p,
      (X2.move (fun x hx o e => (if_neg (n12 x hx)).trans (k x o (X1.sa x o e) (X2.nb x hx))) (fun x hx => if_pos (.inr hx)) (fun b o e => ?_)).p⟩, fun b o e c => (if_neg fun z => ?_).trans e⟩
  · have e' : (if b ∈ l1 :: qb1 :: qp1 :: qr1 :: js1 then none else H' b) = some o := e
    split at e'
    · cases e'
    · exact e'
  · have e' : (if b ∈ l1 :: qb1 :: qp1 :: qr1 :: js1 ∨ b ∈ l2 :: qb2 :: qp2 :: qr2 :: js2 then none else H' b) = some o := e
    split at e'
    · cases e'
    · rename_i n
      exact (if_neg fun z => n (.inl z)).trans e'
  · have w : ∃ o', H b = some o' ∧ R b = none ∧ ∀ xs, o' ≠ .tup xs := by
      rcases z with z | z
      · obtain ⟨o', e1, e2⟩ := X1.there z
        exact ⟨o', e1, r1 b z, e2⟩
      · obtain ⟨o', e1, e2⟩ := X2.there z
        exact ⟨o', X1.sa b o' e1, X2.nb b z, e2⟩
    obtain ⟨o', e1, e2, nt⟩ := w
    have e3 := k b o' e1 e2
    rw [e] at e3
    cases e3
    rcases c with c | c | ⟨xs, c⟩
    · exact c e2
    · rw [e1] at c
      cases c
    · exact nt xs c
end
section
variable {CL CJ : Addr} {R H H' : Hp} {l1 l2 : Addr} {P1 P2 : Pl}
theorem Two.same (h : Two CL CJ R H l1 P1 l2 P2) (k : Same H H') : Two CL CJ R H' l1 P1 l2 P2 := by
  obtain ⟨B, ⟨dx, qb, qp, qr, js, X⟩, h2⟩ := h
  exact ⟨B, (X.same k).p, h2⟩
inductive Laid (CL CJ : Addr) (R H H' : Hp) (l1 : Addr) (P1 : Pl) (l2 : Addr) (P2 : Pl) : Prop
  | mk (R' : Hp) (T : Two CL CJ R' H' l1 P1 l2 P2) (s : Same R R') (n : ∀ b o, H' b = some o → H b = none → R' b = some o) (t : ∀ b xs, H' b = some (.tup xs) → R' b = some (.tup xs))
theorem Two.lay (h : Two CL CJ R H l1 P1 l2 P2) (k : Same H H') : Laid CL CJ R H H' l1 P1 l2 P2 := by
  obtain ⟨R', T, c⟩ := h.go (H' := H') fun b o e _ => k b o e
  exact ⟨R', T, fun b o e => c b o (k b o (h.sa b o e)) (.inl (by rw [e]; intro z; cases z)), fun b o e n => c b o e (.inr (.inl n)), fun b xs e => c b _ e (.inr (.inr ⟨xs, rfl⟩))⟩
end
/-! ### what is answered by hand -/
def refWords : List V := [.str "no owner", .str "no pages", .str "broke", .str "no job"]
/-- v is the word w as _law_as_due tells it -/
inductive AsAt (H : Hp) (v w : V) : Prop
  | yes (h : inV w refWords = true) (p : Addr) (e : v = .ref p) (hp : H p = some (.tup [.str "refused", w]))
  | no (h : inV w refWords = false) (e : v = w)
def AllAs (H : Hp) : List V → List V → Prop
  | [], [] => True
  | v :: vs, w :: ws => AsAt H v w ∧ AllAs H vs ws
  | _, _ => False
theorem AsAt.keep {H H' : Hp} {v w : V} (h : AsAt H v w) (k : ∀ b xs, H b = some (.tup xs) → H' b = some (.tup xs)) : AsAt H' v w := by
  cases h with
  | yes h p e hp => exact .yes h p e (k _ _ hp)
  | no h e => exact .no h e
theorem AllAs.keep {H H' : Hp} (k : ∀ b xs, H b = some (.tup xs) → H' b = some (.tup xs)) : ∀ {vs ws : List V}, AllAs H vs ws → AllAs H' vs ws
  | [], [], _ => trivial
  | _ :: _, _ :: _, h => ⟨h.1.keep k, AllAs.keep k h.2⟩
  | [], _ :: _, h => h.elim
  | _ :: _, [], h => h.elim
theorem AllAs.snoc {H : Hp} {v w : V} (hv : AsAt H v w) : ∀ {vs ws : List V}, AllAs H vs ws → AllAs H (vs ++ [v]) (ws ++ [w])
  | [], [], _ => ⟨hv, trivial⟩
  | _ :: _, _ :: _, h => ⟨h.1, AllAs.snoc hv h.2⟩
  | [], _ :: _, h => h.elim
  | _ :: _, [], h => h.elim
theorem AllAs.len {H : Hp} : ∀ {vs ws : List V}, AllAs H vs ws → vs.length = ws.length
  | [], [], _ => rfl
  | _ :: _, _ :: _, h => congrArg (· + 1) (AllAs.len h.2)
  | [], _ :: _, h => h.elim
  | _ :: _, [], h => h.elim
def asTr (w : V) : Tr := if inV w refWords = true then .tup [.str "refused", trV w] else trV w
theorem is_one {H : Hp} {v : V} (h : flat2 v = true) : Is H (trV v) v := by
  obtain ⟨x, r, e, h1, _⟩ := is_flat (H := H) (vs := [v]) (by simp [h])
  cases e
  exact h1
theorem AsAt.is {H : Hp} {v w : V} (h : AsAt H v w) (f : flat2 w = true) : Is H (asTr w) v := by
  unfold asTr
  cases h with
  | yes h p e hp =>
    rw [if_pos h]
    exact ⟨p, _, e, hp, _, _, rfl, rfl, _, _, rfl, is_one f, rfl⟩
  | no h e =>
    rw [if_neg (by rw [h]; exact Bool.false_ne_true), e]
    exact is_one f
theorem AllAs.is {H : Hp} : ∀ {vs ws : List V}, AllAs H vs ws → ws.all flat2 = true → IsL H (ws.map asTr) vs
  | [], [], _, _ => rfl
  | v :: vs, w :: ws, h, f => by
    rw [List.all_cons, Bool.and_eq_true] at f
    exact ⟨v, vs, rfl, h.1.is f.1, AllAs.is h.2 f.2⟩
  | [], _ :: _, h, _ => h.elim
  | _ :: _, [], h, _ => h.elim
theorem asTr_size (w : V) : (asTr w).size ≤ 3 := by
  have h : (trV w).size = 1 := by cases w <;> rfl
  unfold asTr
  split
  · show 1 + (1 + ((trV w).size + 0)) ≤ 3
    omega
  · omega
theorem sizes_as : ∀ ws : List V, sizes (ws.map asTr) ≤ 3 * ws.length
  | [] => Nat.le_refl _
  | w :: ws => by
    have h1 := asTr_size w
    have h2 := sizes_as ws
    show (asTr w).size + sizes (ws.map asTr) ≤ 3 * (ws.length + 1)
    omega
/-- what a lane may say to a deed -/
theorem ref_words (purse : List Int) (rows : List Rw) (d : Deed) : refusal purse rows d = "done" ∨ inV (.str (refusal purse rows d)) refWords = true := by
  cases d with
  | run m => exact .inl rfl
  | stop j =>
    by_cases c : j ∈ rows.map (·.1)
    · exact .inl (ref_stop_yes c)
    · rw [ref_stop_no c]
      exact .inr (by decide +kernel)
  | grant o m =>
    by_cases c : o < 0 ∨ (purse.length : Int) ≤ o
    · rw [ref_grant_no c]
      exact .inr (by decide +kernel)
    · exact .inl (ref_grant_yes c)
  | send o p =>
    by_cases c : o < 0 ∨ (purse.length : Int) ≤ o
    · rw [ref_send_no c]
      exact .inr (by decide +kernel)
    · rw [ref_send_yes c]
      split
      · exact .inr (by decide +kernel)
      · split
        · exact .inr (by decide +kernel)
        · exact .inl rfl
theorem ans_done {L : Ln} {d : Deed} (e : refusal L.purse L.rows d = "done") : inV (ansV L d) refWords = false := by
  cases d with
  | run m => rfl
  | stop j =>
    have : ansV L (.stop j) = .int ((L.rows.filter fun r => decide (r.1 = j)).map (·.2.2)).sum := if_pos e
    rw [this]
    rfl
  | grant o m =>
    have : ansV L (.grant o m) = .str "done" := congrArg V.str e
    rw [this]
    decide +kernel
  | send o p =>
    have : ansV L (.send o p) = .int L.sent := if_pos e
    rw [this]
    rfl
theorem ans_flat2 (L : Ln) (d : Deed) : flat2 (ansV L d) = true := by
  cases d with
  | run m => rfl
  | grant o m => rfl
  | stop j =>
    show flat2 (if refusal L.purse L.rows (.stop j) = "done" then V.int _ else V.str _) = true
    split <;> rfl
  | send o p =>
    show flat2 (if refusal L.purse L.rows (.send o p) = "done" then V.int _ else V.str _) = true
    split <;> rfl
theorem flat_of2 {v : V} (h : flat2 v = true) : flatV v = true := by
  cases v <;> first | rfl | cases h
/-! ### the rest: what stands still (F), the two reckonings, the lists due and told -/
structure Apart (F : Hp) (u t d1 q1 d2 q2 : Addr) : Prop where
  fu : F u = none
  ft : F t = none
  fd1 : F d1 = none
  fq1 : F q1 = none
  fd2 : F d2 = none
  fq2 : F q2 = none
  ut : u ≠ t
  uq1 : u ≠ q1
  uq2 : u ≠ q2
  tq1 : t ≠ q1
  tq2 : t ≠ q2
  qq : q1 ≠ q2
  dd : d1 ≠ d2
theorem Apart.swap {F : Hp} {u t d1 q1 d2 q2 : Addr} (A : Apart F u t d1 q1 d2 q2) : Apart F u t d2 q2 d1 q1 := ⟨A.fu, A.ft, A.fd2, A.fq2, A.fd1, A.fq1, A.ut, A.uq2, A.uq1, A.tq2, A.tq1, A.qq.symm, A.dd.symm⟩
theorem Apart.turn {F : Hp} {u t d1 q1 d2 q2 : Addr} (A : Apart F u t d1 q1 d2 q2) : Apart F t u d1 q1 d2 q2 := ⟨A.ft, A.fu, A.fd1, A.fq1, A.fd2, A.fq2, A.ut.symm, A.tq1, A.tq2, A.uq1, A.uq2, A.qq, A.dd⟩
/-- the part of it that two lists and two reckonings are -/
inductive Rest (F R : Hp) (u t d1 q1 d2 q2 : Addr) (dv tv : List V) (M1 M2 : Ln) : Prop
  | mk (a1 a2 : Addr) (sF : Same F R) (hu : R u = some (.lst dv)) (ht : R t = some (.lst tv)) (m1 : LaneAt R d1 q1 a1 M1) (m2 : LaneAt R d2 q2 a2 M2) (p1 : M1.purse ≠ []) (p2 : M2.purse ≠ []) (u0 : dv.head? = some (.int 0)) (t0 : tv.head? = some (.int 0))
section
variable {CL CJ : Addr} {F R H : Hp} {l1 l2 : Addr} {P1 P2 : Pl} {u t d1 q1 d2 q2 : Addr} {dv tv wv : List V} {M1 M2 : Ln}
theorem Rest.swap (Z : Rest F R u t d1 q1 d2 q2 dv tv M1 M2) : Rest F R u t d2 q2 d1 q1 dv tv M2 M1 := by
  obtain ⟨a1, a2, sF, hu, ht, m1, m2, p1, p2, u0, t0⟩ := Z
  exact ⟨a2, a1, sF, hu, ht, m2, m1, p2, p1, u0, t0⟩
theorem Rest.turn (Z : Rest F R u t d1 q1 d2 q2 dv tv M1 M2) : Rest F R t u d1 q1 d2 q2 tv dv M1 M2 := by
  obtain ⟨a1, a2, sF, hu, ht, m1, m2, p1, p2, u0, t0⟩ := Z
  exact ⟨a1, a2, sF, ht, hu, m1, m2, p1, p2, t0, u0⟩
theorem ne_rows {a : Addr} {rs : List Rw} (h : RowsAt R a rs) (hu : R u = some (.lst dv)) (u0 : dv.head? = some (.int 0)) : a ≠ u := by
  obtain ⟨ps, h1, _⟩ := h
  refine ne_of h1 hu fun z => ?_
  have e := HO.lst.inj z
  rw [← e] at u0
  cases ps with
  | nil => cases u0
  | cons p ps => cases u0
inductive Next (CL CJ : Addr) (F H' : Hp) (l1 : Addr) (P1 : Pl) (l2 : Addr) (P2 : Pl) (u t d1 q1 d2 q2 : Addr) (dv tv wv : List V) (M1 M2 : Ln) : Prop
  | mk (R' : Hp) (T : Two CL CJ R' H' l1 P1 l2 P2) (Z : Rest F R' u t d1 q1 d2 q2 dv tv M1 M2) (al : AllAs R' tv wv)
theorem Next.swap {H' : Hp} (N : Next CL CJ F H' l1 P1 l2 P2 u t d1 q1 d2 q2 dv tv wv M1 M2) : Next CL CJ F H' l1 P1 l2 P2 u t d2 q2 d1 q1 dv tv wv M2 M1 := by
  obtain ⟨R', T, Z, al⟩ := N
  exact ⟨R', T, Z.swap, al⟩
inductive Mine (CL CJ : Addr) (F H : Hp) (l1 : Addr) (P1 : Pl) (l2 : Addr) (P2 : Pl) (u t d1 q1 d2 q2 : Addr) (dv tv wv : List V) (M1 M2 : Ln) : Prop
  | mk (a : Addr) (l : LaneAt H d1 q1 a M1) (p : M1.purse ≠ []) (k : ∀ a' H' M', (∀ c o, H c = some o → c ≠ d1 → c ≠ q1 → H' c = some o) → (a' = a ∨ H a' = none) → LaneAt H' d1 q1 a' M' → M'.purse ≠ [] → Next CL CJ F H' l1 P1 l2 P2 u t d1 q1 d2 q2 dv tv wv M' M2)
/-- the law's lane of the first answers a deed -/
theorem Next.mine (A : Apart F u t d1 q1 d2 q2) (N : Next CL CJ F H l1 P1 l2 P2 u t d1 q1 d2 q2 dv tv wv M1 M2) : Mine CL CJ F H l1 P1 l2 P2 u t d1 q1 d2 q2 dv tv wv M1 M2 := by
  obtain ⟨R, T, ⟨a1, a2, sF, hu, ht, m1, m2, p1, p2, u0, t0⟩, al⟩ := N
  refine ⟨a1, m1.mono T.sa, p1, fun a' H' M' f ha l pm => ?_⟩
  have i1 : R d1 ≠ none := by rw [m1.di]; intro z; cases z
  have i2 : R q1 ≠ none := by rw [m1.pu]; intro z; cases z
  obtain ⟨R', T', c⟩ := T.go (H' := H') fun b o e n => f b o e (fun z => i1 (z ▸ n)) fun z => i2 (z ▸ n)
  have keep : ∀ b o, R b = some o → b ≠ d1 → b ≠ q1 → R' b = some o := fun b o e n1 n2 => c b o (f b o (T.sa b o e) n1 n2) (.inl (by rw [e]; intro z; cases z))
  have tups : ∀ b xs, H' b = some (.tup xs) → R' b = some (.tup xs) := fun b xs e => c b _ e (.inr (.inr ⟨xs, rfl⟩))
  have ktup : ∀ b xs, R b = some (.tup xs) → R' b = some (.tup xs) := fun b xs e => keep b _ e (ne_of e m1.di (by intro z; cases z)) (ne_of e m1.pu (by intro z; cases z))
  have ka : ∀ o, H' a' = some o → R' a' = some o := fun o e => c a' o e (ha.elim (fun z => .inl (by rw [z]; obtain ⟨ps, h, _⟩ := m1.ro; rw [h]; intro y; cases y)) fun z => .inr (.inl z))
  obtain ⟨ps2, r2, _⟩ := id m2.ro
  refine ⟨R', T', ⟨a', a2, fun b o e => keep b o (sF b o e) (fun z => by rw [z, A.fd1] at e; cases e) (fun z => by rw [z, A.fq1] at e; cases e), keep u _ hu (ne_of hu m1.di (by intro z; cases z)) A.uq1, keep t _ ht (ne_of ht m1.di (by intro z; cases z)) A.tq1,
    l.keep (fun o e => c d1 o e (.inl i1)) (fun o e => c q1 o e (.inl i2)) ka tups,
    m2.keep (fun o e => keep d2 o e A.dd.symm (ne_of m2.di m1.pu (by intro z; cases z))) (fun o e => keep q2 o e (ne_of m2.pu m1.di (by intro z; cases z)) A.qq.symm) (fun o e => keep a2 o e (ne_of r2 m1.di (by intro z; cases z)) (ne_lists m2.ro m1.pu p1)) ktup, pm, p2, u0, t0⟩, al.keep ktup⟩
/-- something is written at u, the first of the lists -/
theorem put_first (A : Apart F u t d1 q1 d2 q2) (T : Two CL CJ R H l1 P1 l2 P2) (Z : Rest F R u t d1 q1 d2 q2 dv tv M1 M2) (v : V) : ∃ R', Two CL CJ R' (upd H u (.lst (dv ++ [v]))) l1 P1 l2 P2 ∧ Rest F R' u t d1 q1 d2 q2 (dv ++ [v]) tv M1 M2 ∧ (∀ b xs, H b = some (.tup xs) → R' b = some (.tup xs)) := by
  obtain ⟨a1, a2, sF, hu, ht, m1, m2, p1, p2, u0, t0⟩ := Z
  have i1 : R u ≠ none := by rw [hu]; intro z; cases z
  have uH := T.sa _ _ hu
  obtain ⟨R', T', c⟩ := T.go (H' := upd H u (.lst (dv ++ [v]))) fun b o e n => by rw [upd_ne fun z : b = u => i1 (z ▸ n)]; exact e
  have keep : ∀ b o, R b = some o → b ≠ u → R' b = some o := fun b o e n1 => c b o (by rw [upd_ne n1]; exact T.sa b o e) (.inl (by rw [e]; intro z; cases z))
  have tups : ∀ b xs, H b = some (.tup xs) → R' b = some (.tup xs) := fun b xs e => c b _ (by rw [upd_ne (ne_of e uH (by intro z; cases z))]; exact e) (.inr (.inr ⟨xs, rfl⟩))
  have ktup : ∀ b xs, R b = some (.tup xs) → R' b = some (.tup xs) := fun b xs e => tups b xs (T.sa _ _ e)
  have one : ∀ {d q a : Addr} {M : Ln}, LaneAt R d q a M → u ≠ q → LaneAt R' d q a M := fun {d q a M} m n =>
    m.keep (fun o e => keep d o e (ne_of m.di hu (by intro z; cases z))) (fun o e => keep q o e n.symm) (fun o e => keep a o e (ne_rows m.ro hu u0)) ktup
  refine ⟨R', T', ⟨a1, a2, fun b o e => keep b o (sF b o e) (fun z => by rw [z, A.fu] at e; cases e), c u _ upd_same (.inl i1), keep t _ ht A.ut.symm, one m1 A.uq1, one m2 A.uq2, p1, p2, ?_, t0⟩, tups⟩
  cases dv with
  | nil => cases u0
  | cons x xs => exact u0
theorem Next.due (A : Apart F u t d1 q1 d2 q2) (N : Next CL CJ F H l1 P1 l2 P2 u t d1 q1 d2 q2 dv tv wv M1 M2) (v : V) : H u = some (.lst dv) ∧ Next CL CJ F (upd H u (.lst (dv ++ [v]))) l1 P1 l2 P2 u t d1 q1 d2 q2 (dv ++ [v]) tv wv M1 M2 := by
  obtain ⟨R, T, Z, al⟩ := N
  have hu : R u = some (.lst dv) := by
    obtain ⟨_, _, _, hu, _⟩ := Z
    exact hu
  obtain ⟨R', T', Z', k⟩ := put_first A T Z v
  exact ⟨T.sa _ _ hu, R', T', Z', al.keep fun b xs e => k b xs (T.sa _ _ e)⟩
theorem Next.told (A : Apart F u t d1 q1 d2 q2) (N : Next CL CJ F H l1 P1 l2 P2 u t d1 q1 d2 q2 dv tv wv M1 M2) {v w : V} (h : AsAt H v w) : H t = some (.lst tv) ∧ Next CL CJ F (upd H t (.lst (tv ++ [v]))) l1 P1 l2 P2 u t d1 q1 d2 q2 dv (tv ++ [v]) (wv ++ [w]) M1 M2 := by
  obtain ⟨R, T, Z, al⟩ := N
  have ht : R t = some (.lst tv) := by
    obtain ⟨_, _, _, _, ht, _⟩ := Z
    exact ht
  obtain ⟨R', T', Z', k⟩ := put_first A.turn T Z.turn v
  exact ⟨T.sa _ _ ht, R', T', Z'.turn, AllAs.snoc (h.keep k) (al.keep fun b xs e => k b xs (T.sa _ _ e))⟩
inductive Own (CL CJ : Addr) (F H : Hp) (l1 : Addr) (P1 : Pl) (l2 : Addr) (P2 : Pl) (u t d1 q1 d2 q2 : Addr) (dv tv wv : List V) (M1 M2 : Ln) : Prop
  | mk (B : Hp) (h : LaneP CL CJ B H l1 P1) (sF : Same F B) (k : ∀ H' P', LaneP CL CJ B H' l1 P' → Next CL CJ F H' l1 P' l2 P2 u t d1 q1 d2 q2 dv tv wv M1 M2)
/-- the first of the program's lanes is worked on -/
theorem Next.own (N : Next CL CJ F H l1 P1 l2 P2 u t d1 q1 d2 q2 dv tv wv M1 M2) : Own CL CJ F H l1 P1 l2 P2 u t d1 q1 d2 q2 dv tv wv M1 M2 := by
  obtain ⟨R, ⟨B, h1, h2⟩, Z, al⟩ := N
  have sF : Same F R := by
    obtain ⟨_, _, sF, _⟩ := id Z
    exact sF
  exact ⟨B, h1, sF.trans h2.sa, fun H' P' h => ⟨R, ⟨B, h, h2⟩, Z, al⟩⟩
theorem Next.flip (N : Next CL CJ F H l1 P1 l2 P2 u t d1 q1 d2 q2 dv tv wv M1 M2) : Next CL CJ F H l2 P2 l1 P1 u t d1 q1 d2 q2 dv tv wv M1 M2 := by
  obtain ⟨R, T, Z, al⟩ := N
  exact ⟨R, T.swap, Z, al⟩
/-- things are laid, nothing is written -/
theorem Next.same {H' : Hp} (N : Next CL CJ F H l1 P1 l2 P2 u t d1 q1 d2 q2 dv tv wv M1 M2) (k : Same H H') : Next CL CJ F H' l1 P1 l2 P2 u t d1 q1 d2 q2 dv tv wv M1 M2 := by
  obtain ⟨R, ⟨B, ⟨dx, qb, qp, qr, js, X⟩, h2⟩, Z, al⟩ := N
  exact ⟨R, ⟨B, (X.same k).p, h2⟩, Z, al⟩
theorem Next.sF (N : Next CL CJ F H l1 P1 l2 P2 u t d1 q1 d2 q2 dv tv wv M1 M2) : Same F H := by
  obtain ⟨R, T, ⟨_, _, sF, _⟩, al⟩ := N
  exact sF.trans T.sa
theorem Next.lists (N : Next CL CJ F H l1 P1 l2 P2 u t d1 q1 d2 q2 dv tv wv M1 M2) : H u = some (.lst dv) ∧ H t = some (.lst tv) ∧ AllAs H tv wv := by
  obtain ⟨R, T, ⟨_, _, _, hu, ht, _⟩, al⟩ := N
  exact ⟨T.sa _ _ hu, T.sa _ _ ht, al.keep fun b xs e => T.sa _ _ e⟩
end
end L3

namespace TwinA
open PySem
set_option simprocs false in
noncomputable def body (f : List Nat → Str) : Program := by
  refine (?k : ∀ y : Program, ((∀ (s : String) (l : List Nat), Str.ofString s = f l) → PySem.Challenge.pw_printlane_k07_by_hand = y) → Program) ?y ?h
  case k => exact fun y _ => y
  case h =>
    intro h
    delta PySem.Challenge.pw_printlane_k07_by_hand
    simp only [h "_wall" [nat_lit 95, nat_lit 119, nat_lit 97, nat_lit 108, nat_lit 108], h "k" [nat_lit 107], h "__name__" [nat_lit 95, nat_lit 95, nat_lit 110, nat_lit 97, nat_lit 109, nat_lit 101, nat_lit 95, nat_lit 95], h "printlane.errors" [nat_lit 112, nat_lit 114, nat_lit 105, nat_lit 110, nat_lit 116, nat_lit 108, nat_lit 97, nat_lit 110, nat_lit 101, nat_lit 46, nat_lit 101, nat_lit 114, nat_lit 114, nat_lit 111, nat_lit 114, nat_lit 115], h "LaneError" [nat_lit 76, nat_lit 97, nat_lit 110, nat_lit 101, nat_lit 69, nat_lit 114, nat_lit 114, nat_lit 111, nat_lit 114], h "ValueError" [nat_lit 86, nat_lit 97, nat_lit 108, nat_lit 117, nat_lit 101, nat_lit 69, nat_lit 114, nat_lit 114, nat_lit 111, nat_lit 114], h "NoOwner" [nat_lit 78, nat_lit 111, nat_lit 79, nat_lit 119, nat_lit 110, nat_lit 101, nat_lit 114], h "NoPages" [nat_lit 78, nat_lit 111, nat_lit 80, nat_lit 97, nat_lit 103, nat_lit 101, nat_lit 115], h "Broke" [nat_lit 66, nat_lit 114, nat_lit 111, nat_lit 107, nat_lit 101], h "NoJob" [nat_lit 78, nat_lit 111, nat_lit 74, nat_lit 111, nat_lit 98], h "printlane.rests" [nat_lit 112, nat_lit 114, nat_lit 105, nat_lit 110, nat_lit 116, nat_lit 108, nat_lit 97, nat_lit 110, nat_lit 101, nat_lit 46, nat_lit 114, nat_lit 101, nat_lit 115, nat_lit 116, nat_lit 115], h "ticked" [nat_lit 116, nat_lit 105, nat_lit 99, nat_lit 107, nat_lit 101, nat_lit 100], h "limit" [nat_lit 108, nat_lit 105, nat_lit 109, nat_lit 105, nat_lit 116], h "pause" [nat_lit 112, nat_lit 97, nat_lit 117, nat_lit 115, nat_lit 101], h "hot" [nat_lit 104, nat_lit 111, nat_lit 116], h "resting" [nat_lit 114, nat_lit 101, nat_lit 115, nat_lit 116, nat_lit 105, nat_lit 110, nat_lit 103], h "waiting" [nat_lit 119, nat_lit 97, nat_lit 105, nat_lit 116, nat_lit 105, nat_lit 110, nat_lit 103], h "rested" [nat_lit 114, nat_lit 101, nat_lit 115, nat_lit 116, nat_lit 101, nat_lit 100], h "printed" [nat_lit 112, nat_lit 114, nat_lit 105, nat_lit 110, nat_lit 116, nat_lit 101, nat_lit 100], h "idle" [nat_lit 105, nat_lit 100, nat_lit 108, nat_lit 101], h "rest" [nat_lit 114, nat_lit 101, nat_lit 115, nat_lit 116], h "page" [nat_lit 112, nat_lit 97, nat_lit 103, nat_lit 101], h "printlane.lane" [nat_lit 112, nat_lit 114, nat_lit 105, nat_lit 110, nat_lit 116, nat_lit 108, nat_lit 97, nat_lit 110, nat_lit 101, nat_lit 46, nat_lit 108, nat_lit 97, nat_lit 110, nat_lit 101], h "Job" [nat_lit 74, nat_lit 111, nat_lit 98], h "__init__" [nat_lit 95, nat_lit 95, nat_lit 105, nat_lit 110, nat_lit 105, nat_lit 116, nat_lit 95, nat_lit 95], h "self" [nat_lit 115, nat_lit 101, nat_lit 108, nat_lit 102], h "number" [nat_lit 110, nat_lit 117, nat_lit 109, nat_lit 98, nat_lit 101, nat_lit 114], h "owner" [nat_lit 111, nat_lit 119, nat_lit 110, nat_lit 101, nat_lit 114], h "pages" [nat_lit 112, nat_lit 97, nat_lit 103, nat_lit 101, nat_lit 115], h "left" [nat_lit 108, nat_lit 101, nat_lit 102, nat_lit 116], h "Lane" [nat_lit 76, nat_lit 97, nat_lit 110, nat_lit 101], h "budgets" [nat_lit 98, nat_lit 117, nat_lit 100, nat_lit 103, nat_lit 101, nat_lit 116, nat_lit 115], h "list" [nat_lit 108, nat_lit 105, nat_lit 115, nat_lit 116], h "len" [nat_lit 108, nat_lit 101, nat_lit 110], h "row" [nat_lit 114, nat_lit 111, nat_lit 119], h "sent" [nat_lit 115, nat_lit 101, nat_lit 110, nat_lit 116], h "send" [nat_lit 115, nat_lit 101, nat_lit 110, nat_lit 100], h "check_owner" [nat_lit 99, nat_lit 104, nat_lit 101, nat_lit 99, nat_lit 107, nat_lit 95, nat_lit 111, nat_lit 119, nat_lit 110, nat_lit 101, nat_lit 114], h "a job has at least one page" [nat_lit 97, nat_lit 32, nat_lit 106, nat_lit 111, nat_lit 98, nat_lit 32, nat_lit 104, nat_lit 97, nat_lit 115, nat_lit 32, nat_lit 97, nat_lit 116, nat_lit 32, nat_lit 108, nat_lit 101, nat_lit 97, nat_lit 115, nat_lit 116, nat_lit 32, nat_lit 111, nat_lit 110, nat_lit 101, nat_lit 32, nat_lit 112, nat_lit 97, nat_lit 103, nat_lit 101], h "the budget has not so many pages" [nat_lit 116, nat_lit 104, nat_lit 101, nat_lit 32, nat_lit 98, nat_lit 117, nat_lit 100, nat_lit 103, nat_lit 101, nat_lit 116, nat_lit 32, nat_lit 104, nat_lit 97, nat_lit 115, nat_lit 32, nat_lit 110, nat_lit 111, nat_lit 116, nat_lit 32, nat_lit 115, nat_lit 111, nat_lit 32, nat_lit 109, nat_lit 97, nat_lit 110, nat_lit 121, nat_lit 32, nat_lit 112, nat_lit 97, nat_lit 103, nat_lit 101, nat_lit 115], h "job" [nat_lit 106, nat_lit 111, nat_lit 98], h "append" [nat_lit 97, nat_lit 112, nat_lit 112, nat_lit 101, nat_lit 110, nat_lit 100], h "stop" [nat_lit 115, nat_lit 116, nat_lit 111, nat_lit 112], h "stopped" [nat_lit 115, nat_lit 116, nat_lit 111, nat_lit 112, nat_lit 112, nat_lit 101, nat_lit 100], h "pop" [nat_lit 112, nat_lit 111, nat_lit 112], h "place" [nat_lit 112, nat_lit 108, nat_lit 97, nat_lit 99, nat_lit 101], h "run" [nat_lit 114, nat_lit 117, nat_lit 110], h "many" [nat_lit 109, nat_lit 97, nat_lit 110, nat_lit 121], h "tick" [nat_lit 116, nat_lit 105, nat_lit 99, nat_lit 107], h "ticks" [nat_lit 116, nat_lit 105, nat_lit 99, nat_lit 107, nat_lit 115], h ".0" [nat_lit 46, nat_lit 48], h "fast" [nat_lit 102, nat_lit 97, nat_lit 115, nat_lit 116], h "grant" [nat_lit 103, nat_lit 114, nat_lit 97, nat_lit 110, nat_lit 116], h "told" [nat_lit 116, nat_lit 111, nat_lit 108, nat_lit 100], h "tallies" [nat_lit 116, nat_lit 97, nat_lit 108, nat_lit 108, nat_lit 105, nat_lit 101, nat_lit 115], h "there is no such owner" [nat_lit 116, nat_lit 104, nat_lit 101, nat_lit 114, nat_lit 101, nat_lit 32, nat_lit 105, nat_lit 115, nat_lit 32, nat_lit 110, nat_lit 111, nat_lit 32, nat_lit 115, nat_lit 117, nat_lit 99, nat_lit 104, nat_lit 32, nat_lit 111, nat_lit 119, nat_lit 110, nat_lit 101, nat_lit 114], h "spot" [nat_lit 115, nat_lit 112, nat_lit 111, nat_lit 116], h "enumerate" [nat_lit 101, nat_lit 110, nat_lit 117, nat_lit 109, nat_lit 101, nat_lit 114, nat_lit 97, nat_lit 116, nat_lit 101], h "no job with that number waits" [nat_lit 110, nat_lit 111, nat_lit 32, nat_lit 106, nat_lit 111, nat_lit 98, nat_lit 32, nat_lit 119, nat_lit 105, nat_lit 116, nat_lit 104, nat_lit 32, nat_lit 116, nat_lit 104, nat_lit 97, nat_lit 116, nat_lit 32, nat_lit 110, nat_lit 117, nat_lit 109, nat_lit 98, nat_lit 101, nat_lit 114, nat_lit 32, nat_lit 119, nat_lit 97, nat_lit 105, nat_lit 116, nat_lit 115], h "behind" [nat_lit 98, nat_lit 101, nat_lit 104, nat_lit 105, nat_lit 110, nat_lit 100], h "print_page" [nat_lit 112, nat_lit 114, nat_lit 105, nat_lit 110, nat_lit 116, nat_lit 95, nat_lit 112, nat_lit 97, nat_lit 103, nat_lit 101], h "printlane.day" [nat_lit 112, nat_lit 114, nat_lit 105, nat_lit 110, nat_lit 116, nat_lit 108, nat_lit 97, nat_lit 110, nat_lit 101, nat_lit 46, nat_lit 100, nat_lit 97, nat_lit 121], h "answers" [nat_lit 97, nat_lit 110, nat_lit 115, nat_lit 119, nat_lit 101, nat_lit 114, nat_lit 115], h "deeds" [nat_lit 100, nat_lit 101, nat_lit 101, nat_lit 100, nat_lit 115], h "lane" [nat_lit 108, nat_lit 97, nat_lit 110, nat_lit 101], h "deed" [nat_lit 100, nat_lit 101, nat_lit 101, nat_lit 100], h "answered" [nat_lit 97, nat_lit 110, nat_lit 115, nat_lit 119, nat_lit 101, nat_lit 114, nat_lit 101, nat_lit 100], h "done" [nat_lit 100, nat_lit 111, nat_lit 110, nat_lit 101], h "no owner" [nat_lit 110, nat_lit 111, nat_lit 32, nat_lit 111, nat_lit 119, nat_lit 110, nat_lit 101, nat_lit 114], h "no pages" [nat_lit 110, nat_lit 111, nat_lit 32, nat_lit 112, nat_lit 97, nat_lit 103, nat_lit 101, nat_lit 115], h "broke" [nat_lit 98, nat_lit 114, nat_lit 111, nat_lit 107, nat_lit 101], h "no job" [nat_lit 110, nat_lit 111, nat_lit 32, nat_lit 106, nat_lit 111, nat_lit 98], h "law_printlane_k07_by_hand" [nat_lit 108, nat_lit 97, nat_lit 119, nat_lit 95, nat_lit 112, nat_lit 114, nat_lit 105, nat_lit 110, nat_lit 116, nat_lit 108, nat_lit 97, nat_lit 110, nat_lit 101, nat_lit 95, nat_lit 107, nat_lit 48, nat_lit 55, nat_lit 95, nat_lit 98, nat_lit 121, nat_lit 95, nat_lit 104, nat_lit 97, nat_lit 110, nat_lit 100], h "_law_whole" [nat_lit 95, nat_lit 108, nat_lit 97, nat_lit 119, nat_lit 95, nat_lit 119, nat_lit 104, nat_lit 111, nat_lit 108, nat_lit 101], h "_law_found" [nat_lit 95, nat_lit 108, nat_lit 97, nat_lit 119, nat_lit 95, nat_lit 102, nat_lit 111, nat_lit 117, nat_lit 110, nat_lit 100], h "isinstance" [nat_lit 105, nat_lit 115, nat_lit 105, nat_lit 110, nat_lit 115, nat_lit 116, nat_lit 97, nat_lit 110, nat_lit 99, nat_lit 101], h "int" [nat_lit 105, nat_lit 110, nat_lit 116], h "bool" [nat_lit 98, nat_lit 111, nat_lit 111, nat_lit 108], h "_law_at" [nat_lit 95, nat_lit 108, nat_lit 97, nat_lit 119, nat_lit 95, nat_lit 97, nat_lit 116], h "_law_script" [nat_lit 95, nat_lit 108, nat_lit 97, nat_lit 119, nat_lit 95, nat_lit 115, nat_lit 99, nat_lit 114, nat_lit 105, nat_lit 112, nat_lit 116], h "_law_k" [nat_lit 95, nat_lit 108, nat_lit 97, nat_lit 119, nat_lit 95, nat_lit 107], h "_law_alike" [nat_lit 95, nat_lit 108, nat_lit 97, nat_lit 119, nat_lit 95, nat_lit 97, nat_lit 108, nat_lit 105, nat_lit 107, nat_lit 101], h "_law_due" [nat_lit 95, nat_lit 108, nat_lit 97, nat_lit 119, nat_lit 95, nat_lit 100, nat_lit 117, nat_lit 101], h "_law_left" [nat_lit 95, nat_lit 108, nat_lit 97, nat_lit 119, nat_lit 95, nat_lit 108, nat_lit 101, nat_lit 102, nat_lit 116], h "_law_right" [nat_lit 95, nat_lit 108, nat_lit 97, nat_lit 119, nat_lit 95, nat_lit 114, nat_lit 105, nat_lit 103, nat_lit 104, nat_lit 116], h "_law_one" [nat_lit 95, nat_lit 108, nat_lit 97, nat_lit 119, nat_lit 95, nat_lit 111, nat_lit 110, nat_lit 101], h "_law_two" [nat_lit 95, nat_lit 108, nat_lit 97, nat_lit 119, nat_lit 95, nat_lit 116, nat_lit 119, nat_lit 111], h "tuple" [nat_lit 116, nat_lit 117, nat_lit 112, nat_lit 108, nat_lit 101], h "extend" [nat_lit 101, nat_lit 120, nat_lit 116, nat_lit 101, nat_lit 110, nat_lit 100], h "str" [nat_lit 115, nat_lit 116, nat_lit 114], h "_law_deeds" [nat_lit 95, nat_lit 108, nat_lit 97, nat_lit 119, nat_lit 95, nat_lit 100, nat_lit 101, nat_lit 101, nat_lit 100, nat_lit 115], h "_law_cells" [nat_lit 95, nat_lit 108, nat_lit 97, nat_lit 119, nat_lit 95, nat_lit 99, nat_lit 101, nat_lit 108, nat_lit 108, nat_lit 115], h "_law_budgets" [nat_lit 95, nat_lit 108, nat_lit 97, nat_lit 119, nat_lit 95, nat_lit 98, nat_lit 117, nat_lit 100, nat_lit 103, nat_lit 101, nat_lit 116, nat_lit 115], h "_law_words" [nat_lit 95, nat_lit 108, nat_lit 97, nat_lit 119, nat_lit 95, nat_lit 119, nat_lit 111, nat_lit 114, nat_lit 100, nat_lit 115], h "_law_asked" [nat_lit 95, nat_lit 108, nat_lit 97, nat_lit 119, nat_lit 95, nat_lit 97, nat_lit 115, nat_lit 107, nat_lit 101, nat_lit 100], h "_law_purse" [nat_lit 95, nat_lit 108, nat_lit 97, nat_lit 119, nat_lit 95, nat_lit 112, nat_lit 117, nat_lit 114, nat_lit 115, nat_lit 101], h "_law_sent" [nat_lit 95, nat_lit 108, nat_lit 97, nat_lit 119, nat_lit 95, nat_lit 115, nat_lit 101, nat_lit 110, nat_lit 116], h "range" [nat_lit 114, nat_lit 97, nat_lit 110, nat_lit 103, nat_lit 101], h "_law_rest" [nat_lit 95, nat_lit 108, nat_lit 97, nat_lit 119, nat_lit 95, nat_lit 114, nat_lit 101, nat_lit 115, nat_lit 116], h "_law_salt" [nat_lit 95, nat_lit 108, nat_lit 97, nat_lit 119, nat_lit 95, nat_lit 115, nat_lit 97, nat_lit 108, nat_lit 116], h "_law_word" [nat_lit 95, nat_lit 108, nat_lit 97, nat_lit 119, nat_lit 95, nat_lit 119, nat_lit 111, nat_lit 114, nat_lit 100], h "_law_owner" [nat_lit 95, nat_lit 108, nat_lit 97, nat_lit 119, nat_lit 95, nat_lit 111, nat_lit 119, nat_lit 110, nat_lit 101, nat_lit 114], h "_law_odd" [nat_lit 95, nat_lit 108, nat_lit 97, nat_lit 119, nat_lit 95, nat_lit 111, nat_lit 100, nat_lit 100], h "_law_real" [nat_lit 95, nat_lit 108, nat_lit 97, nat_lit 119, nat_lit 95, nat_lit 114, nat_lit 101, nat_lit 97, nat_lit 108], h "_law_pages" [nat_lit 95, nat_lit 108, nat_lit 97, nat_lit 119, nat_lit 95, nat_lit 112, nat_lit 97, nat_lit 103, nat_lit 101, nat_lit 115], h "_law_far" [nat_lit 95, nat_lit 108, nat_lit 97, nat_lit 119, nat_lit 95, nat_lit 102, nat_lit 97, nat_lit 114], h "_law_menu" [nat_lit 95, nat_lit 108, nat_lit 97, nat_lit 119, nat_lit 95, nat_lit 109, nat_lit 101, nat_lit 110, nat_lit 117], h "_law_late" [nat_lit 95, nat_lit 108, nat_lit 97, nat_lit 119, nat_lit 95, nat_lit 108, nat_lit 97, nat_lit 116, nat_lit 101], h "max" [nat_lit 109, nat_lit 97, nat_lit 120], h "_law_many" [nat_lit 95, nat_lit 108, nat_lit 97, nat_lit 119, nat_lit 95, nat_lit 109, nat_lit 97, nat_lit 110, nat_lit 121], h "_law_budgets_of" [nat_lit 95, nat_lit 108, nat_lit 97, nat_lit 119, nat_lit 95, nat_lit 98, nat_lit 117, nat_lit 100, nat_lit 103, nat_lit 101, nat_lit 116, nat_lit 115, nat_lit 95, nat_lit 111, nat_lit 102], h "_law_cell" [nat_lit 95, nat_lit 108, nat_lit 97, nat_lit 119, nat_lit 95, nat_lit 99, nat_lit 101, nat_lit 108, nat_lit 108], h "_law_owners" [nat_lit 95, nat_lit 108, nat_lit 97, nat_lit 119, nat_lit 95, nat_lit 111, nat_lit 119, nat_lit 110, nat_lit 101, nat_lit 114, nat_lit 115], h "_law_made" [nat_lit 95, nat_lit 108, nat_lit 97, nat_lit 119, nat_lit 95, nat_lit 109, nat_lit 97, nat_lit 100, nat_lit 101], h "_law_some" [nat_lit 95, nat_lit 108, nat_lit 97, nat_lit 119, nat_lit 95, nat_lit 115, nat_lit 111, nat_lit 109, nat_lit 101], h "_law_refusal_of" [nat_lit 95, nat_lit 108, nat_lit 97, nat_lit 119, nat_lit 95, nat_lit 114, nat_lit 101, nat_lit 102, nat_lit 117, nat_lit 115, nat_lit 97, nat_lit 108, nat_lit 95, nat_lit 111, nat_lit 102], h "_law_rows" [nat_lit 95, nat_lit 108, nat_lit 97, nat_lit 119, nat_lit 95, nat_lit 114, nat_lit 111, nat_lit 119, nat_lit 115], h "_law_deed" [nat_lit 95, nat_lit 108, nat_lit 97, nat_lit 119, nat_lit 95, nat_lit 100, nat_lit 101, nat_lit 101, nat_lit 100], h "_law_row" [nat_lit 95, nat_lit 108, nat_lit 97, nat_lit 119, nat_lit 95, nat_lit 114, nat_lit 111, nat_lit 119], h "_law_printed" [nat_lit 95, nat_lit 108, nat_lit 97, nat_lit 119, nat_lit 95, nat_lit 112, nat_lit 114, nat_lit 105, nat_lit 110, nat_lit 116, nat_lit 101, nat_lit 100], h "_law_still" [nat_lit 95, nat_lit 108, nat_lit 97, nat_lit 119, nat_lit 95, nat_lit 115, nat_lit 116, nat_lit 105, nat_lit 108, nat_lit 108], h "_law_number" [nat_lit 95, nat_lit 108, nat_lit 97, nat_lit 119, nat_lit 95, nat_lit 110, nat_lit 117, nat_lit 109, nat_lit 98, nat_lit 101, nat_lit 114], h "_law_gone" [nat_lit 95, nat_lit 108, nat_lit 97, nat_lit 119, nat_lit 95, nat_lit 103, nat_lit 111, nat_lit 110, nat_lit 101], h "min" [nat_lit 109, nat_lit 105, nat_lit 110], h "_law_did" [nat_lit 95, nat_lit 108, nat_lit 97, nat_lit 119, nat_lit 95, nat_lit 100, nat_lit 105, nat_lit 100], h "_law_lane_of" [nat_lit 95, nat_lit 108, nat_lit 97, nat_lit 119, nat_lit 95, nat_lit 108, nat_lit 97, nat_lit 110, nat_lit 101, nat_lit 95, nat_lit 111, nat_lit 102], h "_law_limit" [nat_lit 95, nat_lit 108, nat_lit 97, nat_lit 119, nat_lit 95, nat_lit 108, nat_lit 105, nat_lit 109, nat_lit 105, nat_lit 116], h "_law_pause" [nat_lit 95, nat_lit 108, nat_lit 97, nat_lit 119, nat_lit 95, nat_lit 112, nat_lit 97, nat_lit 117, nat_lit 115, nat_lit 101], h "_law_mine" [nat_lit 95, nat_lit 108, nat_lit 97, nat_lit 119, nat_lit 95, nat_lit 109, nat_lit 105, nat_lit 110, nat_lit 101], h "purse" [nat_lit 112, nat_lit 117, nat_lit 114, nat_lit 115, nat_lit 101], h "rows" [nat_lit 114, nat_lit 111, nat_lit 119, nat_lit 115], h "_law_tick_in" [nat_lit 95, nat_lit 108, nat_lit 97, nat_lit 119, nat_lit 95, nat_lit 116, nat_lit 105, nat_lit 99, nat_lit 107, nat_lit 95, nat_lit 105, nat_lit 110], h "_law_answered" [nat_lit 95, nat_lit 108, nat_lit 97, nat_lit 119, nat_lit 95, nat_lit 97, nat_lit 110, nat_lit 115, nat_lit 119, nat_lit 101, nat_lit 114, nat_lit 101, nat_lit 100], h "count" [nat_lit 99, nat_lit 111, nat_lit 117, nat_lit 110, nat_lit 116], h "_law_back" [nat_lit 95, nat_lit 108, nat_lit 97, nat_lit 119, nat_lit 95, nat_lit 98, nat_lit 97, nat_lit 99, nat_lit 107], h "sum" [nat_lit 115, nat_lit 117, nat_lit 109], h "_law_done" [nat_lit 95, nat_lit 108, nat_lit 97, nat_lit 119, nat_lit 95, nat_lit 100, nat_lit 111, nat_lit 110, nat_lit 101], h "_law_lane" [nat_lit 95, nat_lit 108, nat_lit 97, nat_lit 119, nat_lit 95, nat_lit 108, nat_lit 97, nat_lit 110, nat_lit 101], h "_law_told" [nat_lit 95, nat_lit 108, nat_lit 97, nat_lit 119, nat_lit 95, nat_lit 116, nat_lit 111, nat_lit 108, nat_lit 100], h "more" [nat_lit 109, nat_lit 111, nat_lit 114, nat_lit 101], h "_law_by_any" [nat_lit 95, nat_lit 108, nat_lit 97, nat_lit 119, nat_lit 95, nat_lit 98, nat_lit 121, nat_lit 95, nat_lit 97, nat_lit 110, nat_lit 121], h "" [], h "e" [nat_lit 101], h "_law_kinds" [nat_lit 95, nat_lit 108, nat_lit 97, nat_lit 119, nat_lit 95, nat_lit 107, nat_lit 105, nat_lit 110, nat_lit 100, nat_lit 115], h "_law_good" [nat_lit 95, nat_lit 108, nat_lit 97, nat_lit 119, nat_lit 95, nat_lit 103, nat_lit 111, nat_lit 111, nat_lit 100], h "refused" [nat_lit 114, nat_lit 101, nat_lit 102, nat_lit 117, nat_lit 115, nat_lit 101, nat_lit 100], h "_law_by_hand" [nat_lit 95, nat_lit 108, nat_lit 97, nat_lit 119, nat_lit 95, nat_lit 98, nat_lit 121, nat_lit 95, nat_lit 104, nat_lit 97, nat_lit 110, nat_lit 100], h "_law_as_due" [nat_lit 95, nat_lit 108, nat_lit 97, nat_lit 119, nat_lit 95, nat_lit 97, nat_lit 115, nat_lit 95, nat_lit 100, nat_lit 117, nat_lit 101], h "law" [nat_lit 108, nat_lit 97, nat_lit 119], h "_law_head" [nat_lit 95, nat_lit 108, nat_lit 97, nat_lit 119, nat_lit 95, nat_lit 104, nat_lit 101, nat_lit 97, nat_lit 100], h "_law_ones" [nat_lit 95, nat_lit 108, nat_lit 97, nat_lit 119, nat_lit 95, nat_lit 111, nat_lit 110, nat_lit 101, nat_lit 115], h "_law_own" [nat_lit 95, nat_lit 108, nat_lit 97, nat_lit 119, nat_lit 95, nat_lit 111, nat_lit 119, nat_lit 110], h "_law_kept" [nat_lit 95, nat_lit 108, nat_lit 97, nat_lit 119, nat_lit 95, nat_lit 107, nat_lit 101, nat_lit 112, nat_lit 116], h "_law_spare" [nat_lit 95, nat_lit 108, nat_lit 97, nat_lit 119, nat_lit 95, nat_lit 115, nat_lit 112, nat_lit 97, nat_lit 114, nat_lit 101], h "_law_other" [nat_lit 95, nat_lit 108, nat_lit 97, nat_lit 119, nat_lit 95, nat_lit 111, nat_lit 116, nat_lit 104, nat_lit 101, nat_lit 114], h "/claim/cut.py" [nat_lit 47, nat_lit 99, nat_lit 108, nat_lit 97, nat_lit 105, nat_lit 109, nat_lit 47, nat_lit 99, nat_lit 117, nat_lit 116, nat_lit 46, nat_lit 112, nat_lit 121]]
    exact rfl
end TwinA
namespace PySem.W.Fast
noncomputable def tw16045655836365740773 : PySem.Program := TwinA.body TwinA.litV
theorem te16045655836365740773 : PySem.Challenge.pw_printlane_k07_by_hand = tw16045655836365740773 := (congrArg TwinA.body TwinA.lit_eq : TwinA.body TwinA.litU = TwinA.body TwinA.litV)
theorem tw17442874465537583331 : True := trivial
theorem te17442874465537583331 : True := trivial
end PySem.W.Fast
namespace My
open PySem PySem.Spec PyProof.Rows L2 L3

def top (i : Nat) : Stmt := PySem.Challenge.pw_printlane_k07_by_hand.main.body.getD i (.Pass ⟨0, 0, 0, 0⟩)
abbrev sTicked : Stmt := top 8
abbrev sRested : Stmt := top 9
abbrev sPrinted : Stmt := top 10
abbrev sWhole : Stmt := top 19
abbrev sAt : Stmt := top 20
abbrev sAlike : Stmt := top 21
abbrev sDeeds : Stmt := top 22
abbrev sBudgets : Stmt := top 23
abbrev sRefusal : Stmt := top 24
abbrev sLPrinted : Stmt := top 25
abbrev sDid : Stmt := top 26
abbrev sLaneOf : Stmt := top 27
abbrev sTickIn : Stmt := top 28
abbrev sAnswered : Stmt := top 29
abbrev sLaw : Stmt := top 34
abbrev sJInit : Stmt := inClass (top 12) 0
abbrev sLeft : Stmt := inClass (top 12) 1
abbrev sLInit : Stmt := inClass (top 13) 0
abbrev sSend : Stmt := inClass (top 13) 1
abbrev sStop : Stmt := inClass (top 13) 2
abbrev sRun : Stmt := inClass (top 13) 3
abbrev sGrant : Stmt := inClass (top 13) 4
abbrev sTicks : Stmt := inClass (top 13) 5
abbrev sTallies : Stmt := inClass (top 13) 6
abbrev sCheck : Stmt := inClass (top 13) 7
abbrev sPlace : Stmt := inClass (top 13) 8
abbrev sTickM : Stmt := inClass (top 13) 9
abbrev sPage : Stmt := inClass (top 13) 10
abbrev sAnswers : Stmt := top 15
abbrev sPAnswered : Stmt := top 16
abbrev sDone : Stmt := top 17
abbrev sLDone : Stmt := top 30
abbrev sByAny : Stmt := top 31
abbrev sByHand : Stmt := top 32
abbrev sAsDue : Stmt := top 33
/-- the built-in names that stand free -/
structure Free (mg : Str → Option Value) : Prop where
  isi : mg "isinstance" = none
  int : mg "int" = none
  bool : mg "bool" = none
  str : mg "str" = none
  list : mg "list" = none
  tuple : mg "tuple" = none
  len : mg "len" = none
  range : mg "range" = none
  sum : mg "sum" = none
  min : mg "min" = none
  max : mg "max" = none
  enumerate : mg "enumerate" = none
  valueError : mg "ValueError" = none

/-! ### what every law reads: whole, at, alike (sWhole, sAt, sAlike: their places in the text) -/
def spWhole : Sp := fun vs H Q _ => ∃ i, vs = [.int i] ∧ Q (.bl true) H
inductive spAtI (K : PySem.W.Frag) (vs : List V) (H : Hp) (Q : VK) : Prop
  | mk (a : Addr) (ns : List Int) (k : Int) (z0 : vs = [.ref a, .int k]) (z1 : SqL K H a (ns.map V.int)) (z2 : 0 ≤ k) (z3 : Q (.int (ns.getD k.toNat 0)) H)
def spAt (K : PySem.W.Frag) : Sp := fun vs H Q _ => spAtI K vs H Q
inductive spAlikeI  (vs : List V) (H : Hp) (Q : VK) : Prop
  | mk (x y : V) (t : Tr) (z0 : vs = [x, y]) (z1 : Is H t x) (z2 : Is H t y) (z3 : t.size ≤ 100000) (z4 : ∀ H', Same H H' → Q (.bl true) H')
def spAlike  : Sp := fun vs H Q _ => spAlikeI  vs H Q
section
variable {P : Program} {w : World} {K : PySem.W.Frag} {mg : Str → Option Value} {base : Heap}
theorem scWhole : FnScope ["_law_found"] ["_law_found"] (defScope sWhole) := ⟨rfl, rfl, rfl, by decide +kernel, rfl, by decide +kernel, by decide +kernel⟩
theorem ok_whole {f : Addr} {fd : FuncData} (F : Fun K "_law_whole" "_law_whole" sWhole f fd) (T : Free mg) : FnOk P w K mg base CX0 1 f fd ["_law_found"] spWhole := by
  refine F.ok scWhole (fun vs H Q E h => ?_) (fun cdv A outer s H vs Q E hr h => ?_)
  · obtain ⟨i, rfl, _⟩ := h
    rfl
  obtain ⟨i, rfl, q⟩ := h
  refine ⟨_, pss_one (ps_ret (pe_and
    (pe_callB call_isi (by rfl) T.isi boot_isinstance (pa_cons (pv 0) (pa_cons (pe_bltn (v := .ty "int") (by rfl) T.int boot_int rfl) pa_nil)))
    (pe_one (pe_not (pe_callB call_isi (by rfl) T.isi boot_isinstance (pa_cons (pv 0) (pa_cons (pe_bltn (v := .ty "bool") (by rfl) T.bool boot_bool rfl) pa_nil))))))), ?_⟩
  try dsimp only [nox_K, cxOf_K]
  refine ⟨_, rfl, _, _, _, _, rfl, TyOf.int i, k_int_int _, _, rfl, ?_⟩
  refine iteT ?_
  exact ⟨_, rfl, _, _, _, _, rfl, TyOf.int i, k_int_bool _, _, rfl, q⟩
theorem scAt : FnScope ["_law_script", "_law_k"] ["_law_script", "_law_k"] (defScope sAt) := ⟨rfl, rfl, rfl, by decide +kernel, rfl, by decide +kernel, by decide +kernel⟩
theorem getD_at {ns : List Int} {k : Int} (h0 : 0 ≤ k) (h : k < (ns.length : Int)) : atI (ns.map V.int) k = some (.int (ns.getD k.toNat 0)) := by
  have hk : k.toNat < ns.length := by omega
  have ek : k = ((k.toNat : Nat) : Int) := by omega
  have q : atI (ns.map V.int) ((k.toNat : Nat) : Int) = some (.int (ns.getD k.toNat 0)) := atI_nat (by
    rw [List.getElem?_map, List.getElem?_eq_getElem hk]
    simp [List.getD, List.getElem?_eq_getElem hk])
  rw [← ek] at q
  exact q
theorem getD_out {ns : List Int} {k : Int} (h : (ns.length : Int) ≤ k) : ns.getD k.toNat 0 = 0 := by
  simp only [List.getD]
  rw [List.getElem?_eq_none (by omega)]
  rfl
theorem ok_at {f : Addr} {fd : FuncData} (F : Fun K "_law_at" "_law_at" sAt f fd) (T : Free mg) : FnOk P w K mg base CX0 1 f fd ["_law_script", "_law_k"] (spAt K) := by
  refine F.ok scAt (fun vs H Q E h => ?_) (fun cdv A outer s H vs Q E hr h => ?_)
  · obtain ⟨a, ns, k, rfl, _⟩ := h
    rfl
  obtain ⟨a, ns, k, rfl, hS, h0, q⟩ := h
  refine ⟨_, pss_cons (ps_if (pt_cmpR op_lt (pv 1) (pe_callB call_len_seq (by rfl) T.len PySem.boot_len (pa_cons (pv 0) pa_nil)) (nomark _))
    (pss_one (ps_ret (pe_ix ix_list (pv 0) (pv 1) (fun _ _ => rfl)))) pss_nil) (pss_one (ps_ret pe_int)), ?_⟩
  try dsimp only [nox_K, cxOf_K]
  have hl : (ns.map V.int).length = ns.length := List.length_map _
  refine ⟨_, rfl, _, rfl, a, _, rfl, .inl hS, _, _, rfl, rfl, _, rfl, ?_⟩
  refine ite2 (fun c => ?_) (fun c => ?_)
  · have c' : k < (((ns.map V.int).length : Nat) : Int) := of_decide_eq_true c
    rw [hl] at c'
    exact ⟨_, rfl, _, rfl, a, _, _, _, rfl, rfl, hS, getD_at h0 c', q⟩
  · have c' : ¬ k < (((ns.map V.int).length : Nat) : Int) := of_decide_eq_false (Bool.eq_false_iff.mpr c)
    rw [hl] at c'
    rw [getD_out (by omega)] at q
    exact q
theorem scAlike : FnScope ["_law_found", "_law_due", "_law_left", "_law_right", "_law_one", "_law_two"] ["_law_found", "_law_due"] (defScope sAlike) := ⟨rfl, rfl, rfl, by decide +kernel, rfl, by decide +kernel, by decide +kernel⟩
theorem big {n : Nat} (h : n ≤ 100000) : n ≤ sizeLine := Nat.le_trans h (by decide)
theorem last_at {ys : List V} {y : V} : (ys ++ [y])[(ys ++ [y]).length - 1]? = some y := by simp
theorem drop_at {ys : List V} {y : V} : (ys ++ [y]).dropLast = ys := by simp
inductive InvAl (H : Hp) (x y : V) (l r : Addr) (m : Nat) (σ : List (Option V)) (H2 : Hp) : Prop
  | mk (xs ys : List V) (ts : List Tr) (o1 o2 : Option V) (em : m = sizes ts) (e : σ = [some x, some y, some (.ref l), some (.ref r), o1, o2]) (s2 : Same H H2) (h1 : H2 l = some (.lst xs)) (h2 : H2 r = some (.lst ys)) (i1 : IsL H ts xs) (i2 : IsL H ts ys) (hb : sizes ts ≤ 100000)
inductive MidAl (H : Hp) (x y : V) (l r : Addr) (n : Nat) (σ : List (Option V)) (H2 : Hp) : Prop
  | mk (xs ys : List V) (us : List Tr) (o1 o2 : Option V) (hm : sizes us < n) (e : σ = [some x, some y, some (.ref l), some (.ref r), o1, o2]) (s2 : Same H H2) (h1 : H2 l = some (.lst xs)) (h2 : H2 r = some (.lst ys)) (i1 : IsL H us xs) (i2 : IsL H us ys)
theorem ok_alike {f fW : Addr} {fd fdW : FuncData} (F : Fun K "_law_alike" "_law_alike" sAlike f fd) (T : Free mg)
    (GW : FnOk P w K mg base CX0 1 fW fdW ["_law_found"] spWhole) (bW : Binds K fdW ["_law_found"] []) (kW : PySem.W.keepIn K (.ref fW) = true) (mW : mg "_law_whole" = some (.ref fW)) :
    FnOk P w K mg base CX0 2 f fd ["_law_found", "_law_due"] spAlike := by
  refine F.ok scAlike (fun vs H Q E h => ?_) (fun cdv A outer s H vs Q E hr h => ?_)
  · obtain ⟨x, y, t, rfl, _⟩ := h
    rfl
  obtain ⟨x, y, t, rfl, hx, hy, hz, k⟩ := h
  have hu := hr.units0
  refine ⟨_, pss_cons (ps_set (i := 2) scAlike.nd rfl (Or.inl rfl) (pe_lst (pa_cons (pv 0) pa_nil)))
    (pss_cons (ps_set (i := 3) scAlike.nd rfl (Or.inl rfl) (pe_lst (pa_cons (pv 1) pa_nil)))
    (pss_cons (ps_while PassesOwn.never (pt_cmpR (op_neNil hu) (pv 3) (pe_lst pa_nil) (nomark _))
      (pss_cons (ps_set (i := 4) scAlike.nd rfl (Or.inl rfl) (pe_bm0 PySem.F.plainAttrs_list PySem.F.slot_list_pop PySem.F.type_list_pop mt_pop (pv 2)))
      (pss_cons (ps_set (i := 5) scAlike.nd rfl (Or.inl rfl) (pe_bm0 PySem.F.plainAttrs_list PySem.F.slot_list_pop PySem.F.type_list_pop mt_pop (pv 3)))
      (pss_one (ps_if (pt_val (pe_callB call_isiT (by rfl) T.isi boot_isinstance (pa_cons (pv 5) (pa_cons (pe_tup (pa_cons (pe_bltn (v := .ty "list") (by rfl) T.list boot_list rfl) (pa_cons (pe_bltn (v := .ty "tuple") (by rfl) T.tuple boot_tuple rfl) pa_nil))) pa_nil))))
        (pss_cons (ps_if (pt_cmpR op_ne (pe_callB call_isi (by rfl) T.isi boot_isinstance (pa_cons (pv 4) (pa_cons (pe_bltn (v := .ty "list") (by rfl) T.list boot_list rfl) pa_nil)))
            (pe_callB call_isi (by rfl) T.isi boot_isinstance (pa_cons (pv 5) (pa_cons (pe_bltn (v := .ty "list") (by rfl) T.list boot_list rfl) pa_nil))) (nomark _)) pss_never pss_nil)
        (pss_cons (ps_if (PW.pt (pw_or (pt_cmpR op_ne (pe_callB call_isi (by rfl) T.isi boot_isinstance (pa_cons (pv 4) (pa_cons (pe_bltn (v := .ty "tuple") (by rfl) T.tuple boot_tuple rfl) pa_nil)))
            (pe_callB call_isi (by rfl) T.isi boot_isinstance (pa_cons (pv 5) (pa_cons (pe_bltn (v := .ty "tuple") (by rfl) T.tuple boot_tuple rfl) pa_nil))) (nomark _))
            (pw_or1 (pt_cmpR op_ne (pe_callB call_len_seq (by rfl) T.len PySem.boot_len (pa_cons (pv 4) pa_nil)) (pe_callB call_len_seq (by rfl) T.len PySem.boot_len (pa_cons (pv 5) pa_nil)) (nomark _))))) pss_never pss_nil)
        (pss_cons (ps_expr (pe_bm PySem.F.plainAttrs_list PySem.F.slot_list_extend PySem.F.type_list_extend mt_ext (pv 2) (pa_cons (pv 4) pa_nil)))
        (pss_one (ps_expr (pe_bm PySem.F.plainAttrs_list PySem.F.slot_list_extend PySem.F.type_list_extend mt_ext (pv 3) (pa_cons (pv 5) pa_nil)))))))
        (pss_one (ps_if (pt_val (pe_callB call_isi (by rfl) T.isi boot_isinstance (pa_cons (pv 5) (pa_cons (pe_bltn (v := .ty "str") (by rfl) T.str boot_str rfl) pa_nil))))
          (pss_one (ps_if (PW.pt (pw_or (pt_not (pt_val (pe_callB call_isi (by rfl) T.isi boot_isinstance (pa_cons (pv 4) (pa_cons (pe_bltn (v := .ty "str") (by rfl) T.str boot_str rfl) pa_nil)))))
            (pw_or1 (pt_cmpR op_ne (pv 4) (pv 5) (nomark _))))) pss_never pss_nil))
          (pss_one (ps_if (PW.pt (pw_or (pt_not (pt_val (pe_call GW hr rfl mW kW bW .nil pass0 (pa_cons (pv 4) pa_nil))))
            (pw_or1 (pt_cmpR op_ne (pv 4) (pv 5) (nomark _))))) pss_never pss_nil))))))))
      )
    (pss_one (ps_ret pe_bl)))), ?_⟩
  try dsimp only [nox_K, cxOf_K]
  -- left, right
  refine ⟨_, rfl, (by show 1 ≤ sizeLine; decide), fun l hl => ?_⟩
  refine ⟨_, rfl, (by show 1 ≤ sizeLine; decide), fun r hr2 => ?_⟩
  have hr0 : H r = none := (same_new hl _).free hr2
  have nlr : l ≠ r := ne_of_none upd_same hr2
  refine ⟨InvAl H x y l r,
    ⟨_, [x], [y], [t], none, none, rfl, rfl, same_upd (same_new hl _) hr0 _, by rw [upd_ne nlr]; exact upd_same, upd_same, ⟨x, [], rfl, hx, rfl⟩, ⟨y, [], rfl, hy, rfl⟩, by show t.size + 0 ≤ 100000; omega⟩, ?_⟩
  rintro m σ H2 ⟨xs, ys, ts, o1, o2, rfl, rfl, s2, h1, h2, i1, i2, hb⟩
  -- right != []
  refine ⟨_, rfl, (by show 0 ≤ sizeLine; decide), fun p hp => ⟨r, p, ys, rfl, rfl, by rw [upd_ne (ne_of_none h2 hp)]; exact h2, upd_same, _, rfl, ?_⟩⟩
  have hp0 : H p = none := s2.free hp
  have s3 : Same H (upd H2 p (.lst [])) := same_upd s2 hp0 _
  have h1' : upd H2 p (.lst []) l = some (.lst xs) := by rw [upd_ne (ne_of_none h1 hp)]; exact h1
  have h2' : upd H2 p (.lst []) r = some (.lst ys) := by rw [upd_ne (ne_of_none h2 hp)]; exact h2
  generalize upd H2 p (.lst []) = H3 at s3 h1' h2'
  rcases snoc_cases ts with rfl | ⟨ts, t', rfl⟩
  · have e : ys = [] := i2
    subst e
    refine iteF ?_
    exact k _ s3
  obtain ⟨xs, x1, rfl, j1, g1⟩ := IsL.last i1
  obtain ⟨ys, y1, rfl, j2, g2⟩ := IsL.last i2
  have en : (!(ys ++ [y1]).isEmpty) = true := by simp
  rw [sizes_last] at hb
  refine cast (congrArg (fun b => if b = true then _ else _) en.symm) (iteT ?_)
  refine ⟨MidAl H x y l r (sizes (ts ++ [t'])), fun σ' H' z => by
    obtain ⟨xs, ys, us, o1, o2, hm, e, s', a1, a2, b1, b2⟩ := z
    exact ⟨sizes us, hm, xs, ys, us, o1, o2, rfl, e, s', a1, a2, b1, b2, by rw [sizes_last] at hm; omega⟩, ?_⟩
  -- one = left.pop(); two = right.pop()
  refine ⟨_, rfl, .inl ⟨rfl, _, SqL.of h1'⟩, l, _, x1, rfl, rfl, h1', last_at, ?_⟩
  rw [drop_at]
  have h2'' : upd H3 l (.lst xs) r = some (.lst (ys ++ [y1])) := by rw [upd_ne (Ne.symm nlr)]; exact h2'
  refine ⟨_, rfl, .inl ⟨rfl, _, SqL.of h2''⟩, r, _, y1, rfl, rfl, h2'', last_at, ?_⟩
  rw [drop_at]
  have s4 : Same H (upd (upd H3 l (.lst xs)) r (.lst ys)) := same_upd (same_upd s3 hl _) hr0 _
  have a1 : upd (upd H3 l (.lst xs)) r (.lst ys) l = some (.lst xs) := by rw [upd_ne nlr]; exact upd_same
  have a2 : upd (upd H3 l (.lst xs)) r (.lst ys) r = some (.lst ys) := upd_same
  generalize upd (upd H3 l (.lst xs)) r (.lst ys) = H4 at s4 a1 a2
  -- isinstance(two, (list, tuple))
  refine ⟨_, rfl, (by show 2 ≤ sizeLine; decide), fun q hq => ?_⟩
  have hq0 : H q = none := s4.free hq
  have s5 : Same H (upd H4 q (.tup [.ty "list", .ty "tuple"])) := same_upd s4 hq0 _
  have c1 : upd H4 q (.tup [.ty "list", .ty "tuple"]) l = some (.lst xs) := by rw [upd_ne (ne_of_none a1 hq)]; exact a1
  have c2 : upd H4 q (.tup [.ty "list", .ty "tuple"]) r = some (.lst ys) := by rw [upd_ne (ne_of_none a2 hq)]; exact a2
  have c3 : upd H4 q (.tup [.ty "list", .ty "tuple"]) q = some (.tup (["list", "tuple"].map V.ty)) := upd_same
  generalize upd H4 q (.tup [.ty "list", .ty "tuple"]) = H5 at s5 c1 c2 c3
  have hlen := len_sizes ts
  cases t' with
  | int i =>
    obtain rfl : x1 = .int i := g1
    obtain rfl : y1 = .int i := g2
    refine ⟨_, q, _, _, _, rfl, c3, TyOf.int i, k_int_seq _, _, rfl, ?_⟩
    refine iteF ?_
    refine ⟨_, rfl, _, _, _, _, rfl, TyOf.int i, k_int_str _, _, rfl, ?_⟩
    refine iteF ?_
    refine ⟨_, rfl, i, rfl, _, rfl, ?_⟩
    refine iteF ?_
    refine ⟨_, rfl, _, rfl, rfl, _, rfl, ?_⟩
    refine iteNS rfl ?_
    exact ⟨xs, ys, ts, _, _, by rw [sizes_last]; have := size_pos (.int i); omega, rfl, s5, c1, c2, j1, j2⟩
  | str z =>
    obtain rfl : x1 = .str z := g1
    obtain rfl : y1 = .str z := g2
    refine ⟨_, q, _, _, _, rfl, c3, TyOf.str z, k_str_seq _, _, rfl, ?_⟩
    refine iteF ?_
    refine ⟨_, rfl, _, _, _, _, rfl, TyOf.str z, k_str_str _, _, rfl, ?_⟩
    refine iteT ?_
    refine ⟨_, rfl, _, _, _, _, rfl, TyOf.str z, k_str_str _, _, rfl, ?_⟩
    refine iteF ?_
    refine ⟨_, rfl, _, rfl, rfl, _, rfl, ?_⟩
    refine iteNS rfl ?_
    exact ⟨xs, ys, ts, _, _, by rw [sizes_last]; have := size_pos (.str z); omega, rfl, s5, c1, c2, j1, j2⟩
  | lst us =>
    obtain ⟨b1, zs1, rfl, e1, n1⟩ := g1
    obtain ⟨b2, zs2, rfl, e2, n2⟩ := g2
    have e1' := s5 _ _ e1
    have e2' := s5 _ _ e2
    have hz1 := n1.len
    have hz2 := n2.len
    have hj1 := j1.len
    have hj2 := j2.len
    have hus := len_sizes us
    have hsz : sizes ts + (1 + sizes us) ≤ 100000 := hb
    refine ⟨_, q, _, _, _, rfl, c3, TyOf.lst e2', k_list_seq _, _, rfl, ?_⟩
    refine iteT ?_
    refine ⟨_, rfl, _, _, _, _, rfl, TyOf.lst e1', k_list_list _, _, rfl, _, _, _, _, rfl, TyOf.lst e2', k_list_list _, rfl, _, rfl, ?_⟩
    refine iteNS rfl ?_
    refine ⟨_, rfl, _, _, _, _, rfl, TyOf.lst e1', k_list_tuple _, _, rfl, _, _, _, _, rfl, TyOf.lst e2', k_list_tuple _, rfl, _, rfl, ?_⟩
    refine iteNS rfl ?_
    refine ⟨_, rfl, b1, _, rfl, .inl (SqL.of e1'), _, rfl, b2, _, rfl, .inl (SqL.of e2'), rfl, _, rfl, ?_⟩
    refine iteNS (by rw [hz1, hz2]) ?_
    refine ⟨_, rfl, .inl ⟨rfl, _, SqL.of c1⟩, _, rfl, .inl ⟨l, b1, xs, zs1, rfl, rfl, c1, e1', big (by omega), ?_⟩⟩
    have c2' : upd H5 l (.lst (xs ++ zs1)) r = some (.lst ys) := by rw [upd_ne (Ne.symm nlr)]; exact c2
    have nb : b2 ≠ l := ne_of_none e2 hl
    have e2'' : upd H5 l (.lst (xs ++ zs1)) b2 = some (.lst zs2) := by rw [upd_ne nb]; exact e2'
    refine ⟨_, rfl, .inl ⟨rfl, _, SqL.of c2'⟩, _, rfl, .inl ⟨r, b2, ys, zs2, rfl, rfl, c2', e2'', big (by omega), ?_⟩⟩
    exact ⟨xs ++ zs1, ys ++ zs2, ts ++ us, _, _, by rw [sizes_last, sizes_app]; show sizes ts + sizes us < sizes ts + (1 + sizes us); omega, rfl,
      same_upd (same_upd s5 hl _) hr0 _, by rw [upd_ne nlr]; exact upd_same, upd_same, j1.app n1, j2.app n2⟩
  | tup us =>
    obtain ⟨b1, zs1, rfl, e1, n1⟩ := g1
    obtain ⟨b2, zs2, rfl, e2, n2⟩ := g2
    have e1' := s5 _ _ e1
    have e2' := s5 _ _ e2
    have hz1 := n1.len
    have hz2 := n2.len
    have hj1 := j1.len
    have hj2 := j2.len
    have hus := len_sizes us
    have hsz : sizes ts + (1 + sizes us) ≤ 100000 := hb
    refine ⟨_, q, _, _, _, rfl, c3, TyOf.tup e2', k_tuple_seq _, _, rfl, ?_⟩
    refine iteT ?_
    refine ⟨_, rfl, _, _, _, _, rfl, TyOf.tup e1', k_tuple_list _, _, rfl, _, _, _, _, rfl, TyOf.tup e2', k_tuple_list _, rfl, _, rfl, ?_⟩
    refine iteNS rfl ?_
    refine ⟨_, rfl, _, _, _, _, rfl, TyOf.tup e1', k_tuple_tuple _, _, rfl, _, _, _, _, rfl, TyOf.tup e2', k_tuple_tuple _, rfl, _, rfl, ?_⟩
    refine iteNS rfl ?_
    refine ⟨_, rfl, b1, _, rfl, .inr (SqT.of e1'), _, rfl, b2, _, rfl, .inr (SqT.of e2'), rfl, _, rfl, ?_⟩
    refine iteNS (by rw [hz1, hz2]) ?_
    refine ⟨_, rfl, .inl ⟨rfl, _, SqL.of c1⟩, _, rfl, .inr ⟨l, b1, xs, zs1, rfl, rfl, c1, e1', big (by omega), ?_⟩⟩
    have c2' : upd H5 l (.lst (xs ++ zs1)) r = some (.lst ys) := by rw [upd_ne (Ne.symm nlr)]; exact c2
    have nb : b2 ≠ l := ne_of_none e2 hl
    have e2'' : upd H5 l (.lst (xs ++ zs1)) b2 = some (.tup zs2) := by rw [upd_ne nb]; exact e2'
    refine ⟨_, rfl, .inl ⟨rfl, _, SqL.of c2'⟩, _, rfl, .inr ⟨r, b2, ys, zs2, rfl, rfl, c2', e2'', big (by omega), ?_⟩⟩
    exact ⟨xs ++ zs1, ys ++ zs2, ts ++ us, _, _, by rw [sizes_last, sizes_app]; show sizes ts + sizes us < sizes ts + (1 + sizes us); omega, rfl,
      same_upd (same_upd s5 hl _) hr0 _, by rw [upd_ne nlr]; exact upd_same, upd_same, j1.app n1, j2.app n2⟩
end

/-! ### printlane.rests: sTicked, sRested, sPrinted -/
def tickV (lim pz hot rs : Int) (wt : Bool) : List V :=
  if 0 < rs then (if 1 < rs then [.str "rest", .int hot, .int (rs - 1)] else [.str "rest", .int 0, .int 0])
  else if wt = true then (if hot + 1 < lim then [.str "page", .int (hot + 1), .int 0] else if 0 < pz then [.str "page", .int (hot + 1), .int pz] else [.str "page", .int 0, .int 0])
  else [.str "idle", .int 0, .int 0]
def spTick : Sp := fun vs H Q _ => ∃ (lim pz hot rs : Int) (wt : Bool), vs = [.int lim, .int pz, .int hot, .int rs, .bl wt] ∧ ∀ p H', Same H H' → H' p = some (.tup (tickV lim pz hot rs wt)) → Q (.ref p) H'
def spRested : Sp := fun vs H Q _ => ∃ (hot rs : Int), vs = [.int hot, .int rs] ∧ ∀ p H', Same H H' → H' p = some (.tup (if 1 < rs then [.str "rest", .int hot, .int (rs - 1)] else [.str "rest", .int 0, .int 0])) → Q (.ref p) H'
def spPrinted : Sp := fun vs H Q _ => ∃ (lim pz hot : Int), vs = [.int lim, .int pz, .int hot] ∧
  ∀ p H', Same H H' → H' p = some (.tup (if hot < lim then [.str "page", .int hot, .int 0] else if 0 < pz then [.str "page", .int hot, .int pz] else [.str "page", .int 0, .int 0])) → Q (.ref p) H'
section
variable {P : Program} {w : World} {K : PySem.W.Frag} {mg : Str → Option Value} {base : Heap}
theorem scRested : FnScope ["hot", "resting"] ["hot", "resting"] (defScope sRested) := ⟨rfl, rfl, rfl, by decide +kernel, rfl, by decide +kernel, by decide +kernel⟩
theorem ok_rested {f : Addr} {fd : FuncData} (F : Fun K "rested" "rested" sRested f fd) : FnOk P w K mg base CX0 1 f fd ["hot", "resting"] spRested := by
  refine F.ok scRested (fun vs H Q E h => ?_) (fun cdv A outer s H vs Q E hr h => ?_)
  · obtain ⟨hot, rs, rfl, _⟩ := h
    rfl
  obtain ⟨hot, rs, rfl, q⟩ := h
  refine ⟨_, pss_cons (ps_if (pt_cmpR op_gt (pv 1) pe_int (nomark _)) (pss_one (ps_ret (pe_tup (pa_cons pe_str (pa_cons (pv 0) (pa_cons (pe_op op_sub (pv 1) pe_int) pa_nil)))))) pss_nil)
    (pss_one (ps_ret (pe_tup (pa_cons pe_str (pa_cons pe_int (pa_cons pe_int pa_nil)))))), ?_⟩
  try dsimp only [nox_K, cxOf_K]
  refine ⟨_, rfl, _, _, rfl, rfl, _, rfl, ?_⟩
  refine ite2 (fun c => ?_) (fun c => ?_)
  · have c' : (1 : Int) < rs := of_decide_eq_true c
    refine ⟨_, rfl, _, rfl, _, _, rfl, rfl, (by show 3 ≤ sizeLine; decide), fun p hp => ?_⟩
    exact q p _ (same_new hp _) (by rw [if_pos c']; exact upd_same)
  · have c' : ¬ (1 : Int) < rs := of_decide_eq_false (Bool.eq_false_iff.mpr c)
    refine ⟨(by show 3 ≤ sizeLine; decide), fun p hp => ?_⟩
    exact q p _ (same_new hp _) (by rw [if_neg c']; exact upd_same)
theorem scPrinted : FnScope ["limit", "pause", "hot"] ["limit", "pause", "hot"] (defScope sPrinted) := ⟨rfl, rfl, rfl, by decide +kernel, rfl, by decide +kernel, by decide +kernel⟩
theorem ok_printed {f : Addr} {fd : FuncData} (F : Fun K "printed" "printed" sPrinted f fd) : FnOk P w K mg base CX0 1 f fd ["limit", "pause", "hot"] spPrinted := by
  refine F.ok scPrinted (fun vs H Q E h => ?_) (fun cdv A outer s H vs Q E hr h => ?_)
  · obtain ⟨lim, pz, hot, rfl, _⟩ := h
    rfl
  obtain ⟨lim, pz, hot, rfl, q⟩ := h
  refine ⟨_, pss_cons (ps_if (pt_cmpR op_lt (pv 2) (pv 0) (nomark _)) (pss_one (ps_ret (pe_tup (pa_cons pe_str (pa_cons (pv 2) (pa_cons pe_int pa_nil)))))) pss_nil)
    (pss_cons (ps_if (pt_cmpR op_gt (pv 1) pe_int (nomark _)) (pss_one (ps_ret (pe_tup (pa_cons pe_str (pa_cons (pv 2) (pa_cons (pv 1) pa_nil)))))) pss_nil)
    (pss_one (ps_ret (pe_tup (pa_cons pe_str (pa_cons pe_int (pa_cons pe_int pa_nil))))))), ?_⟩
  try dsimp only [nox_K, cxOf_K]
  refine ⟨_, rfl, _, rfl, _, _, rfl, rfl, _, rfl, ?_⟩
  refine ite2 (fun c => ?_) (fun c => ?_)
  · have c' : hot < lim := of_decide_eq_true c
    refine ⟨_, rfl, (by show 3 ≤ sizeLine; decide), fun p hp => ?_⟩
    exact q p _ (same_new hp _) (by rw [if_pos c']; exact upd_same)
  · have c' : ¬ hot < lim := of_decide_eq_false (Bool.eq_false_iff.mpr c)
    refine ⟨_, rfl, _, _, rfl, rfl, _, rfl, ?_⟩
    refine ite2 (fun d => ?_) (fun d => ?_)
    · have d' : 0 < pz := of_decide_eq_true d
      refine ⟨_, rfl, _, rfl, (by show 3 ≤ sizeLine; decide), fun p hp => ?_⟩
      exact q p _ (same_new hp _) (by rw [if_neg c', if_pos d']; exact upd_same)
    · have d' : ¬ 0 < pz := of_decide_eq_false (Bool.eq_false_iff.mpr d)
      refine ⟨(by show 3 ≤ sizeLine; decide), fun p hp => ?_⟩
      exact q p _ (same_new hp _) (by rw [if_neg c', if_neg d']; exact upd_same)
theorem scTicked : FnScope ["limit", "pause", "hot", "resting", "waiting"] ["limit", "pause", "hot", "resting", "waiting"] (defScope sTicked) := ⟨rfl, rfl, rfl, by decide +kernel, rfl, by decide +kernel, by decide +kernel⟩
theorem ok_ticked {f fR fP : Addr} {fd fdR fdP : FuncData} (F : Fun K "ticked" "ticked" sTicked f fd)
    (GR : FnOk P w K mg base CX0 1 fR fdR ["hot", "resting"] spRested) (bR : Binds K fdR ["hot", "resting"] []) (kR : PySem.W.keepIn K (.ref fR) = true) (mR : mg "rested" = some (.ref fR))
    (GP : FnOk P w K mg base CX0 1 fP fdP ["limit", "pause", "hot"] spPrinted) (bP : Binds K fdP ["limit", "pause", "hot"] []) (kP : PySem.W.keepIn K (.ref fP) = true) (mP : mg "printed" = some (.ref fP)) :
    FnOk P w K mg base CX0 2 f fd ["limit", "pause", "hot", "resting", "waiting"] spTick := by
  refine F.ok scTicked (fun vs H Q E h => ?_) (fun cdv A outer s H vs Q E hr h => ?_)
  · obtain ⟨lim, pz, hot, rs, wt, rfl, _⟩ := h
    rfl
  obtain ⟨lim, pz, hot, rs, wt, rfl, q⟩ := h
  refine ⟨_, pss_cons (ps_if (pt_cmpR op_gt (pv 3) pe_int (nomark _)) (pss_one (ps_ret (pe_call GR hr rfl mR kR bR .nil pass0 (pa_cons (pv 2) (pa_cons (pv 3) pa_nil))))) pss_nil)
    (pss_cons (ps_if (pt_val (pv 4)) (pss_one (ps_ret (pe_call GP hr rfl mP kP bP .nil pass0 (pa_cons (pv 0) (pa_cons (pv 1) (pa_cons (pe_op op_add (pv 2) pe_int) pa_nil)))))) pss_nil)
    (pss_one (ps_ret (pe_tup (pa_cons pe_str (pa_cons pe_int (pa_cons pe_int pa_nil))))))), ?_⟩
  try dsimp only [nox_K, cxOf_K]
  refine ⟨_, rfl, _, _, rfl, rfl, _, rfl, ?_⟩
  refine ite2 (fun c => ?_) (fun c => ?_)
  · have c' : 0 < rs := of_decide_eq_true c
    refine ⟨_, rfl, _, rfl, hot, rs, rfl, fun p H' s' hp => ?_⟩
    exact q p H' s' (by unfold tickV; rw [if_pos c']; exact hp)
  · have c' : ¬ 0 < rs := of_decide_eq_false (Bool.eq_false_iff.mpr c)
    refine ⟨_, rfl, _, rfl, ?_⟩
    cases wt with
    | true =>
      refine iteT ?_
      refine ⟨_, rfl, _, rfl, _, rfl, _, _, rfl, rfl, lim, pz, hot + 1, rfl, fun p H' s' hp => ?_⟩
      exact q p H' s' (by unfold tickV; rw [if_neg c', if_pos rfl]; exact hp)
    | false =>
      refine iteF ?_
      refine ⟨(by show 3 ≤ sizeLine; decide), fun p hp => ?_⟩
      exact q p _ (same_new hp _) (by unfold tickV; rw [if_neg c', if_neg Bool.false_ne_true]; exact upd_same)
end

/-! ### the laws' own press and row: printed, refusal, did, the lane, a tick, an answer -/
theorem iteB {b : Bool} {A B : Prop} (v : Bool) (e : b = v) (h : if v = true then A else B) : if b = true then A else B := by
  rw [e]
  exact h
section
variable {P : Program} {w : World} {K : PySem.W.Frag} {mg : Str → Option Value} {base : Heap}
inductive spLPrintedI  (vs : List V) (H : Hp) (Q : VK) : Prop
  | mk (a : Addr) (rows : List Rw) (z0 : vs = [.ref a, .int 1]) (z1 : RowsAt H a rows) (z2 : (∀ r ∈ rows, 1 ≤ r.2.2)) (z3 : rows.length ≤ 1000) (z4 : ∀ b H', Same H H' → H b = none → RowsAt H' b (step1 rows) → Q (.ref b) H')
def spLPrinted  : Sp := fun vs H Q _ => spLPrintedI  vs H Q
theorem scLPrinted : FnScope ["_law_rows", "_law_many", "_law_left", "_law_still", "_law_number", "_law_owner", "_law_pages", "_law_gone"] ["_law_rows", "_law_many"] (defScope sLPrinted) := ⟨rfl, rfl, rfl, by decide +kernel, rfl, by decide +kernel, by decide +kernel⟩
inductive InvLP (H : Hp) (a b : Addr) (rows : List Rw) (i : Nat) (σ : List (Option V)) (H2 : Hp) : Prop
  | mk (left : Int) (qs : List Addr) (done : List Rw) (o1 o2 o3 o4 : Option V) (e : σ = [some (.ref a), some (.int 1), some (.int left), some (.ref b), o1, o2, o3, o4]) (s2 : Same H H2) (hb2 : H2 b = some (.lst (qs.map V.ref))) (htq : TupsAt H2 qs done) (hdl : done.length ≤ i) (hd : done ++ prF left (rows.drop i) = step1 rows)
theorem ok_lprinted {f : Addr} {fd : FuncData} (F : Fun K "_law_printed" "_law_printed" sLPrinted f fd) (T : Free mg) : FnOk P w K mg base CX0 1 f fd ["_law_rows", "_law_many"] spLPrinted := by
  refine F.ok scLPrinted (fun vs H Q E h => ?_) (fun cdv A outer s H vs Q E hr h => ?_)
  · obtain ⟨a, rows, rfl, _⟩ := h
    rfl
  obtain ⟨a, rows, rfl, ⟨ps, ha, ht⟩, hpos, hlen, k⟩ := h
  refine ⟨_, (pss_cons (ps_set (i := 2) scLPrinted.nd rfl (Or.inl rfl) (pv 1))
    (pss_cons (ps_set (i := 3) scLPrinted.nd rfl (Or.inl rfl) (pe_lst pa_nil))
    (pss_cons (ps_for PassesOwn.never rfl (pi_list (pv 0)) (pg_tup rfl (pgs_cons (pg_name (i := 4) scLPrinted.nd rfl (Or.inl rfl)) (pgs_cons (pg_name (i := 5) scLPrinted.nd rfl (Or.inl rfl)) (pgs_cons (pg_name (i := 6) scLPrinted.nd rfl (Or.inl rfl)) pgs_nil))))
    (pss_cons (ps_set (i := 7) scLPrinted.nd rfl (Or.inl rfl) (pe_callB (call_min2 rfl) (by rfl) T.min boot_min (pa_cons (pv 2) (pa_cons (pv 6) pa_nil))))
    (pss_cons (ps_set (i := 2) scLPrinted.nd rfl (Or.inl rfl) (pe_op op_sub (pv 2) (pv 7)))
    (pss_one (ps_if (pt_cmpR op_lt (pv 7) (pv 6) (nomark _))
    (pss_one (ps_expr (pe_bm PySem.F.plainAttrs_list PySem.F.slot_list_append PySem.F.type_list_append mt_append (pv 3) (pa_cons (pe_tup (pa_cons (pv 4) (pa_cons (pv 5) (pa_cons (pe_op op_sub (pv 6) (pv 7)) pa_nil)))) pa_nil))))
    pss_nil)))))
    (pss_one (ps_ret (pv 3)))))), ?_⟩
  try dsimp only [nox_K, cxOf_K]
  refine ⟨_, rfl, ?_⟩
  refine ⟨(by show 0 ≤ sizeLine; decide), fun b hb => ?_⟩
  have s1 : Same H (upd H b (.lst [])) := same_new hb _
  have hpl := ht.len
  refine ⟨_, rfl, a, rfl, ⟨_, SqL.of (s1 _ _ ha)⟩, for_list (K := K) (a := a) (xs := ps.map V.ref) (InvLP H a b rows)
    ⟨1, [], [], none, none, none, none, rfl, s1, upd_same, trivial, Nat.le_refl _, by rw [List.drop_zero, List.nil_append]; exact prF_one rows hpos⟩
    (fun i σ H2 _ z => by obtain ⟨_, _, _, _, _, _, _, _, s2, _⟩ := z; exact SqL.of (s2 _ _ ha)) ?_ ?_⟩
  · rintro i y σ H2 hi ⟨left, qs, done, o1, o2, o3, o4, rfl, s2, hb2, htq, hdl, hd⟩
    obtain ⟨p, hp, rfl⟩ := map_ref_get hi
    obtain ⟨r, hr1, hr2, hr3, _⟩ := ht.get hp
    have hil : i < ps.length := (List.getElem?_eq_some_iff.mp hp).1
    have hql := htq.len
    rw [hr3, prF_cons] at hd
    refine ⟨p, _, rfl, SqT.of (s2 _ _ hr2), rfl, _, _, rfl, _, _, rfl, _, _, rfl, rfl, ?_⟩
    refine ⟨_, rfl, _, rfl, _, _, rfl, ?_⟩
    refine ⟨_, rfl, _, rfl, _, _, rfl, rfl, ?_⟩
    refine ⟨_, rfl, _, rfl, _, _, rfl, rfl, _, rfl, ?_⟩
    dsimp only
    generalize hg : (if r.2.2 < left then r.2.2 else left) = g at hd ⊢
    refine ite2 (fun c => ?_) (fun c => ?_)
    · have c' : g < r.2.2 := of_decide_eq_true c
      rw [if_pos c'] at hd
      refine ⟨_, rfl, .inl ⟨rfl, _, SqL.of hb2⟩, _, rfl, _, rfl, _, rfl, _, rfl, _, _, rfl, rfl, (by show 3 ≤ sizeLine; decide), fun q hq => ?_⟩
      have nbq : b ≠ q := ne_of_none hb2 hq
      have hb3 : upd H2 q (.tup (rowV (r.1, r.2.1, r.2.2 - g))) b = some (.lst (qs.map V.ref)) := by rw [upd_ne nbq]; exact hb2
      refine ⟨b, _, _, rfl, rfl, hb3, small1000 (by rw [List.length_map]; omega), ?_⟩
      have hq0 : H q = none := s2.free hq
      refine ⟨left - g, qs ++ [q], done ++ [(r.1, r.2.1, r.2.2 - g)], _, _, _, _, rfl, same_upd (same_upd s2 hq0 _) hb _, by rw [upd_same, List.map_append]; rfl, ?_, by rw [List.length_append]; show done.length + 1 ≤ i + 1; omega, by rw [List.append_assoc]; exact hd⟩
      refine TupsAt.snoc (by rw [upd_ne (Ne.symm nbq)]; exact upd_same) (htq.mono fun c xs e => ?_)
      rw [upd_ne (ne_of e hb2 (by intro z; cases z)), upd_ne (ne_of_none e hq)]
      exact e
    · have c' : ¬ g < r.2.2 := of_decide_eq_false (Bool.eq_false_iff.mpr c)
      rw [if_neg c'] at hd
      exact ⟨left - g, qs, done, _, _, _, _, rfl, s2, hb2, htq, by omega, hd⟩
  · rintro σ H2 ⟨left, qs, done, o1, o2, o3, o4, rfl, s2, hb2, htq, hdl, hd⟩
    rw [List.length_map, hpl, List.drop_length] at hd
    have e : done = step1 rows := by rw [← hd]; exact (List.append_nil done).symm
    rw [e] at htq
    exact ⟨_, rfl, k b H2 s2 hb ⟨qs, hb2, htq⟩⟩
theorem at_int {purse : List Int} {o : Int} (h0 : 0 ≤ o) (h1 : o < (purse.length : Int)) : atI (purse.map V.int) o = some (.int (purse.getD o.toNat 0)) := by
  have hk : o.toNat < purse.length := by omega
  have ek : o = ((o.toNat : Nat) : Int) := by omega
  have q : atI (purse.map V.int) ((o.toNat : Nat) : Int) = some (.int (purse.getD o.toNat 0)) := atI_nat (by
    rw [List.getElem?_map, List.getElem?_eq_getElem hk]
    simp [List.getD, List.getElem?_eq_getElem hk])
  rw [← ek] at q
  exact q
theorem in_ints (j : Int) : ∀ ns : List Int, inV (.int j) (ns.map V.int) = decide (j ∈ ns)
  | [] => by simp [inV]
  | n :: ns => by
    have ih := in_ints j ns
    simp only [inV, List.map_cons, List.any_cons, eqV] at ih ⊢
    rw [ih]
    by_cases e : n = j
    · subst e
      simp
    · have e2 : ¬ j = n := fun z => e z.symm
      simp [e, e2]
theorem flat_ints : ∀ ns : List Int, (ns.map V.int).all flatV = true
  | [] => rfl
  | n :: ns => by simp only [List.map_cons, List.all_cons, flatV, flat_ints ns, Bool.and_self]
inductive spRefusalI  (vs : List V) (H : Hp) (Q : VK) : Prop
  | mk (q a p : Addr) (purse : List Int) (rows : List Rw) (d : Deed) (z0 : vs = [.ref q, .ref a, .ref p]) (z1 : H q = some (.lst (purse.map V.int))) (z2 : RowsAt H a rows) (z3 : H p = some (.tup d.vals)) (z4 : rows.length ≤ 1000) (z5 : ∀ H', Same H H' → Q (.str (refusal purse rows d)) H')
def spRefusal  : Sp := fun vs H Q _ => spRefusalI  vs H Q
theorem scRefusal : FnScope ["_law_budgets", "_law_rows", "_law_deed"] ["_law_budgets", "_law_rows", "_law_deed"] (defScope sRefusal) := ⟨rfl, rfl, rfl, by decide +kernel, rfl, by decide +kernel, by decide +kernel⟩
inductive InvRef (H' : Hp) (b : Addr) (rows : List Rw) (i : Nat) (xs : List V) (H2 : Hp) : Prop
  | mk (s2 : Same H' H2) (h2 : H2 b = some (.lst xs)) (e : xs = ((rows.take i).map (·.1)).map V.int)
theorem ok_refusal {f : Addr} {fd : FuncData} (F : Fun K "_law_refusal_of" "_law_refusal_of" sRefusal f fd) (T : Free mg) : FnOk P w K mg base CX0 1 f fd ["_law_budgets", "_law_rows", "_law_deed"] spRefusal := by
  refine F.ok scRefusal (fun vs H Q E h => ?_) (fun cdv A outer s H vs Q E hr h => ?_)
  · obtain ⟨q, a, p, purse, rows, d, rfl, _⟩ := h
    rfl
  obtain ⟨q, a, p, purse, rows, d, rfl, hq, ⟨ps, ha, ht⟩, hp, hlen, k⟩ := h
  have hll : (purse.map V.int).length = purse.length := List.length_map _
  refine ⟨_, (pss_join (ps_if (PW.pt (pw_or (pt_cmpR op_eq (pe_ix ix_tup (pv 2) pe_int (fun _ _ => rfl)) pe_str (nomark _)) (pw_or1 (pt_cmpR op_eq (pe_ix ix_tup (pv 2) pe_int (fun _ _ => rfl)) pe_str (nomark _)))))
    (pss_one (ps_if (PW.pt (pw_or (pt_cmpR op_lt (pe_ix ix_tup (pv 2) pe_int (fun _ _ => rfl)) pe_int (nomark _)) (pw_or1 (pt_cmpR op_ge (pe_ix ix_tup (pv 2) pe_int (fun _ _ => rfl)) (pe_callB call_len_seq (by rfl) T.len PySem.boot_len (pa_cons (pv 0) pa_nil)) (nomark _)))))
    (pss_one (ps_ret pe_str))
    pss_nil))
    pss_nil)
    (pss_cons (ps_if (PW.pt (pw_and (pt_cmpR op_eq (pe_ix ix_tup (pv 2) pe_int (fun _ _ => rfl)) pe_str (nomark _)) (pw_and1 (pt_cmpR op_lt (pe_ix ix_tup (pv 2) pe_int (fun _ _ => rfl)) pe_int (nomark _)))))
    (pss_one (ps_ret pe_str))
    pss_nil)
    (pss_cons (ps_if (PW.pt (pw_and (pt_cmpR op_eq (pe_ix ix_tup (pv 2) pe_int (fun _ _ => rfl)) pe_str (nomark _)) (pw_and1 (pt_cmpR op_gt (pe_ix ix_tup (pv 2) pe_int (fun _ _ => rfl)) (pe_ix ix_list (pv 0) (pe_ix ix_tup (pv 2) pe_int (fun _ _ => rfl)) (fun _ _ => rfl)) (nomark _)))))
    (pss_one (ps_ret pe_str))
    pss_nil)
    (pss_cons (ps_if (PW.pt (pw_and (pt_cmpR op_eq (pe_ix ix_tup (pv 2) pe_int (fun _ _ => rfl)) pe_str (nomark _)) (pw_and1 (pt_cmpR op_notIn_seq (pe_ix ix_tup (pv 2) pe_int (fun _ _ => rfl)) (pe_comp (x := "_law_row") (caps := []) rfl ⟨by rfl, rfl, by decide +kernel, by decide +kernel, by rfl, (by intro p hp; cases hp), (by show ∀ y ∈ Scope.names _, y.2 = NameKind.free → ([] : List Str).contains y.1 = true; decide +kernel), (by intro p hp; cases hp)⟩ (by decide +kernel) (pi_list (pv 1)) (fun C s H fp => pts_nil) (fun C s H fp => (pe_ix (ix_tupK (K := K)) (pv 0) pe_int (fun _ _ => rfl)))) (by with_unfolding_all rfl)))))
    (pss_one (ps_ret pe_str))
    pss_nil)
    (pss_one (ps_ret pe_str)))))), ?_⟩
  try dsimp only [nox_K, cxOf_K]
  cases d with
  | send o pg =>
    refine ⟨fun σ H' => σ = [some (.ref q), some (.ref a), some (.ref p)] ∧ H' = H ∧ ¬ (o < 0 ∨ (purse.length : Int) ≤ o), ?_, ?_⟩
    · refine ⟨_, rfl, p, _, _, _, rfl, rfl, SqT.of hp, rfl, rfl, _, rfl, ?_⟩
      refine iteB true (by decide +kernel) (iteT ?_)
      refine iteT ?_
      refine ⟨_, rfl, p, _, _, _, rfl, rfl, SqT.of hp, rfl, _, _, rfl, rfl, _, rfl, ?_⟩
      refine ite2 (fun c => ?_) (fun c => ?_)
      · have c' : o < 0 := of_decide_eq_true c
        refine iteT ?_
        have := k H (Same.refl H)
        rw [ref_send_no (Or.inl c')] at this
        exact this
      · have c' : ¬ o < 0 := of_decide_eq_false (Bool.eq_false_iff.mpr c)
        refine ⟨_, rfl, p, _, _, _, rfl, rfl, SqT.of hp, rfl, _, rfl, q, _, rfl, .inl (SqL.of hq), _, _, rfl, rfl, _, rfl, ?_⟩
        refine ite2 (fun d => ?_) (fun d => ?_)
        · have d' : (((purse.map V.int).length : Nat) : Int) ≤ o := of_decide_eq_true d
          rw [hll] at d'
          have := k H (Same.refl H)
          rw [ref_send_no (Or.inr d')] at this
          exact this
        · have d' : ¬ (((purse.map V.int).length : Nat) : Int) ≤ o := of_decide_eq_false (Bool.eq_false_iff.mpr d)
          rw [hll] at d'
          exact ⟨rfl, rfl, fun z => z.elim c' d'⟩
    · rintro σ H' ⟨rfl, rfl, hc⟩
      rw [ref_send_yes hc] at k
      refine ⟨_, rfl, p, _, _, _, rfl, rfl, SqT.of hp, rfl, rfl, _, rfl, ?_⟩
      refine iteB true (by decide +kernel) (iteT ?_)
      refine ⟨_, rfl, p, _, _, _, rfl, rfl, SqT.of hp, rfl, _, _, rfl, rfl, _, rfl, ?_⟩
      refine ite2 (fun c => ?_) (fun c => ?_)
      · have c' : pg < 1 := of_decide_eq_true c
        rw [if_pos c'] at k
        exact k H' (Same.refl H')
      · have c' : ¬ pg < 1 := of_decide_eq_false (Bool.eq_false_iff.mpr c)
        rw [if_neg c'] at k
        refine ⟨_, rfl, p, _, _, _, rfl, rfl, SqT.of hp, rfl, rfl, _, rfl, ?_⟩
        refine iteB true (by decide +kernel) (iteT ?_)
        refine ⟨_, rfl, p, _, _, _, rfl, rfl, SqT.of hp, rfl, _, rfl, _, rfl, p, _, _, _, rfl, rfl, SqT.of hp, rfl, q, _, _, _, rfl, rfl, SqL.of hq, at_int (by omega) (by omega), _, _, rfl, rfl, _, rfl, ?_⟩
        refine ite2 (fun e => ?_) (fun e => ?_)
        · have e' : purse.getD o.toNat 0 < pg := of_decide_eq_true e
          rw [if_pos e'] at k
          exact k H' (Same.refl H')
        · have e' : ¬ purse.getD o.toNat 0 < pg := of_decide_eq_false (Bool.eq_false_iff.mpr e)
          rw [if_neg e'] at k
          refine ⟨_, rfl, p, _, _, _, rfl, rfl, SqT.of hp, rfl, rfl, _, rfl, ?_⟩
          refine iteB false (by decide +kernel) (iteF ?_)
          exact k H' (Same.refl H')
  | grant o m =>
    refine ⟨fun σ H' => σ = [some (.ref q), some (.ref a), some (.ref p)] ∧ H' = H ∧ ¬ (o < 0 ∨ (purse.length : Int) ≤ o), ?_, ?_⟩
    · refine ⟨_, rfl, p, _, _, _, rfl, rfl, SqT.of hp, rfl, rfl, _, rfl, ?_⟩
      refine iteB false (by decide +kernel) (iteF ?_)
      refine ⟨_, rfl, p, _, _, _, rfl, rfl, SqT.of hp, rfl, rfl, _, rfl, ?_⟩
      refine iteB true (by decide +kernel) (iteT ?_)
      refine ⟨_, rfl, p, _, _, _, rfl, rfl, SqT.of hp, rfl, _, _, rfl, rfl, _, rfl, ?_⟩
      refine ite2 (fun c => ?_) (fun c => ?_)
      · have c' : o < 0 := of_decide_eq_true c
        refine iteT ?_
        have := k H (Same.refl H)
        rw [ref_grant_no (Or.inl c')] at this
        exact this
      · have c' : ¬ o < 0 := of_decide_eq_false (Bool.eq_false_iff.mpr c)
        refine ⟨_, rfl, p, _, _, _, rfl, rfl, SqT.of hp, rfl, _, rfl, q, _, rfl, .inl (SqL.of hq), _, _, rfl, rfl, _, rfl, ?_⟩
        refine ite2 (fun d => ?_) (fun d => ?_)
        · have d' : (((purse.map V.int).length : Nat) : Int) ≤ o := of_decide_eq_true d
          rw [hll] at d'
          have := k H (Same.refl H)
          rw [ref_grant_no (Or.inr d')] at this
          exact this
        · have d' : ¬ (((purse.map V.int).length : Nat) : Int) ≤ o := of_decide_eq_false (Bool.eq_false_iff.mpr d)
          rw [hll] at d'
          exact ⟨rfl, rfl, fun z => z.elim c' d'⟩
    · rintro σ H' ⟨rfl, rfl, hc⟩
      rw [ref_grant_yes hc] at k
      refine ⟨_, rfl, p, _, _, _, rfl, rfl, SqT.of hp, rfl, rfl, _, rfl, ?_⟩
      refine iteB false (by decide +kernel) (iteF ?_)
      refine iteF ?_
      refine ⟨_, rfl, p, _, _, _, rfl, rfl, SqT.of hp, rfl, rfl, _, rfl, ?_⟩
      refine iteB false (by decide +kernel) (iteF ?_)
      refine iteF ?_
      refine ⟨_, rfl, p, _, _, _, rfl, rfl, SqT.of hp, rfl, rfl, _, rfl, ?_⟩
      refine iteB false (by decide +kernel) (iteF ?_)
      refine iteF ?_
      exact k H' (Same.refl H')
  | run m =>
    refine ⟨fun σ H' => σ = [some (.ref q), some (.ref a), some (.ref p)] ∧ H' = H, ?_, ?_⟩
    · refine ⟨_, rfl, p, _, _, _, rfl, rfl, SqT.of hp, rfl, rfl, _, rfl, ?_⟩
      refine iteB false (by decide +kernel) (iteF ?_)
      refine ⟨_, rfl, p, _, _, _, rfl, rfl, SqT.of hp, rfl, rfl, _, rfl, ?_⟩
      refine iteB false (by decide +kernel) (iteF ?_)
      exact ⟨rfl, rfl⟩
    · rintro σ H' ⟨rfl, rfl⟩
      refine ⟨_, rfl, p, _, _, _, rfl, rfl, SqT.of hp, rfl, rfl, _, rfl, ?_⟩
      refine iteB false (by decide +kernel) (iteF ?_)
      refine iteF ?_
      refine ⟨_, rfl, p, _, _, _, rfl, rfl, SqT.of hp, rfl, rfl, _, rfl, ?_⟩
      refine iteB false (by decide +kernel) (iteF ?_)
      refine iteF ?_
      refine ⟨_, rfl, p, _, _, _, rfl, rfl, SqT.of hp, rfl, rfl, _, rfl, ?_⟩
      refine iteB false (by decide +kernel) (iteF ?_)
      refine iteF ?_
      exact k H' (Same.refl H')
  | stop j =>
    refine ⟨fun σ H' => σ = [some (.ref q), some (.ref a), some (.ref p)] ∧ H' = H, ?_, ?_⟩
    · refine ⟨_, rfl, p, _, _, _, rfl, rfl, SqT.of hp, rfl, rfl, _, rfl, ?_⟩
      refine iteB false (by decide +kernel) (iteF ?_)
      refine ⟨_, rfl, p, _, _, _, rfl, rfl, SqT.of hp, rfl, rfl, _, rfl, ?_⟩
      refine iteB false (by decide +kernel) (iteF ?_)
      exact ⟨rfl, rfl⟩
    · rintro σ H' ⟨rfl, rfl⟩
      refine ⟨_, rfl, p, _, _, _, rfl, rfl, SqT.of hp, rfl, rfl, _, rfl, ?_⟩
      refine iteB false (by decide +kernel) (iteF ?_)
      refine iteF ?_
      refine ⟨_, rfl, p, _, _, _, rfl, rfl, SqT.of hp, rfl, rfl, _, rfl, ?_⟩
      refine iteB false (by decide +kernel) (iteF ?_)
      refine iteF ?_
      refine ⟨_, rfl, p, _, _, _, rfl, rfl, SqT.of hp, rfl, rfl, _, rfl, ?_⟩
      refine iteB true (by decide +kernel) (iteT ?_)
      -- deed[1] not in [row[0] for row in rows]
      refine ⟨_, rfl, p, _, _, _, rfl, rfl, SqT.of hp, rfl, ?_⟩
      refine ⟨_, rfl, a, rfl, ⟨_, SqL.of ha⟩, fun b hb => ?_⟩
      have s1 : Same H' (upd H' b (.lst [])) := same_new hb _
      refine comp_list (K := K) (a := a) (ys := ps.map V.ref) (tc := tAny) (te := tOp (rIxT K) (tVar 0) (tC (.int 0))) (cs := []) (InvRef H' b rows)
        ⟨s1, upd_same, rfl⟩ (fun i xs H2 z => by obtain ⟨s2, h2, _⟩ := z; exact ⟨h2, SqL.of (s2 _ _ ha)⟩) ?_ (fun _ _ _ _ h q => h _ _ q) (m_op m_ixT m_var m_c) ?_
      · rintro i y xs H2 hi ⟨s2, h2, e⟩
        obtain ⟨pp, hpp, rfl⟩ := map_ref_get hi
        obtain ⟨r, r1, r2, r3, r4⟩ := ht.get hpp
        have hil : i < ps.length := (List.getElem?_eq_some_iff.mp hpp).1
        have hpl := ht.len
        refine ⟨_, rfl, pp, _, _, _, rfl, rfl, SqT.of (s2 _ _ r2), rfl, h2, ?_, same_upd s2 hb _, upd_same, ?_⟩
        · rw [e, List.length_map, List.length_map, List.length_take]
          exact small1000 (by omega)
        · rw [e, r4, List.map_append, List.map_append]
          rfl
      · rintro xs H2 ⟨s2, h2, e⟩
        have hpl := ht.len
        have e2 : xs = (rows.map (·.1)).map V.int := by rw [e, List.length_map, hpl, List.take_length]
        refine ⟨b, xs, rfl, .inl (SqL.of h2), rfl, by rw [e2]; exact flat_ints _, _, rfl, ?_⟩
        rw [e2]
        have k1 := k H2 s2
        refine ite2 (fun c => ?_) (fun c => ?_)
        · have c' : ¬ j ∈ rows.map (·.1) := by
            intro z
            have c2 : (!inV (.int j) ((rows.map (·.1)).map V.int)) = true := c
            rw [in_ints, decide_eq_true z] at c2
            cases c2
          rw [ref_stop_no c'] at k1
          exact k1
        · have c' : j ∈ rows.map (·.1) := by
            have c2 : ¬ (!inV (.int j) ((rows.map (·.1)).map V.int)) = true := c
            rw [in_ints] at c2
            by_cases z : j ∈ rows.map (·.1)
            · exact z
            · rw [decide_eq_false z] at c2
              exact absurd rfl c2
          rw [ref_stop_yes c'] at k1
          exact k1
/-! ### the lane is made -/
inductive spLaneOfI (K : PySem.W.Frag) (vs : List V) (H : Hp) (Q : VK) : Prop
  | mk (lim pz : Int) (b : Addr) (bs : List Int) (z0 : vs = [.int lim, .int pz, .ref b]) (z1 : H b = some (.lst (bs.map V.int))) (z2 : ∀ d q a H', Same H H' → H d = none → H q = none → H a = none → LaneAt H' d q a ⟨lim, pz, bs, [], 0, 0, 0⟩ → Q (.ref d) H')
def spLaneOf (K : PySem.W.Frag) : Sp := fun vs H Q _ => spLaneOfI K vs H Q
theorem scLaneOf : FnScope ["_law_limit", "_law_pause", "_law_budgets", "_law_mine"] ["_law_limit", "_law_pause", "_law_budgets"] (defScope sLaneOf) := ⟨rfl, rfl, rfl, by decide +kernel, rfl, by decide +kernel, by decide +kernel⟩
theorem ok_lane_of {f : Addr} {fd : FuncData} (F : Fun K "_law_lane_of" "_law_lane_of" sLaneOf f fd) (T : Free mg) : FnOk P w K mg base CX0 1 f fd ["_law_limit", "_law_pause", "_law_budgets"] (spLaneOf K) := by
  refine F.ok scLaneOf (fun vs H Q E h => ?_) (fun cdv A outer s H vs Q E hr h => ?_)
  · obtain ⟨lim, pz, b, bs, rfl, _⟩ := h
    rfl
  obtain ⟨lim, pz, b, bs, rfl, hb, k⟩ := h
  have hu := hu_of hr
  refine ⟨_, (pss_cons (ps_set (i := 3) scLaneOf.nd rfl (Or.inl rfl) (pe_disp (pps_cons pe_str (pv 0) (pps_cons pe_str (pv 1) (pps_cons pe_str (pe_callTy call_list_of (by rfl) T.list boot_list (pa_cons (pv 2) pa_nil)) (pps_cons pe_str (pe_lst pa_nil) pps_nil)))) (by rfl) (by rfl) (by simp) (by decide)))
    (pss_cons (ps_dput hu (pv 3) pe_str pe_int rfl)
    (pss_cons (ps_dput hu (pv 3) pe_str pe_int rfl)
    (pss_cons (ps_dput hu (pv 3) pe_str pe_int rfl)
    (pss_one (ps_ret (pv 3))))))), ?_⟩
  try dsimp only [nox_K, cxOf_K]
  intro d hd
  have s1 : Same H (upd H d (.dK [])) := same_new hd _
  refine ⟨_, rfl, _, rfl, _, rfl, b, _, rfl, .inl (SqL.of (s1 _ _ hb)), fun q hq => ?_⟩
  have hq0 : H q = none := s1.free hq
  have ndq : d ≠ q := ne_of_none upd_same hq
  have s2 : Same H (upd (upd H d (.dK [])) q (.lst (bs.map V.int))) := same_upd s1 hq0 _
  have d2 : upd (upd H d (.dK [])) q (.lst (bs.map V.int)) d = some (.dK []) := by rw [upd_ne ndq]; exact upd_same
  have q2 : upd (upd H d (.dK [])) q (.lst (bs.map V.int)) q = some (.lst (bs.map V.int)) := upd_same
  generalize upd (upd H d (.dK [])) q (.lst (bs.map V.int)) = H2 at s2 d2 q2
  refine ⟨(by show 0 ≤ sizeLine; decide), fun a ha => ?_⟩
  have ha0 : H a = none := s2.free ha
  have nda : d ≠ a := ne_of_none d2 ha
  have nqa : q ≠ a := ne_of_none q2 ha
  refine ⟨by rw [upd_ne nda]; exact d2, [(.inr "limit", .int lim), (.inr "pause", .int pz), (.inr "purse", .ref q), (.inr "rows", .ref a)], rfl, (by show 4 ≤ 15; decide), ?_⟩
  refine ⟨_, rfl, d, _, rfl, DPut.k (k := Sum.inr "sent") upd_same (by show 4 < sizeLine; decide), ?_⟩
  refine ⟨_, rfl, d, _, rfl, DPut.k (k := Sum.inr "hot") upd_same (by show 5 < sizeLine; decide), ?_⟩
  refine ⟨_, rfl, d, _, rfl, DPut.k (k := Sum.inr "resting") upd_same (by show 6 < sizeLine; decide), ?_⟩
  refine ⟨_, rfl, k d q a _ ?_ hd hq0 ha0 ⟨upd_same, ⟨[], ?_, trivial⟩, ?_⟩⟩
  · exact same_upd (same_upd (same_upd (same_upd (same_upd s2 ha0 _) hd _) hd _) hd _) hd _
  · rw [upd_ne (Ne.symm nda), upd_ne (Ne.symm nda), upd_ne (Ne.symm nda), upd_ne (Ne.symm nda), upd_same]
    rfl
  · rw [upd_ne (Ne.symm ndq), upd_ne (Ne.symm ndq), upd_ne (Ne.symm ndq), upd_ne (Ne.symm ndq), upd_ne nqa]
    exact q2
/-! ### a tick -/
def But (d : Addr) (H H' : Hp) : Prop := ∀ c o, H c = some o → c ≠ d → H' c = some o
theorem But.upd {d : Addr} {H H' : Hp} (h : But d H H') (o : HO) : But d H (upd H' d o) := fun c u e n => by rw [upd_ne n]; exact h c u e n
/-- what is free behind was free ahead, if d itself still stands -/
theorem but_none {d : Addr} {H H' : Hp} {b : Addr} {o : HO} (h : But d H H') (hd : H d = some o) (e : H' b = none) (hd' : H' d ≠ none := by intro z; simp_all) : H b = none := by
  cases q : H b with
  | none => rfl
  | some u =>
    by_cases z : b = d
    · rw [z] at e
      exact absurd e hd'
    · rw [h b u q z] at e
      cases e
theorem But.refl (d : Addr) (H : Hp) : But d H H := fun _ _ e _ => e
theorem But.same {d : Addr} {H H1 H2 : Hp} (h : But d H H1) (k : Same H1 H2) : But d H H2 := fun c u e n => k c u (h c u e n)
/-- the dict at d has got another face: the lane's parts stay -/
theorem rows_put {H : Hp} {d a : Addr} {rs : List Rw} {kvs kvs' : List (Key × V)} (hd : H d = some (.dK kvs)) (h : RowsAt H a rs) : RowsAt (upd H d (.dK kvs')) a rs := by
  obtain ⟨ps, h1, h2⟩ := h
  exact ⟨ps, by rw [upd_ne (ne_of h1 hd (by intro z; cases z))]; exact h1, h2.mono fun b xs e => by rw [upd_ne (ne_of e hd (by intro z; cases z))]; exact e⟩
theorem lst_put {H : Hp} {d q : Addr} {xs : List V} {kvs kvs' : List (Key × V)} (hd : H d = some (.dK kvs)) (h : H q = some (.lst xs)) : upd H d (.dK kvs') q = some (.lst xs) := by
  rw [upd_ne (ne_of h hd (by intro z; cases z))]
  exact h
inductive spTickInI  (vs : List V) (H : Hp) (Q : VK) : Prop
  | mk (d q a : Addr) (L : Ln) (z0 : vs = [.ref d]) (z1 : LaneAt H d q a L) (z2 : (∀ r ∈ L.rows, 1 ≤ r.2.2)) (z3 : L.rows.length ≤ 1000) (z4 : ∀ a' H', But d H H' → (a' = a ∨ H a' = none) → LaneAt H' d q a' (tickL L) → Q (.str (tickW L)) H')
def spTickIn  : Sp := fun vs H Q _ => spTickInI  vs H Q
theorem scTickIn : FnScope ["_law_mine"] ["_law_mine"] (defScope sTickIn) := ⟨rfl, rfl, rfl, by decide +kernel, rfl, by decide +kernel, by decide +kernel⟩
theorem ok_tick_in {f : Addr} {fd : FuncData} (F : Fun K "_law_tick_in" "_law_tick_in" sTickIn f fd) (T : Free mg) (CP : Callee P w K mg base 1 "_law_printed" ["_law_rows", "_law_many"] spLPrinted) : FnOk P w K mg base CX0 2 f fd ["_law_mine"] spTickIn := by
  refine F.ok scTickIn (fun vs H Q E h => ?_) (fun cdv A outer s H vs Q E hr h => ?_)
  · obtain ⟨d, q, a, L, rfl, _⟩ := h
    rfl
  obtain ⟨d, q, a, ⟨lim, pz, purse, rows, sent, hot, rs⟩, rfl, ⟨hd, hrw, hq⟩, hpos, hlen, k⟩ := h
  dsimp only at hd hrw hq hpos hlen
  have hu := hu_of hr
  have hu0 := hr.units0
  have big7 : (laneK lim pz q a sent hot rs).length < sizeLine := by show 7 < sizeLine; decide
  refine ⟨_, (pss_cons (ps_if (pt_cmpR op_gt (pe_dget hu (pv 0) pe_str (fun _ _ => rfl)) pe_int (nomark _))
    (pss_cons (ps_dput hu (pv 0) pe_str (pe_op op_sub (pe_dget hu (pv 0) pe_str (fun _ _ => rfl)) pe_int) rfl)
    (pss_one (ps_ret pe_str)))
    pss_nil)
    (pss_cons (ps_if (pt_eqNil hu0 (pe_dget hu (pv 0) pe_str (fun _ _ => rfl)))
    (pss_cons (ps_dput hu (pv 0) pe_str pe_int rfl)
    (pss_one (ps_ret pe_str)))
    pss_nil)
    (pss_cons (ps_dput hu (pv 0) pe_str (pe_callC CP (hr.mono (by decide)) (by rfl) (pa_cons (pe_dget hu (pv 0) pe_str (fun _ _ => rfl)) (pa_cons pe_int pa_nil))) rfl)
    (pss_cons (ps_dput hu (pv 0) pe_str (pe_op op_add (pe_dget hu (pv 0) pe_str (fun _ _ => rfl)) pe_int) rfl)
    (pss_join (ps_if (pt_cmpR op_eq (pe_dget hu (pv 0) pe_str (fun _ _ => rfl)) (pe_dget hu (pv 0) pe_str (fun _ _ => rfl)) (nomark _))
    (pss_cons (ps_dput hu (pv 0) pe_str pe_int rfl)
    (pss_one (ps_dput hu (pv 0) pe_str (pe_dget hu (pv 0) pe_str (fun _ _ => rfl)) rfl)))
    pss_nil)
    (pss_one (ps_ret pe_str))))))), ?_⟩
  try dsimp only [nox_K, cxOf_K]
  -- resting > 0
  refine ⟨_, rfl, d, _, rfl, by rw [← g_rest (lim := lim) (pz := pz) (q := q) (a := a) (sent := sent) (hot := hot) (rs := rs)]; exact DGet.k (k := Sum.inr "resting") hd, _, _, rfl, rfl, _, rfl, ?_⟩
  refine ite2 (fun c => ?_) (fun c => ?_)
  · have c' : 0 < rs := of_decide_eq_true c
    refine ⟨_, rfl, d, _, rfl, by rw [← g_rest (lim := lim) (pz := pz) (q := q) (a := a) (sent := sent) (hot := hot) (rs := rs)]; exact DGet.k (k := Sum.inr "resting") hd, _, _, rfl, rfl, _, rfl, d, _, rfl, DPut.k (k := Sum.inr "resting") hd big7, ?_⟩
    have := k a (upd H d (.dK (putK (laneK lim pz q a sent hot rs) (.inr "resting") (.int (rs - 1))))) ((But.refl d H).upd _) (.inl rfl)
    unfold tickL tickW at this
    rw [if_pos c', if_pos c'] at this
    exact this ⟨upd_same, rows_put hd hrw, lst_put hd hq⟩
  · have c' : ¬ 0 < rs := of_decide_eq_false (Bool.eq_false_iff.mpr c)
    -- rows == []
    obtain ⟨ps, ha, ht⟩ := id hrw
    have hpl := ht.len
    refine ⟨_, rfl, d, _, rfl, by rw [← g_rows (lim := lim) (pz := pz) (q := q) (a := a) (sent := sent) (hot := hot) (rs := rs)]; exact DGet.k (k := Sum.inr "rows") hd, a, _, rfl, ha, _, rfl, ?_⟩
    cases hcr : rows with
    | nil =>
      subst hcr
      have e : ps = [] := List.length_eq_zero_iff.mp hpl
      subst e
      refine iteT ?_
      refine ⟨_, rfl, d, _, rfl, DPut.k (k := Sum.inr "hot") hd big7, ?_⟩
      have := k a (upd H d (.dK (putK (laneK lim pz q a sent hot rs) (.inr "hot") (.int 0)))) ((But.refl d H).upd _) (.inl rfl)
      unfold tickL tickW at this
      rw [if_neg c', if_neg c', if_pos rfl, if_pos rfl] at this
      exact this ⟨upd_same, rows_put hd hrw, lst_put hd hq⟩
    | cons r0 rs0 =>
      have hne : rows ≠ [] := by rw [hcr]; exact List.cons_ne_nil _ _
      have e : ps ≠ [] := fun z => by
        rw [z] at hpl
        exact hne (List.length_eq_zero_iff.mp hpl.symm)
      refine iteB false (by cases ps with | nil => exact absurd rfl e | cons => rfl) (iteF ?_)
      -- rows = printed(rows, 1)
      refine ⟨_, rfl, d, _, rfl, by rw [← g_rows (lim := lim) (pz := pz) (q := q) (a := a) (sent := sent) (hot := hot) (rs := rs)]; exact DGet.k (k := Sum.inr "rows") hd, a, rows, rfl, hrw, hpos, hlen, fun b H1 s1 hbn hb => ?_⟩
      have hd1 := s1 _ _ hd
      have hq1 := s1 _ _ hq
      refine ⟨_, rfl, d, _, rfl, DPut.k (k := Sum.inr "rows") hd1 big7, ?_⟩
      rw [p_rows]
      have hd2 : upd H1 d (.dK (laneK lim pz q b sent hot rs)) d = some (.dK (laneK lim pz q b sent hot rs)) := upd_same
      have hb2 : RowsAt (upd H1 d (.dK (laneK lim pz q b sent hot rs))) b (step1 rows) := rows_put hd1 hb
      have hq2 := lst_put (kvs' := laneK lim pz q b sent hot rs) hd1 hq1
      have f2 : But d H (upd H1 d (.dK (laneK lim pz q b sent hot rs))) := ((But.refl d H).same s1).upd _
      generalize upd H1 d (.dK (laneK lim pz q b sent hot rs)) = H2 at hd2 hb2 hq2 f2
      -- hot = hot + 1
      refine ⟨_, rfl, d, _, rfl, by rw [← g_hot (lim := lim) (pz := pz) (q := q) (a := b) (sent := sent) (hot := hot) (rs := rs)]; exact DGet.k (k := Sum.inr "hot") hd2, _, _, rfl, rfl, _, rfl, d, _, rfl, DPut.k (k := Sum.inr "hot") hd2 big7, ?_⟩
      dsimp only
      rw [p_hot]
      have hd3 : upd H2 d (.dK (laneK lim pz q b sent (hot + 1) rs)) d = some (.dK (laneK lim pz q b sent (hot + 1) rs)) := upd_same
      have hb3 : RowsAt (upd H2 d (.dK (laneK lim pz q b sent (hot + 1) rs))) b (step1 rows) := rows_put hd2 hb2
      have hq3 := lst_put (kvs' := laneK lim pz q b sent (hot + 1) rs) hd2 hq2
      have f3 : But d H (upd H2 d (.dK (laneK lim pz q b sent (hot + 1) rs))) := f2.upd _
      generalize upd H2 d (.dK (laneK lim pz q b sent (hot + 1) rs)) = H3 at hd3 hb3 hq3 f3
      -- if hot == limit
      have kk : ∀ H', But d H H' → LaneAt H' d q b (tickL ⟨lim, pz, purse, rows, sent, hot, rs⟩) → Q (.str "page") H' := fun H' f l => by
        have := k b H' f (.inr hbn) l
        unfold tickW at this
        rw [if_neg c', if_neg hne] at this
        exact this
      refine ⟨fun σ H' => But d H H' ∧ LaneAt H' d q b (tickL ⟨lim, pz, purse, rows, sent, hot, rs⟩), ?_, fun σ' H' ⟨f, l⟩ => kk H' f l⟩
      refine ⟨_, rfl, d, _, rfl, by rw [← g_hot (lim := lim) (pz := pz) (q := q) (a := b) (sent := sent) (hot := hot + 1) (rs := rs)]; exact DGet.k (k := Sum.inr "hot") hd3, _, rfl, d, _, rfl, by rw [← g_limit (lim := lim) (pz := pz) (q := q) (a := b) (sent := sent) (hot := hot + 1) (rs := rs)]; exact DGet.k (k := Sum.inr "limit") hd3, rfl, _, rfl, ?_⟩
      refine ite2 (fun e2 => ?_) (fun e2 => ?_)
      · have e' : hot + 1 = lim := by
          have := of_decide_eq_true e2
          injection this
        refine ⟨_, rfl, d, _, rfl, DPut.k (k := Sum.inr "hot") hd3 big7, ?_⟩
        rw [p_hot]
        have hd4 : upd H3 d (.dK (laneK lim pz q b sent 0 rs)) d = some (.dK (laneK lim pz q b sent 0 rs)) := upd_same
        refine ⟨_, rfl, d, _, rfl, by rw [← g_pause (lim := lim) (pz := pz) (q := q) (a := b) (sent := sent) (hot := 0) (rs := rs)]; exact DGet.k (k := Sum.inr "pause") hd4, _, rfl, d, _, rfl, DPut.k (k := Sum.inr "resting") hd4 big7, ?_⟩
        rw [p_rest]
        refine ⟨(f3.upd _).upd _, ?_⟩
        unfold tickL
        rw [if_neg c', if_neg hne, if_pos e']
        exact ⟨upd_same, rows_put hd4 (rows_put hd3 hb3), lst_put hd4 (lst_put hd3 hq3)⟩
      · have e' : ¬ hot + 1 = lim := fun z => of_decide_eq_false (Bool.eq_false_iff.mpr e2) (congrArg V.int z)
        refine ⟨f3, ?_⟩
        unfold tickL
        rw [if_neg c', if_neg hne, if_neg e']
        exact ⟨hd3, hb3, hq3⟩
/-! ### a deed is done -/
theorem ix_int {purse : List Int} {o : Int} (h0 : 0 ≤ o) (h1 : o < (purse.length : Int)) : ixN (purse.map V.int).length o = some o.toNat := by
  unfold ixN
  rw [if_pos h0, List.length_map, if_pos h1]
theorem set_int (purse : List Int) (i : Nat) (v : Int) : (purse.map V.int).set i (.int v) = (purse.set i v).map V.int := by rw [List.map_set]
inductive spDidI  (vs : List V) (H : Hp) (Q : VK) : Prop
  | mk (q a p : Addr) (purse : List Int) (rows : List Rw) (d : Deed) (sent : Int) (z0 : vs = [.ref q, .ref a, .ref p, .int sent]) (z1 : H q = some (.lst (purse.map V.int))) (z2 : RowsAt H a rows) (z3 : H p = some (.tup d.vals)) (z4 : a ≠ q) (z5 : d.isRun = false) (z6 : refusal purse rows d = "done") (z7 : (∀ r ∈ rows, 0 ≤ r.2.1 ∧ r.2.1 < (purse.length : Int))) (z8 : rows.length ≤ 900) (z9 : ∀ b H', But q H H' → (b = a ∨ H b = none) → H' q = some (.lst ((didPurse purse rows d).map V.int)) → RowsAt H' b (didRows rows sent d) → Q (.ref b) H')
def spDid  : Sp := fun vs H Q _ => spDidI  vs H Q
theorem scDid : FnScope ["_law_budgets", "_law_rows", "_law_deed", "_law_sent", "_law_number", "_law_owner", "_law_pages"] ["_law_budgets", "_law_rows", "_law_deed", "_law_sent"] (defScope sDid) := ⟨rfl, rfl, rfl, by decide +kernel, rfl, by decide +kernel, by decide +kernel⟩
inductive InvDid (H : Hp) (q a p : Addr) (sent j : Int) (purse : List Int) (rows : List Rw) (i : Nat) (σ : List (Option V)) (H2 : Hp) : Prop
  | mk (pu : List Int) (o1 o2 o3 : Option V) (e : σ = [some (.ref q), some (.ref a), some (.ref p), some (.int sent), o1, o2, o3]) (f2 : But q H H2) (q2 : H2 q = some (.lst (pu.map V.int))) (hpu : pu.length = purse.length) (hback : backAll j (rows.drop i) pu = backAll j rows purse)
inductive InvDidC (H2 : Hp) (b : Addr) (rows : List Rw) (j : Int) (i : Nat) (xs : List V) (H3 : Hp) : Prop
  | mk (s4 : Same H2 H3) (b4 : H3 b = some (.lst xs)) (qs : List Addr) (e : xs = qs.map V.ref) (hql : qs.length ≤ i) (htq : TupsAt H2 qs ((rows.take i).filter fun r => decide (r.1 ≠ j)))
theorem ok_did {f : Addr} {fd : FuncData} (F : Fun K "_law_did" "_law_did" sDid f fd) (T : Free mg) : FnOk P w K mg base CX0 1 f fd ["_law_budgets", "_law_rows", "_law_deed", "_law_sent"] spDid := by
  refine F.ok scDid (fun vs H Q E h => ?_) (fun cdv A outer s H vs Q E hr h => ?_)
  · obtain ⟨q, a, p, purse, rows, d, sent, rfl, _⟩ := h
    rfl
  obtain ⟨q, a, p, purse, rows, d, sent, rfl, hq, hrw, hp, naq, hnr, hdone, how, hlen, k⟩ := h
  obtain ⟨ps, ha, ht⟩ := id hrw
  have hpl := ht.len
  have npq : p ≠ q := ne_of hp hq (by intro z; cases z)
  refine ⟨_, (pss_cons (ps_if (pt_cmpR op_eq (pe_ix ix_tup (pv 2) pe_int (fun _ _ => rfl)) pe_str (nomark _))
    (pss_cons (ps_asg (pe_op op_sub (pe_ix ix_list (pv 0) (pe_ix ix_tup (pv 2) pe_int (fun _ _ => rfl)) (fun _ _ => rfl)) (pe_ix ix_tup (pv 2) pe_int (fun _ _ => rfl))) (pg_sub (pv 0) (pe_ix ix_tup (pv 2) pe_int (fun _ _ => rfl)) set_list))
    (pss_one (ps_ret (pe_op op_cat (pv 1) (pe_lst (pa_cons (pe_tup (pa_cons (pv 3) (pa_cons (pe_ix ix_tup (pv 2) pe_int (fun _ _ => rfl)) (pa_cons (pe_ix ix_tup (pv 2) pe_int (fun _ _ => rfl)) pa_nil)))) pa_nil))))))
    pss_nil)
    (pss_cons (ps_if (pt_cmpR op_eq (pe_ix ix_tup (pv 2) pe_int (fun _ _ => rfl)) pe_str (nomark _))
    (pss_cons (ps_asg (pe_op op_add (pe_ix ix_list (pv 0) (pe_ix ix_tup (pv 2) pe_int (fun _ _ => rfl)) (fun _ _ => rfl)) (pe_ix ix_tup (pv 2) pe_int (fun _ _ => rfl))) (pg_sub (pv 0) (pe_ix ix_tup (pv 2) pe_int (fun _ _ => rfl)) set_list))
    (pss_one (ps_ret (pv 1))))
    pss_nil)
    (pss_cons (ps_for PassesOwn.never rfl (pi_list (pv 1)) (pg_tup rfl (pgs_cons (pg_name (i := 4) scDid.nd rfl (Or.inl rfl)) (pgs_cons (pg_name (i := 5) scDid.nd rfl (Or.inl rfl)) (pgs_cons (pg_name (i := 6) scDid.nd rfl (Or.inl rfl)) pgs_nil))))
    (pss_one (ps_if (pt_cmpR op_eq (pv 4) (pe_ix ix_tup (pv 2) pe_int (fun _ _ => rfl)) (nomark _))
    (pss_one (ps_asg (pe_op op_add (pe_ix ix_list (pv 0) (pv 5) (fun _ _ => rfl)) (pv 6)) (pg_sub (pv 0) (pv 5) set_list)))
    pss_nil)))
    (pss_one (ps_ret (pe_comp (x := "_law_row") (caps := [(2, "_law_deed")]) rfl ⟨by rfl, rfl, by decide +kernel, by decide +kernel, by rfl, (by intro p hp; simp only [List.mem_cons, List.not_mem_nil, or_false] at hp; rcases hp with rfl <;> rfl), (by show ∀ y ∈ Scope.names _, y.2 = NameKind.free → (["_law_deed"] : List Str).contains y.1 = true; decide +kernel), (by intro p hp; simp only [List.mem_cons, List.not_mem_nil, or_false] at hp; rcases hp with rfl <;> exact ⟨rfl, Or.inr (Or.inl rfl), rfl, rfl, rfl⟩)⟩ (by decide +kernel) (pi_list (pv 1)) (fun C s H fp => (pts_one (pt_cmpR op_ne (pe_ix (ix_tupK (K := K)) (pv 0) pe_int (fun _ _ => rfl)) (pe_ix (ix_tupK (K := K)) (pv 1) pe_int (fun _ _ => rfl)) (nomark _)))) (fun C s H fp => (pv 0)))))))), ?_⟩
  try dsimp only [nox_K, cxOf_K]
  cases d with
  | run m => cases hnr
  | send o pg =>
    have hc : ¬ (o < 0 ∨ (purse.length : Int) ≤ o) := fun z => by
      rw [ref_send_no z] at hdone
      exact absurd hdone (by decide +kernel)
    have h0 : 0 ≤ o := by omega
    have h1 : o < (purse.length : Int) := by omega
    refine ⟨_, rfl, p, _, _, _, rfl, rfl, SqT.of hp, rfl, rfl, _, rfl, ?_⟩
    refine iteB true (by decide +kernel) (iteT ?_)
    refine ⟨_, rfl, _, rfl, p, _, _, _, rfl, rfl, SqT.of hp, rfl, q, _, _, _, rfl, rfl, SqL.of hq, at_int h0 h1, _, rfl, p, _, _, _, rfl, rfl, SqT.of hp, rfl, _, _, rfl, rfl, ?_⟩
    refine ⟨_, rfl, _, rfl, p, _, _, _, rfl, rfl, SqT.of hp, rfl, q, _, _, _, rfl, rfl, hq, ix_int h0 h1, ?_⟩
    dsimp only
    rw [set_int]
    have f1 : But q H (upd H q (.lst ((purse.set o.toNat (purse.getD o.toNat 0 - pg)).map V.int))) := (But.refl q H).upd _
    have q1 : upd H q (.lst ((purse.set o.toNat (purse.getD o.toNat 0 - pg)).map V.int)) q = _ := upd_same
    generalize upd H q (.lst ((purse.set o.toNat (purse.getD o.toNat 0 - pg)).map V.int)) = H1 at f1 q1
    have p1 := f1 _ _ hp npq
    have a1 := f1 _ _ ha naq
    refine ⟨_, rfl, _, rfl, _, rfl, p, _, _, _, rfl, rfl, SqT.of p1, rfl, _, rfl, p, _, _, _, rfl, rfl, SqT.of p1, rfl, (by show 3 ≤ sizeLine; decide), fun t ht1 => ?_⟩
    refine ⟨(by show 1 ≤ sizeLine; decide), fun u hu1 => ?_⟩
    have s2 : Same H1 (upd (upd H1 t (.tup [.int sent, .int o, .int pg])) u (.lst [.ref t])) := (same_new ht1 _).trans (same_new hu1 _)
    have t2 : upd (upd H1 t (.tup [.int sent, .int o, .int pg])) u (.lst [.ref t]) t = some (.tup (rowV (sent, o, pg))) := by
      rw [upd_ne (ne_of_none upd_same hu1)]
      exact upd_same
    have u2 : upd (upd H1 t (.tup [.int sent, .int o, .int pg])) u (.lst [.ref t]) u = some (.lst [.ref t]) := upd_same
    generalize upd (upd H1 t (.tup [.int sent, .int o, .int pg])) u (.lst [.ref t]) = H2 at s2 t2 u2
    refine ⟨a, u, _, _, rfl, rfl, s2 _ _ a1, u2, Nat.le_of_lt (small1000 (by rw [List.length_map]; show ps.length + 1 ≤ 1000; omega)), fun v hv => ?_⟩
    have s3 : Same H2 (upd H2 v (.lst (ps.map V.ref ++ [.ref t]))) := same_new hv _
    refine k v _ ((f1.same s2).same s3) (.inr (but_none f1 hq (s2.free hv))) (s3 _ _ (s2 _ _ q1)) ⟨ps ++ [t], by rw [upd_same, List.map_append]; rfl, ?_⟩
    exact TupsAt.snoc (s3 _ _ t2) (ht.mono fun c xs e => s3 _ _ (s2 _ _ (f1 _ _ e (ne_of e hq (by intro z; cases z)))))
  | grant o m =>
    have hc : ¬ (o < 0 ∨ (purse.length : Int) ≤ o) := fun z => by
      rw [ref_grant_no z] at hdone
      exact absurd hdone (by decide +kernel)
    have h0 : 0 ≤ o := by omega
    have h1 : o < (purse.length : Int) := by omega
    refine ⟨_, rfl, p, _, _, _, rfl, rfl, SqT.of hp, rfl, rfl, _, rfl, ?_⟩
    refine iteB false (by decide +kernel) (iteF ?_)
    refine ⟨_, rfl, p, _, _, _, rfl, rfl, SqT.of hp, rfl, rfl, _, rfl, ?_⟩
    refine iteB true (by decide +kernel) (iteT ?_)
    refine ⟨_, rfl, _, rfl, p, _, _, _, rfl, rfl, SqT.of hp, rfl, q, _, _, _, rfl, rfl, SqL.of hq, at_int h0 h1, _, rfl, p, _, _, _, rfl, rfl, SqT.of hp, rfl, _, _, rfl, rfl, ?_⟩
    refine ⟨_, rfl, _, rfl, p, _, _, _, rfl, rfl, SqT.of hp, rfl, q, _, _, _, rfl, rfl, hq, ix_int h0 h1, ?_⟩
    dsimp only
    rw [set_int]
    have f1 : But q H (upd H q (.lst ((purse.set o.toNat (purse.getD o.toNat 0 + m)).map V.int))) := (But.refl q H).upd _
    exact ⟨_, rfl, k a _ f1 (.inl rfl) upd_same (hrw.keep (fun u e => f1 _ _ e naq) fun c xs e => f1 _ _ e (ne_of e hq (by intro z; cases z)))⟩
  | stop j =>
    refine ⟨_, rfl, p, _, _, _, rfl, rfl, SqT.of hp, rfl, rfl, _, rfl, ?_⟩
    refine iteB false (by decide +kernel) (iteF ?_)
    refine ⟨_, rfl, p, _, _, _, rfl, rfl, SqT.of hp, rfl, rfl, _, rfl, ?_⟩
    refine iteB false (by decide +kernel) (iteF ?_)
    have tupne : ∀ {c : Addr} {xs : List V}, H c = some (.tup xs) → c ≠ q := fun e => ne_of e hq (by intro z; cases z)
    refine ⟨_, rfl, a, rfl, ⟨_, SqL.of ha⟩, for_list (K := K) (a := a) (xs := ps.map V.ref) (InvDid H q a p sent j purse rows)
      ⟨purse, none, none, none, rfl, But.refl q H, hq, rfl, rfl⟩ (fun i σ H2 _ z => by obtain ⟨_, _, _, _, _, f2, _⟩ := z; exact SqL.of (f2 _ _ ha naq)) ?_ ?_⟩
    · rintro i y σ H2 hi ⟨pu, o1, o2, o3, rfl, f2, q2, hpu, hback⟩
      obtain ⟨pp, hpp, rfl⟩ := map_ref_get hi
      obtain ⟨r, r1, r2, r3, r4⟩ := ht.get hpp
      have hmem : r ∈ rows := List.mem_of_getElem? r1
      have hro := how r hmem
      rw [r3] at hback
      have hb : backAll j (rows.drop (i + 1)) (if r.1 = j then pu.set r.2.1.toNat (pu.getD r.2.1.toNat 0 + r.2.2) else pu) = backAll j rows purse := hback
      refine ⟨pp, _, rfl, SqT.of (f2 _ _ r2 (tupne r2)), rfl, _, _, rfl, _, _, rfl, _, _, rfl, rfl, ?_⟩
      have p2 := f2 _ _ hp npq
      refine ⟨_, rfl, _, rfl, p, _, _, _, rfl, rfl, SqT.of p2, rfl, rfl, _, rfl, ?_⟩
      refine ite2 (fun c => ?_) (fun c => ?_)
      · have c' : r.1 = j := by
          have := of_decide_eq_true c
          injection this
        rw [if_pos c'] at hb
        have h0 : 0 ≤ r.2.1 := hro.1
        have h1 : r.2.1 < (pu.length : Int) := by rw [hpu]; exact hro.2
        refine ⟨_, rfl, _, rfl, q, _, _, _, rfl, rfl, SqL.of q2, at_int h0 h1, _, rfl, _, _, rfl, rfl, ?_⟩
        refine ⟨_, rfl, _, rfl, q, _, _, _, rfl, rfl, q2, ix_int h0 h1, ?_⟩
        dsimp only
        rw [set_int]
        exact ⟨_, _, _, _, rfl, f2.upd _, upd_same, by rw [List.length_set]; exact hpu, hb⟩
      · have c' : ¬ r.1 = j := fun z => of_decide_eq_false (Bool.eq_false_iff.mpr c) (congrArg V.int z)
        rw [if_neg c'] at hb
        exact ⟨pu, _, _, _, rfl, f2, q2, hpu, hb⟩
    · rintro σ H2 ⟨pu, o1, o2, o3, rfl, f2, q2, hpu, hback⟩
      rw [List.length_map, hpl, List.drop_length] at hback
      have epu : pu = backAll j rows purse := hback
      have a2 := f2 _ _ ha naq
      have p2 := f2 _ _ hp npq
      have ht2 : TupsAt H2 ps rows := ht.mono fun c xs e => f2 _ _ e (tupne e)
      refine ⟨_, rfl, a, rfl, ⟨_, SqL.of a2⟩, fun b hb => ?_⟩
      have s3 : Same H2 (upd H2 b (.lst [])) := same_new hb _
      refine comp_list (K := K) (a := a) (ys := ps.map V.ref) (tc := tTest (tOp rNe (tOp (rIxT K) (tVar 0) (tC (.int 0))) (tOp (rIxT K) (tVar 1) (tC (.int 1))))) (te := tVar 0) (cs := [some (.ref p)])
        (InvDidC H2 b rows j)
        ⟨s3, upd_same, [], rfl, Nat.le_refl _, trivial⟩ (fun i xs H3 z => by obtain ⟨s, h, _⟩ := z; exact ⟨h, SqL.of (s _ _ a2)⟩) ?_
        (m_test (m_op m_ne (m_op m_ixT m_var m_c) (m_op m_ixT m_var m_c)))
        m_var ?_
      · rintro i y xs H3 hi ⟨s4, b4, qs, rfl, hql, htq⟩
        obtain ⟨pp, hpp, rfl⟩ := map_ref_get hi
        obtain ⟨r, r1, r2, r3, r4⟩ := ht2.get hpp
        have hil : i < ps.length := (List.getElem?_eq_some_iff.mp hpp).1
        refine ⟨_, rfl, pp, _, _, _, rfl, rfl, SqT.of (s4 _ _ r2), rfl, _, rfl, p, _, _, _, rfl, rfl, SqT.of (s4 _ _ p2), rfl, rfl, _, rfl, ?_⟩
        refine ite2 (fun c => ?_) (fun c => ?_)
        · have c' : ¬ r.1 = j := fun z => by
            have c2 : (!decide (V.int r.1 = V.int j)) = true := c
            rw [decide_eq_true (congrArg V.int z)] at c2
            cases c2
          refine ⟨_, rfl, b4, small1000 (by rw [List.length_map]; omega), same_upd s4 hb _, upd_same, qs ++ [pp], by rw [List.map_append]; rfl, by rw [List.length_append]; show qs.length + 1 ≤ i + 1; omega, ?_⟩
          rw [r4, List.filter_append]
          have e : ([r] : List Rw).filter (fun r => decide (r.1 ≠ j)) = [r] := by simp [c']
          rw [e]
          exact TupsAt.snoc r2 htq
        · have c' : r.1 = j := by
            have c2 : ¬ (!decide (V.int r.1 = V.int j)) = true := c
            by_cases z : r.1 = j
            · exact z
            · exact absurd (by rw [decide_eq_false (fun e => z (by injection e))]; rfl) c2
          refine ⟨s4, b4, qs, rfl, by omega, ?_⟩
          rw [r4, List.filter_append]
          have e : ([r] : List Rw).filter (fun r => decide (r.1 ≠ j)) = [] := by simp [c']
          rw [e, List.append_nil]
          exact htq
      · rintro xs H3 ⟨s4, b4, qs, rfl, hql, htq⟩
        rw [List.length_map, hpl, List.take_length] at htq
        refine k b H3 (f2.same s4) (.inr (but_none f2 hq hb)) ?_ ⟨qs, b4, htq.mono fun c xs e => s4 _ _ e⟩
        rw [s4 _ _ q2, epu]
        rfl
/-! ### an answer -/
def But2 (d q : Addr) (H H' : Hp) : Prop := ∀ c o, H c = some o → c ≠ d → c ≠ q → H' c = some o
section
variable {H : Hp} {d q a : Addr} {lim pz sent hot rs : Int}
theorem gd_purse (h : H d = some (.dK (laneK lim pz q a sent hot rs))) : DGet H d (.str "purse") (some (.ref q)) := by
  rw [← g_purse (lim := lim) (pz := pz) (q := q) (a := a) (sent := sent) (hot := hot) (rs := rs)]
  exact DGet.k (k := Sum.inr "purse") h
theorem gd_rows (h : H d = some (.dK (laneK lim pz q a sent hot rs))) : DGet H d (.str "rows") (some (.ref a)) := by
  rw [← g_rows (lim := lim) (pz := pz) (q := q) (a := a) (sent := sent) (hot := hot) (rs := rs)]
  exact DGet.k (k := Sum.inr "rows") h
theorem gd_sent (h : H d = some (.dK (laneK lim pz q a sent hot rs))) : DGet H d (.str "sent") (some (.int sent)) := by
  rw [← g_sent (lim := lim) (pz := pz) (q := q) (a := a) (sent := sent) (hot := hot) (rs := rs)]
  exact DGet.k (k := Sum.inr "sent") h
end
theorem spTickIn_mono {vs : List V} {H : Hp} {Q Q' : VK} {E : XK} (h : ∀ v H', Q v H' → Q' v H') (x : spTickIn vs H Q E) : spTickIn vs H Q' E := by
  obtain ⟨d, q, a, L, e, l, h1, h2, k⟩ := x
  exact ⟨d, q, a, L, e, l, h1, h2, fun a' H' b f l' => h _ _ (k a' H' b f l')⟩
inductive InvBk (H1 : Hp) (b : Addr) (rows : List Rw) (o : Int) (i : Nat) (xs : List V) (H3 : Hp) : Prop
  | mk (s4 : Same H1 H3) (b4 : H3 b = some (.lst xs)) (e : xs = (((rows.take i).filter fun r => decide (r.1 = o)).map (·.2.2)).map V.int)
/-- sum([row[2] for row in rows if row[0] == deed[1]]): the list that it adds up -/
theorem back_sum {H1 : Hp} {a b p : Addr} {rows : List Rw} {ps : List Addr} {vs : List V} {o : Int} {Qf : Hp → Prop} (ha1 : H1 a = some (.lst (ps.map V.ref))) (ht1 : TupsAt H1 ps rows) (hb : H1 b = none) (hp1 : H1 p = some (.tup vs)) (hv : atI vs 1 = some (.int o)) (hfew : rows.length ≤ 900)
    (k : ∀ H3, Same H1 H3 → H3 b = some (.lst (((rows.filter fun r => decide (r.1 = o)).map (·.2.2)).map V.int)) → Qf H3) :
    ∃ W : Nat → Nat → List V → Hp → Prop, (∃ m, W 0 m [] (upd H1 b (.lst []))) ∧ ∀ i m xs H2, W i m xs H2 → H2 b = some (.lst xs) ∧
      (((Itl K a).stop i H2 ∧ Qf H2) ∨ ((Itl K a).go i H2 ∧ ∀ x H3, (Itl K a).yld i H2 x H3 → (tTest (tOp rEq (tOp (rIxT K) (tVar 0) (tC (.int 0))) (tOp (rIxT K) (tVar 1) (tC (.int 1))))) (some x :: [some (.ref p)]) H3 fun c H4 =>
        if c = true then (tOp (rIxT K) (tVar 0) (tC (.int 2))) (some x :: [some (.ref p)]) H4 fun v H5 => H5 b = some (.lst xs) ∧ xs.length < sizeLine ∧ ∃ m', m' < m ∧ W (i + 1) m' (xs ++ [v]) (upd H5 b (.lst (xs ++ [v])))
        else ∃ m', m' < m ∧ W (i + 1) m' xs H4)) := by
  have hpl := ht1.len
  refine comp_list (K := K) (a := a) (ys := ps.map V.ref) (tc := tTest (tOp rEq (tOp (rIxT K) (tVar 0) (tC (.int 0))) (tOp (rIxT K) (tVar 1) (tC (.int 1))))) (te := tOp (rIxT K) (tVar 0) (tC (.int 2))) (cs := [some (.ref p)])
    (InvBk H1 b rows o)
    ⟨same_new hb _, upd_same, rfl⟩ (fun i xs H3 z => by obtain ⟨s, h, _⟩ := z; exact ⟨h, SqL.of (s _ _ ha1)⟩) ?_
    (m_test (m_op m_eq (m_op m_ixT m_var m_c) (m_op m_ixT m_var m_c)))
    (m_op m_ixT m_var m_c) ?_
  · rintro i y xs H3 hi ⟨s4, b4, e⟩
    obtain ⟨pp, hpp, rfl⟩ := map_ref_get hi
    obtain ⟨r, r1, r2, r3, r4⟩ := ht1.get hpp
    have hil : i < ps.length := (List.getElem?_eq_some_iff.mp hpp).1
    refine ⟨_, rfl, pp, _, _, _, rfl, rfl, SqT.of (s4 _ _ r2), rfl, _, rfl, p, _, _, _, rfl, rfl, SqT.of (s4 _ _ hp1), hv, rfl, _, rfl, ?_⟩
    refine ite2 (fun c => ?_) (fun c => ?_)
    · have c' : r.1 = o := by
        have := of_decide_eq_true c
        injection this
      have hln : (((rows.take i).filter fun r => decide (r.1 = o)).map (·.2.2)).length ≤ i := by
        rw [List.length_map]
        exact Nat.le_trans (List.length_filter_le _ _) (by rw [List.length_take]; omega)
      refine ⟨_, rfl, pp, _, _, _, rfl, rfl, SqT.of (s4 _ _ r2), rfl, b4, by rw [e, List.length_map]; exact small1000 (by omega), same_upd s4 hb _, upd_same, ?_⟩
      rw [e, r4, List.filter_append]
      have e2 : ([r] : List Rw).filter (fun r => decide (r.1 = o)) = [r] := by simp [c']
      rw [e2, List.map_append, List.map_append]
      rfl
    · have c' : ¬ r.1 = o := fun z => of_decide_eq_false (Bool.eq_false_iff.mpr c) (congrArg V.int z)
      refine ⟨s4, b4, ?_⟩
      rw [e, r4, List.filter_append]
      have e2 : ([r] : List Rw).filter (fun r => decide (r.1 = o)) = [] := by simp [c']
      rw [e2, List.append_nil]
  · rintro xs H3 ⟨s4, b4, e⟩
    have e2 : xs = ((rows.filter fun r => decide (r.1 = o)).map (·.2.2)).map V.int := by rw [e, List.length_map, hpl, List.take_length]
    exact k H3 s4 (by rw [b4, e2])
inductive InvAns (H : Hp) (d q a b : Addr) (L : Ln) (i : Nat) (xs : List V) (H2 : Hp) : Prop
  | mk (f2 : But d H H2) (b2 : H2 b = some (.lst xs)) (e : xs = (runW i L).map V.str) (a2 : Addr) (na2 : a2 ≠ b) (ha2 : a2 = a ∨ H a2 = none) (l2 : LaneAt H2 d q a2 (runL i L))
inductive spAnsweredI  (vs : List V) (H : Hp) (Q : VK) : Prop
  | mk (d q a p : Addr) (L : Ln) (dd : Deed) (z0 : vs = [.ref d, .ref p]) (z1 : LaneAt H d q a L) (z2 : H p = some (.tup dd.vals)) (z3 : dd.ok) (z4 : LnOk 900 L) (z5 : L.purse ≠ []) (z6 : ∀ a' H', But2 d q H H' → (a' = a ∨ H a' = none) → LaneAt H' d q a' (ansL L dd) → Q (ansV L dd) H')
def spAnswered  : Sp := fun vs H Q _ => spAnsweredI  vs H Q
theorem scAnswered : FnScope ["_law_mine", "_law_deed", "_law_word", "_law_back"] ["_law_mine", "_law_deed"] (defScope sAnswered) := ⟨rfl, rfl, rfl, by decide +kernel, rfl, by decide +kernel, by decide +kernel⟩
theorem ok_answered {f : Addr} {fd : FuncData} (F : Fun K "_law_answered" "_law_answered" sAnswered f fd) (T : Free mg) (CT : Callee P w K mg base 2 "_law_tick_in" ["_law_mine"] spTickIn)
    (CR : Callee P w K mg base 1 "_law_refusal_of" ["_law_budgets", "_law_rows", "_law_deed"] spRefusal) (CD : Callee P w K mg base 1 "_law_did" ["_law_budgets", "_law_rows", "_law_deed", "_law_sent"] spDid) :
    FnOk P w K mg base CX0 3 f fd ["_law_mine", "_law_deed"] spAnswered := by
  refine F.ok scAnswered (fun vs H Q E h => ?_) (fun cdv A outer s H vs Q E hr h => ?_)
  · obtain ⟨d, q, a, p, L, dd, rfl, _⟩ := h
    rfl
  obtain ⟨d, q, a, p, ⟨lim, pz, purse, rows, sent, hot, rs⟩, dd, rfl, hL, hp, hok, hln, hne, k⟩ := h
  obtain ⟨hd, hrw, hq⟩ := id hL
  dsimp only at hd hrw hq hne
  have hfew : rows.length ≤ 900 := hln.few
  have how : ∀ r ∈ rows, 0 ≤ r.2.1 ∧ r.2.1 < (purse.length : Int) := hln.owners
  have hu := hu_of hr
  have naq : a ≠ q := ne_lists hrw hq hne
  have ndq : d ≠ q := ne_of hd hq (by intro z; cases z)
  have npd : p ≠ d := ne_of hp hd (by intro z; cases z)
  have npq : p ≠ q := ne_of hp hq (by intro z; cases z)
  have big7 : ∀ {a : Addr} {sent : Int}, (laneK lim pz q a sent hot rs).length < sizeLine := fun {_ _} => by show 7 < sizeLine; decide
  refine ⟨_, (pss_cons (ps_if (pt_cmpR op_eq (pe_ix ix_tup (pv 1) pe_int (fun _ _ => rfl)) pe_str (nomark _))
    (pss_one (ps_ret (pe_bm PySem.F.plainAttrs_list PySem.F.slot_list_count PySem.F.type_list_count mt_count (pe_comp (x := "_law_k") (caps := [(0, "_law_mine")]) rfl ⟨by rfl, rfl, by decide +kernel, by decide +kernel, by rfl, (by intro p hp; simp only [List.mem_cons, List.not_mem_nil, or_false] at hp; rcases hp with rfl <;> rfl), (by show ∀ y ∈ Scope.names _, y.2 = NameKind.free → (["_law_mine"] : List Str).contains y.1 = true; decide +kernel), (by intro p hp; simp only [List.mem_cons, List.not_mem_nil, or_false] at hp; rcases hp with rfl <;> exact ⟨rfl, Or.inr (Or.inl rfl), rfl, rfl, rfl⟩)⟩ (by decide +kernel) (pi_range1 (by rfl) T.range (pa_cons (pe_ix ix_tup (pv 1) pe_int (fun _ _ => rfl)) pa_nil)) (fun C s H fp => pts_nil) (fun C s H fp => (pe_callC CT (hr.mono (by decide)) (by rfl) (pa_cons (pv 1) pa_nil)))) (pa_cons pe_str pa_nil))))
    pss_nil)
    (pss_cons (ps_set (i := 2) scAnswered.nd rfl (Or.inl rfl) (pe_callC CR (hr.mono (by decide)) (by rfl) (pa_cons (pe_dget hu (pv 0) pe_str (fun _ _ => rfl)) (pa_cons (pe_dget hu (pv 0) pe_str (fun _ _ => rfl)) (pa_cons (pv 1) pa_nil)))))
    (pss_cons (ps_if (pt_cmpR op_ne (pv 2) pe_str (nomark _))
    (pss_one (ps_ret (pv 2)))
    pss_nil)
    (pss_cons (ps_set (i := 3) scAnswered.nd rfl (Or.inl rfl) (pe_callB (call_sum rfl) (by rfl) T.sum boot_sum (pa_cons (pe_comp (x := "_law_row") (caps := [(1, "_law_deed")]) rfl ⟨by rfl, rfl, by decide +kernel, by decide +kernel, by rfl, (by intro p hp; simp only [List.mem_cons, List.not_mem_nil, or_false] at hp; rcases hp with rfl <;> rfl), (by show ∀ y ∈ Scope.names _, y.2 = NameKind.free → (["_law_deed"] : List Str).contains y.1 = true; decide +kernel), (by intro p hp; simp only [List.mem_cons, List.not_mem_nil, or_false] at hp; rcases hp with rfl <;> exact ⟨rfl, Or.inr (Or.inl rfl), rfl, rfl, rfl⟩)⟩ (by decide +kernel) (pi_list (pe_dget hu (pv 0) pe_str (fun _ _ => rfl))) (fun C s H fp => (pts_one (pt_cmpR op_eq (pe_ix (ix_tupK (K := K)) (pv 0) pe_int (fun _ _ => rfl)) (pe_ix (ix_tupK (K := K)) (pv 1) pe_int (fun _ _ => rfl)) (nomark _)))) (fun C s H fp => (pe_ix (ix_tupK (K := K)) (pv 0) pe_int (fun _ _ => rfl)))) pa_nil)))
    (pss_cons (ps_dput hu (pv 0) pe_str (pe_callC CD (hr.mono (by decide)) (by rfl) (pa_cons (pe_dget hu (pv 0) pe_str (fun _ _ => rfl)) (pa_cons (pe_dget hu (pv 0) pe_str (fun _ _ => rfl)) (pa_cons (pv 1) (pa_cons (pe_dget hu (pv 0) pe_str (fun _ _ => rfl)) pa_nil))))) rfl)
    (pss_cons (ps_if (pt_cmpR op_eq (pe_ix ix_tup (pv 1) pe_int (fun _ _ => rfl)) pe_str (nomark _))
    (pss_cons (ps_dput hu (pv 0) pe_str (pe_op op_add (pe_dget hu (pv 0) pe_str (fun _ _ => rfl)) pe_int) rfl)
    (pss_one (ps_ret (pe_op op_sub (pe_dget hu (pv 0) pe_str (fun _ _ => rfl)) pe_int))))
    pss_nil)
    (pss_cons (ps_if (pt_cmpR op_eq (pe_ix ix_tup (pv 1) pe_int (fun _ _ => rfl)) pe_str (nomark _))
    (pss_one (ps_ret (pv 3)))
    pss_nil)
    (pss_one (ps_ret pe_str))))))))), ?_⟩
  try dsimp only [nox_K, cxOf_K]
  cases dd with
  | run m =>
    have hm0 : 0 ≤ m := hok.1
    have hm1 : m < 300 := hok.2
    refine ⟨_, rfl, p, _, _, _, rfl, rfl, SqT.of hp, rfl, rfl, _, rfl, ?_⟩
    refine iteB true (by decide +kernel) (iteT ?_)
    refine ⟨_, rfl, p, _, _, _, rfl, rfl, SqT.of hp, rfl, m, rfl, by omega, by omega, fun b hb => ?_⟩
    have nbd : d ≠ b := ne_of_none hd hb
    have nbq : q ≠ b := ne_of_none hq hb
    obtain ⟨ps, ha, ht⟩ := id hrw
    refine comp_range (n := m.toNat) (tc := tAny) (te := tCall spTickIn [] E0 (tCons (tVar 1) tNil)) (cs := [some (.ref d)])
      (InvAns H d q a b ⟨lim, pz, purse, rows, sent, hot, rs⟩)
      ⟨(But.refl d H).same (same_new hb _), upd_same, rfl, a, ne_of_none ha hb, .inl rfl, hL.mono (same_new hb _)⟩ (fun i xs H2 z => by obtain ⟨_, h, _⟩ := z; exact h) ?_
      (fun _ _ _ _ h q => h _ _ q) (fun σ H2 Q Q' h z => by obtain ⟨v, e, x⟩ := z; exact ⟨v, e, spTickIn_mono (E := E0) h x⟩) ?_
    · rintro i xs H2 hi ⟨f2, b2, e, a2, na2, ha2, l2⟩
      have lo := runL_ok (n := 900) i (fun _ => tickL_ok) hln
      refine ⟨_, rfl, d, q, a2, _, rfl, l2, lo.pages, Nat.le_trans lo.few (by decide), fun a3 H5 f5 ha3 l5 => ?_⟩
      have b5 : H5 b = some (.lst xs) := f5 _ _ b2 (Ne.symm nbd)
      have na3 : a3 ≠ b := by
        rcases ha3 with z | z
        · rw [z]
          exact na2
        · exact fun y => by rw [y, b2] at z; cases z
      refine ⟨b5, ?_, fun c o e n => ?_, upd_same, ?_, a3, na3, ?_, ?_⟩
      · rw [e, List.length_map, runW_len]
        exact small1000 (by omega)
      · rw [upd_ne (ne_of_none e hb)]
        exact f5 _ _ (f2 _ _ e n) n
      · rw [e, runW_succ, List.map_append]
        rfl
      · rcases ha3 with z | z
        · rw [z]
          exact ha2
        · exact .inr (but_none f2 hd z (by rw [l2.di]; exact fun y => nomatch y))
      · rw [runL_succ]
        exact l5.keep (fun o e => by rw [upd_ne nbd]; exact e) (fun o e => by rw [upd_ne nbq]; exact e) (fun o e => by rw [upd_ne na3]; exact e) fun c xs e => by rw [upd_ne (ne_of e b5 (by intro z; cases z))]; exact e
    · rintro xs H2 ⟨f2, b2, e, a2, na2, ha2, l2⟩
      refine ⟨.inl ⟨rfl, _, SqL.of b2⟩, b, xs, _, rfl, rfl, b2, rfl, by rw [e]; exact flat_strs _, ?_⟩
      rw [e, count_strs]
      exact k a2 H2 (fun c o e n _ => f2 c o e n) ha2 l2
  | send o pg =>
    refine ⟨_, rfl, p, _, _, _, rfl, rfl, SqT.of hp, rfl, rfl, _, rfl, ?_⟩
    refine iteB false (by decide +kernel) (iteF ?_)
    -- word = refusal_of(purse, rows, deed)
    refine ⟨_, rfl, d, _, rfl, gd_purse hd, _, rfl, d, _, rfl, gd_rows hd, _, rfl, q, a, p, purse, rows, .send o pg, rfl, hq, hrw, hp, by omega, fun H1 s1 => ?_⟩
    have hd1 := s1 _ _ hd
    have hq1 := s1 _ _ hq
    have hp1 := s1 _ _ hp
    have hrw1 := hrw.mono s1
    refine ⟨_, rfl, rfl, _, rfl, ?_⟩
    by_cases hw : refusal purse rows (.send o pg) = "done"
    · refine iteB false (by rw [hw]; decide +kernel) (iteF ?_)
      -- back = sum(..)
      obtain ⟨ps, ha1, ht1⟩ := id hrw1
      have hpl := ht1.len
      refine ⟨_, rfl, d, _, rfl, gd_rows hd1, a, rfl, ⟨_, SqL.of ha1⟩, fun b hb => ?_⟩
      refine back_sum ha1 ht1 hb hp1 rfl hfew fun H3 s4 b4 => ?_
      · refine ⟨b, _, rfl, b4, ?_⟩
        have hd3 := s4 _ _ hd1
        have hq3 := s4 _ _ hq1
        have hp3 := s4 _ _ hp1
        have s13 : Same H H3 := s1.trans s4
        -- rows = did(purse, rows, deed, sent)
        refine ⟨_, rfl, d, _, rfl, gd_purse hd3, _, rfl, d, _, rfl, gd_rows hd3, _, rfl, _, rfl, d, _, rfl, gd_sent hd3, q, a, p, purse, rows, .send o pg, sent, rfl, hq3, hrw1.mono s4, hp3, naq, rfl, hw, how, by omega, fun b2 H4 f4 hb2 q4 r4 => ?_⟩
        have hd4 := f4 _ _ hd3 ndq
        refine ⟨_, rfl, d, _, rfl, DPut.k (k := Sum.inr "rows") hd4 big7, ?_⟩
        rw [p_rows]
        have hb0 : b2 = a ∨ H b2 = none := hb2.imp id fun z => s13.free z
        have f5 : But2 d q H (upd H4 d (.dK (laneK lim pz q b2 sent hot rs))) := fun c o e n1 n2 => by rw [upd_ne n1]; exact f4 _ _ (s13 _ _ e) n2
        have hd5 : upd H4 d (.dK (laneK lim pz q b2 sent hot rs)) d = some (.dK (laneK lim pz q b2 sent hot rs)) := upd_same
        have hp5 : upd H4 d (.dK (laneK lim pz q b2 sent hot rs)) p = some (.tup (Deed.send o pg).vals) := by rw [upd_ne npd]; exact f4 _ _ hp3 npq
        have q5 := lst_put (kvs' := laneK lim pz q b2 sent hot rs) hd4 q4
        have r5 : RowsAt (upd H4 d (.dK (laneK lim pz q b2 sent hot rs))) b2 _ := rows_put hd4 r4
        generalize upd H4 d (.dK (laneK lim pz q b2 sent hot rs)) = H5 at f5 hd5 hp5 q5 r5
        refine ⟨_, rfl, p, _, _, _, rfl, rfl, SqT.of hp5, rfl, rfl, _, rfl, ?_⟩
        refine iteB true (by decide +kernel) (iteT ?_)
        refine ⟨_, rfl, d, _, rfl, gd_sent hd5, _, _, rfl, rfl, _, rfl, d, _, rfl, DPut.k (k := Sum.inr "sent") hd5 big7, ?_⟩
        dsimp only
        rw [p_sent]
        have hd6 : upd H5 d (.dK (laneK lim pz q b2 (sent + 1) hot rs)) d = some (.dK (laneK lim pz q b2 (sent + 1) hot rs)) := upd_same
        refine ⟨_, rfl, d, _, rfl, gd_sent hd6, _, _, rfl, rfl, ?_⟩
        have := k b2 (upd H5 d (.dK (laneK lim pz q b2 (sent + 1) hot rs))) (fun c o e n1 n2 => by rw [upd_ne n1]; exact f5 c o e n1 n2) hb0
        have el : ansL ⟨lim, pz, purse, rows, sent, hot, rs⟩ (.send o pg) = ⟨lim, pz, didPurse purse rows (.send o pg), didRows rows sent (.send o pg), sent + 1, hot, rs⟩ := if_pos hw
        have ev : ansV ⟨lim, pz, purse, rows, sent, hot, rs⟩ (.send o pg) = .int (sent + 1 - 1) := by
          rw [show sent + 1 - 1 = sent by omega]
          exact if_pos hw
        rw [el, ev] at this
        exact this ⟨hd6, rows_put hd5 r5, lst_put hd5 q5⟩
    · refine iteB true (by
        rw [show decide (V.str (refusal purse rows (.send o pg)) = V.str "done") = false from decide_eq_false fun z => hw (by injection z)]
        rfl) (iteT ?_)
      have := k a H1 (fun c o e _ _ => s1 _ _ e) (.inl rfl)
      have el : ansL ⟨lim, pz, purse, rows, sent, hot, rs⟩ (.send o pg) = ⟨lim, pz, purse, rows, sent, hot, rs⟩ := if_neg hw
      have ev : ansV ⟨lim, pz, purse, rows, sent, hot, rs⟩ (.send o pg) = .str (refusal purse rows (.send o pg)) := if_neg hw
      rw [el, ev] at this
      exact ⟨_, rfl, this ⟨hd1, hrw1, hq1⟩⟩
  | stop j =>
    refine ⟨_, rfl, p, _, _, _, rfl, rfl, SqT.of hp, rfl, rfl, _, rfl, ?_⟩
    refine iteB false (by decide +kernel) (iteF ?_)
    -- word = refusal_of(purse, rows, deed)
    refine ⟨_, rfl, d, _, rfl, gd_purse hd, _, rfl, d, _, rfl, gd_rows hd, _, rfl, q, a, p, purse, rows, .stop j, rfl, hq, hrw, hp, by omega, fun H1 s1 => ?_⟩
    have hd1 := s1 _ _ hd
    have hq1 := s1 _ _ hq
    have hp1 := s1 _ _ hp
    have hrw1 := hrw.mono s1
    refine ⟨_, rfl, rfl, _, rfl, ?_⟩
    by_cases hw : refusal purse rows (.stop j) = "done"
    · refine iteB false (by rw [hw]; decide +kernel) (iteF ?_)
      -- back = sum(..)
      obtain ⟨ps, ha1, ht1⟩ := id hrw1
      have hpl := ht1.len
      refine ⟨_, rfl, d, _, rfl, gd_rows hd1, a, rfl, ⟨_, SqL.of ha1⟩, fun b hb => ?_⟩
      refine back_sum ha1 ht1 hb hp1 rfl hfew fun H3 s4 b4 => ?_
      · refine ⟨b, _, rfl, b4, ?_⟩
        have hd3 := s4 _ _ hd1
        have hq3 := s4 _ _ hq1
        have hp3 := s4 _ _ hp1
        have s13 : Same H H3 := s1.trans s4
        -- rows = did(purse, rows, deed, sent)
        refine ⟨_, rfl, d, _, rfl, gd_purse hd3, _, rfl, d, _, rfl, gd_rows hd3, _, rfl, _, rfl, d, _, rfl, gd_sent hd3, q, a, p, purse, rows, .stop j, sent, rfl, hq3, hrw1.mono s4, hp3, naq, rfl, hw, how, by omega, fun b2 H4 f4 hb2 q4 r4 => ?_⟩
        have hd4 := f4 _ _ hd3 ndq
        refine ⟨_, rfl, d, _, rfl, DPut.k (k := Sum.inr "rows") hd4 big7, ?_⟩
        rw [p_rows]
        have hb0 : b2 = a ∨ H b2 = none := hb2.imp id fun z => s13.free z
        have f5 : But2 d q H (upd H4 d (.dK (laneK lim pz q b2 sent hot rs))) := fun c o e n1 n2 => by rw [upd_ne n1]; exact f4 _ _ (s13 _ _ e) n2
        have hd5 : upd H4 d (.dK (laneK lim pz q b2 sent hot rs)) d = some (.dK (laneK lim pz q b2 sent hot rs)) := upd_same
        have hp5 : upd H4 d (.dK (laneK lim pz q b2 sent hot rs)) p = some (.tup (Deed.stop j).vals) := by rw [upd_ne npd]; exact f4 _ _ hp3 npq
        have q5 := lst_put (kvs' := laneK lim pz q b2 sent hot rs) hd4 q4
        have r5 : RowsAt (upd H4 d (.dK (laneK lim pz q b2 sent hot rs))) b2 _ := rows_put hd4 r4
        generalize upd H4 d (.dK (laneK lim pz q b2 sent hot rs)) = H5 at f5 hd5 hp5 q5 r5
        refine ⟨_, rfl, p, _, _, _, rfl, rfl, SqT.of hp5, rfl, rfl, _, rfl, ?_⟩
        refine iteB false (by decide +kernel) (iteF ?_)
        refine ⟨_, rfl, p, _, _, _, rfl, rfl, SqT.of hp5, rfl, rfl, _, rfl, ?_⟩
        refine iteB true (by decide +kernel) (iteT ?_)
        have := k b2 H5 f5 hb0
        have el : ansL ⟨lim, pz, purse, rows, sent, hot, rs⟩ (.stop j) = ⟨lim, pz, didPurse purse rows (.stop j), didRows rows sent (.stop j), sent, hot, rs⟩ := if_pos hw
        have ev : ansV ⟨lim, pz, purse, rows, sent, hot, rs⟩ (.stop j) = .int ((rows.filter fun r => decide (r.1 = j)).map (·.2.2)).sum := if_pos hw
        rw [el, ev] at this
        exact ⟨_, rfl, this ⟨hd5, r5, q5⟩⟩
    · refine iteB true (by
        rw [show decide (V.str (refusal purse rows (.stop j)) = V.str "done") = false from decide_eq_false fun z => hw (by injection z)]
        rfl) (iteT ?_)
      have := k a H1 (fun c o e _ _ => s1 _ _ e) (.inl rfl)
      have el : ansL ⟨lim, pz, purse, rows, sent, hot, rs⟩ (.stop j) = ⟨lim, pz, purse, rows, sent, hot, rs⟩ := if_neg hw
      have ev : ansV ⟨lim, pz, purse, rows, sent, hot, rs⟩ (.stop j) = .str (refusal purse rows (.stop j)) := if_neg hw
      rw [el, ev] at this
      exact ⟨_, rfl, this ⟨hd1, hrw1, hq1⟩⟩
  | grant o m =>
    refine ⟨_, rfl, p, _, _, _, rfl, rfl, SqT.of hp, rfl, rfl, _, rfl, ?_⟩
    refine iteB false (by decide +kernel) (iteF ?_)
    -- word = refusal_of(purse, rows, deed)
    refine ⟨_, rfl, d, _, rfl, gd_purse hd, _, rfl, d, _, rfl, gd_rows hd, _, rfl, q, a, p, purse, rows, .grant o m, rfl, hq, hrw, hp, by omega, fun H1 s1 => ?_⟩
    have hd1 := s1 _ _ hd
    have hq1 := s1 _ _ hq
    have hp1 := s1 _ _ hp
    have hrw1 := hrw.mono s1
    refine ⟨_, rfl, rfl, _, rfl, ?_⟩
    by_cases hw : refusal purse rows (.grant o m) = "done"
    · refine iteB false (by rw [hw]; decide +kernel) (iteF ?_)
      -- back = sum(..)
      obtain ⟨ps, ha1, ht1⟩ := id hrw1
      have hpl := ht1.len
      refine ⟨_, rfl, d, _, rfl, gd_rows hd1, a, rfl, ⟨_, SqL.of ha1⟩, fun b hb => ?_⟩
      refine back_sum ha1 ht1 hb hp1 rfl hfew fun H3 s4 b4 => ?_
      · refine ⟨b, _, rfl, b4, ?_⟩
        have hd3 := s4 _ _ hd1
        have hq3 := s4 _ _ hq1
        have hp3 := s4 _ _ hp1
        have s13 : Same H H3 := s1.trans s4
        -- rows = did(purse, rows, deed, sent)
        refine ⟨_, rfl, d, _, rfl, gd_purse hd3, _, rfl, d, _, rfl, gd_rows hd3, _, rfl, _, rfl, d, _, rfl, gd_sent hd3, q, a, p, purse, rows, .grant o m, sent, rfl, hq3, hrw1.mono s4, hp3, naq, rfl, hw, how, by omega, fun b2 H4 f4 hb2 q4 r4 => ?_⟩
        have hd4 := f4 _ _ hd3 ndq
        refine ⟨_, rfl, d, _, rfl, DPut.k (k := Sum.inr "rows") hd4 big7, ?_⟩
        rw [p_rows]
        have hb0 : b2 = a ∨ H b2 = none := hb2.imp id fun z => s13.free z
        have f5 : But2 d q H (upd H4 d (.dK (laneK lim pz q b2 sent hot rs))) := fun c o e n1 n2 => by rw [upd_ne n1]; exact f4 _ _ (s13 _ _ e) n2
        have hd5 : upd H4 d (.dK (laneK lim pz q b2 sent hot rs)) d = some (.dK (laneK lim pz q b2 sent hot rs)) := upd_same
        have hp5 : upd H4 d (.dK (laneK lim pz q b2 sent hot rs)) p = some (.tup (Deed.grant o m).vals) := by rw [upd_ne npd]; exact f4 _ _ hp3 npq
        have q5 := lst_put (kvs' := laneK lim pz q b2 sent hot rs) hd4 q4
        have r5 : RowsAt (upd H4 d (.dK (laneK lim pz q b2 sent hot rs))) b2 _ := rows_put hd4 r4
        generalize upd H4 d (.dK (laneK lim pz q b2 sent hot rs)) = H5 at f5 hd5 hp5 q5 r5
        refine ⟨_, rfl, p, _, _, _, rfl, rfl, SqT.of hp5, rfl, rfl, _, rfl, ?_⟩
        refine iteB false (by decide +kernel) (iteF ?_)
        refine ⟨_, rfl, p, _, _, _, rfl, rfl, SqT.of hp5, rfl, rfl, _, rfl, ?_⟩
        refine iteB false (by decide +kernel) (iteF ?_)
        have := k b2 H5 f5 hb0
        have el : ansL ⟨lim, pz, purse, rows, sent, hot, rs⟩ (.grant o m) = ⟨lim, pz, didPurse purse rows (.grant o m), didRows rows sent (.grant o m), sent, hot, rs⟩ := if_pos hw
        have ev : ansV ⟨lim, pz, purse, rows, sent, hot, rs⟩ (.grant o m) = .str "done" := congrArg V.str hw
        rw [el, ev] at this
        exact this ⟨hd5, r5, q5⟩
    · refine iteB true (by
        rw [show decide (V.str (refusal purse rows (.grant o m)) = V.str "done") = false from decide_eq_false fun z => hw (by injection z)]
        rfl) (iteT ?_)
      have := k a H1 (fun c o e _ _ => s1 _ _ e) (.inl rfl)
      have el : ansL ⟨lim, pz, purse, rows, sent, hot, rs⟩ (.grant o m) = ⟨lim, pz, purse, rows, sent, hot, rs⟩ := if_neg hw
      have ev : ansV ⟨lim, pz, purse, rows, sent, hot, rs⟩ (.grant o m) = .str (refusal purse rows (.grant o m)) := rfl
      rw [el, ev] at this
      exact ⟨_, rfl, this ⟨hd1, hrw1, hq1⟩⟩
end

/-! ### budgets and deeds, as the laws make them -/
theorem upto {k n : Int} (h : k < n + 1) : k = n ∨ k < n := (Int.lt_or_eq_of_le (Int.le_of_lt_add_one h)).symm
theorem upto0 {k : Int} {C : Prop} (h0 : 0 ≤ k) (h : k < 0) : C := absurd h (Int.not_lt.mpr h0)
theorem pick3 (x y z c : Int) (hx : 0 ≤ x) (hy : 0 ≤ y) (hz : 0 ≤ z) : ∃ v : Int, atI [V.int x, V.int y, V.int z] (c % 3) = some (.int v) ∧ 0 ≤ v := by
  have h0 := Int.emod_nonneg c (show (3 : Int) ≠ 0 by decide)
  have h1 := Int.emod_lt_of_pos c (show (0 : Int) < 3 by decide)
  generalize c % 3 = k at h0 h1
  rcases upto (n := 2) h1 with rfl | h1
  · exact ⟨z, rfl, hz⟩
  rcases upto (n := 1) h1 with rfl | h1
  · exact ⟨y, rfl, hy⟩
  rcases upto (n := 0) h1 with rfl | h1
  · exact ⟨x, rfl, hx⟩
  exact upto0 h0 h1
theorem pick5 (x y z u t c : Int) : ∃ v : Int, atI [V.int x, V.int y, V.int z, V.int u, V.int t] (c % 5) = some (.int v) := by
  have h0 := Int.emod_nonneg c (show (5 : Int) ≠ 0 by decide)
  have h1 := Int.emod_lt_of_pos c (show (0 : Int) < 5 by decide)
  generalize c % 5 = k at h0 h1
  rcases upto (n := 4) h1 with rfl | h1
  · exact ⟨t, rfl⟩
  rcases upto (n := 3) h1 with rfl | h1
  · exact ⟨u, rfl⟩
  rcases upto (n := 2) h1 with rfl | h1
  · exact ⟨z, rfl⟩
  rcases upto (n := 1) h1 with rfl | h1
  · exact ⟨y, rfl⟩
  rcases upto (n := 0) h1 with rfl | h1
  · exact ⟨x, rfl⟩
  exact upto0 h0 h1
theorem pick2 (x y k : Int) (h0 : 0 ≤ k) (h1 : k < 2) : ∃ v : Int, atI [V.int x, V.int y] k = some (.int v) ∧ (v = x ∨ v = y) := by
  rcases upto (n := 1) h1 with rfl | h1
  · exact ⟨y, rfl, .inr rfl⟩
  rcases upto (n := 0) h1 with rfl | h1
  · exact ⟨x, rfl, .inl rfl⟩
  exact upto0 h0 h1
theorem pick_run (salt : Int) (b c : Bool) : ∃ v : Int, atI [V.int (salt % 6), V.int (salt / 48 % 41), V.int (salt / 384 % 300)] ((if b then 1 else 0) + (if c then 1 else 0)) = some (.int v) ∧ 0 ≤ v ∧ v < 300 := by
  have a0 := Int.emod_nonneg salt (show (6 : Int) ≠ 0 by decide)
  have a1 := Int.emod_lt_of_pos salt (show (0 : Int) < 6 by decide)
  have b0 := Int.emod_nonneg (salt / 48) (show (41 : Int) ≠ 0 by decide)
  have b1 := Int.emod_lt_of_pos (salt / 48) (show (0 : Int) < 41 by decide)
  have c0 := Int.emod_nonneg (salt / 384) (show (300 : Int) ≠ 0 by decide)
  have c1 := Int.emod_lt_of_pos (salt / 384) (show (0 : Int) < 300 by decide)
  cases b <;> cases c
  · exact ⟨_, rfl, a0, by omega⟩
  · exact ⟨_, rfl, b0, by omega⟩
  · exact ⟨_, rfl, b0, by omega⟩
  · exact ⟨_, rfl, c0, c1⟩
def wordsV : List V := [.str "send", .str "run", .str "send", .str "stop", .str "run", .str "send", .str "grant", .str "run"]
theorem pick_word (c : Int) : ∃ wd : Str, atI wordsV (c % 8) = some (.str wd) ∧ (wd = "send" ∨ wd = "stop" ∨ wd = "run" ∨ wd = "grant") := by
  have h0 := Int.emod_nonneg c (show (8 : Int) ≠ 0 by decide)
  have h1 := Int.emod_lt_of_pos c (show (0 : Int) < 8 by decide)
  generalize c % 8 = k at h0 h1
  rcases upto (n := 7) h1 with rfl | h1
  · exact ⟨"run", rfl, .inr (.inr (.inl rfl))⟩
  rcases upto (n := 6) h1 with rfl | h1
  · exact ⟨"grant", rfl, .inr (.inr (.inr rfl))⟩
  rcases upto (n := 5) h1 with rfl | h1
  · exact ⟨"send", rfl, .inl rfl⟩
  rcases upto (n := 4) h1 with rfl | h1
  · exact ⟨"run", rfl, .inr (.inr (.inl rfl))⟩
  rcases upto (n := 3) h1 with rfl | h1
  · exact ⟨"stop", rfl, .inr (.inl rfl)⟩
  rcases upto (n := 2) h1 with rfl | h1
  · exact ⟨"send", rfl, .inl rfl⟩
  rcases upto (n := 1) h1 with rfl | h1
  · exact ⟨"run", rfl, .inr (.inr (.inl rfl))⟩
  rcases upto (n := 0) h1 with rfl | h1
  · exact ⟨"send", rfl, .inl rfl⟩
  exact upto0 h0 h1
section
variable {P : Program} {w : World} {K : PySem.W.Frag} {mg : Str → Option Value} {base : Heap}
inductive spBudgetsI  (vs : List V) (H : Hp) (Q : VK) : Prop
  | mk (c n : Int) (z0 : vs = [.int c, .int n]) (z1 : 1 ≤ n) (z2 : n ≤ 12) (z3 : ∀ (b : Addr) (bs : List Int) (H' : Hp), Same H H' → H b = none → H' b = some (.lst (bs.map V.int)) → bs.length = n.toNat → (∀ x ∈ bs, 0 ≤ x) → Q (.ref b) H')
def spBudgets  : Sp := fun vs H Q _ => spBudgetsI  vs H Q
theorem scBudgets : FnScope ["_law_cell", "_law_owners", "_law_made", "_law_k", "_law_some"] ["_law_cell", "_law_owners"] (defScope sBudgets) := ⟨rfl, rfl, rfl, by decide +kernel, rfl, by decide +kernel, by decide +kernel⟩
theorem ok_budgets {f : Addr} {fd : FuncData} (F : Fun K "_law_budgets_of" "_law_budgets_of" sBudgets f fd) (T : Free mg) : FnOk P w K mg base CX0 1 f fd ["_law_cell", "_law_owners"] spBudgets := by
  refine F.ok scBudgets (fun vs H Q E h => ?_) (fun cdv A outer s H vs Q E hr h => ?_)
  · obtain ⟨c, n, rfl, _⟩ := h
    rfl
  obtain ⟨c, n, rfl, hn1, hn2, k⟩ := h
  refine ⟨_, (pss_cons (ps_set (i := 2) scBudgets.nd rfl (Or.inl rfl) (pe_lst pa_nil))
    (pss_cons (ps_for PassesOwn.never rfl (pi_range1 (by rfl) T.range (pa_cons (pv 1) pa_nil)) (pg_name (i := 3) scBudgets.nd rfl (Or.inl rfl))
    (pss_cons (ps_set (i := 4) scBudgets.nd rfl (Or.inl rfl) (pe_lst (pa_cons (pe_op op_mod (pe_op op_add (pe_op op_fdiv (pv 0) pe_int) (pe_op op_mul pe_int (pv 3))) pe_int) (pa_cons (pe_op op_mod (pv 0) pe_int) (pa_cons (pe_op op_mod (pv 0) (pe_op op_pow pe_int pe_int)) pa_nil)))))
    (pss_one (ps_expr (pe_bm PySem.F.plainAttrs_list PySem.F.slot_list_append PySem.F.type_list_append mt_append (pv 2) (pa_cons (pe_ix ix_list (pv 4) (pe_op op_mod (pe_op op_add (pv 0) (pv 3)) pe_int) (fun _ _ => rfl)) pa_nil))))))
    (pss_one (ps_ret (pv 2))))), ?_⟩
  try dsimp only [nox_K, cxOf_K]
  refine ⟨(by show 0 ≤ sizeLine; decide), fun b hb => ?_⟩
  refine ⟨_, rfl, n, rfl, by omega, by omega, for_range (n := n.toNat) (fun i σ H2 => ∃ (bs : List Int) (o1 o2 : Option V), σ = [some (.int c), some (.int n), some (.ref b), o1, o2] ∧ Same H H2 ∧ H2 b = some (.lst (bs.map V.int)) ∧ bs.length = i ∧ ∀ x ∈ bs, 0 ≤ x)
    ⟨[], none, none, rfl, same_new hb _, upd_same, rfl, fun x h => by cases h⟩ ?_ ?_⟩
  · rintro i σ H2 hi ⟨bs, o1, o2, rfl, s2, b2, hl, hp⟩
    have m0 := Int.emod_nonneg (c / 3 + 7 * (0 + (i : Int))) (show (25 : Int) ≠ 0 by decide)
    have m1 := Int.emod_nonneg c (show (1000 : Int) ≠ 0 by decide)
    have m2 := Int.emod_nonneg c (show (10 : Int) ^ (30 : Int).toNat ≠ 0 by decide)
    refine ⟨_, rfl, _, _, rfl, rfl, ⟨by decide, by decide⟩, _, rfl, _, _, rfl, rfl, .inl ⟨by decide, by decide⟩, _, _, rfl, rfl, _, _, rfl, rfl, (by show (0 : Int) < 25; decide), _, rfl, _, _, rfl, rfl, (by show (0 : Int) < 1000; decide), _, rfl, _, _, rfl, rfl, ⟨by decide, by decide, by decide⟩, _, _, rfl, rfl, (by show (0 : Int) < 10 ^ 30; decide), (by show 3 ≤ sizeLine; decide), fun p hp1 => ?_⟩
    obtain ⟨v, hv, hv0⟩ := pick3 _ _ _ (c + (0 + (i : Int))) m0 m1 m2
    have nbp : b ≠ p := ne_of_none b2 hp1
    refine ⟨_, rfl, .inl ⟨rfl, _, SqL.of (by rw [upd_ne nbp]; exact b2)⟩, _, rfl, _, rfl, _, rfl, _, _, rfl, rfl, _, _, rfl, rfl, (by show (0 : Int) < 3; decide), p, _, _, _, rfl, rfl, SqL.of upd_same, hv, b, _, _, rfl, rfl, by rw [upd_ne nbp]; exact b2, small1000 (by rw [List.length_map]; omega), ?_⟩
    refine ⟨bs ++ [v], _, _, rfl, same_upd (same_upd s2 (s2.free hp1) _) hb _, by rw [upd_same, List.map_append]; rfl, by rw [List.length_append, hl]; rfl, fun x hx => ?_⟩
    rcases List.mem_append.mp hx with z | z
    · exact hp x z
    · have e : x = v := by simpa using z
      rw [e]
      exact hv0
  · rintro σ H2 ⟨bs, o1, o2, rfl, s2, b2, hl, hp⟩
    exact ⟨_, rfl, k b bs H2 s2 hb b2 hl hp⟩
inductive spDeedsI  (vs : List V) (H : Hp) (Q : VK) : Prop
  | mk (c b : Addr) (ns bs : List Int) (z0 : vs = [.ref c, .ref b]) (z1 : H c = some (.lst (ns.map V.int))) (z2 : H b = some (.lst (bs.map V.int))) (z3 : ns.length ≤ 63) (z4 : bs ≠ []) (z5 : bs.length ≤ 12) (z6 : ∀ r ps ds H', Same H H' → H r = none → H' r = some (.lst (ps.map V.ref)) → DeedsAt H' ps ds → (∀ d ∈ ds, d.ok) → ds.length ≤ 31 → Q (.ref r) H')
def spDeeds  : Sp := fun vs H Q _ => spDeedsI  vs H Q
theorem scDeeds : FnScope ["_law_cells", "_law_budgets", "_law_words", "_law_asked", "_law_purse", "_law_sent", "_law_k", "_law_rest", "_law_salt", "_law_word", "_law_owner", "_law_odd", "_law_real", "_law_pages", "_law_far", "_law_menu", "_law_late", "_law_many"] ["_law_cells", "_law_budgets"] (defScope sDeeds) := ⟨rfl, rfl, rfl, by decide +kernel, rfl, by decide +kernel, by decide +kernel⟩
/-- what holds after i deeds -/
inductive InvDeeds (H : Hp) (c b wl as pu : Addr) (n i : Nat) (σ : List (Option V)) (H2 : Hp) : Prop
  | mk (pv : List Int) (sent : Int) (ps : List Addr) (ds : List Deed) (o6 o7 o8 o9 o10 o11 o12 o13 o14 o15 o16 o17 : Option V) (e : σ = [some (.ref c), some (.ref b), some (.ref wl), some (.ref as), some (.ref pu), some (.int sent), o6, o7, o8, o9, o10, o11, o12, o13, o14, o15, o16, o17]) (s3 : Same H H2) (w3 : H2 wl = some (.lst wordsV)) (a3 : H2 as = some (.lst (ps.map V.ref))) (p3 : H2 pu = some (.lst (pv.map V.int)))
    (hpv : pv.length = n) (hds : DeedsAt H2 ps ds) (hdl : ds.length ≤ i) (hok : ∀ d ∈ ds, d.ok) : InvDeeds H c b wl as pu n i σ H2
/-- the state within a deed -/
def stDeed (c b wl as pu : Addr) (sent i rest salt : Int) (wd : Str) (owner : Int) (r : List (Option V)) : List (Option V) := some (.ref c) :: some (.ref b) :: some (.ref wl) :: some (.ref as) :: some (.ref pu) :: some (.int sent) :: some (.int i) :: some (.int rest) :: some (.int salt) :: some (.str wd) :: some (.int owner) :: r
inductive MidOwner (H2 : Hp) (f : Int → List (Option V) → List (Option V)) (r : List (Option V)) (σ' : List (Option V)) (H' : Hp) : Prop
  | mk (h : H' = H2) (owner : Int) (z11 : Option V) (e : σ' = f owner (z11 :: r))
inductive MidReal (H2 : Hp) (f : List (Option V) → List (Option V)) (z11 : Option V) (r : List (Option V)) (T : Prop) (σ' : List (Option V)) (H' : Hp) : Prop
  | mk (h : H' = H2) (real : Bool) (hr : real = true → T) (e : σ' = f (z11 :: some (.bl real) :: r))
inductive MidInt (H2 : Hp) (f : V → List (Option V)) (T : Int → Prop) (σ' : List (Option V)) (H' : Hp) : Prop
  | mk (h : H' = H2) (many : Int) (ht : T many) (e : σ' = f (.int many))
/-- what an append leaves -/
inductive AppDeed (H H3 : Hp) (wl as pu t : Addr) (ps : List Addr) (ds : List Deed) (pv : List Int) (d : Deed) : Prop
  | mk (s5 : Same H (upd (upd H3 t (.tup d.vals)) as (.lst (ps.map V.ref ++ [.ref t])))) (w5 : upd (upd H3 t (.tup d.vals)) as (.lst (ps.map V.ref ++ [.ref t])) wl = some (.lst wordsV)) (a5 : upd (upd H3 t (.tup d.vals)) as (.lst (ps.map V.ref ++ [.ref t])) as = some (.lst ((ps ++ [t]).map V.ref)))
    (p5 : upd (upd H3 t (.tup d.vals)) as (.lst (ps.map V.ref ++ [.ref t])) pu = some (.lst (pv.map V.int))) (d5 : DeedsAt (upd (upd H3 t (.tup d.vals)) as (.lst (ps.map V.ref ++ [.ref t]))) ps ds) (t5 : upd (upd H3 t (.tup d.vals)) as (.lst (ps.map V.ref ++ [.ref t])) t = some (.tup d.vals)) (a6 : upd H3 t (.tup d.vals) as = some (.lst (ps.map V.ref)))
theorem ok_deeds {f : Addr} {fd : FuncData} (F : Fun K "_law_deeds" "_law_deeds" sDeeds f fd) (T : Free mg) : FnOk P w K mg base CX0 1 f fd ["_law_cells", "_law_budgets"] spDeeds := by
  refine F.ok scDeeds (fun vs H Q E h => ?_) (fun cdv A outer s H vs Q E hr h => ?_)
  · obtain ⟨c, b, ns, bs, rfl, _⟩ := h
    rfl
  obtain ⟨c, b, ns, bs, rfl, hc, hb, hlen, hbs, hbl, k⟩ := h
  have hbl0 : 0 < bs.length := List.length_pos_iff.mpr hbs
  refine ⟨_, (pss_cons (ps_set (i := 2) scDeeds.nd rfl (Or.inl rfl) (pe_lst (pa_cons pe_str (pa_cons pe_str (pa_cons pe_str (pa_cons pe_str (pa_cons pe_str (pa_cons pe_str (pa_cons pe_str (pa_cons pe_str pa_nil))))))))))
    (pss_cons (ps_set (i := 3) scDeeds.nd rfl (Or.inl rfl) (pe_lst pa_nil))
    (pss_cons (ps_set (i := 4) scDeeds.nd rfl (Or.inl rfl) (pe_callTy call_list_of (by rfl) T.list boot_list (pa_cons (pv 1) pa_nil)))
    (pss_cons (ps_set (i := 5) scDeeds.nd rfl (Or.inl rfl) pe_int)
    (pss_cons (ps_for PassesOwn.never rfl (pi_range1 (by rfl) T.range (pa_cons (pe_op op_fdiv (pe_callB call_len_seq (by rfl) T.len PySem.boot_len (pa_cons (pv 0) pa_nil)) pe_int) pa_nil)) (pg_name (i := 6) scDeeds.nd rfl (Or.inl rfl))
    (pss_cons (ps_set (i := 7) scDeeds.nd rfl (Or.inl rfl) (pe_op op_add (pe_op op_fdiv (pe_ix ix_list (pv 0) (pe_op op_mul pe_int (pv 6)) (fun _ _ => rfl)) pe_int) (pv 6)))
    (pss_cons (ps_set (i := 8) scDeeds.nd rfl (Or.inl rfl) (pe_op op_add (pe_ix ix_list (pv 0) (pe_op op_add (pe_op op_mul pe_int (pv 6)) pe_int) (fun _ _ => rfl)) (pv 6)))
    (pss_cons (ps_set (i := 9) scDeeds.nd rfl (Or.inl rfl) (pe_ix ix_list (pv 2) (pe_op op_mod (pe_op op_add (pe_ix ix_list (pv 0) (pe_op op_mul pe_int (pv 6)) (fun _ _ => rfl)) (pe_op op_mul pe_int (pv 6))) pe_int) (fun _ _ => rfl)))
    (pss_cons (ps_set (i := 10) scDeeds.nd rfl (Or.inl rfl) (pe_op op_mod (pv 7) (pe_callB call_len_seq (by rfl) T.len PySem.boot_len (pa_cons (pv 4) pa_nil))))
    (pss_join (ps_if (pt_cmpR op_eq (pe_op op_mod (pe_op op_add (pe_op op_fdiv (pv 8) pe_int) (pv 6)) pe_int) pe_int (nomark _))
    (pss_cons (ps_set (i := 11) scDeeds.nd rfl (Or.inl rfl) (pe_op op_mod (pv 7) (pe_op op_pow pe_int pe_int)))
    (pss_one (ps_set (i := 10) scDeeds.nd rfl (Or.inl rfl) (pe_pick (pa_cons (pe_un un_neg pe_int) (pa_cons (pe_callB call_len_seq (by rfl) T.len PySem.boot_len (pa_cons (pv 4) pa_nil)) (pa_cons (pe_op op_sub (pe_un un_neg pe_int) (pv 11)) (pa_cons (pe_op op_add (pe_callB call_len_seq (by rfl) T.len PySem.boot_len (pa_cons (pv 4) pa_nil)) (pv 11)) (pa_cons (pe_op op_pow pe_int pe_int) pa_nil))))) (pe_op op_mod (pv 7) pe_int) (fun _ _ => rfl)))))
    pss_nil)
    (pss_join (ps_set (i := 12) scDeeds.nd rfl (Or.inl rfl) (pe_and (pe_cmpR op_ge (pv 10) pe_int (nomark _)) (pe_one (pe_cmpR op_lt (pv 10) (pe_callB call_len_seq (by rfl) T.len PySem.boot_len (pa_cons (pv 4) pa_nil)) (nomark _)))))
    (pss_one (ps_if (pt_cmpR op_eq (pv 9) pe_str (nomark _))
    (pss_cons (ps_set (i := 13) scDeeds.nd rfl (Or.inl rfl) (pe_op op_sub (pe_op op_mod (pv 8) pe_int) pe_int))
    (pss_join (ps_if (pt_cmpR op_gt (pv 13) pe_int (nomark _))
    (pss_one (ps_set (i := 13) scDeeds.nd rfl (Or.inl rfl) (pe_pick (pa_cons pe_int (pa_cons pe_int pa_nil)) (pe_op op_sub (pv 13) pe_int) (fun _ _ => rfl))))
    pss_nil)
    (pss_cons (ps_set (i := 14) scDeeds.nd rfl (Or.inl rfl) (pe_op op_mod (pe_ix ix_list (pv 0) (pe_op op_mul pe_int (pv 6)) (fun _ _ => rfl)) (pe_op op_pow pe_int pe_int)))
    (pss_cons (ps_set (i := 15) scDeeds.nd rfl (Or.inl rfl) (pe_lst (pa_cons (pv 13) (pa_cons (pv 13) (pa_cons (pv 13) (pa_cons (pe_op op_mod (pv 14) pe_int) (pa_cons (pv 14) pa_nil)))))))
    (pss_cons (ps_set (i := 13) scDeeds.nd rfl (Or.inl rfl) (pe_ix ix_list (pv 15) (pe_op op_mod (pe_op op_add (pe_op op_fdiv (pv 8) pe_int) (pv 7)) pe_int) (fun _ _ => rfl)))
    (pss_cons (ps_expr (pe_bm PySem.F.plainAttrs_list PySem.F.slot_list_append PySem.F.type_list_append mt_append (pv 3) (pa_cons (pe_tup (pa_cons pe_str (pa_cons (pv 10) (pa_cons (pv 13) pa_nil)))) pa_nil)))
    (pss_one (ps_if (PW.pt (pw_and (pt_val (pv 12)) (pw_and (pt_cmpR op_gt (pv 13) pe_int (nomark _)) (pw_and1 (pt_cmpR op_le (pv 13) (pe_ix ix_list (pv 4) (pv 10) (fun _ _ => rfl)) (nomark _))))))
    (pss_cons (ps_asg (pe_op op_sub (pe_ix ix_list (pv 4) (pv 10) (fun _ _ => rfl)) (pv 13)) (pg_sub (pv 4) (pv 10) set_list))
    (pss_one (ps_set (i := 5) scDeeds.nd rfl (Or.inl rfl) (pe_op op_add (pv 5) pe_int))))
    pss_nil))))))))
    (pss_one (ps_if (pt_cmpR op_eq (pv 9) pe_str (nomark _))
    (pss_cons (ps_set (i := 16) scDeeds.nd rfl (Or.inl rfl) (pe_op op_sub (pe_op op_sub (pv 5) pe_int) (pe_pick (pa_cons (pe_op op_mod (pv 8) pe_int) (pa_cons (pe_op op_mod (pv 8) (pe_callB (call_max2 rfl) (by rfl) T.max boot_max (pa_cons pe_int (pa_cons (pv 5) pa_nil)))) pa_nil)) (pe_op op_mod (pv 7) pe_int) (fun _ _ => rfl))))
    (pss_one (ps_expr (pe_bm PySem.F.plainAttrs_list PySem.F.slot_list_append PySem.F.type_list_append mt_append (pv 3) (pa_cons (pe_tup (pa_cons pe_str (pa_cons (pe_pick (pa_cons (pv 16) (pa_cons pe_int pa_nil)) (pe_callTy call_int1 (by rfl) T.int boot_int (pa_cons (pe_cmpR op_eq (pe_op op_mod (pe_op op_fdiv (pv 8) pe_int) pe_int) pe_int (nomark _)) pa_nil)) (fun _ _ => rfl)) pa_nil))) pa_nil)))))
    (pss_one (ps_if (pt_cmpR op_eq (pv 9) pe_str (nomark _))
    (pss_cons (ps_set (i := 14) scDeeds.nd rfl (Or.inl rfl) (pe_op op_add (pe_callTy call_int1 (by rfl) T.int boot_int (pa_cons (pe_cmpR op_eq (pe_op op_mod (pe_op op_fdiv (pv 8) pe_int) pe_int) pe_int (nomark _)) pa_nil)) (pe_callTy call_int1 (by rfl) T.int boot_int (pa_cons (pe_cmpR op_eq (pe_op op_mod (pe_op op_fdiv (pv 8) pe_int) pe_int) pe_int (nomark _)) pa_nil))))
    (pss_one (ps_expr (pe_bm PySem.F.plainAttrs_list PySem.F.slot_list_append PySem.F.type_list_append mt_append (pv 3) (pa_cons (pe_tup (pa_cons pe_str (pa_cons (pe_pick (pa_cons (pe_op op_mod (pv 8) pe_int) (pa_cons (pe_op op_mod (pe_op op_fdiv (pv 8) pe_int) pe_int) (pa_cons (pe_op op_mod (pe_op op_fdiv (pv 8) pe_int) pe_int) pa_nil))) (pv 14) (fun _ _ => rfl)) pa_nil))) pa_nil)))))
    (pss_cons (ps_set (i := 17) scDeeds.nd rfl (Or.inl rfl) (pe_op op_mod (pv 8) pe_int))
    (pss_join (ps_if (pt_cmpR op_gt (pv 17) pe_int (nomark _))
    (pss_one (ps_set (i := 17) scDeeds.nd rfl (Or.inl rfl) (pe_pick (pa_cons pe_int (pa_cons (pe_op op_mod (pe_ix ix_list (pv 0) (pe_op op_mul pe_int (pv 6)) (fun _ _ => rfl)) (pe_op op_pow pe_int pe_int)) pa_nil)) (pe_op op_sub (pv 17) pe_int) (fun _ _ => rfl))))
    pss_nil)
    (pss_cons (ps_expr (pe_bm PySem.F.plainAttrs_list PySem.F.slot_list_append PySem.F.type_list_append mt_append (pv 3) (pa_cons (pe_tup (pa_cons pe_str (pa_cons (pv 10) (pa_cons (pv 17) pa_nil)))) pa_nil)))
    (pss_one (ps_if (pt_val (pv 12))
    (pss_one (ps_asg (pe_op op_add (pe_ix ix_list (pv 4) (pv 10) (fun _ _ => rfl)) (pv 17)) (pg_sub (pv 4) (pv 10) set_list)))
    pss_nil))))))))))))))))))
    (pss_one (ps_ret (pv 3)))))))), ?_⟩
  try dsimp only [nox_K, cxOf_K]
  -- words, asked, purse, sent
  refine ⟨(by show 8 ≤ sizeLine; decide), fun wl hw => ?_⟩
  refine ⟨(by show 0 ≤ sizeLine; decide), fun as has => ?_⟩
  have has0 : H as = none := (same_new hw _).free has
  have s1 : Same H (upd (upd H wl (.lst wordsV)) as (.lst [])) := same_upd (same_new hw _) has0 _
  have w1 : upd (upd H wl (.lst wordsV)) as (.lst []) wl = some (.lst wordsV) := by rw [upd_ne (ne_of_none upd_same has)]; exact upd_same
  have a1 : upd (upd H wl (.lst wordsV)) as (.lst []) as = some (.lst []) := upd_same
  have nwa : wl ≠ as := ne_of_none upd_same has
  show tSeq _ _ _ _ (upd (upd H wl (.lst wordsV)) as (.lst []))
  generalize upd (upd H wl (.lst wordsV)) as (.lst []) = H1 at s1 w1 a1
  refine ⟨_, rfl, b, _, rfl, .inl (SqL.of (s1 _ _ hb)), fun pu hpu => ?_⟩
  have hpu0 : H pu = none := s1.free hpu
  have nwp : wl ≠ pu := ne_of_none w1 hpu
  have nap : as ≠ pu := ne_of_none a1 hpu
  have s2 : Same H (upd H1 pu (.lst (bs.map V.int))) := same_upd s1 hpu0 _
  refine ⟨_, rfl, c, _, rfl, .inl (SqL.of (s2 _ _ hc)), _, _, rfl, rfl, ⟨by decide, by decide⟩, ?_⟩
  rw [List.length_map]
  have hh : ((ns.length : Int) / 2).toNat = ns.length / 2 := by omega
  refine ⟨_, rfl, by omega, by omega, for_range (n := ((ns.length : Int) / 2).toNat) (InvDeeds H c b wl as pu bs.length)
    ⟨bs, 0, [], [], none, none, none, none, none, none, none, none, none, none, none, none, rfl, s2, by rw [upd_ne nwp]; exact w1, by rw [upd_ne nap]; exact a1, upd_same, rfl, trivial, Nat.le_refl _, fun d h => by cases h⟩ ?_ ?_⟩
  · rintro i σ H2 hi ⟨pv, sent, ps, ds, o6, o7, o8, o9, o10, o11, o12, o13, o14, o15, o16, o17, rfl, s3, w3, a3, p3, hpv, hds, hdl, hok⟩
    have hi2 : i < ns.length / 2 := by omega
    have hc3 := s3 _ _ hc
    have x0 : atI (ns.map V.int) (2 * (0 + (i : Int))) = some (.int (ns.getD (2 * (0 + (i : Int))).toNat 0)) := at_int (by omega) (by omega)
    have x1 : atI (ns.map V.int) (2 * (0 + (i : Int)) + 1) = some (.int (ns.getD (2 * (0 + (i : Int)) + 1).toNat 0)) := at_int (by omega) (by omega)
    generalize ns.getD (2 * (0 + (i : Int))).toNat 0 = cell at x0
    generalize ns.getD (2 * (0 + (i : Int)) + 1).toNat 0 = cell1 at x1
    have hpl := hds.len
    -- rest, salt, word, owner
    refine ⟨_, rfl, _, rfl, _, _, rfl, rfl, .inl ⟨by decide, by decide⟩, c, _, _, _, rfl, rfl, SqL.of hc3, x0, _, _, rfl, rfl, ⟨by decide, by decide⟩, _, rfl, _, _, rfl, rfl, ?_⟩
    dsimp only
    generalize cell / 8 + (0 + (i : Int)) = rest
    refine ⟨_, rfl, _, rfl, _, _, rfl, rfl, .inl ⟨by decide, by decide⟩, _, _, rfl, rfl, c, _, _, _, rfl, rfl, SqL.of hc3, x1, _, rfl, _, _, rfl, rfl, ?_⟩
    dsimp only
    generalize cell1 + (0 + (i : Int)) = salt
    obtain ⟨wd, hwd, hwd4⟩ := pick_word (cell + 3 * (0 + (i : Int)))
    refine ⟨_, rfl, _, rfl, _, rfl, _, _, rfl, rfl, .inl ⟨by decide, by decide⟩, c, _, _, _, rfl, rfl, SqL.of hc3, x0, _, rfl, _, _, rfl, rfl, .inl ⟨by decide, by decide⟩, _, _, rfl, rfl, _, _, rfl, rfl, (by show (0 : Int) < 8; decide), wl, _, _, _, rfl, rfl, SqL.of w3, hwd, ?_⟩
    refine ⟨_, rfl, _, rfl, pu, _, rfl, .inl (SqL.of p3), _, _, rfl, rfl, (by rw [List.length_map]; show (0 : Int) < _; omega), ?_⟩
    rw [List.length_map]
    dsimp only
    generalize rest % (pv.length : Int) = owner0
    -- a stranger
    refine ⟨MidOwner H2 (stDeed c b wl as pu sent (0 + (i : Int)) rest salt wd) [o12, o13, o14, o15, o16, o17], ?_, ?_⟩
    · refine ⟨_, rfl, _, _, rfl, rfl, ⟨by decide, by decide⟩, _, rfl, _, _, rfl, rfl, _, _, rfl, rfl, (by show (0 : Int) < 11; decide), rfl, _, rfl, ?_⟩
      refine ite2 (fun c1 => ?_) (fun c1 => ?_)
      · refine ⟨_, rfl, _, _, rfl, rfl, ⟨by decide, by decide, by decide⟩, _, _, rfl, rfl, (by show (0 : Int) < 10 ^ 30; decide), ?_⟩
        dsimp only
        generalize rest % (10 : Int) ^ (30 : Int).toNat = odd
        obtain ⟨v, hv⟩ := pick5 (-1) (pv.length : Int) (-2 - odd) ((pv.length : Int) + odd) ((10 : Int) ^ (30 : Int).toNat) rest
        refine ⟨_, rfl, _, rfl, pu, _, rfl, .inl (SqL.of p3), _, rfl, _, rfl, _, _, rfl, rfl, _, rfl, pu, _, rfl, .inl (SqL.of p3), _, rfl, _, _, rfl, rfl, _, _, rfl, rfl, ⟨by decide, by decide, by decide⟩, (by show 5 ≤ sizeLine; decide), _, rfl, _, _, rfl, rfl, (by show (0 : Int) < 5; decide), _, .int v, rfl, ?_, rfl, v, _, rfl⟩
        rw [List.length_map]
        exact hv
      · exact ⟨rfl, owner0, _, rfl⟩
    rintro σ' H' ⟨rfl, owner, z11, rfl⟩
    -- real
    refine ⟨MidReal H' (stDeed c b wl as pu sent (0 + (i : Int)) rest salt wd owner) z11 [o13, o14, o15, o16, o17] (0 ≤ owner ∧ owner < (pv.length : Int)), ?_, ?_⟩
    · refine ⟨_, rfl, _, _, rfl, rfl, _, rfl, ?_⟩
      refine ite2 (fun c1 => ?_) (fun c1 => ?_)
      · have c1' : 0 ≤ owner := of_decide_eq_true c1
        refine ⟨_, rfl, _, rfl, pu, _, rfl, .inl (SqL.of p3), _, _, rfl, rfl, rfl, _, fun z => ⟨c1', ?_⟩, rfl⟩
        have z' := of_decide_eq_true z
        rw [List.length_map] at z'
        exact z'
      · exact ⟨rfl, false, fun z => (by cases z), rfl⟩
    rintro σ' H'' ⟨rfl, real, hreal, rfl⟩
    have tail : ∀ (d : Deed) (pv' : List Int) (sent' : Int) (t : Addr) (H3 : Hp) (z13 z14 z15 z16 z17 : Option V), d.ok → Same H H3 → H3 wl = some (.lst wordsV) → H3 as = some (.lst ((ps ++ [t]).map V.ref)) → H3 pu = some (.lst (pv'.map V.int)) → pv'.length = bs.length → DeedsAt H3 ps ds → H3 t = some (.tup d.vals) →
        InvDeeds H c b wl as pu bs.length (i + 1) (stDeed c b wl as pu sent' (0 + (i : Int)) rest salt wd owner [z11, some (.bl real), z13, z14, z15, z16, z17]) H3 := by
      intro d pv' sent' t H3 z13 z14 z15 z16 z17 hd s4 w4 a4 p4 l4 d4 t4
      refine ⟨pv', sent', ps ++ [t], ds ++ [d], _, _, _, _, _, _, _, _, _, _, _, _, rfl, s4, w4, a4, p4, l4, DeedsAt.snoc t4 d4, by rw [List.length_append]; show ds.length + 1 ≤ i + 1; omega, fun x hx => ?_⟩
      rcases List.mem_append.mp hx with z | z
      · exact hok x z
      · have e : x = d := by simpa using z
        rw [e]
        exact hd
    -- what an append leaves
    have app : ∀ (d : Deed) (H3 : Hp) (t : Addr), Same H'' H3 → H3 t = none → AppDeed H H3 wl as pu t ps ds pv d := by
      intro d H3 t s4 ht
      have s5 : Same H'' (upd H3 t (.tup d.vals)) := s4.trans (same_new ht _)
      have nta : t ≠ as := Ne.symm (ne_of_none (s4 _ _ a3) ht)
      refine ⟨same_upd (s3.trans s5) has0 _, by rw [upd_ne nwa]; exact s5 _ _ w3, by rw [upd_same, List.map_append]; rfl, by rw [upd_ne (Ne.symm nap)]; exact s5 _ _ p3, ?_, by rw [upd_ne nta]; exact upd_same, s5 _ _ a3⟩
      exact deeds_keep (fun q xs e => by rw [upd_ne (ne_of e a3 (by intro z; cases z))]; exact s5 _ _ e) hds
    have small : (ps.map V.ref).length < sizeLine := small1000 (by rw [List.length_map]; omega)
    rcases hwd4 with rfl | rfl | rfl | rfl
    · -- send
      refine ⟨_, rfl, rfl, _, rfl, ?_⟩
      refine iteB true (by decide +kernel) (iteT ?_)
      refine ⟨_, rfl, _, _, rfl, rfl, (by show (0 : Int) < 12; decide), _, _, rfl, rfl, ?_⟩
      have q0 := Int.emod_nonneg salt (show (12 : Int) ≠ 0 by decide)
      have q1 := Int.emod_lt_of_pos salt (show (0 : Int) < 12 by decide)
      dsimp only
      refine ⟨MidInt H'' (fun v => stDeed c b wl as pu sent (0 + (i : Int)) rest salt "send" owner [z11, some (.bl real), some v, o14, o15, o16, o17]) (fun _ => True), ?_, ?_⟩
      · refine ⟨_, rfl, _, _, rfl, rfl, _, rfl, ?_⟩
        refine ite2 (fun c2 => ?_) (fun c2 => ?_)
        · have c2' : 8 < salt % 12 - 1 := of_decide_eq_true c2
          obtain ⟨v, hv, _⟩ := pick2 0 1000000000000 (salt % 12 - 1 - 9) (by omega) (by omega)
          exact ⟨(by show 2 ≤ sizeLine; decide), _, rfl, _, _, rfl, rfl, _, .int v, rfl, hv, rfl, v, trivial, rfl⟩
        · exact ⟨rfl, _, trivial, rfl⟩
      rintro σ' H3 ⟨rfl, pages, _, rfl⟩
      refine ⟨_, rfl, _, rfl, _, _, rfl, rfl, .inl ⟨by decide, by decide⟩, c, _, _, _, rfl, rfl, SqL.of hc3, x0, _, _, rfl, rfl, ⟨by decide, by decide, by decide⟩, _, _, rfl, rfl, (by show (0 : Int) < 10 ^ 30; decide), ?_⟩
      dsimp only
      generalize cell % (10 : Int) ^ (30 : Int).toNat = far
      refine ⟨_, rfl, _, rfl, _, rfl, _, rfl, _, _, rfl, rfl, (by show (0 : Int) < 1000; decide), _, rfl, (by show 5 ≤ sizeLine; decide), fun m hm => ?_⟩
      obtain ⟨v, hv⟩ := pick5 pages pages pages (far % 1000) far (salt / 12 + rest)
      refine ⟨_, rfl, _, rfl, _, _, rfl, rfl, ⟨by decide, by decide⟩, _, rfl, _, _, rfl, rfl, _, _, rfl, rfl, (by show (0 : Int) < 5; decide), m, _, _, .int v, rfl, rfl, SqL.of upd_same, hv, ?_⟩
      have s4 : Same H3 (upd H3 m (.lst [.int pages, .int pages, .int pages, .int (far % 1000), .int far])) := same_new hm _
      refine ⟨_, rfl, .inl ⟨rfl, _, SqL.of (s4 _ _ a3)⟩, _, rfl, _, rfl, (by show 3 ≤ sizeLine; decide), fun t ht => ?_⟩
      obtain ⟨s5, w5, a5, p5, d5, t5, a6⟩ := app (.send owner v) _ t s4 ht
      refine ⟨as, _, _, rfl, rfl, a6, small, ?_⟩
      -- is it paid
      refine ⟨_, rfl, _, rfl, ?_⟩
      cases real with
      | false =>
        refine iteF ?_
        refine iteF ?_
        exact tail (.send owner v) pv sent t _ _ _ _ _ _ trivial s5 w5 a5 p5 hpv d5 t5
      | true =>
        obtain ⟨r0, r1⟩ := hreal rfl
        refine iteT ?_
        refine ⟨_, rfl, _, _, rfl, rfl, _, rfl, ?_⟩
        refine ite2 (fun c3 => ?_) (fun c3 => ?_)
        · refine ⟨_, rfl, _, rfl, _, rfl, pu, _, _, _, rfl, rfl, SqL.of p5, at_int r0 r1, _, _, rfl, rfl, _, rfl, ?_⟩
          refine ite2 (fun c4 => ?_) (fun c4 => ?_)
          · refine ⟨_, rfl, _, rfl, pu, _, _, _, rfl, rfl, SqL.of p5, at_int r0 r1, _, rfl, _, _, rfl, rfl, ?_⟩
            refine ⟨_, rfl, _, rfl, pu, _, _, _, rfl, rfl, p5, ix_int r0 r1, ?_⟩
            dsimp only
            rw [set_int]
            refine ⟨_, rfl, _, _, rfl, rfl, ?_⟩
            refine tail (.send owner v) _ (sent + 1) t _ _ _ _ _ _ trivial (same_upd s5 hpu0 _) (by rw [upd_ne nwp]; exact w5) (by rw [upd_ne nap]; exact a5) upd_same (by rw [List.length_set]; exact hpv) ?_ ?_
            · exact deeds_keep (fun q xs e => by rw [upd_ne (ne_of e p5 (by intro z; cases z))]; exact e) d5
            · rw [upd_ne (ne_of t5 p5 (by intro z; cases z))]
              exact t5
          · exact tail (.send owner v) pv sent t _ _ _ _ _ _ trivial s5 w5 a5 p5 hpv d5 t5
        · refine iteF ?_
          exact tail (.send owner v) pv sent t _ _ _ _ _ _ trivial s5 w5 a5 p5 hpv d5 t5
    · -- stop
      refine ⟨_, rfl, rfl, _, rfl, ?_⟩
      refine iteB false (by decide +kernel) (iteF ?_)
      refine ⟨_, rfl, rfl, _, rfl, ?_⟩
      refine iteB true (by decide +kernel) (iteT ?_)
      have hmx : (0 : Int) < (if sent > 1 then sent else 1) := by split <;> omega
      have e0 := Int.emod_nonneg rest (show (2 : Int) ≠ 0 by decide)
      have e1 := Int.emod_lt_of_pos rest (show (0 : Int) < 2 by decide)
      obtain ⟨v, hv, _⟩ := pick2 (salt % 3) (salt % (if sent > 1 then sent else 1)) (rest % 2) e0 e1
      refine ⟨_, rfl, _, _, rfl, rfl, _, rfl, _, _, rfl, rfl, (by show (0 : Int) < 3; decide), _, rfl, _, rfl, _, _, rfl, _, _, rfl, rfl, hmx, (by show 2 ≤ sizeLine; decide), _, rfl, _, _, rfl, rfl, (by show (0 : Int) < 2; decide), _, .int v, rfl, hv, _, _, rfl, rfl, ?_⟩
      dsimp only
      generalize sent - 1 - v = late
      refine ⟨_, rfl, .inl ⟨rfl, _, SqL.of a3⟩, _, rfl, (by show 2 ≤ sizeLine; decide), _, rfl, _, _, rfl, rfl, ⟨by decide, by decide⟩, _, _, rfl, rfl, (by show (0 : Int) < 17; decide), rfl, .inr ⟨_, rfl, ?_⟩⟩
      dsimp only
      generalize decide (V.int (salt / 3 % 17) = V.int 4) = bb
      obtain ⟨u, hu, _⟩ := pick2 late 1000000000000 (if bb = true then 1 else 0) (by split <;> omega) (by split <;> omega)
      refine ⟨_, .int u, rfl, hu, (by show 2 ≤ sizeLine; decide), fun t ht => ?_⟩
      obtain ⟨s5, w5, a5, p5, d5, t5, a6⟩ := app (.stop u) _ t (Same.refl _) ht
      refine ⟨as, _, _, rfl, rfl, a6, small, ?_⟩
      exact tail (.stop u) pv sent t _ _ _ _ _ _ trivial s5 w5 a5 p5 hpv d5 t5
    · -- run
      refine ⟨_, rfl, rfl, _, rfl, ?_⟩
      refine iteB false (by decide +kernel) (iteF ?_)
      refine ⟨_, rfl, rfl, _, rfl, ?_⟩
      refine iteB false (by decide +kernel) (iteF ?_)
      refine ⟨_, rfl, rfl, _, rfl, ?_⟩
      refine iteB true (by decide +kernel) (iteT ?_)
      refine ⟨_, rfl, _, _, rfl, rfl, ⟨by decide, by decide⟩, _, _, rfl, rfl, (by show (0 : Int) < 8; decide), rfl, .inr ⟨_, rfl, _, rfl, _, _, rfl, rfl, ⟨by decide, by decide⟩, _, _, rfl, rfl, (by show (0 : Int) < 64; decide), rfl, .inr ⟨_, rfl, _, _, rfl, rfl, ?_⟩⟩⟩
      dsimp only
      generalize decide (V.int (salt / 6 % 8) = V.int 3) = b1
      generalize decide (V.int (salt / 6 % 64) = V.int 3) = b2
      obtain ⟨v, hv, hv0, hv1⟩ := pick_run salt b1 b2
      refine ⟨_, rfl, .inl ⟨rfl, _, SqL.of a3⟩, _, rfl, _, _, rfl, rfl, (by show (0 : Int) < 6; decide), _, rfl, _, _, rfl, rfl, ⟨by decide, by decide⟩, _, _, rfl, rfl, (by show (0 : Int) < 41; decide), _, rfl, _, _, rfl, rfl, ⟨by decide, by decide⟩, _, _, rfl, rfl, (by show (0 : Int) < 300; decide), (by show 3 ≤ sizeLine; decide), _, rfl, _, .int v, rfl, hv, (by show 2 ≤ sizeLine; decide), fun t ht => ?_⟩
      obtain ⟨s5, w5, a5, p5, d5, t5, a6⟩ := app (.run v) _ t (Same.refl _) ht
      refine ⟨as, _, _, rfl, rfl, a6, small, ?_⟩
      exact tail (.run v) pv sent t _ _ _ _ _ _ ⟨hv0, hv1⟩ s5 w5 a5 p5 hpv d5 t5
    · -- grant
      refine ⟨_, rfl, rfl, _, rfl, ?_⟩
      refine iteB false (by decide +kernel) (iteF ?_)
      refine ⟨_, rfl, rfl, _, rfl, ?_⟩
      refine iteB false (by decide +kernel) (iteF ?_)
      refine ⟨_, rfl, rfl, _, rfl, ?_⟩
      refine iteB false (by decide +kernel) (iteF ?_)
      refine ⟨_, rfl, _, _, rfl, rfl, (by show (0 : Int) < 12; decide), ?_⟩
      have q0 := Int.emod_nonneg salt (show (12 : Int) ≠ 0 by decide)
      have q1 := Int.emod_lt_of_pos salt (show (0 : Int) < 12 by decide)
      have q2 := Int.emod_nonneg cell (show (10 : Int) ^ (30 : Int).toNat ≠ 0 by decide)
      dsimp only
      refine ⟨MidInt H'' (fun v => stDeed c b wl as pu sent (0 + (i : Int)) rest salt "grant" owner [z11, some (.bl real), o13, o14, o15, o16, some v]) (fun n => 0 ≤ n), ?_, ?_⟩
      · refine ⟨_, rfl, _, _, rfl, rfl, _, rfl, ?_⟩
        refine ite2 (fun c2 => ?_) (fun c2 => ?_)
        · have c2' : 9 < salt % 12 := of_decide_eq_true c2
          obtain ⟨v, hv, hv2⟩ := pick2 1000000000000 (cell % (10 : Int) ^ (30 : Int).toNat) (salt % 12 - 10) (by omega) (by omega)
          refine ⟨_, rfl, _, rfl, _, _, rfl, rfl, .inl ⟨by decide, by decide⟩, c, _, _, _, rfl, rfl, SqL.of hc3, x0, _, _, rfl, rfl, ⟨by decide, by decide, by decide⟩, _, _, rfl, rfl, (by show (0 : Int) < 10 ^ 30; decide), (by show 2 ≤ sizeLine; decide), _, rfl, _, _, rfl, rfl, _, .int v, rfl, hv, rfl, v, ?_, rfl⟩
          rcases hv2 with z | z
          · rw [z]
            decide
          · rw [z]
            exact q2
        · exact ⟨rfl, _, q0, rfl⟩
      rintro σ' H3 ⟨rfl, many, hmany, rfl⟩
      refine ⟨_, rfl, .inl ⟨rfl, _, SqL.of a3⟩, _, rfl, _, rfl, (by show 3 ≤ sizeLine; decide), fun t ht => ?_⟩
      obtain ⟨s5, w5, a5, p5, d5, t5, a6⟩ := app (.grant owner many) _ t (Same.refl _) ht
      refine ⟨as, _, _, rfl, rfl, a6, small, ?_⟩
      refine ⟨_, rfl, _, rfl, ?_⟩
      cases real with
      | false =>
        refine iteF ?_
        exact tail (.grant owner many) pv sent t _ _ _ _ _ _ hmany s5 w5 a5 p5 hpv d5 t5
      | true =>
        obtain ⟨r0, r1⟩ := hreal rfl
        refine iteT ?_
        refine ⟨_, rfl, _, rfl, pu, _, _, _, rfl, rfl, SqL.of p5, at_int r0 r1, _, rfl, _, _, rfl, rfl, ?_⟩
        refine ⟨_, rfl, _, rfl, pu, _, _, _, rfl, rfl, p5, ix_int r0 r1, ?_⟩
        dsimp only
        rw [set_int]
        refine tail (.grant owner many) _ sent t _ _ _ _ _ _ hmany (same_upd s5 hpu0 _) (by rw [upd_ne nwp]; exact w5) (by rw [upd_ne nap]; exact a5) upd_same (by rw [List.length_set]; exact hpv) ?_ ?_
        · exact deeds_keep (fun q xs e => by rw [upd_ne (ne_of e p5 (by intro z; cases z))]; exact e) d5
        · rw [upd_ne (ne_of t5 p5 (by intro z; cases z))]
          exact t5
  · rintro σ H2 ⟨pv, sent, ps, ds, o6, o7, o8, o9, o10, o11, o12, o13, o14, o15, o16, o17, rfl, s3, w3, a3, p3, hpv, hds, hdl, hok⟩
    exact ⟨_, rfl, k as ps ds H2 s3 has0 a3 hds hok (by omega)⟩
end

/-! ### what the laws of a day draw at their head -/
theorem pick_lim (c : Int) : ∃ lim : Int, atI [V.int 1, V.int 2, V.int 3, V.int 4, V.int 5, V.int 6, V.int (7 + c / 9 % 30), V.int 17, V.int 1000000000000] (c % 9) = some (.int lim) ∧ 1 ≤ lim := by
  have h0 := Int.emod_nonneg c (show (9 : Int) ≠ 0 by decide)
  have h1 := Int.emod_lt_of_pos c (show (0 : Int) < 9 by decide)
  have h2 := Int.emod_nonneg (c / 9) (show (30 : Int) ≠ 0 by decide)
  generalize c % 9 = k at h0 h1
  rcases upto (n := 8) h1 with rfl | h1
  · exact ⟨1000000000000, rfl, by decide⟩
  rcases upto (n := 7) h1 with rfl | h1
  · exact ⟨17, rfl, by decide⟩
  rcases upto (n := 6) h1 with rfl | h1
  · exact ⟨_, rfl, by omega⟩
  rcases upto (n := 5) h1 with rfl | h1
  · exact ⟨6, rfl, by decide⟩
  rcases upto (n := 4) h1 with rfl | h1
  · exact ⟨5, rfl, by decide⟩
  rcases upto (n := 3) h1 with rfl | h1
  · exact ⟨4, rfl, by decide⟩
  rcases upto (n := 2) h1 with rfl | h1
  · exact ⟨3, rfl, by decide⟩
  rcases upto (n := 1) h1 with rfl | h1
  · exact ⟨2, rfl, by decide⟩
  rcases upto (n := 0) h1 with rfl | h1
  · exact ⟨1, rfl, by decide⟩
  exact upto0 h0 h1
theorem pick_pau (c : Int) : ∃ pz : Int, atI [V.int 0, V.int 1, V.int 2, V.int 3, V.int 0, V.int (4 + c / 54 % 30)] (c / 9 % 6) = some (.int pz) ∧ 0 ≤ pz := by
  have h0 := Int.emod_nonneg (c / 9) (show (6 : Int) ≠ 0 by decide)
  have h1 := Int.emod_lt_of_pos (c / 9) (show (0 : Int) < 6 by decide)
  have h2 := Int.emod_nonneg (c / 54) (show (30 : Int) ≠ 0 by decide)
  generalize c / 9 % 6 = k at h0 h1
  rcases upto (n := 5) h1 with rfl | h1
  · exact ⟨_, rfl, by omega⟩
  rcases upto (n := 4) h1 with rfl | h1
  · exact ⟨0, rfl, by decide⟩
  rcases upto (n := 3) h1 with rfl | h1
  · exact ⟨3, rfl, by decide⟩
  rcases upto (n := 2) h1 with rfl | h1
  · exact ⟨2, rfl, by decide⟩
  rcases upto (n := 1) h1 with rfl | h1
  · exact ⟨1, rfl, by decide⟩
  rcases upto (n := 0) h1 with rfl | h1
  · exact ⟨0, rfl, by decide⟩
  exact upto0 h0 h1
theorem cut2 (ns : List Int) : cutV (ns.map V.int) (some 2) none = (ns.drop 2).map V.int := by
  unfold cutV
  rw [HT.sIx_none, List.length_map]
  have e : HT.sIx ns.length 0 (some 2) = min 2 ns.length := HT.sIx_nat ns.length 0 2
  rw [e, ← List.map_drop, ← List.map_take]
  congr 1
  rcases Nat.lt_or_ge ns.length 2 with h | h
  · rw [Nat.min_eq_right (by omega), List.drop_length, List.drop_eq_nil_of_le (by omega), List.take_nil]
  · rw [Nat.min_eq_left h]
    exact List.take_of_length_le (by rw [List.length_drop]; omega)
/-- what is handed in of a day -/
structure Day (H : Hp) (b r : Addr) (bs : List Int) (ps : List Addr) (ds : List Deed) : Prop where
  hb : H b = some (.lst (bs.map V.int))
  ne : bs ≠ []
  few : bs.length ≤ 12
  pos : ∀ x ∈ bs, 0 ≤ x
  hr : H r = some (.lst (ps.map V.ref))
  dsAt : DeedsAt H ps ds
  ok : ∀ d ∈ ds, d.ok
  len : ds.length ≤ 31
theorem Day.mono {H H' : Hp} {b r : Addr} {bs : List Int} {ps : List Addr} {ds : List Deed} (h : Day H b r bs ps ds) (k : Same H H') : Day H' b r bs ps ds :=
  ⟨k _ _ h.hb, h.ne, h.few, h.pos, k _ _ h.hr, h.dsAt.mono k, h.ok, h.len⟩
inductive spLawI (K : PySem.W.Frag) (vs : List V) (H : Hp) (Q : VK) : Prop
  | mk (a : Addr) (ns : List Int) (z0 : vs = [.ref a]) (z1 : SqL K H a (ns.map V.int)) (z2 : ns.length ≤ 63) (z3 : ∀ H', Q (.bl true) H')
def spLaw (K : PySem.W.Frag) : Sp := fun vs H Q _ => spLawI K vs H Q

/-! ### printlane.lane: the class Job and the class Lane, what they promise -/
structure Txt (K : PySem.W.Frag) (mg : Str → Option Value) (CL CJ : Addr) : Prop where
  cl : Cls K CL
  cj : Cls K CJ
  lLimit : NoAttr K CL "limit"
  lPause : NoAttr K CL "pause"
  lBudgets : NoAttr K CL "budgets"
  lPrinted : NoAttr K CL "printed"
  lRow : NoAttr K CL "row"
  lSent : NoAttr K CL "sent"
  lHot : NoAttr K CL "hot"
  lResting : NoAttr K CL "resting"
  jNumber : NoAttr K CJ "number"
  jOwner : NoAttr K CJ "owner"
  jPages : NoAttr K CJ "pages"
  jPrinted : NoAttr K CJ "printed"
structure Exc (K : PySem.W.Frag) (mg : Str → Option Value) (c1 c2 c3 c4 : Addr) : Prop where
  m1 : mg "NoOwner" = some (.ref c1)
  m2 : mg "NoPages" = some (.ref c2)
  m3 : mg "Broke" = some (.ref c3)
  m4 : mg "NoJob" = some (.ref c4)
  e1 : Err K c1
  e2 : Err K c2
  e3 : Err K c3
  e4 : Err K c4
  x11 : PySem.W.exmOne K (.ref c1) (.ref c1) = some true
  x21 : PySem.W.exmOne K (.ref c2) (.ref c1) = some false
  x22 : PySem.W.exmOne K (.ref c2) (.ref c2) = some true
  x31 : PySem.W.exmOne K (.ref c3) (.ref c1) = some false
  x32 : PySem.W.exmOne K (.ref c3) (.ref c2) = some false
  x33 : PySem.W.exmOne K (.ref c3) (.ref c3) = some true
  x41 : PySem.W.exmOne K (.ref c4) (.ref c1) = some false
  x42 : PySem.W.exmOne K (.ref c4) (.ref c2) = some false
  x43 : PySem.W.exmOne K (.ref c4) (.ref c3) = some false
  x44 : PySem.W.exmOne K (.ref c4) (.ref c4) = some true
theorem at0 {x : V} {xs : List V} : atI (x :: xs) 0 = some x := atI_nat (show (x :: xs)[0]? = some x from rfl)
inductive spJInitI (CJ : Addr) (vs : List V) (H : Hp) (Q : VK) : Prop
  | mk (x dx : Addr) (n o p : Int) (z0 : vs = [.ref x, .int n, .int o, .int p]) (z1 : H x = some (.ins CJ dx [])) (z2 : ∀ H', But x H H' → H' x = some (.ins CJ dx (jobF ⟨n, o, p, 0⟩)) → Q .non H')
def spJInit (CJ : Addr) : Sp := fun vs H Q _ => spJInitI CJ vs H Q
inductive spLeftI (CJ : Addr) (vs : List V) (H : Hp) (Q : VK) : Prop
  | mk (a dx : Addr) (j : Jb) (z0 : vs = [.ref a]) (z1 : H a = some (.ins CJ dx (jobF j))) (z2 : Q (.int (j.p - j.k)) H)
def spLeft (CJ : Addr) : Sp := fun vs H Q _ => spLeftI CJ vs H Q
inductive spLInitI (CL CJ : Addr) (vs : List V) (H : Hp) (Q : VK) : Prop
  | mk (x dx : Addr) (lim pz : Int) (b : Addr) (bs : List Int) (B : Hp) (z0 : vs = [.ref x, .int lim, .int pz, .ref b]) (z1 : H x = some (.ins CL dx [])) (z2 : B x = none) (z3 : Same B H) (z4 : H b = some (.lst (bs.map V.int))) (z5 : bs.length ≤ 100) (z6 : ∀ H', LaneP CL CJ B H' x (P0 lim pz bs) → Q .non H')
def spLInit (CL CJ : Addr) : Sp := fun vs H Q _ => spLInitI CL CJ vs H Q
inductive spPageI (CL CJ : Addr) (vs : List V) (H : Hp) (Q : VK) : Prop
  | mk (l : Addr) (B : Hp) (P : Pl) (j : Jb) (rest : List Jb) (z0 : vs = [.ref l]) (z1 : LaneP CL CJ B H l P) (z2 : P.jobs = j :: rest) (z3 : 0 ≤ j.o) (z4 : j.o < (P.pr.length : Int)) (z5 : P.jobs.length ≤ 900) (z6 : ∀ p H', LaneP CL CJ B H' l (pageP P) → H' p = some (.tup [.str "page", .int j.n, .int (j.k + 1)]) → Q (.ref p) H')
def spPage (CL CJ : Addr) : Sp := fun vs H Q _ => spPageI CL CJ vs H Q
inductive spTickMI (CL CJ : Addr) (vs : List V) (H : Hp) (Q : VK) : Prop
  | mk (l : Addr) (B : Hp) (P : Pl) (z0 : vs = [.ref l]) (z1 : LaneP CL CJ B H l P) (z2 : POk P) (z3 : P.jobs.length ≤ 900) (z4 : ∀ p H', LaneP CL CJ B H' l (tickP P) → H' p = some (.tup (tickT P)) → Q (.ref p) H')
def spTickM (CL CJ : Addr) : Sp := fun vs H Q _ => spTickMI CL CJ vs H Q
def TicksAt (H : Hp) : List Addr → List (List V) → Prop
  | [], [] => True
  | p :: ps, t :: ts => H p = some (.tup t) ∧ TicksAt H ps ts
  | _, _ => False
theorem TicksAt.len {H : Hp} : ∀ {ps : List Addr} {ts : List (List V)}, TicksAt H ps ts → ps.length = ts.length
  | [], [], _ => rfl
  | _ :: _, _ :: _, h => congrArg (· + 1) (TicksAt.len h.2)
  | [], _ :: _, h => h.elim
  | _ :: _, [], h => h.elim
theorem TicksAt.mono {H H' : Hp} (k : ∀ b xs, H b = some (.tup xs) → H' b = some (.tup xs)) : ∀ {ps : List Addr} {ts : List (List V)}, TicksAt H ps ts → TicksAt H' ps ts
  | [], [], _ => trivial
  | _ :: _, _ :: _, h => ⟨k _ _ h.1, TicksAt.mono k h.2⟩
  | [], _ :: _, h => h.elim
  | _ :: _, [], h => h.elim
theorem TicksAt.snoc {H : Hp} {q : Addr} {t : List V} (hq : H q = some (.tup t)) : ∀ {ps : List Addr} {ts : List (List V)}, TicksAt H ps ts → TicksAt H (ps ++ [q]) (ts ++ [t])
  | [], [], _ => ⟨hq, trivial⟩
  | _ :: _, _ :: _, h => ⟨h.1, TicksAt.snoc hq h.2⟩
  | [], _ :: _, h => h.elim
  | _ :: _, [], h => h.elim
inductive GotTick (H : Hp) (ts : List (List V)) (i : Nat) (p : Addr) : Prop
  | mk (t : List V) (h1 : ts[i]? = some t) (h2 : H p = some (.tup t)) (h4 : ts.take (i + 1) = ts.take i ++ [t])
theorem TicksAt.get {H : Hp} : ∀ {ps : List Addr} {ts : List (List V)} {i : Nat} {p : Addr}, TicksAt H ps ts → ps[i]? = some p → GotTick H ts i p
  | [], [], _, _, _, e => by simp at e
  | q :: ps, r :: rs, 0, p, h, e => by
    have e' : q = p := by simpa using e
    exact ⟨r, rfl, e' ▸ h.1, rfl⟩
  | _ :: ps, _ :: rs, i + 1, p, h, e => by
    obtain ⟨r, h1, h2, h4⟩ := TicksAt.get (i := i) h.2 (by simpa using e)
    exact ⟨r, by simpa using h1, h2, by simpa using h4⟩
  | [], _ :: _, _, _, h, _ => h.elim
  | _ :: _, [], _, _, h, _ => h.elim
inductive spTicksI (CL CJ : Addr) (vs : List V) (H : Hp) (Q : VK) : Prop
  | mk (l : Addr) (B : Hp) (P : Pl) (m : Int) (z0 : vs = [.ref l, .int m]) (z1 : LaneP CL CJ B H l P) (z2 : POk P) (z3 : P.jobs.length ≤ 900) (z4 : 0 ≤ m) (z5 : m < 300) (z6 : ∀ t ps B' H', Same B B' → LaneP CL CJ B' H' l (runP m.toNat P) → B' t = some (.lst (ps.map V.ref)) → TicksAt B' ps (runT m.toNat P) → Q (.ref t) H')
def spTicks (CL CJ : Addr) : Sp := fun vs H Q _ => spTicksI CL CJ vs H Q
inductive spRunI (CL CJ : Addr) (vs : List V) (H : Hp) (Q : VK) : Prop
  | mk (l : Addr) (B : Hp) (P : Pl) (m : Int) (z0 : vs = [.ref l, .int m]) (z1 : LaneP CL CJ B H l P) (z2 : POk P) (z3 : P.jobs.length ≤ 900) (z4 : 0 ≤ m) (z5 : m < 300) (z6 : ∀ H', LaneP CL CJ B H' l (runP m.toNat P) → Q (.int ((runT m.toNat P).countP isPage)) H')
def spRun (CL CJ : Addr) : Sp := fun vs H Q _ => spRunI CL CJ vs H Q
section
variable {P : Program} {w : World} {K : PySem.W.Frag} {mg : Str → Option Value} {base : Heap} {CL CJ : Addr}
theorem scJInit : FnScope ["self", "number", "owner", "pages"] ["self", "number", "owner", "pages"] (defScope sJInit) := ⟨rfl, rfl, rfl, by decide +kernel, rfl, by decide +kernel, by decide +kernel⟩
theorem ok_jinit {f : Addr} {fd : FuncData} (F : Fun K "__init__" "Job.__init__" sJInit f fd) (U : Txt K mg CL CJ) : FnOk P w K mg base CX0 1 f fd ["self", "number", "owner", "pages"] (spJInit CJ) := by
  refine F.ok scJInit (fun vs H Q E h => ?_) (fun cdv A outer s H vs Q E hr h => ?_)
  · obtain ⟨x, dx, n, o, p, rfl, _⟩ := h
    rfl
  obtain ⟨x, dx, n, o, p, rfl, hx, k⟩ := h
  refine ⟨_, (pss_cons (ps_fld (pv 0) (pv 1) rfl)
    (pss_cons (ps_fld (pv 0) (pv 2) rfl)
    (pss_cons (ps_fld (pv 0) (pv 3) rfl)
    (pss_one (ps_fld (pv 0) pe_int rfl))))), ?_⟩
  try dsimp only [nox_K, cxOf_K]
  refine ⟨_, rfl, _, rfl, x, CJ, dx, [], rfl, hx, U.cj, U.jNumber, (by show 0 < 1000; decide), ?_⟩
  refine ⟨_, rfl, _, rfl, x, CJ, dx, _, rfl, upd_same, U.cj, U.jOwner, (by show 1 < 1000; decide), ?_⟩
  refine ⟨_, rfl, _, rfl, x, CJ, dx, _, rfl, upd_same, U.cj, U.jPages, (by show 2 < 1000; decide), ?_⟩
  refine ⟨_, rfl, x, CJ, dx, _, rfl, upd_same, U.cj, U.jPrinted, (by show 3 < 1000; decide), ?_⟩
  exact k _ ((((But.refl x H).upd _).upd _).upd _ |>.upd _) upd_same
theorem scLeft : FnScope ["self"] ["self"] (defScope sLeft) := ⟨rfl, rfl, rfl, by decide +kernel, rfl, by decide +kernel, by decide +kernel⟩
theorem ok_left {f : Addr} {fd : FuncData} (F : Fun K "left" "Job.left" sLeft f fd) (U : Txt K mg CL CJ) : FnOk P w K mg base CX0 1 f fd ["self"] (spLeft CJ) := by
  refine F.ok scLeft (fun vs H Q E h => ?_) (fun cdv A outer s H vs Q E hr h => ?_)
  · obtain ⟨a, dx, j, rfl, _⟩ := h
    rfl
  obtain ⟨a, dx, j, rfl, ha, k⟩ := h
  refine ⟨_, (pss_one (ps_ret (pe_op op_sub (pe_fld (pv 0) rfl) (pe_fld (pv 0) rfl)))), ?_⟩
  try dsimp only [nox_K, cxOf_K]
  exact ⟨_, rfl, a, CJ, dx, _, _, rfl, ha, U.cj, U.jPages, jf_pages, _, rfl, a, CJ, dx, _, _, rfl, ha, U.cj, U.jPrinted, jf_printed, _, _, rfl, rfl, k⟩
theorem flat_zero : ∀ n : Nat, (List.replicate n [V.int 0]).flatten = (List.replicate n (0 : Int)).map V.int
  | 0 => rfl
  | n + 1 => by
    rw [List.replicate_succ, List.flatten_cons, List.replicate_succ, List.map_cons, flat_zero n]
    rfl
theorem scLInit : FnScope ["self", "limit", "pause", "budgets"] ["self", "limit", "pause", "budgets"] (defScope sLInit) := ⟨rfl, rfl, rfl, by decide +kernel, rfl, by decide +kernel, by decide +kernel⟩
theorem ok_linit {f : Addr} {fd : FuncData} (F : Fun K "__init__" "Lane.__init__" sLInit f fd) (T : Free mg) (U : Txt K mg CL CJ) : FnOk P w K mg base CX0 1 f fd ["self", "limit", "pause", "budgets"] (spLInit CL CJ) := by
  refine F.ok scLInit (fun vs H Q E h => ?_) (fun cdv A outer s H vs Q E hr h => ?_)
  · obtain ⟨x, dx, lim, pz, b, bs, B, rfl, _⟩ := h
    rfl
  obtain ⟨x, dx, lim, pz, b, bs, B, rfl, hx, hB, sB, hb, hlen, k⟩ := h
  have nbx : b ≠ x := ne_of hb hx (by intro z; cases z)
  refine ⟨_, (pss_cons (ps_fld (pv 0) (pv 1) rfl)
    (pss_cons (ps_fld (pv 0) (pv 2) rfl)
    (pss_cons (ps_fld (pv 0) (pe_callTy call_list_of (by rfl) T.list boot_list (pa_cons (pv 3) pa_nil)) rfl)
    (pss_cons (ps_fld (pv 0) (pe_op op_rep (pe_lst (pa_cons pe_int pa_nil)) (pe_callB call_len_seq (by rfl) T.len PySem.boot_len (pa_cons (pv 3) pa_nil))) rfl)
    (pss_cons (ps_fld (pv 0) (pe_lst pa_nil) rfl)
    (pss_cons (ps_fld (pv 0) pe_int rfl)
    (pss_cons (ps_fld (pv 0) pe_int rfl)
    (pss_one (ps_fld (pv 0) pe_int rfl))))))))), ?_⟩
  try dsimp only [nox_K, cxOf_K]
  refine ⟨_, rfl, _, rfl, x, CL, dx, [], rfl, hx, U.cl, U.lLimit, (by show 0 < 1000; decide), ?_⟩
  refine ⟨_, rfl, _, rfl, x, CL, dx, _, rfl, upd_same, U.cl, U.lPause, (by show 1 < 1000; decide), ?_⟩
  have f2 : But x H (upd (upd H x (.ins CL dx (putF "limit" (.int lim) []))) x (.ins CL dx (putF "pause" (.int pz) (putF "limit" (.int lim) [])))) := ((But.refl x H).upd _).upd _
  have x2 : upd (upd H x (.ins CL dx (putF "limit" (.int lim) []))) x (.ins CL dx (putF "pause" (.int pz) (putF "limit" (.int lim) []))) x = some (.ins CL dx [("limit", .int lim), ("pause", .int pz)]) := upd_same
  generalize upd (upd H x (.ins CL dx (putF "limit" (.int lim) []))) x (.ins CL dx (putF "pause" (.int pz) (putF "limit" (.int lim) []))) = H2 at f2 x2 ⊢
  -- budgets
  refine ⟨_, rfl, b, _, rfl, .inl (SqL.of (f2 _ _ hb nbx)), fun q1 hq1 => ?_⟩
  have nq1 : x ≠ q1 := ne_of_none x2 hq1
  refine ⟨_, rfl, x, CL, dx, _, rfl, (by rw [upd_ne nq1]; exact x2), U.cl, U.lBudgets, (by show 2 < 1000; decide), ?_⟩
  have f3 : But x H2 (upd (upd H2 q1 (.lst (bs.map V.int))) x (.ins CL dx (putF "budgets" (.ref q1) [("limit", .int lim), ("pause", .int pz)]))) := ((But.refl x H2).same (same_new hq1 _)).upd _
  have x3 : upd (upd H2 q1 (.lst (bs.map V.int))) x (.ins CL dx (putF "budgets" (.ref q1) [("limit", .int lim), ("pause", .int pz)])) x = some (.ins CL dx [("limit", .int lim), ("pause", .int pz), ("budgets", .ref q1)]) := upd_same
  have q13 : upd (upd H2 q1 (.lst (bs.map V.int))) x (.ins CL dx (putF "budgets" (.ref q1) [("limit", .int lim), ("pause", .int pz)])) q1 = some (.lst (bs.map V.int)) := by rw [upd_ne nq1.symm]; exact upd_same
  have g3 : ∀ b, upd (upd H2 q1 (.lst (bs.map V.int))) x (.ins CL dx (putF "budgets" (.ref q1) [("limit", .int lim), ("pause", .int pz)])) b = none → H2 b = none := fun c z => by
    cases e : H2 c with
    | none => rfl
    | some o =>
      by_cases y : c = x
      · rw [y, upd_same] at z; cases z
      · rw [f3 _ _ e y] at z; cases z
  generalize upd (upd H2 q1 (.lst (bs.map V.int))) x (.ins CL dx (putF "budgets" (.ref q1) [("limit", .int lim), ("pause", .int pz)])) = H3 at f3 x3 q13 g3 ⊢
  -- printed
  refine ⟨(by show 1 ≤ sizeLine; decide), fun z0 hz0 => ?_⟩
  have s4 : Same H3 (upd H3 z0 (.lst [.int 0])) := same_new hz0 _
  have z4 : upd H3 z0 (.lst [.int 0]) z0 = some (.lst [.int 0]) := upd_same
  have g4 : ∀ b, upd H3 z0 (.lst [.int 0]) b = none → H3 b = none := fun c z => s4.free z
  generalize upd H3 z0 (.lst [.int 0]) = H4 at s4 z4 g4 ⊢
  refine ⟨_, rfl, b, _, rfl, .inl (SqL.of (s4 _ _ (f3 _ _ (f2 _ _ hb nbx) nbx))), ?_⟩
  refine ⟨z0, _, _, rfl, rfl, z4, by omega, by rw [List.length_map]; omega, by show 1 * _ ≤ sizeLine; rw [List.length_map]; exact Nat.le_of_lt (small1000 (by omega)), fun q2 hq2 => ?_⟩
  have nq2 : x ≠ q2 := ne_of_none (s4 _ _ x3) hq2
  have n12 : q1 ≠ q2 := ne_of_none (s4 _ _ q13) hq2
  have eq2 : (List.replicate ((bs.map V.int).length : Int).toNat [V.int 0]).flatten = (List.replicate bs.length (0 : Int)).map V.int := by
    rw [Int.toNat_natCast, List.length_map]
    exact flat_zero _
  rw [eq2]
  refine ⟨_, rfl, x, CL, dx, _, rfl, (by rw [upd_ne nq2]; exact s4 _ _ x3), U.cl, U.lPrinted, (by show 3 < 1000; decide), ?_⟩
  have f5 : But x H4 (upd (upd H4 q2 (.lst ((List.replicate bs.length (0 : Int)).map V.int))) x (.ins CL dx (putF "printed" (.ref q2) [("limit", .int lim), ("pause", .int pz), ("budgets", .ref q1)]))) := ((But.refl x H4).same (same_new hq2 _)).upd _
  have x5 : upd (upd H4 q2 (.lst ((List.replicate bs.length (0 : Int)).map V.int))) x (.ins CL dx (putF "printed" (.ref q2) [("limit", .int lim), ("pause", .int pz), ("budgets", .ref q1)])) x = some (.ins CL dx [("limit", .int lim), ("pause", .int pz), ("budgets", .ref q1), ("printed", .ref q2)]) := upd_same
  have q25 : upd (upd H4 q2 (.lst ((List.replicate bs.length (0 : Int)).map V.int))) x (.ins CL dx (putF "printed" (.ref q2) [("limit", .int lim), ("pause", .int pz), ("budgets", .ref q1)])) q2 = some (.lst ((List.replicate bs.length (0 : Int)).map V.int)) := by rw [upd_ne nq2.symm]; exact upd_same
  have g5 : ∀ b, upd (upd H4 q2 (.lst ((List.replicate bs.length (0 : Int)).map V.int))) x (.ins CL dx (putF "printed" (.ref q2) [("limit", .int lim), ("pause", .int pz), ("budgets", .ref q1)])) b = none → H4 b = none := fun c z => by
    cases e : H4 c with
    | none => rfl
    | some o =>
      by_cases y : c = x
      · rw [y, upd_same] at z; cases z
      · rw [f5 _ _ e y] at z; cases z
  generalize upd (upd H4 q2 (.lst ((List.replicate bs.length (0 : Int)).map V.int))) x (.ins CL dx (putF "printed" (.ref q2) [("limit", .int lim), ("pause", .int pz), ("budgets", .ref q1)])) = H5 at f5 x5 q25 g5 ⊢
  -- row
  refine ⟨(by show 0 ≤ sizeLine; decide), fun q3 hq3 => ?_⟩
  have nq3 : x ≠ q3 := ne_of_none x5 hq3
  have n23 : q2 ≠ q3 := ne_of_none q25 hq3
  have n13 : q1 ≠ q3 := ne_of_none (f5 _ _ (s4 _ _ q13) nq1.symm) hq3
  refine ⟨_, rfl, x, CL, dx, _, rfl, (by rw [upd_ne nq3]; exact x5), U.cl, U.lRow, (by show 4 < 1000; decide), ?_⟩
  refine ⟨_, rfl, x, CL, dx, _, rfl, upd_same, U.cl, U.lSent, (by show 5 < 1000; decide), ?_⟩
  refine ⟨_, rfl, x, CL, dx, _, rfl, upd_same, U.cl, U.lHot, (by show 6 < 1000; decide), ?_⟩
  refine ⟨_, rfl, x, CL, dx, _, rfl, upd_same, U.cl, U.lResting, (by show 7 < 1000; decide), ?_⟩
  have ne1 : q1 ≠ x := nq1.symm
  have ne2 : q2 ≠ x := nq2.symm
  have ne3 : q3 ≠ x := nq3.symm
  have nB : ∀ c, H5 c = none → B c = none := fun c z => by
    cases e : B c with
    | none => rfl
    | some o =>
      have y : c ≠ x := fun y => by rw [y, hB] at e; cases e
      rw [f5 _ _ (s4 _ _ (f3 _ _ (f2 _ _ (sB _ _ e) y) y)) y] at z
      cases z
  refine k _ ⟨dx, q1, q2, q3, [], upd_same, ?_, ?_, ?_, trivial, List.nodup_nil, n12, n13, n23, fun c hc => ?_, fun c o e => ?_⟩
  · rw [upd_ne ne1, upd_ne ne1, upd_ne ne1, upd_ne ne1, upd_ne n13]
    exact f5 _ _ (s4 _ _ q13) ne1
  · rw [upd_ne ne2, upd_ne ne2, upd_ne ne2, upd_ne ne2, upd_ne n23]
    exact q25
  · rw [upd_ne ne3, upd_ne ne3, upd_ne ne3, upd_ne ne3, upd_same]
    rfl
  · simp only [List.mem_cons, List.not_mem_nil, or_false] at hc
    rcases hc with z | z | z | z
    · rw [z]; exact hB
    · rw [z]
      cases e : B q1 with
      | none => rfl
      | some o =>
        have := f2 _ _ (sB _ _ e) ne1
        rw [hq1] at this
        cases this
    · rw [z]
      cases e : B q2 with
      | none => rfl
      | some o =>
        have := s4 _ _ (f3 _ _ (f2 _ _ (sB _ _ e) ne2) ne2)
        rw [hq2] at this
        cases this
    · rw [z]; exact nB _ hq3
  · have y : c ≠ x := fun y => by rw [y, hB] at e; cases e
    have e5 := f5 _ _ (s4 _ _ (f3 _ _ (f2 _ _ (sB _ _ e) y) y)) y
    rw [upd_ne y, upd_ne y, upd_ne y, upd_ne y, upd_ne (ne_of_none e5 hq3)]
    exact e5
end

/-! ### Lane: print_page, tick, ticks, run -/
theorem eraseIdx_map {α β : Type} (f : α → β) : ∀ (l : List α) (i : Nat), (l.map f).eraseIdx i = (l.eraseIdx i).map f
  | [], _ => rfl
  | _ :: _, 0 => rfl
  | x :: xs, i + 1 => congrArg (f x :: ·) (eraseIdx_map f xs i)
section
variable {P : Program} {w : World} {K : PySem.W.Frag} {mg : Str → Option Value} {base : Heap} {CL CJ : Addr}
theorem scPage : FnScope ["self", "job"] ["self"] (defScope sPage) := ⟨rfl, rfl, rfl, by decide +kernel, rfl, by decide +kernel, by decide +kernel⟩
theorem ok_page {f : Addr} {fd : FuncData} (F : Fun K "print_page" "Lane.print_page" sPage f fd) (T : Free mg) (U : Txt K mg CL CJ) (ML : MCallee P w K mg base CJ 1 "left" ["self"] (spLeft CJ)) : FnOk P w K mg base CX0 2 f fd ["self"] (spPage CL CJ) := by
  refine F.ok scPage (fun vs H Q E h => ?_) (fun cdv A outer s H vs Q E hr h => ?_)
  · obtain ⟨l, B, Pl, j, rest, rfl, _⟩ := h
    rfl
  obtain ⟨l, B, L, j, rest, rfl, ⟨dx, qb, qp, qr, js, X⟩, ej, o0, o1, hfew, k⟩ := h
  refine ⟨_, (pss_cons (ps_set (i := 1) scPage.nd rfl (Or.inl rfl) (pe_ix ix_list (pe_fld (pv 0) rfl) pe_int (fun _ _ => rfl)))
    (pss_cons (ps_fldaug (pv 1) pe_int in_add)
    (pss_cons (ps_augS (pe_fld (pv 0) rfl) (pe_fld (pv 1) rfl) get_list pe_int ip_add set_list)
    (pss_join (ps_if (pt_cmpR op_eq (pe_methC0 (pv 1) U.cj ML (hr.mono (by decide))) pe_int (nomark _))
    (pss_one (ps_expr (pe_bm PySem.F.plainAttrs_list PySem.F.slot_list_pop PySem.F.type_list_pop mt_popAt (pe_fld (pv 0) rfl) (pa_cons pe_int pa_nil))))
    pss_nil)
    (pss_one (ps_ret (pe_tup (pa_cons pe_str (pa_cons (pe_fld (pv 1) rfl) (pa_cons (pe_fld (pv 1) rfl) pa_nil)))))))))), ?_⟩
  try dsimp only [nox_K, cxOf_K]
  have jo := X.jo
  rw [ej] at jo
  cases js with
  | nil => exact jo.elim
  | cons a as =>
  obtain ⟨⟨dj, ha⟩, jo2⟩ := jo
  have hal := X.len
  -- job = self.row[0]
  refine ⟨_, rfl, l, CL, dx, _, _, rfl, X.la, U.cl, U.lRow, lf_row, qr, _, _, _, rfl, rfl, SqL.of X.ro, at0, ?_⟩
  -- job.printed += 1
  refine ⟨_, rfl, a, CJ, dj, _, _, rfl, ha, U.cj, U.jPrinted, jf_printed, _, _, rfl, rfl, dj, _, ha, (by show 4 < 1000; decide), ?_⟩
  have X1 := X.job0 (dy := dj) ej (pj_printed (j := j) (j.k + 1))
  have ha1 : upd H a (.ins CJ dj (putF "printed" (.int (j.k + 1)) (jobF j))) a = some (.ins CJ dj (jobF ⟨j.n, j.o, j.p, j.k + 1⟩)) := upd_same
  generalize upd H a (.ins CJ dj (putF "printed" (.int (j.k + 1)) (jobF j))) = H1 at X1 ha1 ⊢
  -- self.printed[job.owner] += 1
  refine ⟨_, rfl, l, CL, dx, _, _, rfl, X1.la, U.cl, U.lPrinted, lf_printed, _, rfl, a, CJ, dj, _, _, rfl, ha1, U.cj, U.jOwner, jf_owner, qp, _, _, _, rfl, rfl, SqL.of X1.pi, at_int o0 o1, _, _, rfl, rfl, qp, _, _, _, rfl, rfl, X1.pi, ix_int o0 o1, ?_⟩
  have X2 := X1.prn _ (set_int L.pr j.o.toNat (L.pr.getD j.o.toNat 0 + 1))
  have ha2 : upd H1 qp (.lst ((L.pr.map V.int).set j.o.toNat (.int (L.pr.getD j.o.toNat 0 + 1)))) a = some (.ins CJ dj (jobF ⟨j.n, j.o, j.p, j.k + 1⟩)) := by
    rw [upd_ne (X1.jq X1.pi (by simp))]
    exact ha1
  dsimp only at X2 ⊢
  generalize upd H1 qp (.lst ((L.pr.map V.int).set j.o.toNat (.int (L.pr.getD j.o.toNat 0 + 1)))) = H2 at X2 ha2 ⊢
  -- if job.left() == 0
  refine ⟨fun σ H' => σ = [some (.ref l), some (.ref a)] ∧ LaneP CL CJ B H' l (pageP L) ∧ H' a = some (.ins CJ dj (jobF ⟨j.n, j.o, j.p, j.k + 1⟩)), ?_, ?_⟩
  · refine ⟨_, rfl, a, dj, _, rfl, ha2, rfl, a, dj, _, rfl, ha2, rfl, _, rfl, ?_⟩
    refine ite2 (fun c => ?_) (fun c => ?_)
    · have c' : j.p - (j.k + 1) = 0 := by
        have := of_decide_eq_true c
        exact V.int.inj this
      refine ⟨_, rfl, l, CL, dx, _, _, rfl, X2.la, U.cl, U.lRow, lf_row, .inl ⟨rfl, _, SqL.of X2.ro⟩, qr, _, 0, 0, .ref a, rfl, rfl, X2.ro, by decide, by decide, seqIndex_of (by decide) (by rw [List.length_map, List.length_cons]; omega), rfl, rfl, ?_, ?_⟩
      · have nd := List.nodup_cons.mp X2.nd
        have X3 := X2.row as rest rfl X2.jo.2 nd.2 fun x hx => X2.nb x (by simp [hx])
        have e : pageP L = { L with pr := L.pr.set j.o.toNat (L.pr.getD j.o.toNat 0 + 1), jobs := rest } := by
          unfold pageP
          rw [ej]
          dsimp only
          rw [if_pos c']
        rw [e]
        exact X3.p
      · rw [upd_ne (X2.jq X2.ro (by simp))]
        exact ha2
    · have c' : ¬ j.p - (j.k + 1) = 0 := fun z => c (decide_eq_true (congrArg V.int z))
      have e : pageP L = { L with pr := L.pr.set j.o.toNat (L.pr.getD j.o.toNat 0 + 1), jobs := ⟨j.n, j.o, j.p, j.k + 1⟩ :: rest } := by
        unfold pageP
        rw [ej]
        dsimp only
        rw [if_neg c']
      refine ⟨rfl, ?_, ha2⟩
      rw [e]
      exact X2.p
  · rintro σ H3 ⟨rfl, X3, ha3⟩
    refine ⟨_, rfl, a, CJ, dj, _, _, rfl, ha3, U.cj, U.jNumber, jf_number, _, rfl, a, CJ, dj, _, _, rfl, ha3, U.cj, U.jPrinted, jf_printed, (by show 3 ≤ sizeLine; decide), fun p hp => ?_⟩
    obtain ⟨dx', qb', qp', qr', js', X4⟩ := X3
    exact k p _ (X4.same (same_new hp _)).p upd_same
theorem tickV_eq (L : Pl) : tickV L.limit L.pause L.hot L.resting (!L.jobs.isEmpty) = [.str (tickW (toLn L)), .int (heat L).1, .int (heat L).2] := by
  unfold tickV heat tickW
  show _ = [V.str (if 0 < L.resting then _ else if L.jobs.map rowOf = [] then _ else _), _, _]
  by_cases c : 0 < L.resting
  · simp only [if_pos c]
    by_cases d : 1 < L.resting
    · simp only [if_pos d]
    · simp only [if_neg d]
  · simp only [if_neg c]
    cases e : L.jobs with
    | nil => rfl
    | cons j js =>
      have e1 : (!(j :: js).isEmpty) = true := rfl
      have e2 : ¬ ((j :: js).isEmpty = true) := by simp
      have e3 : ¬ ((j :: js).map rowOf = []) := by simp
      simp only [if_pos e1, if_neg e2, if_neg e3]
      by_cases d : L.hot + 1 < L.limit
      · simp only [if_pos d]
      · simp only [if_neg d]
        by_cases b : 0 < L.pause
        · simp only [if_pos b]
        · simp only [if_neg b]
theorem scTickM : FnScope ["self", "behind"] ["self"] (defScope sTickM) := ⟨rfl, rfl, rfl, by decide +kernel, rfl, by decide +kernel, by decide +kernel⟩
theorem ok_tickM {f : Addr} {fd : FuncData} (F : Fun K "tick" "Lane.tick" sTickM f fd) (T : Free mg) (U : Txt K mg CL CJ) (CTk : Callee P w K mg base 2 "ticked" ["limit", "pause", "hot", "resting", "waiting"] spTick) (MP : MCallee P w K mg base CL 2 "print_page" ["self"] (spPage CL CJ)) :
    FnOk P w K mg base CX0 3 f fd ["self"] (spTickM CL CJ) := by
  refine F.ok scTickM (fun vs H Q E h => ?_) (fun cdv A outer s H vs Q E hr h => ?_)
  · obtain ⟨l, B, L, rfl, _⟩ := h
    rfl
  obtain ⟨l, B, L, rfl, ⟨dx, qb, qp, qr, js, X⟩, ok, hfew, k⟩ := h
  refine ⟨_, (pss_cons (ps_set (i := 1) scTickM.nd rfl (Or.inl rfl) (pe_callC CTk (hr.mono (by decide)) (by rfl) (pa_cons (pe_fld (pv 0) rfl) (pa_cons (pe_fld (pv 0) rfl) (pa_cons (pe_fld (pv 0) rfl) (pa_cons (pe_fld (pv 0) rfl) (pa_cons (pe_cmpR op_gt (pe_callB call_len_seq (by rfl) T.len PySem.boot_len (pa_cons (pe_fld (pv 0) rfl) pa_nil)) pe_int (nomark _)) pa_nil)))))))
    (pss_cons (ps_fld (pv 0) (pe_ix ix_tup (pv 1) pe_int (fun _ _ => rfl)) rfl)
    (pss_cons (ps_fld (pv 0) (pe_ix ix_tup (pv 1) pe_int (fun _ _ => rfl)) rfl)
    (pss_cons (ps_if (pt_cmpR op_eq (pe_ix ix_tup (pv 1) pe_int (fun _ _ => rfl)) pe_str (nomark _))
    (pss_one (ps_ret (pe_methC0 (pv 0) U.cl MP (hr.mono (by decide)))))
    pss_nil)
    (pss_one (ps_ret (pe_tup (pa_cons (pe_ix ix_tup (pv 1) pe_int (fun _ _ => rfl)) pa_nil)))))))), ?_⟩
  try dsimp only [nox_K, cxOf_K]
  refine ⟨_, rfl, l, CL, dx, _, _, rfl, X.la, U.cl, U.lLimit, lf_limit, _, rfl, l, CL, dx, _, _, rfl, X.la, U.cl, U.lPause, lf_pause, _, rfl, l, CL, dx, _, _, rfl, X.la, U.cl, U.lHot, lf_hot, _, rfl, l, CL, dx, _, _, rfl, X.la, U.cl, U.lResting, lf_resting, ?_⟩
  refine ⟨_, rfl, l, CL, dx, _, _, rfl, X.la, U.cl, U.lRow, lf_row, qr, _, rfl, .inl (SqL.of X.ro), _, _, rfl, rfl, ?_⟩
  have ewt : decide ((0 : Int) < ((js.map V.ref).length : Int)) = !L.jobs.isEmpty := by
    have := X.len
    rw [List.length_map, this]
    cases L.jobs with
    | nil => rfl
    | cons j js => exact decide_eq_true (by rw [List.length_cons]; omega)
  refine ⟨_, _, _, _, _, rfl, fun p H1 s1 hp => ?_⟩
  rw [show (decide (((js.map V.ref).length : Int) > 0)) = !L.jobs.isEmpty from ewt, tickV_eq] at hp
  have X1 := X.same s1
  -- self.hot = behind[1]
  refine ⟨_, rfl, p, _, _, _, rfl, rfl, SqT.of hp, rfl, _, rfl, l, CL, dx, _, rfl, X1.la, U.cl, U.lHot, (by show 8 < 1000; decide), ?_⟩
  have X2 := X1.fld L.sent (heat L).1 L.resting (pf_hot (P := L) (qb := qb) (qp := qp) (qr := qr) (heat L).1)
  have p2 : upd H1 l (.ins CL dx (putF "hot" (.int (heat L).1) (laneF L qb qp qr))) p = _ := (upd_ne (ne_of hp X1.la (by intro z; cases z))).trans hp
  generalize upd H1 l (.ins CL dx (putF "hot" (.int (heat L).1) (laneF L qb qp qr))) = H2 at X2 p2 ⊢
  -- self.resting = behind[2]
  refine ⟨_, rfl, p, _, _, _, rfl, rfl, SqT.of p2, rfl, _, rfl, l, CL, dx, _, rfl, X2.la, U.cl, U.lResting, (by show 8 < 1000; decide), ?_⟩
  have X3 := X2.fld L.sent (heat L).1 (heat L).2 (pf_resting (P := { L with sent := L.sent, hot := (heat L).1, resting := L.resting }) (qb := qb) (qp := qp) (qr := qr) (heat L).2)
  have p3 : upd H2 l (.ins CL dx (putF "resting" (.int (heat L).2) (laneF { L with sent := L.sent, hot := (heat L).1, resting := L.resting } qb qp qr))) p = _ := (upd_ne (ne_of p2 X2.la (by intro z; cases z))).trans p2
  generalize upd H2 l (.ins CL dx (putF "resting" (.int (heat L).2) (laneF { L with sent := L.sent, hot := (heat L).1, resting := L.resting } qb qp qr))) = H3 at X3 p3 ⊢
  have X3' : LaneX CL CJ B H3 l dx qb qp qr js (heated L) := X3
  -- if behind[0] == 'page'
  refine ⟨_, rfl, p, _, _, _, rfl, rfl, SqT.of p3, rfl, rfl, _, rfl, ?_⟩
  by_cases c : 0 < L.resting
  · have ew : tickW (toLn L) = "rest" := by
      unfold tickW
      exact if_pos c
    refine iteB false (by rw [ew]; decide +kernel) (iteF ?_)
    refine ⟨_, rfl, p, _, _, _, rfl, rfl, SqT.of p3, rfl, (by show 1 ≤ sizeLine; decide), fun q hq => ?_⟩
    refine k q _ ?_ ?_
    · have e : tickP L = heated L := by unfold tickP; exact if_pos c
      rw [e]
      exact (X3'.same (same_new hq _)).p
    · have e : tickT L = [.str "rest"] := by unfold tickT; exact if_pos c
      rw [e, ew]
      exact upd_same
  · have e1 : tickP L = pageP (heated L) := by unfold tickP; exact if_neg c
    cases ej : L.jobs with
    | nil =>
      have ew : tickW (toLn L) = "idle" := by
        unfold tickW
        rw [if_neg (show ¬ 0 < (toLn L).resting from c)]
        exact if_pos (by show L.jobs.map rowOf = []; rw [ej]; rfl)
      refine iteB false (by rw [ew]; decide +kernel) (iteF ?_)
      refine ⟨_, rfl, p, _, _, _, rfl, rfl, SqT.of p3, rfl, (by show 1 ≤ sizeLine; decide), fun q hq => ?_⟩
      refine k q _ ?_ ?_
      · have e2 : pageP (heated L) = heated L := by
          unfold pageP
          rw [show (heated L).jobs = [] from ej]
        rw [e1, e2]
        exact (X3'.same (same_new hq _)).p
      · have e : tickT L = [.str "idle"] := by unfold tickT; rw [if_neg c, ej]
        rw [e, ew]
        exact upd_same
    | cons j rest =>
      have ew : tickW (toLn L) = "page" := by
        unfold tickW
        rw [if_neg (show ¬ 0 < (toLn L).resting from c)]
        exact if_neg (by show ¬ L.jobs.map rowOf = []; rw [ej]; simp)
      have how := ok.own j (by rw [ej]; simp)
      refine iteB true (by rw [ew]; decide +kernel) (iteT ?_)
      refine ⟨_, rfl, l, dx, _, rfl, X3'.la, rfl, l, B, heated L, j, rest, rfl, X3'.p, ej, how.1, by show j.o < (L.pr.length : Int); rw [ok.prl]; exact how.2, hfew, fun q H4 X4 hq => ?_⟩
      refine k q H4 ?_ ?_
      · rw [e1]
        exact X4
      · have e : tickT L = [.str "page", .int j.n, .int (j.k + 1)] := by unfold tickT; rw [if_neg c, ej]
        rw [e]
        exact hq
theorem scTicks : FnScope ["self", "many", "told"] ["self", "many"] (defScope sTicks) := ⟨rfl, rfl, rfl, by decide +kernel, rfl, by decide +kernel, by decide +kernel⟩
inductive InvTs (CL CJ : Addr) (B : Hp) (l t : Addr) (m : Int) (L : Pl) (n : Nat) (σ : List (Option V)) (H2 : Hp) : Prop
  | mk (i : Nat) (B' : Hp) (ps : List Addr) (hi : i ≤ m.toNat) (en : n = m.toNat - i) (e : σ = [some (.ref l), some (.int m), some (.ref t)]) (sB : Same B B') (hL : LaneP CL CJ B' H2 l (runP i L)) (hB : B' t = some (.lst (ps.map V.ref))) (hT : TicksAt B' ps (runT i L))
theorem ok_ticks {f : Addr} {fd : FuncData} (F : Fun K "ticks" "Lane.ticks" sTicks f fd) (T : Free mg) (U : Txt K mg CL CJ) (MT : MCallee P w K mg base CL 3 "tick" ["self"] (spTickM CL CJ)) : FnOk P w K mg base CX0 4 f fd ["self", "many"] (spTicks CL CJ) := by
  refine F.ok scTicks (fun vs H Q E h => ?_) (fun cdv A outer s H vs Q E hr h => ?_)
  · obtain ⟨l, B, L, m, rfl, _⟩ := h
    rfl
  obtain ⟨l, B, L, m, rfl, ⟨dx, qb, qp, qr, js, X⟩, ok, hfew, m0, m1, k⟩ := h
  refine ⟨_, (pss_cons (ps_set (i := 2) scTicks.nd rfl (Or.inl rfl) (pe_lst pa_nil))
    (pss_cons (ps_while PassesOwn.never (pt_cmpR op_lt (pe_callB call_len_seq (by rfl) T.len PySem.boot_len (pa_cons (pv 2) pa_nil)) (pv 1) (nomark _))
    (pss_one (ps_expr (pe_bm PySem.F.plainAttrs_list PySem.F.slot_list_append PySem.F.type_list_append mt_append (pv 2) (pa_cons (pe_methC0 (pv 0) U.cl MT (hr.mono (by decide))) pa_nil)))))
    (pss_one (ps_ret (pv 2))))), ?_⟩
  try dsimp only [nox_K, cxOf_K]
  refine ⟨(by show 0 ≤ sizeLine; decide), fun t ht => ?_⟩
  have em : m = ((m.toNat : Nat) : Int) := by omega
  refine ⟨InvTs CL CJ B l t m L, ⟨m.toNat, 0, _, [], Nat.zero_le _, rfl, rfl, ?_, (X.new ht).p, upd_same, trivial⟩, ?_⟩
  · exact same_new (X.sa.free ht) _
  rintro n σ H2 ⟨i, B', ps, hi, rfl, rfl, sB, hL, hB, hT⟩
  have hps := hT.len
  rw [runT_len] at hps
  obtain ⟨dx2, qb2, qp2, qr2, js2, X2⟩ := hL
  have t2 := X2.sa _ _ hB
  refine ⟨_, rfl, t, _, rfl, .inl (SqL.of t2), _, rfl, _, _, rfl, rfl, _, rfl, ?_⟩
  dsimp only
  rw [List.length_map, hps]
  refine ite2 (fun c => ?_) (fun c => ?_)
  · have c' : ((i : Nat) : Int) < m := of_decide_eq_true c
    obtain ⟨B3, X3, s3, tt3, _⟩ := X2.max
    refine ⟨_, fun σ' H' z => z, ?_⟩
    refine ⟨_, rfl, .inl ⟨rfl, _, SqL.of t2⟩, _, rfl, l, dx2, _, rfl, X3.la, rfl, l, B3, runP i L, rfl, X3.p, (run_sim i ok).2.1, Nat.le_trans (pl_few_run i) hfew, fun p H3 hL3 hp => ?_⟩
    obtain ⟨dx4, qb4, qp4, qr4, js4, X4⟩ := hL3
    have t4 := X4.sa _ _ (s3 _ _ hB)
    refine ⟨t, _, _, rfl, rfl, t4, small1000 (by rw [List.length_map]; omega), ?_⟩
    obtain ⟨B5, X5, s5, tt5, _⟩ := X4.max
    have b5 := s5 _ _ (s3 _ _ hB)
    have X6 := X5.put (o' := .lst (ps.map V.ref ++ [.ref p])) b5
    refine ⟨m.toNat - (i + 1), by omega, i + 1, _, ps ++ [p], by omega, rfl, rfl, fun b o e => ?_, by rw [runP_succ]; exact X6.p, by rw [upd_same, List.map_append]; rfl, ?_⟩
    · by_cases z : b = t
      · rw [z, X.sa.free ht] at e
        cases e
      · rw [upd_ne z]
        exact s5 _ _ (s3 _ _ (sB _ _ e))
    · rw [runT_succ]
      refine TicksAt.snoc ?_ (hT.mono fun b xs e => ?_)
      · rw [upd_ne (ne_of hp t4 (by intro z; cases z))]
        exact tt5 _ _ hp
      · rw [upd_ne (ne_of e hB (by intro z; cases z))]
        exact s5 _ _ (s3 _ _ e)
  · have c' : ¬ ((i : Nat) : Int) < m := of_decide_eq_false (Bool.eq_false_iff.mpr c)
    have e : i = m.toNat := by omega
    subst e
    exact ⟨_, rfl, k t ps B' H2 sB X2.p hB hT⟩
theorem isPage_str (x : Str) (r : List V) : isPage (.str x :: r) = decide (V.str x = V.str "page") := by
  unfold isPage
  show (some (V.str x) == some (V.str "page")) = _
  by_cases e : V.str x = V.str "page"
  · rw [e, decide_eq_true rfl]
    simp
  · rw [decide_eq_false e]
    simp only [beq_eq_false_iff_ne]
    intro z
    exact e (Option.some.inj z)
theorem tickT_head (L : Pl) : ∃ x r, tickT L = V.str x :: r := by
  unfold tickT
  split
  · exact ⟨_, _, rfl⟩
  · split
    · exact ⟨_, _, rfl⟩
    · exact ⟨_, _, rfl⟩
theorem runT_head : ∀ {n : Nat} {L : Pl} {i : Nat} {t : List V}, (runT n L)[i]? = some t → ∃ x r, t = V.str x :: r
  | 0, _, _, _, e => by simp [runT] at e
  | n + 1, L, 0, t, e => by
    have e' : tickT L = t := by simpa [runT] using e
    rw [← e']
    exact tickT_head L
  | n + 1, L, i + 1, t, e => runT_head (n := n) (L := tickP L) (i := i) (by simpa [runT] using e)
theorem scRun : FnScope ["self", "many"] ["self", "many"] (defScope sRun) := ⟨rfl, rfl, rfl, by decide +kernel, rfl, by decide +kernel, by decide +kernel⟩
theorem ok_run {f : Addr} {fd : FuncData} (F : Fun K "run" "Lane.run" sRun f fd) (T : Free mg) (U : Txt K mg CL CJ) (MTs : MCallee P w K mg base CL 4 "ticks" ["self", "many"] (spTicks CL CJ)) : FnOk P w K mg base CX0 5 f fd ["self", "many"] (spRun CL CJ) := by
  refine F.ok scRun (fun vs H Q E h => ?_) (fun cdv A outer s H vs Q E hr h => ?_)
  · obtain ⟨l, B, L, m, rfl, _⟩ := h
    rfl
  obtain ⟨l, B, L, m, rfl, ⟨dx, qb, qp, qr, js, X⟩, ok, hfew, m0, m1, k⟩ := h
  refine ⟨_, (pss_one (ps_ret (pe_callB call_len_seq (by rfl) T.len PySem.boot_len (pa_cons (pe_comp (x := "tick") (caps := []) rfl ⟨by rfl, rfl, by decide +kernel, by decide +kernel, by rfl, (by intro p hp; cases hp), (by show ∀ y ∈ Scope.names _, y.2 = NameKind.free → ([] : List Str).contains y.1 = true; decide +kernel), (by intro p hp; cases hp)⟩ (by decide +kernel) (pi_list (pe_methC (pv 0) U.cl MTs (hr.mono (by decide)) (pa_cons (pv 1) pa_nil))) (fun C s H fp => (pts_one (pt_cmpR op_eq (pe_ix (ix_tupK (K := K)) (pv 0) pe_int (fun _ _ => rfl)) pe_str (nomark _)))) (fun C s H fp => (pv 0))) pa_nil)))), ?_⟩
  try dsimp only [nox_K, cxOf_K]
  refine ⟨_, rfl, l, dx, _, rfl, X.la, rfl, _, rfl, l, B, L, m, rfl, X.p, ok, hfew, m0, m1, fun t ps B1 H1 sB hL hB hT => ?_⟩
  obtain ⟨dx1, qb1, qp1, qr1, js1, X1⟩ := hL
  have t1 := X1.sa _ _ hB
  have hpl := hT.len
  rw [runT_len] at hpl
  have hT1 : TicksAt H1 ps (runT m.toNat L) := hT.mono fun b xs e => X1.sa _ _ e
  refine ⟨t, rfl, ⟨_, SqL.of t1⟩, fun b hb => ?_⟩
  refine comp_list (K := K) (a := t) (ys := ps.map V.ref) (tc := tTest (tOp rEq (tOp (rIxT K) (tVar 0) (tC (.int 0))) (tC (.str "page")))) (te := tVar 0) (cs := [])
    (fun i xs H3 => Same H1 H3 ∧ H3 b = some (.lst xs) ∧ xs.length = ((runT m.toNat L).take i).countP isPage ∧ xs.length ≤ i)
    ⟨same_new hb _, upd_same, rfl, Nat.le_refl _⟩ (fun i xs H3 ⟨s, h, _⟩ => ⟨h, SqL.of (s _ _ t1)⟩) ?_
    (m_test (m_op m_eq (m_op m_ixT m_var m_c) m_c))
    m_var ?_
  · rintro i y xs H3 hi ⟨s3, b3, hc, hx⟩
    obtain ⟨pp, hpp, rfl⟩ := map_ref_get hi
    obtain ⟨tk, r1, r2, r4⟩ := hT1.get hpp
    have hil : i < ps.length := (List.getElem?_eq_some_iff.mp hpp).1
    obtain ⟨x, r, rfl⟩ := runT_head r1
    refine ⟨_, rfl, pp, _, _, _, rfl, rfl, SqT.of (s3 _ _ r2), at0, rfl, _, rfl, ?_⟩
    refine ite2 (fun c => ?_) (fun c => ?_)
    · have c' : isPage (V.str x :: r) = true := by rw [isPage_str]; exact c
      refine ⟨_, rfl, b3, small1000 (by omega), same_upd s3 hb _, upd_same, ?_, by rw [List.length_append]; show xs.length + 1 ≤ i + 1; omega⟩
      rw [r4, List.countP_append, List.length_append, hc]
      simp [c']
    · have c' : ¬ isPage (V.str x :: r) = true := by rw [isPage_str]; exact c
      refine ⟨s3, b3, ?_, by omega⟩
      rw [r4, List.countP_append, hc]
      simp [c']
  · rintro xs H3 ⟨s3, b3, hc, hx⟩
    refine ⟨b, xs, rfl, .inl (SqL.of b3), ?_⟩
    have e : (xs.length : Int) = ((runT m.toNat L).countP isPage : Nat) := by
      rw [hc, List.length_map, hpl]
      rw [List.take_of_length_le (by rw [runT_len]; exact Nat.le_refl _)]
    rw [e]
    exact k H3 ((X1.same s3).weak sB).p
end

/-! ### Lane: check_owner, place, send, stop, grant; day: done, answered -/
inductive spCheckI (CL CJ c1 : Addr) (vs : List V) (H : Hp) (Q : VK) (E : XK) : Prop
  | mk (l : Addr) (B : Hp) (L : Pl) (o : Int) (z0 : vs = [.ref l, .int o]) (z1 : LaneP CL CJ B H l L) (z2 : (o < 0 ∨ (L.purse.length : Int) ≤ o → E (.ref c1) none H)) (z3 : (¬ (o < 0 ∨ (L.purse.length : Int) ≤ o) → Q .non H))
def spCheck (CL CJ c1 : Addr) : Sp := fun vs H Q E => spCheckI CL CJ c1 vs H Q E
inductive spPlaceI (CL CJ c4 : Addr) (vs : List V) (H : Hp) (Q : VK) (E : XK) : Prop
  | mk (l : Addr) (B : Hp) (L : Pl) (n : Int) (z0 : vs = [.ref l, .int n]) (z1 : LaneP CL CJ B H l L) (z2 : L.jobs.length ≤ 900) (z3 : (∀ y H', placeJ n L.jobs = some y → Same H H' → Q (.int (y.1 : Nat)) H')) (z4 : (∀ H', placeJ n L.jobs = none → Same H H' → E (.ref c4) none H'))
def spPlace (CL CJ c4 : Addr) : Sp := fun vs H Q E => spPlaceI CL CJ c4 vs H Q E
inductive spSendI (CL CJ c1 c2 c3 : Addr) (vs : List V) (H : Hp) (Q : VK) (E : XK) : Prop
  | mk (l : Addr) (B : Hp) (L : Pl) (o p : Int) (z0 : vs = [.ref l, .int o, .int p]) (z1 : LaneP CL CJ B H l L) (z2 : L.jobs.length ≤ 900) (z3 : (∀ H', LaneP CL CJ B H' l L → o < 0 ∨ (L.purse.length : Int) ≤ o → E (.ref c1) none H')) (z4 : (∀ H', LaneP CL CJ B H' l L → ¬ (o < 0 ∨ (L.purse.length : Int) ≤ o) → p < 1 → E (.ref c2) none H')) (z5 : (∀ H', LaneP CL CJ B H' l L → ¬ (o < 0 ∨ (L.purse.length : Int) ≤ o) → ¬ p < 1 → L.purse.getD o.toNat 0 < p → E (.ref c3) none H')) (z6 : (∀ H', LaneP CL CJ B H' l (sendP L o p) → ¬ (o < 0 ∨ (L.purse.length : Int) ≤ o) → ¬ p < 1 → ¬ L.purse.getD o.toNat 0 < p → Q (.int L.sent) H'))
def spSend (CL CJ c1 c2 c3 : Addr) : Sp := fun vs H Q E => spSendI CL CJ c1 c2 c3 vs H Q E
inductive spStopI (CL CJ c4 : Addr) (vs : List V) (H : Hp) (Q : VK) (E : XK) : Prop
  | mk (l : Addr) (B : Hp) (L : Pl) (n : Int) (z0 : vs = [.ref l, .int n]) (z1 : LaneP CL CJ B H l L) (z2 : L.jobs.length ≤ 900) (z3 : POk L) (z4 : (∀ y H', placeJ n L.jobs = some y → LaneP CL CJ B H' l (stopP L y.1 y.2) → Q (.int (y.2.p - y.2.k)) H')) (z5 : (∀ H', placeJ n L.jobs = none → LaneP CL CJ B H' l L → E (.ref c4) none H'))
def spStop (CL CJ c4 : Addr) : Sp := fun vs H Q E => spStopI CL CJ c4 vs H Q E
inductive spGrantI (CL CJ c1 : Addr) (vs : List V) (H : Hp) (Q : VK) (E : XK) : Prop
  | mk (l : Addr) (B : Hp) (L : Pl) (o m : Int) (z0 : vs = [.ref l, .int o, .int m]) (z1 : LaneP CL CJ B H l L) (z2 : (∀ H', LaneP CL CJ B H' l L → o < 0 ∨ (L.purse.length : Int) ≤ o → E (.ref c1) none H')) (z3 : (∀ H', LaneP CL CJ B H' l (grantP L o m) → ¬ (o < 0 ∨ (L.purse.length : Int) ≤ o) → Q .non H'))
def spGrant (CL CJ c1 : Addr) : Sp := fun vs H Q E => spGrantI CL CJ c1 vs H Q E
/-- the class of a refusal -/
def excOf (c1 c2 c3 c4 : Addr) (x : Str) : Addr := if x = "no owner" then c1 else if x = "no pages" then c2 else if x = "broke" then c3 else c4
inductive spDoneI (CL CJ c1 c2 c3 c4 : Addr) (vs : List V) (H : Hp) (Q : VK) (E : XK) : Prop
  | mk (l d : Addr) (B : Hp) (L : Pl) (dd : Deed) (z0 : vs = [.ref l, .ref d]) (z1 : LaneP CL CJ B H l L) (z2 : H d = some (.tup dd.vals)) (z3 : dd.ok) (z4 : L.jobs.length ≤ 900) (z5 : POk L) (z6 : (∀ H', LaneP CL CJ B H' l (stepP L dd) → refusal L.purse (L.jobs.map rowOf) dd = "done" → Q (ansV (toLn L) dd) H')) (z7 : (∀ H', LaneP CL CJ B H' l L → refusal L.purse (L.jobs.map rowOf) dd = "no owner" → E (.ref c1) none H')) (z8 : (∀ H', LaneP CL CJ B H' l L → refusal L.purse (L.jobs.map rowOf) dd = "no pages" → E (.ref c2) none H')) (z9 : (∀ H', LaneP CL CJ B H' l L → refusal L.purse (L.jobs.map rowOf) dd = "broke" → E (.ref c3) none H')) (z10 : (∀ H', LaneP CL CJ B H' l L → refusal L.purse (L.jobs.map rowOf) dd = "no job" → E (.ref c4) none H'))
def spDone (CL CJ c1 c2 c3 c4 : Addr) : Sp := fun vs H Q E => spDoneI CL CJ c1 c2 c3 c4 vs H Q E
inductive spPAnsweredI (CL CJ : Addr) (vs : List V) (H : Hp) (Q : VK) : Prop
  | mk (l d : Addr) (B : Hp) (L : Pl) (dd : Deed) (z0 : vs = [.ref l, .ref d]) (z1 : LaneP CL CJ B H l L) (z2 : H d = some (.tup dd.vals)) (z3 : dd.ok) (z4 : L.jobs.length ≤ 900) (z5 : POk L) (z6 : ∀ H', LaneP CL CJ B H' l (stepP L dd) → Q (ansV (toLn L) dd) H')
def spPAnswered (CL CJ : Addr) : Sp := fun vs H Q _ => spPAnsweredI CL CJ vs H Q
section
variable {P : Program} {w : World} {K : PySem.W.Frag} {mg : Str → Option Value} {base : Heap} {CL CJ c1 c2 c3 c4 : Addr}
theorem scCheck : FnScope ["self", "owner"] ["self", "owner"] (defScope sCheck) := ⟨rfl, rfl, rfl, by decide +kernel, rfl, by decide +kernel, by decide +kernel⟩
theorem ok_check {f : Addr} {fd : FuncData} (F : Fun K "check_owner" "Lane.check_owner" sCheck f fd) (T : Free mg) (U : Txt K mg CL CJ) (Z : Exc K mg c1 c2 c3 c4) : FnOk P w K mg base (CXE P w) 1 f fd ["self", "owner"] (spCheck CL CJ c1) := by
  refine fun_okX F scCheck (fun vs H Q E h => ?_) (fun cdv A outer s H vs Q E hr h => ?_)
  · obtain ⟨l, B, L, o, rfl, _⟩ := h
    rfl
  obtain ⟨l, B, L, o, rfl, ⟨dx, qb, qp, qr, js, X⟩, k1, k2⟩ := h
  have hll : (L.purse.map V.int).length = L.purse.length := List.length_map _
  refine ⟨_, pssx_one (psx_if (PW.pt (pw_or (pt_cmpR op_lt (pv 1) pe_int (nomark _)) (pw_or1 (pt_cmpR op_ge (pv 1) (pe_callB call_len_seq (by rfl) T.len PySem.boot_len (pa_cons (pe_fld (pv 0) rfl) pa_nil)) (nomark _)))))
    (pssx_one (psx_raise1 ⟨rfl, rfl, rfl⟩ rfl (by rfl) Z.m1 Z.e1 pe_str)) pssx_nil), ?_⟩
  try dsimp only [nox_K, cxOf_K]
  refine ⟨_, rfl, _, _, rfl, rfl, _, rfl, ?_⟩
  refine ite2 (fun c => ?_) (fun c => ?_)
  · have c' : o < 0 := of_decide_eq_true c
    refine iteT ?_
    exact k1 (Or.inl c')
  · have c' : ¬ o < 0 := of_decide_eq_false (Bool.eq_false_iff.mpr c)
    refine ⟨_, rfl, _, rfl, l, CL, dx, _, _, rfl, X.la, U.cl, U.lBudgets, lf_budgets, qb, _, rfl, .inl (SqL.of X.bu), _, _, rfl, rfl, _, rfl, ?_⟩
    refine ite2 (fun d => ?_) (fun d => ?_)
    · have d' : (((L.purse.map V.int).length : Nat) : Int) ≤ o := of_decide_eq_true d
      rw [hll] at d'
      exact k1 (Or.inr d')
    · have d' : ¬ (((L.purse.map V.int).length : Nat) : Int) ≤ o := of_decide_eq_false (Bool.eq_false_iff.mpr d)
      rw [hll] at d'
      exact k2 fun z => z.elim c' d'
theorem drop_get {α : Type} : ∀ {l : List α} {i : Nat} {x : α}, l[i]? = some x → l.drop i = x :: l.drop (i + 1)
  | [], _, _, e => by simp at e
  | y :: ys, 0, x, e => by
    have : y = x := by simpa using e
    rw [this]
    rfl
  | y :: ys, i + 1, x, e => drop_get (l := ys) (i := i) (by simpa using e)
theorem placeJ_cons (n : Int) (x : Jb) (xs : List Jb) : placeJ n (x :: xs) = if x.n = n then some (0, x) else (placeJ n xs).map fun y => (y.1 + 1, y.2) := rfl
theorem scPlace : FnScope ["self", "number", "spot", "job"] ["self", "number"] (defScope sPlace) := ⟨rfl, rfl, rfl, by decide +kernel, rfl, by decide +kernel, by decide +kernel⟩
inductive InvPl (H : Hp) (l : Addr) (n : Int) (L : Pl) (i : Nat) (σ : List (Option V)) (H2 : Hp) : Prop
  | mk (o1 o2 : Option V) (z0 : σ = [some (.ref l), some (.int n), o1, o2]) (z1 : Same H H2) (z2 : placeJ n L.jobs = (placeJ n (L.jobs.drop i)).map fun y => (y.1 + i, y.2))
theorem ok_place {f : Addr} {fd : FuncData} (F : Fun K "place" "Lane.place" sPlace f fd) (T : Free mg) (U : Txt K mg CL CJ) (Z : Exc K mg c1 c2 c3 c4) : FnOk P w K mg base (CXE P w) 1 f fd ["self", "number"] (spPlace CL CJ c4) := by
  refine fun_okX F scPlace (fun vs H Q E h => ?_) (fun cdv A outer s H vs Q E hr h => ?_)
  · obtain ⟨l, B, L, n, rfl, _⟩ := h
    rfl
  obtain ⟨l, B, L, n, rfl, ⟨dx, qb, qp, qr, js, X⟩, hfew, k1, k2⟩ := h
  refine ⟨_, pssx_cons (psx_of (ps_for PassesOwn.never rfl (pi_enum (by rfl) T.enumerate (pe_fld (pv 0) rfl)) (pg_tup rfl (pgs_cons (pg_name (i := 2) scPlace.nd rfl (Or.inl rfl)) (pgs_cons (pg_name (i := 3) scPlace.nd rfl (Or.inl rfl)) pgs_nil)))
      (pss_one (ps_if (pt_cmpR op_eq (pe_fld (pv 3) rfl) (pv 1) (nomark _)) (pss_one (ps_ret (pv 2))) pss_nil))))
    (pssx_one (psx_raise1 ⟨rfl, rfl, rfl⟩ rfl (by rfl) Z.m4 Z.e4 pe_str)), ?_⟩
  try dsimp only [nox_K, cxOf_K]
  refine ⟨_, rfl, l, CL, dx, _, _, rfl, X.la, U.cl, U.lRow, lf_row, qr, rfl, ⟨_, SqL.of X.ro⟩, for_enum (K := K) (a := qr) (xs := js.map V.ref) (InvPl H l n L)
    ⟨none, none, rfl, Same.refl H, ?_⟩ (fun i σ H2 _ z => by obtain ⟨_, _, _, s2, _⟩ := z; exact SqL.of (s2 _ _ X.ro)) ?_ ?_⟩
  · rw [List.drop_zero]
    cases placeJ n L.jobs <;> rfl
  · rintro i y σ H2 p hi ⟨o1, o2, rfl, s2, e⟩ hp
    obtain ⟨a, ha, rfl⟩ := map_ref_get hi
    obtain ⟨dj, j, hj, ej⟩ := X.jo.get ha
    have s3 : Same H (upd H2 p (.tup [.int i, .ref a])) := same_upd s2 (s2.free hp) _
    refine ⟨p, _, rfl, SqT.of upd_same, rfl, _, _, rfl, _, _, rfl, rfl, ?_⟩
    refine ⟨_, rfl, a, CJ, dj, _, _, rfl, s3 _ _ hj, U.cj, U.jNumber, jf_number, _, rfl, rfl, _, rfl, ?_⟩
    rw [drop_get ej, placeJ_cons] at e
    refine ite2 (fun c => ?_) (fun c => ?_)
    · have c' : j.n = n := V.int.inj (of_decide_eq_true c)
      rw [if_pos c'] at e
      have e' : placeJ n L.jobs = some (i, j) := by rw [e]; show some (0 + i, j) = _; rw [Nat.zero_add]
      exact ⟨_, rfl, k1 _ _ e' s3⟩
    · have c' : ¬ j.n = n := fun z => c (decide_eq_true (congrArg V.int z))
      rw [if_neg c'] at e
      refine ⟨_, _, rfl, s3, ?_⟩
      rw [e]
      cases placeJ n (L.jobs.drop (i + 1)) with
      | none => rfl
      | some y =>
        show some (y.1 + 1 + i, y.2) = some (y.1 + (i + 1), y.2)
        rw [Nat.add_assoc, Nat.add_comm 1 i]
  · rintro σ H2 ⟨o1, o2, rfl, s2, e⟩
    rw [List.length_map, X.len, List.drop_length] at e
    exact k2 _ e s2
theorem scSend : FnScope ["self", "owner", "pages", "job"] ["self", "owner", "pages"] (defScope sSend) := ⟨rfl, rfl, rfl, by decide +kernel, rfl, by decide +kernel, by decide +kernel⟩
theorem ok_send {f : Addr} {fd : FuncData} (F : Fun K "send" "Lane.send" sSend f fd) (T : Free mg) (U : Txt K mg CL CJ) (Z : Exc K mg c1 c2 c3 c4) (MC : MCalleeX P w K mg base CL 1 "check_owner" ["self", "owner"] (spCheck CL CJ c1))
    (KJ : KCallee P w K mg base CJ 1 "Job" ["self", "number", "owner", "pages"] (spJInit CJ)) : FnOk P w K mg base (CXE P w) 3 f fd ["self", "owner", "pages"] (spSend CL CJ c1 c2 c3) := by
  refine fun_okX F scSend (fun vs H Q E h => ?_) (fun cdv A outer s H vs Q E hr h => ?_)
  · obtain ⟨l, B, L, o, p, rfl, _⟩ := h
    rfl
  obtain ⟨l, B, L, o, p, rfl, ⟨dx, qb, qp, qr, js, X⟩, hfew, k1, k2, k3, k4⟩ := h
  refine ⟨_, pssx_cons (psx_expr (pex_methC (pv 0) U.cl MC (hr.mono (by decide)) (pa_cons (pv 1) pa_nil)))
    (pssx_cons (psx_if (pt_cmpR op_lt (pv 2) pe_int (nomark _)) (pssx_one (psx_raise1 ⟨rfl, rfl, rfl⟩ rfl (by rfl) Z.m2 Z.e2 pe_str)) pssx_nil)
    (pssx_cons (psx_if (pt_cmpR op_gt (pv 2) (pe_ix ix_list (pe_fld (pv 0) rfl) (pv 1) (fun _ _ => rfl)) (nomark _)) (pssx_one (psx_raise1 ⟨rfl, rfl, rfl⟩ rfl (by rfl) Z.m3 Z.e3 pe_str)) pssx_nil)
    (pssx_of (pss_cons (ps_set (i := 3) scSend.nd rfl (Or.inl rfl) (pe_makeC KJ (hr.mono (by decide)) (by rfl) (pa_cons (pe_fld (pv 0) rfl) (pa_cons (pv 1) (pa_cons (pv 2) pa_nil)))))
      (pss_cons (ps_fldaug (pv 0) pe_int in_add) (pss_cons (ps_augS (pe_fld (pv 0) rfl) (pv 1) get_list (pv 2) ip_sub set_list)
      (pss_cons (ps_expr (pe_bm PySem.F.plainAttrs_list PySem.F.slot_list_append PySem.F.type_list_append mt_append (pe_fld (pv 0) rfl) (pa_cons (pv 3) pa_nil))) (pss_one (ps_ret (pe_fld (pv 3) rfl)))))))))), ?_⟩
  try dsimp only [nox_K, cxOf_K]
  refine ⟨_, rfl, l, dx, _, rfl, X.la, rfl, _, rfl, l, B, L, o, rfl, X.p, fun c => k1 H X.p c, fun c => ?_⟩
  have h0 : 0 ≤ o := by omega
  have h1 : o < (L.purse.length : Int) := by omega
  refine ⟨_, rfl, _, _, rfl, rfl, _, rfl, ?_⟩
  refine ite2 (fun d => ?_) (fun d => ?_)
  · exact k2 H X.p c (of_decide_eq_true d)
  have d' : ¬ p < 1 := of_decide_eq_false (Bool.eq_false_iff.mpr d)
  refine ⟨_, rfl, _, rfl, l, CL, dx, _, _, rfl, X.la, U.cl, U.lBudgets, lf_budgets, _, rfl, qb, _, _, _, rfl, rfl, SqL.of X.bu, at_int h0 h1, _, _, rfl, rfl, _, rfl, ?_⟩
  refine ite2 (fun d2 => ?_) (fun d2 => ?_)
  · exact k3 H X.p c d' (of_decide_eq_true d2)
  have d2' : ¬ L.purse.getD o.toNat 0 < p := of_decide_eq_false (Bool.eq_false_iff.mpr d2)
  -- job = Job(self.sent, owner, pages)
  refine ⟨_, rfl, l, CL, dx, _, _, rfl, X.la, U.cl, U.lSent, lf_sent, _, rfl, _, rfl, ?_⟩
  intro x dj nx ndx nex
  refine ⟨x, dj, L.sent, o, p, rfl, upd_same, fun H1 f1 hx1 => ⟨rfl, ?_⟩⟩
  have s1 : Same H H1 := fun b u e => f1 _ _ (by rw [upd_ne (ne_of_none e nx), upd_ne (ne_of_none e ndx)]; exact e) (ne_of_none e nx)
  have X1 := X.same s1
  have nB : B x = none := X.sa.free nx
  have njs : x ∉ js := fun hx => by
    obtain ⟨dy, j, q, _⟩ := X.jo.mem hx
    rw [nx] at q
    cases q
  -- self.sent += 1
  refine ⟨_, rfl, l, CL, dx, _, _, rfl, X1.la, U.cl, U.lSent, lf_sent, _, _, rfl, rfl, dx, _, X1.la, (by show 8 < 1000; decide), ?_⟩
  have X2 := X1.fld (L.sent + 1) L.hot L.resting (pf_sent (P := L) (qb := qb) (qp := qp) (qr := qr) (L.sent + 1))
  have hx2 : upd H1 l (.ins CL dx (putF "sent" (.int (L.sent + 1)) (laneF L qb qp qr))) x = _ := (upd_ne (Ne.symm (ne_of_none X.la nx))).trans hx1
  generalize upd H1 l (.ins CL dx (putF "sent" (.int (L.sent + 1)) (laneF L qb qp qr))) = H2 at X2 hx2 ⊢
  -- self.budgets[owner] -= pages
  refine ⟨_, rfl, l, CL, dx, _, _, rfl, X2.la, U.cl, U.lBudgets, lf_budgets, _, rfl, qb, _, _, _, rfl, rfl, SqL.of X2.bu, at_int h0 h1, _, rfl, _, _, rfl, rfl, qb, _, _, _, rfl, rfl, X2.bu, ix_int h0 h1, ?_⟩
  have X3 := X2.bud _ (set_int L.purse o.toNat (L.purse.getD o.toNat 0 - p))
  have hx3 : upd H2 qb (.lst ((L.purse.map V.int).set o.toNat (.int (L.purse.getD o.toNat 0 - p)))) x = _ := (upd_ne (ne_of hx2 X2.bu (by intro z; cases z))).trans hx2
  dsimp only at X3 ⊢
  generalize upd H2 qb (.lst ((L.purse.map V.int).set o.toNat (.int (L.purse.getD o.toNat 0 - p)))) = H3 at X3 hx3 ⊢
  -- self.row.append(job)
  refine ⟨_, rfl, l, CL, dx, _, _, rfl, X3.la, U.cl, U.lRow, lf_row, .inl ⟨rfl, _, SqL.of X3.ro⟩, _, rfl, qr, _, _, rfl, rfl, X3.ro, small1000 (by rw [List.length_map, X.len]; omega), ?_⟩
  have X4 := X3.row (vs := js.map V.ref ++ [.ref x]) (js ++ [x]) (L.jobs ++ [⟨L.sent, o, p, 0⟩]) (by rw [List.map_append]; rfl) (JobsAt.snoc ⟨dj, hx3⟩ X3.jo) (List.nodup_append.mpr ⟨X3.nd, by simp, fun a ha b hb => ?_⟩) (fun y hy => ?_)
  · refine ⟨_, rfl, x, CJ, dj, _, _, rfl, (upd_ne (ne_of hx3 X3.ro (by intro z; cases z))).trans hx3, U.cj, U.jNumber, jf_number, ?_⟩
    exact k4 _ X4.p c d' d2'
  · have : b = x := by simpa using hb
    intro z
    exact njs (by rw [← this, ← z]; exact ha)
  · rcases List.mem_append.mp hy with z | z
    · exact X3.nb y (by simp [z])
    · have : y = x := by simpa using z
      rw [this]
      exact nB
theorem scStop : FnScope ["self", "job", "stopped"] ["self", "job"] (defScope sStop) := ⟨rfl, rfl, rfl, by decide +kernel, rfl, by decide +kernel, by decide +kernel⟩
theorem ok_stop {f : Addr} {fd : FuncData} (F : Fun K "stop" "Lane.stop" sStop f fd) (T : Free mg) (U : Txt K mg CL CJ) (MPl : MCalleeX P w K mg base CL 1 "place" ["self", "number"] (spPlace CL CJ c4)) (ML : MCallee P w K mg base CJ 1 "left" ["self"] (spLeft CJ)) :
    FnOk P w K mg base (CXE P w) 2 f fd ["self", "job"] (spStop CL CJ c4) := by
  refine fun_okX F scStop (fun vs H Q E h => ?_) (fun cdv A outer s H vs Q E hr h => ?_)
  · obtain ⟨l, B, L, n, rfl, _⟩ := h
    rfl
  obtain ⟨l, B, L, n, rfl, ⟨dx, qb, qp, qr, js, X⟩, hfew, ok, k1, k2⟩ := h
  refine ⟨_, pssx_cons (psx_set (i := 2) scStop.nd rfl (Or.inl rfl) (pex_bm1 PySem.F.plainAttrs_list PySem.F.slot_list_pop PySem.F.type_list_pop mt_popAt (pe_fld (pv 0) rfl) (pex_methC (pv 0) U.cl MPl (hr.mono (by decide)) (pa_cons (pv 1) pa_nil))))
    (pssx_of (pss_cons (ps_augS (pe_fld (pv 0) rfl) (pe_fld (pv 2) rfl) get_list (pe_methC0 (pv 2) U.cj ML (hr.mono (by decide))) ip_add set_list) (pss_one (ps_ret (pe_methC0 (pv 2) U.cj ML (hr.mono (by decide))))))), ?_⟩
  try dsimp only [nox_K, cxOf_K]
  refine ⟨_, rfl, l, CL, dx, _, _, rfl, X.la, U.cl, U.lRow, lf_row, .inl ⟨rfl, _, SqL.of X.ro⟩, ?_⟩
  refine ⟨_, rfl, l, dx, _, rfl, X.la, rfl, _, rfl, l, B, L, n, rfl, X.p, hfew, fun y H1 ey s1 => ?_, fun H1 ey s1 => k2 H1 ey (X.same s1).p⟩
  have X1 := X.same s1
  obtain ⟨y1, y2, y3⟩ := placeJ_some ey
  have hl := X1.len
  have hlt : y.1 < js.length := by omega
  have hget : js[y.1]? = some js[y.1] := List.getElem?_eq_getElem hlt
  generalize js[y.1] = a at hget
  obtain ⟨dj, j, hj, ej⟩ := X1.jo.get hget
  rw [y1] at ej
  cases ej
  have hv : (js.map V.ref)[y.1]? = some (.ref a) := by rw [List.getElem?_map, hget]; rfl
  refine ⟨qr, _, _, y.1, .ref a, rfl, rfl, X1.ro, by omega, by omega, ?_, hv, ?_⟩
  · rw [seqIndex_of (by omega) (by rw [List.length_map]; omega)]
    rfl
  have hown := ok.own y.2 (List.mem_of_getElem? y1)
  have X2 := X1.row (js.eraseIdx y.1) (L.jobs.eraseIdx y.1) (eraseIdx_map _ _ _) (X1.jo.erase y.1) (List.Nodup.sublist (List.eraseIdx_sublist _ _) X1.nd) fun x hx => X1.nb x (by simp [List.mem_of_mem_eraseIdx hx])
  have hj2 : upd H1 qr (.lst ((js.map V.ref).eraseIdx y.1)) a = _ := (upd_ne (ne_of hj X1.ro (by intro z; cases z))).trans hj
  generalize upd H1 qr (.lst ((js.map V.ref).eraseIdx y.1)) = H2 at X2 hj2 ⊢
  refine ⟨_, rfl, l, CL, dx, _, _, rfl, X2.la, U.cl, U.lBudgets, lf_budgets, _, rfl, a, CJ, dj, _, _, rfl, hj2, U.cj, U.jOwner, jf_owner, qb, _, _, _, rfl, rfl, SqL.of X2.bu, at_int hown.1 hown.2, ?_⟩
  refine ⟨_, rfl, a, dj, _, rfl, hj2, rfl, a, dj, y.2, rfl, hj2, _, _, rfl, rfl, qb, _, _, _, rfl, rfl, X2.bu, ix_int hown.1 hown.2, ?_⟩
  have X3 := X2.bud _ (set_int L.purse y.2.o.toNat (L.purse.getD y.2.o.toNat 0 + (y.2.p - y.2.k)))
  have hj3 : upd H2 qb (.lst ((L.purse.map V.int).set y.2.o.toNat (.int (L.purse.getD y.2.o.toNat 0 + (y.2.p - y.2.k))))) a = _ := (upd_ne (ne_of hj2 X2.bu (by intro z; cases z))).trans hj2
  exact ⟨_, rfl, a, dj, _, rfl, hj3, rfl, a, dj, y.2, rfl, hj3, k1 y _ ey X3.p⟩
theorem scGrant : FnScope ["self", "owner", "many"] ["self", "owner", "many"] (defScope sGrant) := ⟨rfl, rfl, rfl, by decide +kernel, rfl, by decide +kernel, by decide +kernel⟩
theorem ok_grant {f : Addr} {fd : FuncData} (F : Fun K "grant" "Lane.grant" sGrant f fd) (T : Free mg) (U : Txt K mg CL CJ) (MC : MCalleeX P w K mg base CL 1 "check_owner" ["self", "owner"] (spCheck CL CJ c1)) : FnOk P w K mg base (CXE P w) 2 f fd ["self", "owner", "many"] (spGrant CL CJ c1) := by
  refine fun_okX F scGrant (fun vs H Q E h => ?_) (fun cdv A outer s H vs Q E hr h => ?_)
  · obtain ⟨l, B, L, o, m, rfl, _⟩ := h
    rfl
  obtain ⟨l, B, L, o, m, rfl, ⟨dx, qb, qp, qr, js, X⟩, k1, k2⟩ := h
  refine ⟨_, pssx_cons (psx_expr (pex_methC (pv 0) U.cl MC (hr.mono (by decide)) (pa_cons (pv 1) pa_nil))) (pssx_of (pss_one (ps_augS (pe_fld (pv 0) rfl) (pv 1) get_list (pv 2) ip_add set_list))), ?_⟩
  try dsimp only [nox_K, cxOf_K]
  refine ⟨_, rfl, l, dx, _, rfl, X.la, rfl, _, rfl, l, B, L, o, rfl, X.p, fun c => k1 H X.p c, fun c => ?_⟩
  have h0 : 0 ≤ o := by omega
  have h1 : o < (L.purse.length : Int) := by omega
  refine ⟨_, rfl, l, CL, dx, _, _, rfl, X.la, U.cl, U.lBudgets, lf_budgets, _, rfl, qb, _, _, _, rfl, rfl, SqL.of X.bu, at_int h0 h1, _, rfl, _, _, rfl, rfl, qb, _, _, _, rfl, rfl, X.bu, ix_int h0 h1, ?_⟩
  exact k2 _ (X.bud _ (set_int L.purse o.toNat (L.purse.getD o.toNat 0 + m))).p c
end

/-! ### printlane.day: done, answered -/
section
variable {P : Program} {w : World} {K : PySem.W.Frag} {mg : Str → Option Value} {base : Heap} {CL CJ c1 c2 c3 c4 : Addr}
theorem scDone : FnScope ["lane", "deed"] ["lane", "deed"] (defScope sDone) := ⟨rfl, rfl, rfl, by decide +kernel, rfl, by decide +kernel, by decide +kernel⟩
theorem ok_done {f : Addr} {fd : FuncData} (F : Fun K "done" "done" sDone f fd) (T : Free mg) (U : Txt K mg CL CJ) (MS : MCalleeX P w K mg base CL 3 "send" ["self", "owner", "pages"] (spSend CL CJ c1 c2 c3)) (MO : MCalleeX P w K mg base CL 2 "stop" ["self", "job"] (spStop CL CJ c4))
    (MR : MCallee P w K mg base CL 5 "run" ["self", "many"] (spRun CL CJ)) (MG : MCalleeX P w K mg base CL 2 "grant" ["self", "owner", "many"] (spGrant CL CJ c1)) : FnOk P w K mg base (CXE P w) 6 f fd ["lane", "deed"] (spDone CL CJ c1 c2 c3 c4) := by
  refine fun_okX F scDone (fun vs H Q E h => ?_) (fun cdv A outer s H vs Q E hr h => ?_)
  · obtain ⟨l, d, B, L, dd, rfl, _⟩ := h
    rfl
  obtain ⟨l, d, B, L, dd, rfl, ⟨dx, qb, qp, qr, js, X⟩, hd, dok, hfew, ok, k0, k1, k2, k3, k4⟩ := h
  refine ⟨_, pssx_cons (psx_if (pt_cmpR op_eq (pe_ix ix_tup (pv 1) pe_int (fun _ _ => rfl)) pe_str (nomark _)) (pssx_one (psx_ret (pex_methC (pv 0) U.cl MS (hr.mono (by decide)) (pa_cons (pe_ix ix_tup (pv 1) pe_int (fun _ _ => rfl)) (pa_cons (pe_ix ix_tup (pv 1) pe_int (fun _ _ => rfl)) pa_nil))))) pssx_nil)
    (pssx_cons (psx_if (pt_cmpR op_eq (pe_ix ix_tup (pv 1) pe_int (fun _ _ => rfl)) pe_str (nomark _)) (pssx_one (psx_ret (pex_methC (pv 0) U.cl MO (hr.mono (by decide)) (pa_cons (pe_ix ix_tup (pv 1) pe_int (fun _ _ => rfl)) pa_nil)))) pssx_nil)
    (pssx_cons (psx_if (pt_cmpR op_eq (pe_ix ix_tup (pv 1) pe_int (fun _ _ => rfl)) pe_str (nomark _)) (pssx_one (psx_of (ps_ret (pe_methC (pv 0) U.cl MR (hr.mono (by decide)) (pa_cons (pe_ix ix_tup (pv 1) pe_int (fun _ _ => rfl)) pa_nil))))) pssx_nil)
    (pssx_cons (psx_expr (pex_methC (pv 0) U.cl MG (hr.mono (by decide)) (pa_cons (pe_ix ix_tup (pv 1) pe_int (fun _ _ => rfl)) (pa_cons (pe_ix ix_tup (pv 1) pe_int (fun _ _ => rfl)) pa_nil)))) (pssx_one (psx_of (ps_ret pe_str)))))), ?_⟩
  try dsimp only [nox_K, cxOf_K]
  cases dd with
  | send o p =>
    refine ⟨_, rfl, d, _, _, _, rfl, rfl, SqT.of hd, rfl, rfl, _, rfl, ?_⟩
    refine iteB true (by decide +kernel) (iteT ?_)
    refine ⟨_, rfl, l, dx, _, rfl, X.la, rfl, _, rfl, d, _, _, _, rfl, rfl, SqT.of hd, rfl, _, rfl, d, _, _, _, rfl, rfl, SqT.of hd, rfl, ?_⟩
    refine ⟨l, B, L, o, p, rfl, X.p, hfew, fun H' hL c => k1 H' hL (ref_send_no c), fun H' hL c d1 => k2 H' hL ?_, fun H' hL c d1 d2 => k3 H' hL ?_, fun H' hL c d1 d2 => ?_⟩
    · rw [ref_send_yes c, if_pos d1]
    · rw [ref_send_yes c, if_neg d1, if_pos d2]
    · have e : refusal L.purse (L.jobs.map rowOf) (.send o p) = "done" := by rw [ref_send_yes c, if_neg d1, if_neg d2]
      have e1 : stepP L (.send o p) = sendP L o p := if_pos e
      have e2 : ansV (toLn L) (.send o p) = .int L.sent := if_pos e
      have := k0 H' (by rw [e1]; exact hL) e
      rw [e2] at this
      exact this
  | stop j =>
    refine ⟨_, rfl, d, _, _, _, rfl, rfl, SqT.of hd, rfl, rfl, _, rfl, ?_⟩
    refine iteB false (by decide +kernel) (iteF ?_)
    refine ⟨_, rfl, d, _, _, _, rfl, rfl, SqT.of hd, rfl, rfl, _, rfl, ?_⟩
    refine iteB true (by decide +kernel) (iteT ?_)
    refine ⟨_, rfl, l, dx, _, rfl, X.la, rfl, _, rfl, d, _, _, _, rfl, rfl, SqT.of hd, rfl, ?_⟩
    refine ⟨l, B, L, j, rfl, X.p, hfew, ok, fun y H' ey hL => ?_, fun H' ey hL => k4 H' hL ?_⟩
    · have e : refusal L.purse (L.jobs.map rowOf) (.stop j) = "done" := by rw [refusal_stop, ey]; rfl
      have e1 : stepP L (.stop j) = stopP L y.1 y.2 := by
        show (match placeJ j L.jobs with | some y => stopP L y.1 y.2 | none => L) = _
        rw [ey]
      have e2 : ansV (toLn L) (.stop j) = .int (y.2.p - y.2.k) := by
        have e3 : ansV (toLn L) (.stop j) = .int (((L.jobs.map rowOf).filter fun r => decide (r.1 = j)).map (·.2.2)).sum := if_pos e
        rw [e3, (stop_rows ok.num ey).2.1]
        show V.int (y.2.p - y.2.k + 0) = _
        rw [Int.add_zero]
      have := k0 H' (by rw [e1]; exact hL) e
      rw [e2] at this
      exact this
    · rw [refusal_stop, ey]
      rfl
  | run m =>
    refine ⟨_, rfl, d, _, _, _, rfl, rfl, SqT.of hd, rfl, rfl, _, rfl, ?_⟩
    refine iteB false (by decide +kernel) (iteF ?_)
    refine ⟨_, rfl, d, _, _, _, rfl, rfl, SqT.of hd, rfl, rfl, _, rfl, ?_⟩
    refine iteB false (by decide +kernel) (iteF ?_)
    refine ⟨_, rfl, d, _, _, _, rfl, rfl, SqT.of hd, rfl, rfl, _, rfl, ?_⟩
    refine iteB true (by decide +kernel) (iteT ?_)
    refine ⟨_, rfl, l, dx, _, rfl, X.la, rfl, _, rfl, d, _, _, _, rfl, rfl, SqT.of hd, rfl, ?_⟩
    refine ⟨l, B, L, m, rfl, X.p, ok, hfew, dok.1, dok.2, fun H' hL => ?_⟩
    have := k0 H' hL rfl
    rw [show ansV (toLn L) (.run m) = .int (countPage (runW m.toNat (toLn L))) from rfl, ← run_count m.toNat ok] at this
    exact this
  | grant o m =>
    refine ⟨_, rfl, d, _, _, _, rfl, rfl, SqT.of hd, rfl, rfl, _, rfl, ?_⟩
    refine iteB false (by decide +kernel) (iteF ?_)
    refine ⟨_, rfl, d, _, _, _, rfl, rfl, SqT.of hd, rfl, rfl, _, rfl, ?_⟩
    refine iteB false (by decide +kernel) (iteF ?_)
    refine ⟨_, rfl, d, _, _, _, rfl, rfl, SqT.of hd, rfl, rfl, _, rfl, ?_⟩
    refine iteB false (by decide +kernel) (iteF ?_)
    refine ⟨_, rfl, l, dx, _, rfl, X.la, rfl, _, rfl, d, _, _, _, rfl, rfl, SqT.of hd, rfl, _, rfl, d, _, _, _, rfl, rfl, SqT.of hd, rfl, ?_⟩
    refine ⟨l, B, L, o, m, rfl, X.p, fun H' hL c => k1 H' hL (ref_grant_no c), fun H' hL c => ?_⟩
    have e : refusal L.purse (L.jobs.map rowOf) (.grant o m) = "done" := ref_grant_yes c
    have e1 : stepP L (.grant o m) = grantP L o m := if_pos e
    have e2 : ansV (toLn L) (.grant o m) = .str "done" := congrArg V.str e
    have := k0 H' (by rw [e1]; exact hL) e
    rw [e2] at this
    exact this
theorem step_refused {L : Pl} {d : Deed} {x : Str} (e : refusal L.purse (L.jobs.map rowOf) d = x) (ne : ¬ x = "done") : stepP L d = L ∧ ansV (toLn L) d = .str x := by
  cases d with
  | run m => exact absurd e.symm ne
  | send o p =>
    have n : ¬ refusal L.purse (L.jobs.map rowOf) (.send o p) = "done" := by rw [e]; exact ne
    refine ⟨if_neg n, ?_⟩
    have : ansV (toLn L) (.send o p) = .str (refusal L.purse (L.jobs.map rowOf) (.send o p)) := if_neg n
    rw [this, e]
  | grant o m =>
    have n : ¬ refusal L.purse (L.jobs.map rowOf) (.grant o m) = "done" := by rw [e]; exact ne
    exact ⟨if_neg n, congrArg V.str e⟩
  | stop j =>
    have n : ¬ refusal L.purse (L.jobs.map rowOf) (.stop j) = "done" := by rw [e]; exact ne
    refine ⟨?_, ?_⟩
    · rw [refusal_stop] at n
      show (match placeJ j L.jobs with | some y => stopP L y.1 y.2 | none => L) = L
      cases q : placeJ j L.jobs with
      | none => rfl
      | some y =>
        rw [q] at n
        exact absurd rfl n
    · have : ansV (toLn L) (.stop j) = .str (refusal L.purse (L.jobs.map rowOf) (.stop j)) := if_neg n
      rw [this, e]
theorem scPAnswered : FnScope ["lane", "deed"] ["lane", "deed"] (defScope sPAnswered) := ⟨rfl, rfl, rfl, by decide +kernel, rfl, by decide +kernel, by decide +kernel⟩
theorem ok_panswered {f : Addr} {fd : FuncData} (F : Fun K "answered" "answered" sPAnswered f fd) (T : Free mg) (Z : Exc K mg c1 c2 c3 c4) (CDn : CalleeX P w K mg base 6 "done" ["lane", "deed"] (spDone CL CJ c1 c2 c3 c4)) :
    FnOk P w K mg base CX0 7 f fd ["lane", "deed"] (spPAnswered CL CJ) := by
  refine F.ok scPAnswered (fun vs H Q E h => ?_) (fun cdv A outer s H vs Q E hr h => ?_)
  · obtain ⟨l, d, B, L, dd, rfl, _⟩ := h
    rfl
  obtain ⟨l, d, B, L, dd, rfl, hL, hd, dok, hfew, ok, k⟩ := h
  refine ⟨_, pss_one (ps_try ⟨rfl, rfl, rfl⟩ (pssx_one (psx_ret (pex_call CDn (hr.mono (by decide)) (by rfl) (pa_cons (pv 0) (pa_cons (pv 1) pa_nil)))))
    (hb_cons ⟨rfl, rfl, rfl⟩ (by rfl) Z.m1 (fun ev => pss_one (ps_ret pe_str)) (hb_cons ⟨rfl, rfl, rfl⟩ (by rfl) Z.m2 (fun ev => pss_one (ps_ret pe_str)) (hb_cons ⟨rfl, rfl, rfl⟩ (by rfl) Z.m3 (fun ev => pss_one (ps_ret pe_str)) (hb_cons ⟨rfl, rfl, rfl⟩ (by rfl) Z.m4 (fun ev => pss_one (ps_ret pe_str)) hb_nil))))), ?_⟩
  try dsimp only [nox_K, cxOf_K]
  have out : ∀ x H', LaneP CL CJ B H' l L → refusal L.purse (L.jobs.map rowOf) dd = x → ¬ x = "done" → Q (.str x) H' := fun x H' hL' e ne => by
    obtain ⟨e1, e2⟩ := step_refused e ne
    have := k H' (by rw [e1]; exact hL')
    rw [e2] at this
    exact this
  refine ⟨_, rfl, _, rfl, l, d, B, L, dd, rfl, hL, hd, dok, hfew, ok, fun H' hL' _ => k H' hL', fun H' hL' e => ?_, fun H' hL' e => ?_, fun H' hL' e => ?_, fun H' hL' e => ?_⟩
  · refine ⟨true, Z.x11, iteT ?_⟩
    exact out _ H' hL' e (by decide +kernel)
  · refine ⟨false, Z.x21, iteF ⟨true, Z.x22, iteT ?_⟩⟩
    exact out _ H' hL' e (by decide +kernel)
  · refine ⟨false, Z.x31, iteF ⟨false, Z.x32, iteF ⟨true, Z.x33, iteT ?_⟩⟩⟩
    exact out _ H' hL' e (by decide +kernel)
  · refine ⟨false, Z.x41, iteF ⟨false, Z.x42, iteF ⟨false, Z.x43, iteF ⟨true, Z.x44, iteT ?_⟩⟩⟩⟩
    exact out _ H' hL' e (by decide +kernel)
end

/-! ### printlane.day: answers -/
/-- what answers(limit, pause, budgets, deeds) promises -/
inductive spAnswersI  (vs : List V) (H : Hp) (Q : VK) : Prop
  | mk (lim pz : Int) (b r : Addr) (bs : List Int) (ps : List Addr) (ds : List Deed) (z0 : vs = [.int lim, .int pz, .ref b, .ref r]) (z1 : 1 ≤ lim) (z2 : 0 ≤ pz) (z3 : Day H b r bs ps ds) (z4 : ∀ x H', Same H H' → H' x = some (.lst (ansAll (L0 lim pz bs) ds)) → Q (.ref x) H')
def spAnswers  : Sp := fun vs H Q _ => spAnswersI  vs H Q
section
variable {P : Program} {w : World} {K : PySem.W.Frag} {mg : Str → Option Value} {base : Heap} {CL CJ : Addr}
theorem scAnswers : FnScope ["limit", "pause", "budgets", "deeds", "lane", "told", "deed"] ["limit", "pause", "budgets", "deeds"] (defScope sAnswers) := ⟨rfl, rfl, rfl, by decide +kernel, rfl, by decide +kernel, by decide +kernel⟩
inductive InvAs (CL CJ : Addr) (H : Hp) (lim pz : Int) (b r x t : Addr) (bs : List Int) (ds : List Deed) (i : Nat) (σ : List (Option V)) (H2 : Hp) : Prop
  | mk (o1 : Option V) (B : Hp) (e : σ = [some (.int lim), some (.int pz), some (.ref b), some (.ref r), some (.ref x), some (.ref t), o1]) (s2 : Same H B) (hL : LaneP CL CJ B H2 x (endP (P0 lim pz bs) (ds.take i))) (hB : B t = some (.lst (ansAll (L0 lim pz bs) (ds.take i))))
theorem ok_answers {f : Addr} {fd : FuncData} (F : Fun K "answers" "answers" sAnswers f fd) (T : Free mg) (KL : KCallee P w K mg base CL 1 "Lane" ["self", "limit", "pause", "budgets"] (spLInit CL CJ)) (CAd : Callee P w K mg base 7 "answered" ["lane", "deed"] (spPAnswered CL CJ)) :
    FnOk P w K mg base CX0 8 f fd ["limit", "pause", "budgets", "deeds"] spAnswers := by
  refine F.ok scAnswers (fun vs H Q E h => ?_) (fun cdv A outer s H vs Q E hr h => ?_)
  · obtain ⟨lim, pz, b, r, bs, ps, ds, rfl, _⟩ := h
    rfl
  obtain ⟨lim, pz, b, r, bs, ps, ds, rfl, hlim, hpz, D, k⟩ := h
  refine ⟨_, (pss_cons (ps_set (i := 4) scAnswers.nd rfl (Or.inl rfl) (pe_makeC KL (hr.mono (by decide)) (by rfl) (pa_cons (pv 0) (pa_cons (pv 1) (pa_cons (pv 2) pa_nil)))))
    (pss_cons (ps_set (i := 5) scAnswers.nd rfl (Or.inl rfl) (pe_lst pa_nil))
    (pss_cons (ps_for PassesOwn.never rfl (pi_list (pv 3)) (pg_name (i := 6) scAnswers.nd rfl (Or.inl rfl))
    (pss_one (ps_expr (pe_bm PySem.F.plainAttrs_list PySem.F.slot_list_append PySem.F.type_list_append mt_append (pv 5) (pa_cons (pe_callC CAd (hr.mono (by decide)) (by rfl) (pa_cons (pv 4) (pa_cons (pv 6) pa_nil))) pa_nil)))))
    (pss_one (ps_ret (pv 5)))))), ?_⟩
  try dsimp only [nox_K, cxOf_K]
  have ok0 := P0_ok (bs := bs) hlim hpz
  refine ⟨_, rfl, _, rfl, _, rfl, ?_⟩
  intro x dx nx ndx nex
  have s0 : Same H (upd (upd H dx (.own x)) x (.ins CL dx [])) := same_upd (same_new ndx _) nx _
  refine ⟨x, dx, lim, pz, b, bs, H, rfl, upd_same, nx, s0, s0 _ _ D.hb, by have := D.few; omega, fun H1 hL1 => ⟨rfl, ?_⟩⟩
  obtain ⟨dx1, qb1, qp1, qr1, js1, X1⟩ := hL1
  refine ⟨(by show 0 ≤ sizeLine; decide), fun t ht => ?_⟩
  have hdl := D.dsAt.len
  have t0 : H t = none := X1.sa.free ht
  refine ⟨_, rfl, r, rfl, ⟨_, SqL.of ((X1.new (o' := .lst []) ht).sa _ _ ((same_new t0 _) _ _ D.hr))⟩, for_list (K := K) (a := r) (xs := ps.map V.ref) (InvAs CL CJ H lim pz b r x t bs ds)
    ⟨none, _, rfl, same_new t0 _, (X1.new ht).p, upd_same⟩ (fun i σ H2 _ z => by obtain ⟨_, B, _, s2, hL, _⟩ := z; exact SqL.of (hL.sa _ _ (s2 _ _ D.hr))) ?_ ?_⟩
  · rintro i y σ H2 hi ⟨o1, B, rfl, s2, hL, hB⟩
    obtain ⟨p, hp, rfl⟩ := map_ref_get hi
    obtain ⟨d, d1, d2, d3⟩ := D.dsAt.get hp
    have hil : i < ps.length := (List.getElem?_eq_some_iff.mp hp).1
    obtain ⟨e1, e2, e3, _⟩ := end_sim (ds.take i) ok0
    have hlt : (ds.take i).length ≤ 31 := by rw [List.length_take]; have := D.len; omega
    have t2 := hL.sa _ _ hB
    refine ⟨_, rfl, .inl ⟨rfl, _, SqL.of t2⟩, _, rfl, _, rfl, x, p, B, _, d, rfl, hL, hL.sa _ _ (s2 _ _ d2), D.ok d (List.mem_of_getElem? d1), ?_, e2, fun H3 hL3 => ?_⟩
    · have : (P0 lim pz bs).jobs.length = 0 := rfl
      omega
    obtain ⟨dx3, qb3, qp3, qr3, js3, X3⟩ := hL3
    have t3 := X3.sa _ _ hB
    refine ⟨t, _, _, rfl, rfl, t3, small1000 (by rw [ansAll_len]; omega), ?_⟩
    have X4 := X3.put (o' := .lst (ansAll (L0 lim pz bs) (ds.take i) ++ [ansV (toLn (endP (P0 lim pz bs) (ds.take i))) d])) hB
    refine ⟨_, upd B t (.lst (ansAll (L0 lim pz bs) (ds.take i) ++ [ansV (toLn (endP (P0 lim pz bs) (ds.take i))) d])), rfl, fun c o e => ?_, ?_, ?_⟩
    · rw [upd_ne (ne_of_none e t0)]
      exact s2 _ _ e
    · rw [take_snoc d1, endP_snoc]
      exact X4.p
    · rw [take_snoc d1, ansAll_snoc, upd_same, e1]
      rfl
  · rintro σ H2 ⟨o1, B, rfl, s2, hL, hB⟩
    rw [List.length_map, hdl, List.take_length] at hB
    exact ⟨_, rfl, k t H2 (s2.trans hL.sa) (hL.sa _ _ hB)⟩
end

/-! ### law_k07: a Lane by hand -/
/-- what _law_as_due(word) promises -/
inductive spAsDueI  (vs : List V) (H : Hp) (Q : VK) : Prop
  | mk (v : V) (z0 : vs = [v]) (z1 : flatV v = true) (z2 : (∀ p H', inV v refWords = true → Same H H' → H' p = some (.tup [.str "refused", v]) → Q (.ref p) H')) (z3 : (∀ H', inV v refWords = false → Same H H' → Q v H'))
def spAsDue  : Sp := fun vs H Q _ => spAsDueI  vs H Q
section
variable {P : Program} {w : World} {K : PySem.W.Frag} {mg : Str → Option Value} {base : Heap}
theorem scAsDue : FnScope ["_law_word"] ["_law_word"] (defScope sAsDue) := ⟨rfl, rfl, rfl, by decide +kernel, rfl, by decide +kernel, by decide +kernel⟩
theorem ok_as_due {f : Addr} {fd : FuncData} (F : Fun K "_law_as_due" "_law_as_due" sAsDue f fd) : FnOk P w K mg base CX0 1 f fd ["_law_word"] spAsDue := by
  refine F.ok scAsDue (fun vs H Q E h => ?_) (fun cdv A outer s H vs Q E hr h => ?_)
  · obtain ⟨v, rfl, _⟩ := h
    rfl
  obtain ⟨v, rfl, hv, k1, k2⟩ := h
  refine ⟨_, (pss_cons (ps_if (pt_cmpR op_in_seq (pv 0) (pe_lst (pa_cons pe_str (pa_cons pe_str (pa_cons pe_str (pa_cons pe_str pa_nil))))) (by with_unfolding_all rfl))
    (pss_one (ps_ret (pe_tup (pa_cons pe_str (pa_cons (pv 0) pa_nil)))))
    pss_nil)
    (pss_one (ps_ret (pv 0)))), ?_⟩
  try dsimp only [nox_K, cxOf_K]
  refine ⟨_, rfl, (by show 4 ≤ sizeLine; decide), fun l hl => ?_⟩
  have s1 : Same H (upd H l (.lst refWords)) := same_new hl _
  refine ⟨l, refWords, rfl, .inl (SqL.of upd_same), hv, rfl, _, rfl, ?_⟩
  show if inV v refWords = true then _ else _
  cases e : inV v refWords with
  | true =>
    refine iteT ?_
    refine ⟨_, rfl, (by show 2 ≤ sizeLine; decide), fun p hp => ?_⟩
    exact k1 p _ e (s1.trans (same_new hp _)) upd_same
  | false =>
    refine iteF ?_
    exact ⟨_, rfl, k2 _ e s1⟩
end
/-- what _law_by_hand(lane, deed) promises -/
inductive spByHandI (CL CJ : Addr) (vs : List V) (H : Hp) (Q : VK) : Prop
  | mk (l d : Addr) (B : Hp) (L : Pl) (dd : Deed) (z0 : vs = [.ref l, .ref d]) (z1 : LaneP CL CJ B H l L) (z2 : H d = some (.tup dd.vals)) (z3 : dd.ok) (z4 : L.jobs.length ≤ 900) (z5 : POk L) (z6 : (∀ H', LaneP CL CJ B H' l (stepP L dd) → refusal L.purse (L.jobs.map rowOf) dd = "done" → Q (ansV (toLn L) dd) H')) (z7 : (∀ p H', LaneP CL CJ B H' l L → H' p = some (.tup [.str "refused", .str (refusal L.purse (L.jobs.map rowOf) dd)]) → refusal L.purse (L.jobs.map rowOf) dd ≠ "done" → Q (.ref p) H'))
def spByHand (CL CJ : Addr) : Sp := fun vs H Q _ => spByHandI CL CJ vs H Q
section
variable {P : Program} {w : World} {K : PySem.W.Frag} {mg : Str → Option Value} {base : Heap} {CL CJ c1 c2 c3 c4 : Addr}
theorem scByHand : FnScope ["_law_lane", "_law_deed", "_law_told"] ["_law_lane", "_law_deed"] (defScope sByHand) := ⟨rfl, rfl, rfl, by decide +kernel, rfl, by decide +kernel, by decide +kernel⟩
theorem ok_by_hand {f : Addr} {fd : FuncData} (F : Fun K "_law_by_hand" "_law_by_hand" sByHand f fd) (Z : Exc K mg c1 c2 c3 c4) (CLD : CalleeX P w K mg base 6 "_law_done" ["_law_lane", "_law_deed"] (spDone CL CJ c1 c2 c3 c4)) :
    FnOk P w K mg base CX0 7 f fd ["_law_lane", "_law_deed"] (spByHand CL CJ) := by
  refine F.ok scByHand (fun vs H Q E h => ?_) (fun cdv A outer s H vs Q E hr h => ?_)
  · obtain ⟨l, d, B, L, dd, rfl, _⟩ := h
    rfl
  obtain ⟨l, d, B, L, dd, rfl, hL, hd, dok, hfew, ok, k, kr⟩ := h
  have out : ∀ x H', LaneP CL CJ B H' l L → refusal L.purse (L.jobs.map rowOf) dd = x → ¬ x = "done" → ∀ p, H' p = none → Q (.ref p) (upd H' p (.tup [.str "refused", .str x])) := fun x H' hL' e ne p hp => by
    obtain ⟨dx, qb, qp, qr, js, X⟩ := hL'
    refine kr p _ (X.same (same_new hp _)).p (by rw [e]; exact upd_same) (by rw [e]; exact ne)
  refine ⟨_, pss_cons (ps_set (i := 2) scByHand.nd rfl (Or.inl rfl) pe_str) (pss_cons (ps_try ⟨rfl, rfl, rfl⟩ (pssx_one (psx_set (i := 2) scByHand.nd rfl (Or.inl rfl) (pex_call CLD (hr.mono (by decide)) (by rfl) (pa_cons (pv 0) (pa_cons (pv 1) pa_nil)))))
    (hb_cons ⟨rfl, rfl, rfl⟩ (by rfl) Z.m1 (fun ev => pss_one (ps_set (i := 2) scByHand.nd rfl (Or.inl rfl) (pe_tup (pa_cons pe_str (pa_cons pe_str pa_nil))))) (hb_cons ⟨rfl, rfl, rfl⟩ (by rfl) Z.m2 (fun ev => pss_one (ps_set (i := 2) scByHand.nd rfl (Or.inl rfl) (pe_tup (pa_cons pe_str (pa_cons pe_str pa_nil)))))
    (hb_cons ⟨rfl, rfl, rfl⟩ (by rfl) Z.m3 (fun ev => pss_one (ps_set (i := 2) scByHand.nd rfl (Or.inl rfl) (pe_tup (pa_cons pe_str (pa_cons pe_str pa_nil))))) (hb_cons ⟨rfl, rfl, rfl⟩ (by rfl) Z.m4 (fun ev => pss_one (ps_set (i := 2) scByHand.nd rfl (Or.inl rfl) (pe_tup (pa_cons pe_str (pa_cons pe_str pa_nil))))) hb_nil)))))
    (pss_one (ps_ret (pv 2)))), ?_⟩
  try dsimp only [nox_K, cxOf_K]
  refine ⟨_, rfl, _, rfl, l, d, B, L, dd, rfl, hL, hd, dok, hfew, ok, fun H' hL' e => ⟨_, rfl, k H' hL' e⟩, fun H' hL' e => ?_, fun H' hL' e => ?_, fun H' hL' e => ?_, fun H' hL' e => ?_⟩
  · refine ⟨true, Z.x11, iteT ⟨(by show 2 ≤ sizeLine; decide), fun p hp => ⟨_, rfl, ?_⟩⟩⟩
    exact out _ H' hL' e (by decide +kernel) p hp
  · refine ⟨false, Z.x21, iteF ⟨true, Z.x22, iteT ⟨(by show 2 ≤ sizeLine; decide), fun p hp => ⟨_, rfl, ?_⟩⟩⟩⟩
    exact out _ H' hL' e (by decide +kernel) p hp
  · refine ⟨false, Z.x31, iteF ⟨false, Z.x32, iteF ⟨true, Z.x33, iteT ⟨(by show 2 ≤ sizeLine; decide), fun p hp => ⟨_, rfl, ?_⟩⟩⟩⟩⟩
    exact out _ H' hL' e (by decide +kernel) p hp
  · refine ⟨false, Z.x41, iteF ⟨false, Z.x42, iteF ⟨false, Z.x43, iteF ⟨true, Z.x44, iteT ⟨(by show 2 ≤ sizeLine; decide), fun p hp => ⟨_, rfl, ?_⟩⟩⟩⟩⟩⟩
    exact out _ H' hL' e (by decide +kernel) p hp
end
section
variable {P : Program} {w : World} {K : PySem.W.Frag} {mg : Str → Option Value} {base : Heap} {CL CJ c1 c2 c3 c4 : Addr}
theorem scLDone : FnScope ["_law_lane", "_law_deed", "_law_told"] ["_law_lane", "_law_deed"] (defScope sLDone) := ⟨rfl, rfl, rfl, by decide +kernel, rfl, by decide +kernel, by decide +kernel⟩
theorem ok_ldone {f : Addr} {fd : FuncData} (F : Fun K "_law_done" "_law_done" sLDone f fd) (T : Free mg) (U : Txt K mg CL CJ) (MS : MCalleeX P w K mg base CL 3 "send" ["self", "owner", "pages"] (spSend CL CJ c1 c2 c3)) (MO : MCalleeX P w K mg base CL 2 "stop" ["self", "job"] (spStop CL CJ c4))
    (MR : MCallee P w K mg base CL 5 "run" ["self", "many"] (spRun CL CJ)) (MG : MCalleeX P w K mg base CL 2 "grant" ["self", "owner", "many"] (spGrant CL CJ c1)) : FnOk P w K mg base (CXE P w) 6 f fd ["_law_lane", "_law_deed"] (spDone CL CJ c1 c2 c3 c4) := by
  refine fun_okX F scLDone (fun vs H Q E h => ?_) (fun cdv A outer s H vs Q E hr h => ?_)
  · obtain ⟨l, d, B, L, dd, rfl, _⟩ := h
    rfl
  obtain ⟨l, d, B, L, dd, rfl, ⟨dx, qb, qp, qr, js, X⟩, hd, dok, hfew, ok, k0, k1, k2, k3, k4⟩ := h
  refine ⟨_, pssx_cons (psx_of (ps_set (i := 2) scLDone.nd rfl (Or.inl rfl) pe_str)) (pssx_cons (psx_if (pt_cmpR op_eq (pe_ix ix_tup (pv 1) pe_int (fun _ _ => rfl)) pe_str (nomark _)) (pssx_one (psx_set (i := 2) scLDone.nd rfl (Or.inl rfl) (pex_methC (pv 0) U.cl MS (hr.mono (by decide)) (pa_cons (pe_ix ix_tup (pv 1) pe_int (fun _ _ => rfl)) (pa_cons (pe_ix ix_tup (pv 1) pe_int (fun _ _ => rfl)) pa_nil)))))
    (pssx_one (psx_if (pt_cmpR op_eq (pe_ix ix_tup (pv 1) pe_int (fun _ _ => rfl)) pe_str (nomark _)) (pssx_one (psx_set (i := 2) scLDone.nd rfl (Or.inl rfl) (pex_methC (pv 0) U.cl MO (hr.mono (by decide)) (pa_cons (pe_ix ix_tup (pv 1) pe_int (fun _ _ => rfl)) pa_nil))))
    (pssx_one (psx_if (pt_cmpR op_eq (pe_ix ix_tup (pv 1) pe_int (fun _ _ => rfl)) pe_str (nomark _)) (pssx_one (psx_of (ps_set (i := 2) scLDone.nd rfl (Or.inl rfl) (pe_methC (pv 0) U.cl MR (hr.mono (by decide)) (pa_cons (pe_ix ix_tup (pv 1) pe_int (fun _ _ => rfl)) pa_nil)))))
    (pssx_one (psx_ifC op_notN (pex_methC (pv 0) U.cl MG (hr.mono (by decide)) (pa_cons (pe_ix ix_tup (pv 1) pe_int (fun _ _ => rfl)) (pa_cons (pe_ix ix_tup (pv 1) pe_int (fun _ _ => rfl)) pa_nil))) pe_non (nomark _) (pssx_one (psx_of (ps_set (i := 2) scLDone.nd rfl (Or.inl rfl) pe_str))) pssx_nil)))))))
    (pssx_one (psx_of (ps_ret (pv 2))))), ?_⟩
  try dsimp only [nox_K, cxOf_K]
  cases dd with
  | send o p =>
    refine ⟨_, rfl, d, _, _, _, rfl, rfl, SqT.of hd, rfl, rfl, _, rfl, ?_⟩
    refine iteB true (by decide +kernel) (iteT ?_)
    refine ⟨_, rfl, l, dx, _, rfl, X.la, rfl, _, rfl, d, _, _, _, rfl, rfl, SqT.of hd, rfl, _, rfl, d, _, _, _, rfl, rfl, SqT.of hd, rfl, ?_⟩
    refine ⟨l, B, L, o, p, rfl, X.p, hfew, fun H' hL c => k1 H' hL (ref_send_no c), fun H' hL c d1 => k2 H' hL ?_, fun H' hL c d1 d2 => k3 H' hL ?_, fun H' hL c d1 d2 => ?_⟩
    · rw [ref_send_yes c, if_pos d1]
    · rw [ref_send_yes c, if_neg d1, if_pos d2]
    · have e : refusal L.purse (L.jobs.map rowOf) (.send o p) = "done" := by rw [ref_send_yes c, if_neg d1, if_neg d2]
      have e1 : stepP L (.send o p) = sendP L o p := if_pos e
      have e2 : ansV (toLn L) (.send o p) = .int L.sent := if_pos e
      have := k0 H' (by rw [e1]; exact hL) e
      rw [e2] at this
      exact ⟨_, rfl, this⟩
  | stop j =>
    refine ⟨_, rfl, d, _, _, _, rfl, rfl, SqT.of hd, rfl, rfl, _, rfl, ?_⟩
    refine iteB false (by decide +kernel) (iteF ?_)
    refine ⟨_, rfl, d, _, _, _, rfl, rfl, SqT.of hd, rfl, rfl, _, rfl, ?_⟩
    refine iteB true (by decide +kernel) (iteT ?_)
    refine ⟨_, rfl, l, dx, _, rfl, X.la, rfl, _, rfl, d, _, _, _, rfl, rfl, SqT.of hd, rfl, ?_⟩
    refine ⟨l, B, L, j, rfl, X.p, hfew, ok, fun y H' ey hL => ?_, fun H' ey hL => k4 H' hL ?_⟩
    · have e : refusal L.purse (L.jobs.map rowOf) (.stop j) = "done" := by rw [refusal_stop, ey]; rfl
      have e1 : stepP L (.stop j) = stopP L y.1 y.2 := by
        show (match placeJ j L.jobs with | some y => stopP L y.1 y.2 | none => L) = _
        rw [ey]
      have e2 : ansV (toLn L) (.stop j) = .int (y.2.p - y.2.k) := by
        have e3 : ansV (toLn L) (.stop j) = .int (((L.jobs.map rowOf).filter fun r => decide (r.1 = j)).map (·.2.2)).sum := if_pos e
        rw [e3, (stop_rows ok.num ey).2.1]
        show V.int (y.2.p - y.2.k + 0) = _
        rw [Int.add_zero]
      have := k0 H' (by rw [e1]; exact hL) e
      rw [e2] at this
      exact ⟨_, rfl, this⟩
    · rw [refusal_stop, ey]
      rfl
  | run m =>
    refine ⟨_, rfl, d, _, _, _, rfl, rfl, SqT.of hd, rfl, rfl, _, rfl, ?_⟩
    refine iteB false (by decide +kernel) (iteF ?_)
    refine ⟨_, rfl, d, _, _, _, rfl, rfl, SqT.of hd, rfl, rfl, _, rfl, ?_⟩
    refine iteB false (by decide +kernel) (iteF ?_)
    refine ⟨_, rfl, d, _, _, _, rfl, rfl, SqT.of hd, rfl, rfl, _, rfl, ?_⟩
    refine iteB true (by decide +kernel) (iteT ?_)
    refine ⟨_, rfl, l, dx, _, rfl, X.la, rfl, _, rfl, d, _, _, _, rfl, rfl, SqT.of hd, rfl, ?_⟩
    refine ⟨l, B, L, m, rfl, X.p, ok, hfew, dok.1, dok.2, fun H' hL => ?_⟩
    have := k0 H' hL rfl
    rw [show ansV (toLn L) (.run m) = .int (countPage (runW m.toNat (toLn L))) from rfl, ← run_count m.toNat ok] at this
    exact ⟨_, rfl, this⟩
  | grant o m =>
    refine ⟨_, rfl, d, _, _, _, rfl, rfl, SqT.of hd, rfl, rfl, _, rfl, ?_⟩
    refine iteB false (by decide +kernel) (iteF ?_)
    refine ⟨_, rfl, d, _, _, _, rfl, rfl, SqT.of hd, rfl, rfl, _, rfl, ?_⟩
    refine iteB false (by decide +kernel) (iteF ?_)
    refine ⟨_, rfl, d, _, _, _, rfl, rfl, SqT.of hd, rfl, rfl, _, rfl, ?_⟩
    refine iteB false (by decide +kernel) (iteF ?_)
    refine ⟨_, rfl, l, dx, _, rfl, X.la, rfl, _, rfl, d, _, _, _, rfl, rfl, SqT.of hd, rfl, _, rfl, d, _, _, _, rfl, rfl, SqT.of hd, rfl, ?_⟩
    refine ⟨l, B, L, o, m, rfl, X.p, fun H' hL c => k1 H' hL (ref_grant_no c), fun H' hL c => ?_⟩
    have e : refusal L.purse (L.jobs.map rowOf) (.grant o m) = "done" := ref_grant_yes c
    have e1 : stepP L (.grant o m) = grantP L o m := if_pos e
    have e2 : ansV (toLn L) (.grant o m) = .str "done" := congrArg V.str e
    have := k0 H' (by rw [e1]; exact hL) e
    rw [e2] at this
    exact ⟨rfl, _, rfl, iteF ⟨_, rfl, this⟩⟩
end
/-! ### by any: every refusal is of one kind and a ValueError -/
structure ExcK (K : PySem.W.Frag) (c c1 c2 c3 c4 cE : Addr) (b1 b2 b3 b4 : Bool) : Prop where
  q : ExcCls K c
  y : PySem.W.exmOne K (.ref c) (.ref cE) = some true
  k1 : PySem.W.kitOne K (.ref c) (.ref c1) = some b1
  k2 : PySem.W.kitOne K (.ref c) (.ref c2) = some b2
  k3 : PySem.W.kitOne K (.ref c) (.ref c3) = some b3
  k4 : PySem.W.kitOne K (.ref c) (.ref c4) = some b4
  v : PySem.W.kitOne K (.ref c) (.type "ValueError") = some true
structure ExcX (K : PySem.W.Frag) (mg : Str → Option Value) (c1 c2 c3 c4 cE : Addr) : Prop where
  mE : mg "LaneError" = some (.ref cE)
  a1 : ExcK K c1 c1 c2 c3 c4 cE true false false false
  a2 : ExcK K c2 c1 c2 c3 c4 cE false true false false
  a3 : ExcK K c3 c1 c2 c3 c4 cE false false true false
  a4 : ExcK K c4 c1 c2 c3 c4 cE false false false true
theorem kit_of {K : PySem.W.Frag} {t c : Value} {b : Bool} (h : PySem.W.exmOne K t c = some b) (n : (t == c) = true → b = true) : PySem.W.kitOne K t c = some b := by
  unfold PySem.W.exmOne at h
  unfold PySem.W.kitOne
  split at h
  · by_cases q : (t == c) = true
    · rw [if_pos q, n q]
    · rw [if_neg q]
      exact h
  · cases h
theorem kit_no {K : PySem.W.Frag} {t c : Value} (h : PySem.W.exmOne K t c = some false) (h' : PySem.W.exmOne K t t = some true) : PySem.W.kitOne K t c = some false :=
  kit_of h fun q => by
    rw [← eq_of_beq q, h'] at h
    cases h
theorem kit_yes {K : PySem.W.Frag} {t c : Value} (h : PySem.W.exmOne K t c = some true) : PySem.W.kitOne K t c = some true := kit_of h fun _ => rfl
inductive AnyCase (K : PySem.W.Frag) (c1 c2 c3 c4 cE : Addr) (D : Ends) (σ : L2.St) (H : Hp) : Prop
  | mk (c e : Addr) (b1 b2 b3 b4 : Bool) (A : ExcK K c c1 c2 c3 c4 cE b1 b2 b3 b4) (sum : (if b3 = true then (1 : Int) else 0) + (if b4 = true then 1 else 0) + (if b1 = true then 1 else 0) + (if b2 = true then 1 else 0) = 1) (v0 v1 : Option V) (x : Str) (o3 o5 o6 : Option V)
    (eσ : σ = [v0, v1, some (.str x), o3, some (.ref e), o5, o6]) (he : H e = some (ExcO e (.ref c))) (nd : ¬ x = "done") (k : ∀ p w5 w6, H p = none → D.nx [v0, v1, some (.str x), some (.ref p), some (.ref e), w5, w6] (upd H p (.tup [.str "refused", .str x])))
/-- what _law_by_any(lane, deed, due) promises, where due is what the deed is answered -/
inductive spByAnyI (CL CJ : Addr) (vs : List V) (H : Hp) (Q : VK) : Prop
  | mk (l d : Addr) (B : Hp) (L : Pl) (dd : Deed) (z0 : vs = [.ref l, .ref d, ansV (toLn L) dd]) (z1 : LaneP CL CJ B H l L) (z2 : H d = some (.tup dd.vals)) (z3 : dd.ok) (z4 : L.jobs.length ≤ 900) (z5 : POk L) (z6 : ∀ v H', LaneP CL CJ B H' l (stepP L dd) → AsAt H' v (ansV (toLn L) dd) → Q v H')
def spByAny (CL CJ : Addr) : Sp := fun vs H Q _ => spByAnyI CL CJ vs H Q
theorem hand_go {CL CJ l d : Addr} {B H : Hp} {L : Pl} {dd : Deed} {Q : VK} (hL : LaneP CL CJ B H l L) (hd : H d = some (.tup dd.vals)) (dok : dd.ok) (hfew : L.jobs.length ≤ 900) (ok : POk L)
    (k : ∀ v H', LaneP CL CJ B H' l (stepP L dd) → AsAt H' v (ansV (toLn L) dd) → Q v H') : spByHand CL CJ [.ref l, .ref d] H Q E0 := by
  refine ⟨l, d, B, L, dd, rfl, hL, hd, dok, hfew, ok, fun H' hL' e => k _ H' hL' (.no (ans_done e) rfl), fun p H' hL' hp ne => ?_⟩
  obtain ⟨e1, e2⟩ := step_refused (x := refusal L.purse (L.jobs.map rowOf) dd) rfl ne
  refine k _ H' (by rw [e1]; exact hL') (.yes ?_ p rfl (by rw [e2]; exact hp))
  rw [e2]
  exact (ref_words L.purse (L.jobs.map rowOf) dd).resolve_left ne
theorem due_go {v : V} {H : Hp} {Q : VK} (f : flatV v = true) (k : ∀ v' H', Same H H' → AsAt H' v' v → Q v' H') : spAsDue [v] H Q E0 :=
  ⟨v, rfl, f, fun p H' h s e => k _ H' s (.yes h p rfl e), fun H' h s => k _ H' s (.no h rfl)⟩
section
variable {P : Program} {w : World} {K : PySem.W.Frag} {mg : Str → Option Value} {base : Heap} {CL CJ c1 c2 c3 c4 cE : Addr}
theorem scByAny : FnScope ["_law_lane", "_law_deed", "_law_due", "_law_told", "e", "_law_kinds", "_law_good"] ["_law_lane", "_law_deed", "_law_due"] (defScope sByAny) := ⟨rfl, rfl, rfl, by decide +kernel, rfl, by decide +kernel, by decide +kernel⟩
theorem ok_by_any {f : Addr} {fd : FuncData} (F : Fun K "_law_by_any" "_law_by_any" sByAny f fd) (T : Free mg) (Z : Exc K mg c1 c2 c3 c4) (Y : ExcX K mg c1 c2 c3 c4 cE) (CLD : CalleeX P w K mg base 6 "_law_done" ["_law_lane", "_law_deed"] (spDone CL CJ c1 c2 c3 c4)) :
    FnOk P w K mg base CX0 7 f fd ["_law_lane", "_law_deed", "_law_due"] (spByAny CL CJ) := by
  refine F.ok scByAny (fun vs H Q E h => ?_) (fun cdv A outer s H vs Q E hr h => ?_)
  · obtain ⟨l, d, B, L, dd, rfl, _⟩ := h
    rfl
  obtain ⟨l, d, B, L, dd, rfl, hL, hd, dok, hfew, ok, k⟩ := h
  have out : ∀ (c : Addr) (x : Str) (H' : Hp), LaneP CL CJ B H' l L → refusal L.purse (L.jobs.map rowOf) dd = x → ¬ x = "done" → ∀ e p o, H' e = none → upd H' e o p = none → Q (.ref p) (upd (upd H' e o) p (.tup [.str "refused", .str x])) := fun c x H' hL' e ne e1 p o he hp => by
    obtain ⟨dx, qb, qp, qr, js, X⟩ := hL'
    obtain ⟨z1, z2⟩ := step_refused e ne
    have w := ref_words L.purse (L.jobs.map rowOf) dd
    rw [e] at w
    refine k _ _ (by rw [z1]; exact (X.same ((same_new he _).trans (same_new hp _))).p) (.yes ?_ p rfl ?_)
    · rw [z2]
      exact w.resolve_left ne
    · rw [z2]
      exact upd_same
  refine ⟨_, pss_cons (ps_set (i := 3) scByAny.nd rfl (Or.inl rfl) pe_str) (pss_cons (ps_try ⟨rfl, rfl, rfl⟩ (pssx_one (psx_set (i := 3) scByAny.nd rfl (Or.inl rfl) (pex_call CLD (hr.mono (by decide)) (by rfl) (pa_cons (pv 0) (pa_cons (pv 1) pa_nil)))))
    (hb_as (i := 4) ⟨rfl, rfl, rfl⟩ scByAny.nd rfl rfl (by rfl) Y.mE (fun ev => pss_weak (t' := AnyCase K c1 c2 c3 c4 cE)
      (pss_cons (ps_set (i := 5) scByAny.nd rfl (Or.inl rfl) (pe_op op_add (pe_callTy call_int1 (by rfl) T.int boot_int (pa_cons (pe_callB call_isiE (by rfl) T.isi boot_isinstance (pa_cons (pv 4) (pa_cons (pe_glob (v := .ref c3) (by rfl) Z.m3 rfl) pa_nil))) pa_nil)) (pe_callTy call_int1 (by rfl) T.int boot_int (pa_cons (pe_callB call_isiE (by rfl) T.isi boot_isinstance (pa_cons (pv 4) (pa_cons (pe_glob (v := .ref c4) (by rfl) Z.m4 rfl) pa_nil))) pa_nil))))
      (pss_cons (ps_set (i := 5) scByAny.nd rfl (Or.inl rfl) (pe_op op_add (pv 5) (pe_callTy call_int1 (by rfl) T.int boot_int (pa_cons (pe_callB call_isiE (by rfl) T.isi boot_isinstance (pa_cons (pv 4) (pa_cons (pe_glob (v := .ref c1) (by rfl) Z.m1 rfl) pa_nil))) pa_nil))))
      (pss_cons (ps_set (i := 5) scByAny.nd rfl (Or.inl rfl) (pe_op op_add (pv 5) (pe_callTy call_int1 (by rfl) T.int boot_int (pa_cons (pe_callB call_isiE (by rfl) T.isi boot_isinstance (pa_cons (pv 4) (pa_cons (pe_glob (v := .ref c2) (by rfl) Z.m2 rfl) pa_nil))) pa_nil))))
      (pss_cons (ps_set (i := 6) scByAny.nd rfl (Or.inl rfl) (pe_and (pe_cmpR op_eq (pv 5) pe_int (nomark _)) (pe_one (pe_callB call_isiE (by rfl) T.isi boot_isinstance (pa_cons (pv 4) (pa_cons (pe_bltn (v := .ty "ValueError") (by rfl) T.valueError rfl rfl) pa_nil))))))
      (pss_one (ps_set (i := 3) scByAny.nd rfl (Or.inl rfl) (pe_tup (pa_cons pe_str (pa_cons (pe_pick (pa_cons pe_str (pa_cons (pv 2) pa_nil)) (pe_callTy call_int1 (by rfl) T.int boot_int (pa_cons (pe_and (pv 6) (pe_and (pe_callB call_isi (by rfl) T.isi boot_isinstance (pa_cons (pv 2) (pa_cons (pe_bltn (v := .ty "str") (by rfl) T.str boot_str rfl) pa_nil))) (pe_one (pe_cmpR op_ne (pv 2) pe_str (nomark _))))) pa_nil)) (fun _ _ => rfl)) pa_nil))))))))) (fun D σ H2 hh => ?suite)) hb_nil))
    (pss_one (ps_ret (pv 3)))), ?main⟩
  case suite =>
    obtain ⟨c, e, b1, b2, b3, b4, A2, sum, v0, v1, x, o3, o5, o6, rfl, he, nd, kk⟩ := hh
    refine ⟨_, rfl, e, c, _, _, b3, rfl, rfl, he, A2.q, A2.k3, .inr ⟨b3, rfl, _, rfl, e, c, _, _, b4, rfl, rfl, he, A2.q, A2.k4, .inr ⟨b4, rfl, _, _, rfl, rfl, ?_⟩⟩⟩
    refine ⟨_, rfl, _, rfl, e, c, _, _, b1, rfl, rfl, he, A2.q, A2.k1, .inr ⟨b1, rfl, _, _, rfl, rfl, ?_⟩⟩
    refine ⟨_, rfl, _, rfl, e, c, _, _, b2, rfl, rfl, he, A2.q, A2.k2, .inr ⟨b2, rfl, _, _, rfl, rfl, ?_⟩⟩
    refine ⟨_, rfl, rfl, _, rfl, ?_⟩
    refine iteB true (decide_eq_true (congrArg V.int sum)) (iteT ?_)
    refine ⟨_, rfl, e, c, _, _, true, rfl, rfl, he, A2.q, A2.v, ?_⟩
    refine ⟨_, rfl, (by show 2 ≤ sizeLine; decide), _, rfl, _, rfl, ?_⟩
    refine iteT ?_
    refine ⟨_, rfl, _, _, _, _, rfl, TyOf.str x, k_str_str _, _, rfl, ?_⟩
    refine iteT ?_
    refine ⟨_, rfl, rfl, .inr ⟨_, rfl, _, _, rfl, (show atI [V.str "", V.str x] _ = some (V.str x) from ?_), (by show 2 ≤ sizeLine; decide), fun p hp => kk p _ _ hp⟩⟩
    have e1 : (!decide (V.str x = V.str "done")) = true := by
      rw [decide_eq_false fun z => nd (V.str.inj z)]
      rfl
    show atI [V.str "", V.str x] (if (!decide (V.str x = V.str "done")) = true then 1 else 0) = some (V.str x)
    rw [if_pos e1]
    rfl
  case main =>
    refine ⟨_, rfl, _, rfl, l, d, B, L, dd, rfl, hL, hd, dok, hfew, ok, fun H' hL' e => ⟨_, rfl, k _ H' hL' (.no (ans_done e) rfl)⟩, fun H' hL' e => ?_, fun H' hL' e => ?_, fun H' hL' e => ?_, fun H' hL' e => ?_⟩
    · have z := (step_refused e (by decide +kernel)).2
      exact ⟨true, Y.a1.y, iteT fun ee hee => ⟨c1, ee, true, false, false, false, Y.a1, rfl, _, _, "no owner", _, _, _, by rw [z]; rfl, upd_same, by decide +kernel, fun p w5 w6 hp => ⟨_, rfl, out c1 _ H' hL' e (by decide +kernel) ee p _ hee hp⟩⟩⟩
    · have z := (step_refused e (by decide +kernel)).2
      exact ⟨true, Y.a2.y, iteT fun ee hee => ⟨c2, ee, false, true, false, false, Y.a2, rfl, _, _, "no pages", _, _, _, by rw [z]; rfl, upd_same, by decide +kernel, fun p w5 w6 hp => ⟨_, rfl, out c2 _ H' hL' e (by decide +kernel) ee p _ hee hp⟩⟩⟩
    · have z := (step_refused e (by decide +kernel)).2
      exact ⟨true, Y.a3.y, iteT fun ee hee => ⟨c3, ee, false, false, true, false, Y.a3, rfl, _, _, "broke", _, _, _, by rw [z]; rfl, upd_same, by decide +kernel, fun p w5 w6 hp => ⟨_, rfl, out c3 _ H' hL' e (by decide +kernel) ee p _ hee hp⟩⟩⟩
    · have z := (step_refused e (by decide +kernel)).2
      exact ⟨true, Y.a4.y, iteT fun ee hee => ⟨c4, ee, false, false, false, true, Y.a4, rfl, _, _, "no job", _, _, _, by rw [z]; rfl, upd_same, by decide +kernel, fun p w5 w6 hp => ⟨_, rfl, out c4 _ H' hL' e (by decide +kernel) ee p _ hee hp⟩⟩⟩
end

/-! ### law_k07: the law itself -/
theorem cut1 (v : V) (vs : List V) : cutV (v :: vs) (some 1) none = vs := by
  unfold cutV
  rw [HT.sIx_none]
  have e : HT.sIx (v :: vs).length 0 (some 1) = min 1 (v :: vs).length := HT.sIx_nat (v :: vs).length 0 1
  rw [e, Nat.min_eq_left (by rw [List.length_cons]; omega)]
  show vs.take _ = vs
  exact List.take_of_length_le (by rw [List.length_cons]; omega)
theorem at_last (vs : List V) (v : V) : atI (vs ++ [v]) (-1) = some v := by
  have h : (vs ++ [v]).length = vs.length + 1 := by rw [List.length_append]; rfl
  show (ixN (vs ++ [v]).length (-1)).bind _ = _
  rw [h]
  have e : ixN (vs.length + 1) (-1) = some vs.length := by
    unfold ixN
    simp
    omega
  rw [e]
  show (vs ++ [v])[vs.length]? = some v
  simp
inductive InvK7 (cL cJ : Addr) (F : Hp) (a : Addr) (head lim pz ow : Int) (b r x o l1 kp d1 l2 d2 u t q1 q2 : Addr) (bs : List Int) (ds : List Deed) (i : Nat) (σ : List (Option V)) (H : Hp) : Prop
  | mk (P2 : Pl) (tv : List V) (v1 v2 : Option V) (z0 : σ = [some (.ref a), some (.int head), some (.int lim), some (.int pz), some (.int ow), some (.ref b), some (.ref r), some (.ref x), some (.ref o), some (.ref l1), some (.ref kp), some (.ref d1), some (.ref l2), some (.ref d2), some (.ref u), some (.ref t), v1, v2])
    (N : Next cL cJ F H l1 (endP (P0 lim pz bs) (ds.take i)) l2 P2 u t d1 q1 d2 q2 (.int 0 :: ansAll (L0 lim pz bs) (ds.take i)) tv (.int 0 :: ansAll (L0 lim pz bs) (ds.take i)) (endL (L0 lim pz bs) (ds.take i)) (toLn P2)) (ok2 : POk P2) (few2 : P2.jobs.length ≤ 1 + i) (lo2 : LnOk (1 + i) (toLn P2))
inductive MidK7 (cL cJ : Addr) (F : Hp) (a : Addr) (head lim pz ow : Int) (b r x o l1 kp d1 l2 d2 u t q1 q2 : Addr) (bs : List Int) (ds : List Deed) (i : Nat) (σ : List (Option V)) (H : Hp) : Prop
  | mk (P2 : Pl) (tv : List V) (v2 : Option V) (z0 : σ = [some (.ref a), some (.int head), some (.int lim), some (.int pz), some (.int ow), some (.ref b), some (.ref r), some (.ref x), some (.ref o), some (.ref l1), some (.ref kp), some (.ref d1), some (.ref l2), some (.ref d2), some (.ref u), some (.ref t), some (.int (0 + (i : Int))), v2])
    (N : Next cL cJ F H l1 (endP (P0 lim pz bs) (ds.take i)) l2 P2 u t d1 q1 d2 q2 (.int 0 :: ansAll (L0 lim pz bs) (ds.take i)) tv (.int 0 :: ansAll (L0 lim pz bs) (ds.take i)) (endL (L0 lim pz bs) (ds.take i)) (toLn P2)) (ok2 : POk P2) (few2 : P2.jobs.length ≤ 2 + i) (lo2 : LnOk (2 + i) (toLn P2))
inductive InvDues (Hc : Hp) (cu : Addr) (dv : List V) (i : Nat) (xs : List V) (H' : Hp) : Prop
  | mk (s : Same Hc H') (hc : H' cu = some (.lst xs)) (al : AllAs H' xs (dv.take i))
theorem spAsDue_mono {vs : List V} {H : Hp} {Q Q' : VK} {E : XK} (h : ∀ v H', Q v H' → Q' v H') (x : spAsDue vs H Q E) : spAsDue vs H Q' E := by
  obtain ⟨v, e, f, k1, k2⟩ := x
  exact ⟨v, e, f, fun p H' a b c => h _ _ (k1 p H' a b c), fun H' a b => h _ _ (k2 H' a b)⟩
section
variable {P : Program} {w : World} {K : PySem.W.Frag} {mg : Str → Option Value} {base : Heap} {cL cJ : Addr}
theorem scLaw : FnScope ["_law_script", "_law_head", "_law_limit", "_law_pause", "_law_owners", "_law_budgets", "_law_asked", "_law_found", "_law_ones", "_law_own", "_law_kept", "_law_mine", "_law_spare", "_law_other", "_law_due", "_law_told", "_law_k", "_law_word"] ["_law_script"] (defScope sLaw) := ⟨rfl, rfl, rfl, by decide +kernel, rfl, by decide +kernel, by decide +kernel⟩
theorem ok_law {f : Addr} {fd : FuncData} (F : Fun K "law" "law" sLaw f fd) (T : Free mg) (CA : Callee P w K mg base 1 "_law_at" ["_law_script", "_law_k"] (spAt K)) (CB : Callee P w K mg base 1 "_law_budgets_of" ["_law_cell", "_law_owners"] spBudgets)
    (CE : Callee P w K mg base 1 "_law_deeds" ["_law_cells", "_law_budgets"] spDeeds) (CX : Callee P w K mg base 8 "answers" ["limit", "pause", "budgets", "deeds"] spAnswers) (CL : Callee P w K mg base 2 "_law_alike" ["_law_found", "_law_due"] spAlike)
    (CO : Callee P w K mg base 1 "_law_lane_of" ["_law_limit", "_law_pause", "_law_budgets"] (spLaneOf K)) (CN : Callee P w K mg base 3 "_law_answered" ["_law_mine", "_law_deed"] spAnswered) (KL : KCallee P w K mg base cL 1 "Lane" ["self", "limit", "pause", "budgets"] (spLInit cL cJ))
    (CBh : Callee P w K mg base 7 "_law_by_hand" ["_law_lane", "_law_deed"] (spByHand cL cJ)) (CBa : Callee P w K mg base 7 "_law_by_any" ["_law_lane", "_law_deed", "_law_due"] (spByAny cL cJ)) (CAs : Callee P w K mg base 1 "_law_as_due" ["_law_word"] spAsDue) :
    FnOk P w K mg base CX0 9 f fd ["_law_script"] (spLaw K) := by
  refine F.ok scLaw (fun vs H Q E h => ?_) (fun cdv A outer s H vs Q E hr h => ?_)
  · obtain ⟨a, ns, rfl, _⟩ := h
    rfl
  obtain ⟨a, ns, rfl, hS, hlen, k⟩ := h
  refine ⟨_, (pss_cons (ps_set (i := 1) scLaw.nd rfl (Or.inl rfl) (pe_callC CA (hr.mono (by decide)) (by rfl) (pa_cons (pv 0) (pa_cons pe_int pa_nil))))
    (pss_cons (ps_set (i := 2) scLaw.nd rfl (Or.inl rfl) (pe_pick (pa_cons pe_int (pa_cons pe_int (pa_cons pe_int (pa_cons pe_int (pa_cons pe_int (pa_cons pe_int (pa_cons (pe_op op_add pe_int (pe_op op_mod (pe_op op_fdiv (pv 1) pe_int) pe_int)) (pa_cons pe_int (pa_cons pe_int pa_nil))))))))) (pe_op op_mod (pv 1) pe_int) (fun _ _ => rfl)))
    (pss_cons (ps_set (i := 3) scLaw.nd rfl (Or.inl rfl) (pe_pick (pa_cons pe_int (pa_cons pe_int (pa_cons pe_int (pa_cons pe_int (pa_cons pe_int (pa_cons (pe_op op_add pe_int (pe_op op_mod (pe_op op_fdiv (pv 1) pe_int) pe_int)) pa_nil)))))) (pe_op op_mod (pe_op op_fdiv (pv 1) pe_int) pe_int) (fun _ _ => rfl)))
    (pss_cons (ps_set (i := 4) scLaw.nd rfl (Or.inl rfl) (pe_pick (pa_cons (pe_op op_add pe_int (pe_op op_mod (pe_op op_fdiv (pv 1) pe_int) pe_int)) (pa_cons pe_int pa_nil)) (pe_callTy call_int1 (by rfl) T.int boot_int (pa_cons (pe_cmpR op_eq (pe_op op_mod (pe_op op_fdiv (pv 1) pe_int) pe_int) pe_int (nomark _)) pa_nil)) (fun _ _ => rfl)))
    (pss_cons (ps_set (i := 5) scLaw.nd rfl (Or.inl rfl) (pe_callC CB (hr.mono (by decide)) (by rfl) (pa_cons (pe_callC CA (hr.mono (by decide)) (by rfl) (pa_cons (pv 0) (pa_cons pe_int pa_nil))) (pa_cons (pv 4) pa_nil))))
    (pss_cons (ps_set (i := 6) scLaw.nd rfl (Or.inl rfl) (pe_callC CE (hr.mono (by decide)) (by rfl) (pa_cons (pe_slice sl_list (pv 0) (po_some pe_int) po_none) (pa_cons (pv 5) pa_nil))))
    (pss_cons (ps_set (i := 7) scLaw.nd rfl (Or.inl rfl) (pe_callC CX (hr.mono (by decide)) (by rfl) (pa_cons (pv 2) (pa_cons (pv 3) (pa_cons (pe_callTy call_list_of (by rfl) T.list boot_list (pa_cons (pv 5) pa_nil)) (pa_cons (pe_callTy call_list_of (by rfl) T.list boot_list (pa_cons (pv 6) pa_nil)) pa_nil))))))
    (pss_cons (ps_set (i := 8) scLaw.nd rfl (Or.inl rfl) (pe_callTy call_list_of (by rfl) T.list boot_list (pa_cons (pv 5) pa_nil)))
    (pss_cons (ps_set (i := 9) scLaw.nd rfl (Or.inl rfl) (pe_makeC KL (hr.mono (by decide)) (by rfl) (pa_cons (pv 2) (pa_cons (pv 3) (pa_cons (pv 8) pa_nil)))))
    (pss_cons (ps_if (pt_not (pt_val (pe_callC CL (hr.mono (by decide)) (by rfl) (pa_cons (pv 8) (pa_cons (pv 5) pa_nil)))))
    pss_never
    pss_nil)
    (pss_cons (ps_asg (pe_op op_add (pe_ix ix_list (pv 8) pe_int (fun _ _ => rfl)) pe_int) (pg_sub (pv 8) pe_int set_list))
    (pss_cons (ps_expr (pe_bm PySem.F.plainAttrs_list PySem.F.slot_list_append PySem.F.type_list_append mt_append (pv 8) (pa_cons pe_int pa_nil)))
    (pss_cons (ps_set (i := 10) scLaw.nd rfl (Or.inl rfl) (pe_callTy call_list_of (by rfl) T.list boot_list (pa_cons (pv 8) pa_nil)))
    (pss_cons (ps_set (i := 11) scLaw.nd rfl (Or.inl rfl) (pe_callC CO (hr.mono (by decide)) (by rfl) (pa_cons (pv 2) (pa_cons (pv 3) (pa_cons (pv 5) pa_nil)))))
    (pss_cons (ps_set (i := 12) scLaw.nd rfl (Or.inl rfl) (pe_makeC KL (hr.mono (by decide)) (by rfl) (pa_cons pe_int (pa_cons pe_int (pa_cons (pe_lst (pa_cons pe_int pa_nil)) pa_nil)))))
    (pss_cons (ps_set (i := 13) scLaw.nd rfl (Or.inl rfl) (pe_callC CO (hr.mono (by decide)) (by rfl) (pa_cons pe_int (pa_cons pe_int (pa_cons (pe_lst (pa_cons pe_int pa_nil)) pa_nil)))))
    (pss_cons (ps_set (i := 14) scLaw.nd rfl (Or.inl rfl) (pe_lst (pa_cons (pe_callC CN (hr.mono (by decide)) (by rfl) (pa_cons (pv 13) (pa_cons (pe_tup (pa_cons pe_str (pa_cons pe_int (pa_cons pe_int pa_nil)))) pa_nil))) pa_nil)))
    (pss_cons (ps_set (i := 15) scLaw.nd rfl (Or.inl rfl) (pe_lst (pa_cons (pe_callC CBh (hr.mono (by decide)) (by rfl) (pa_cons (pv 12) (pa_cons (pe_tup (pa_cons pe_str (pa_cons pe_int (pa_cons pe_int pa_nil)))) pa_nil))) pa_nil)))
    (pss_cons (ps_for PassesOwn.never rfl (pi_range1 (by rfl) T.range (pa_cons (pe_callB call_len_seq (by rfl) T.len PySem.boot_len (pa_cons (pv 6) pa_nil)) pa_nil)) (pg_name (i := 16) scLaw.nd rfl (Or.inl rfl))
    (pss_join (ps_if (pt_cmpR op_eq (pe_op op_mod (pv 16) pe_int) pe_int (nomark _))
    (pss_cons (ps_set (i := 17) scLaw.nd rfl (Or.inl rfl) (pe_callC CN (hr.mono (by decide)) (by rfl) (pa_cons (pv 13) (pa_cons (pe_ix ix_list (pv 6) (pv 16) (fun _ _ => rfl)) pa_nil))))
    (pss_one (ps_if (pt_not (pt_val (pe_callC CL (hr.mono (by decide)) (by rfl) (pa_cons (pe_callC CBh (hr.mono (by decide)) (by rfl) (pa_cons (pv 12) (pa_cons (pe_ix ix_list (pv 6) (pv 16) (fun _ _ => rfl)) pa_nil))) (pa_cons (pe_callC CAs (hr.mono (by decide)) (by rfl) (pa_cons (pv 17) pa_nil)) pa_nil)))))
    pss_never
    pss_nil)))
    pss_nil)
    (pss_cons (ps_expr (pe_bm PySem.F.plainAttrs_list PySem.F.slot_list_append PySem.F.type_list_append mt_append (pv 14) (pa_cons (pe_callC CN (hr.mono (by decide)) (by rfl) (pa_cons (pv 11) (pa_cons (pe_ix ix_list (pv 6) (pv 16) (fun _ _ => rfl)) pa_nil))) pa_nil)))
    (pss_one (ps_if (pt_cmpR op_eq (pe_op op_mod (pv 16) pe_int) pe_int (nomark _))
    (pss_one (ps_expr (pe_bm PySem.F.plainAttrs_list PySem.F.slot_list_append PySem.F.type_list_append mt_append (pv 15) (pa_cons (pe_callC CBa (hr.mono (by decide)) (by rfl) (pa_cons (pv 9) (pa_cons (pe_ix ix_list (pv 6) (pv 16) (fun _ _ => rfl)) (pa_cons (pe_ix ix_list (pv 14) (pe_un un_neg pe_int) (fun _ _ => rfl)) pa_nil)))) pa_nil))))
    (pss_one (ps_expr (pe_bm PySem.F.plainAttrs_list PySem.F.slot_list_append PySem.F.type_list_append mt_append (pv 15) (pa_cons (pe_callC CBh (hr.mono (by decide)) (by rfl) (pa_cons (pv 9) (pa_cons (pe_ix ix_list (pv 6) (pv 16) (fun _ _ => rfl)) pa_nil))) pa_nil)))))))))
    (pss_cons (ps_if (pt_not (pt_val (pe_callC CL (hr.mono (by decide)) (by rfl) (pa_cons (pv 8) (pa_cons (pv 10) pa_nil)))))
    pss_never
    pss_nil)
    (pss_cons (ps_if (pt_not (pt_val (pe_callC CL (hr.mono (by decide)) (by rfl) (pa_cons (pv 15) (pa_cons (pe_comp (x := "_law_one") (caps := []) rfl ⟨by rfl, rfl, by decide +kernel, by decide +kernel, by rfl, (by intro p hp; cases hp), (by show ∀ y ∈ Scope.names _, y.2 = NameKind.free → ([] : List Str).contains y.1 = true; decide +kernel), (by intro p hp; cases hp)⟩ (by decide +kernel) (pi_list (pv 14)) (fun C s H fp => pts_nil) (fun C s H fp => (pe_callC CAs (hr.mono (by decide)) (by rfl) (pa_cons (pv 0) pa_nil)))) pa_nil)))))
    pss_never
    pss_nil)
    (pss_cons (ps_if (pt_not (pt_val (pe_callC CL (hr.mono (by decide)) (by rfl) (pa_cons (pe_callC CBh (hr.mono (by decide)) (by rfl) (pa_cons (pv 12) (pa_cons (pe_tup (pa_cons pe_str (pa_cons pe_int pa_nil))) pa_nil))) (pa_cons (pe_callC CN (hr.mono (by decide)) (by rfl) (pa_cons (pv 13) (pa_cons (pe_tup (pa_cons pe_str (pa_cons pe_int pa_nil))) pa_nil))) pa_nil)))))
    pss_never
    pss_nil)
    (pss_one (ps_ret (pe_and (pe_callB call_isi (by rfl) T.isi boot_isinstance (pa_cons (pv 7) (pa_cons (pe_bltn (v := .ty "list") (by rfl) T.list boot_list rfl) pa_nil))) (pe_one (pe_callC CL (hr.mono (by decide)) (by rfl) (pa_cons (pv 7) (pa_cons (pe_slice sl_list (pv 14) (po_some pe_int) po_none) pa_nil))))))))))))))))))))))))))))), ?_⟩
  try dsimp only [nox_K, cxOf_K]
  refine ⟨_, rfl, a, ns, 0, rfl, hS, by decide, ?_⟩
  dsimp only
  generalize ns.getD (0 : Int).toNat 0 = head
  obtain ⟨lim, elim, hlim⟩ := pick_lim head
  refine ⟨_, rfl, _, _, rfl, rfl, ⟨by decide, by decide⟩, _, _, rfl, rfl, (by show (0 : Int) < 30; decide), _, _, rfl, rfl, (by show 9 ≤ sizeLine; decide), _, rfl, _, _, rfl, rfl, (by show (0 : Int) < 9; decide), _, _, rfl, elim, ?_⟩
  obtain ⟨pz, epz, hpz⟩ := pick_pau head
  refine ⟨_, rfl, _, _, rfl, rfl, ⟨by decide, by decide⟩, _, _, rfl, rfl, (by show (0 : Int) < 30; decide), _, _, rfl, rfl, (by show 6 ≤ sizeLine; decide), _, rfl, _, _, rfl, rfl, ⟨by decide, by decide⟩, _, _, rfl, rfl, (by show (0 : Int) < 6; decide), _, _, rfl, epz, ?_⟩
  have o0 := Int.emod_nonneg (head / 54) (show (4 : Int) ≠ 0 by decide)
  have o1 := Int.emod_lt_of_pos (head / 54) (show (0 : Int) < 4 by decide)
  refine ⟨_, rfl, _, _, rfl, rfl, ⟨by decide, by decide⟩, _, _, rfl, rfl, (by show (0 : Int) < 4; decide), _, _, rfl, rfl, (by show 2 ≤ sizeLine; decide), _, rfl, _, _, rfl, rfl, ⟨by decide, by decide⟩, _, _, rfl, rfl, (by show (0 : Int) < 8; decide), rfl, .inr ⟨_, rfl, ?_⟩⟩
  dsimp only
  generalize decide (V.int (head / 216 % 8) = V.int 1) = bb
  obtain ⟨ow, eow, how⟩ := pick2 (1 + head / 54 % 4) 12 (if bb = true then 1 else 0) (by split <;> omega) (by split <;> omega)
  have how1 : 1 ≤ ow ∧ ow ≤ 12 := by rcases how with z | z <;> omega
  refine ⟨_, _, rfl, eow, ?_⟩
  -- budgets
  refine ⟨_, rfl, a, ns, 1, rfl, hS, by decide, _, rfl, _, ow, rfl, how1.1, how1.2, fun b bs H1 s1 hb0 hb hbl hpos => ?_⟩
  have hbn : bs ≠ [] := fun z => by
    rw [z] at hbl
    have : (0 : Nat) = ow.toNat := hbl
    omega
  have hbf : bs.length ≤ 12 := by omega
  -- asked
  refine ⟨_, rfl, _, rfl, a, _, rfl, s1.seq hS, fun c hc => ?_⟩
  rw [cut2]
  have s2 : Same H (upd H1 c (.lst ((ns.drop 2).map V.int))) := same_upd s1 (s1.free hc) _
  have b2 : upd H1 c (.lst ((ns.drop 2).map V.int)) b = some (.lst (bs.map V.int)) := by rw [upd_ne (ne_of_none hb hc)]; exact hb
  have c2 : upd H1 c (.lst ((ns.drop 2).map V.int)) c = some (.lst ((ns.drop 2).map V.int)) := upd_same
  generalize upd H1 c (.lst ((ns.drop 2).map V.int)) = H2 at s2 b2 c2
  refine ⟨_, rfl, c, b, ns.drop 2, bs, rfl, c2, b2, by rw [List.length_drop]; omega, hbn, hbf, fun r ps ds H3 s3 hr0 hr3 hds hok hdl => ?_⟩
  have D3 : Day H3 b r bs ps ds := ⟨s3 _ _ b2, hbn, hbf, hpos, hr3, hds, hok, hdl⟩
  clear s2 b2 c2 s3 hS s1 hb hb0 hr0
  -- found
  refine ⟨_, rfl, _, rfl, _, rfl, b, _, rfl, .inl (SqL.of D3.hb), fun o' ho => ?_⟩
  have s4 : Same H3 (upd H3 o' (.lst (bs.map V.int))) := same_new ho _
  have o4 : upd H3 o' (.lst (bs.map V.int)) o' = some (.lst (bs.map V.int)) := upd_same
  generalize upd H3 o' (.lst (bs.map V.int)) = H4 at s4 o4
  refine ⟨_, rfl, r, _, rfl, .inl (SqL.of (s4 _ _ hr3)), fun hd hhd => ?_⟩
  have s5 : Same H4 (upd H4 hd (.lst (ps.map V.ref))) := same_new hhd _
  have h5 : upd H4 hd (.lst (ps.map V.ref)) hd = some (.lst (ps.map V.ref)) := upd_same
  generalize upd H4 hd (.lst (ps.map V.ref)) = H5 at s5 h5
  have s35 := s4.trans s5
  have D5 : Day H5 o' hd bs ps ds := ⟨s5 _ _ o4, hbn, hbf, hpos, h5, hds.mono s35, hok, hdl⟩
  refine ⟨lim, pz, o', hd, bs, ps, ds, rfl, hlim, hpz, D5, fun x H6 s6 hx => ?_⟩
  have D6 := D3.mono (s35.trans s6)
  clear s4 o4 s5 h5 s35 D5 s6 D3 ho hhd hr3 hds
  -- ones
  refine ⟨_, rfl, b, _, rfl, .inl (SqL.of D6.hb), fun o ho => ?_⟩
  have s7 : Same H6 (upd H6 o (.lst (bs.map V.int))) := same_new ho _
  have o7 : upd H6 o (.lst (bs.map V.int)) o = some (.lst (bs.map V.int)) := upd_same
  generalize upd H6 o (.lst (bs.map V.int)) = H7 at s7 o7
  -- own
  refine ⟨_, rfl, _, rfl, _, rfl, ?_⟩
  intro l1 dx1 nl1 ndx1 nex1
  have s0 : Same H7 (upd (upd H7 dx1 (.own l1)) l1 (.ins cL dx1 [])) := same_upd (same_new ndx1 _) nl1 _
  refine ⟨l1, dx1, lim, pz, o, bs, H7, rfl, upd_same, nl1, s0, s0 _ _ o7, by omega, fun H8 hL8 => ⟨rfl, ?_⟩⟩
  have z1 : (Tr.lst (bs.map Tr.int)).size ≤ 100000 := by
    show 1 + sizes (bs.map Tr.int) ≤ 100000
    rw [sizes_ints]
    omega
  refine ⟨_, rfl, _, rfl, .ref o, .ref b, _, rfl, is_ints (hL8.sa _ _ o7), is_ints (hL8.sa _ _ (s7 _ _ D6.hb)), z1, fun H9 s9 => ⟨_, rfl, ?_⟩⟩
  refine iteF ?_
  obtain ⟨dxl, qb, qp, qr, js, X8⟩ := hL8
  have X9 := X8.same s9
  have o9 := X9.sa _ _ o7
  have i0 : (0 : Int) < (bs.length : Int) := by
    cases bs with
    | nil => exact absurd rfl hbn
    | cons y ys => rw [List.length_cons]; omega
  -- ones[0], append
  refine ⟨_, rfl, o, _, _, _, rfl, rfl, SqL.of o9, at_int (Int.le_refl 0) i0, _, _, rfl, rfl, ?_⟩
  refine ⟨_, rfl, o, _, _, _, rfl, rfl, o9, ix_int (Int.le_refl 0) i0, ?_⟩
  dsimp only
  rw [set_int]
  have hon : (bs.set (0 : Int).toNat (bs.getD (0 : Int).toNat 0 + 5)).length ≤ 12 := by
    rw [List.length_set]
    exact hbf
  generalize bs.set (0 : Int).toNat (bs.getD (0 : Int).toNat 0 + 5) = on at hon
  have X10 := X9.put (o' := .lst (on.map V.int)) o7
  refine ⟨_, rfl, .inl ⟨rfl, _, SqL.of upd_same⟩, o, _, _, rfl, rfl, upd_same, small1000 (by rw [List.length_map]; omega), ?_⟩
  have X11 := X10.put (t := o) (o' := .lst (on.map V.int ++ [V.int 9])) upd_same
  -- kept
  refine ⟨_, rfl, o, _, rfl, .inl (SqL.of upd_same), fun kp hkp => ?_⟩
  have X12 := X11.new (o' := .lst (on.map V.int ++ [V.int 9])) hkp
  have kB := X11.sa.free hkp
  have s76 : Same H6 (upd (upd H7 o (.lst (on.map V.int))) o (.lst (on.map V.int ++ [V.int 9]))) := fun c q e => by
    rw [upd_ne (ne_of_none e ho), upd_ne (ne_of_none e ho)]
    exact s7 _ _ e
  have sF6 : Same H6 (upd (upd (upd H7 o (.lst (on.map V.int))) o (.lst (on.map V.int ++ [V.int 9]))) kp (.lst (on.map V.int ++ [V.int 9]))) := same_upd s76 (s76.free kB) _
  have oF : upd (upd (upd H7 o (.lst (on.map V.int))) o (.lst (on.map V.int ++ [V.int 9]))) kp (.lst (on.map V.int ++ [V.int 9])) o = some (.lst (on.map V.int ++ [V.int 9])) := by
    rw [upd_ne (ne_of_none upd_same kB)]
    exact upd_same
  have kF : upd (upd (upd H7 o (.lst (on.map V.int))) o (.lst (on.map V.int ++ [V.int 9]))) kp (.lst (on.map V.int ++ [V.int 9])) kp = some (.lst (on.map V.int ++ [V.int 9])) := upd_same
  generalize upd (upd (upd H7 o (.lst (on.map V.int))) o (.lst (on.map V.int ++ [V.int 9]))) kp (.lst (on.map V.int ++ [V.int 9])) = F12 at X12 sF6 oF kF
  generalize upd (upd (upd H9 o (.lst (on.map V.int))) o (.lst (on.map V.int ++ [V.int 9]))) kp (.lst (on.map V.int ++ [V.int 9])) = H12 at X12
  have D12 := D6.mono sF6
  have x12 := sF6 _ _ hx
  clear X8 X9 X10 X11 kB hkp s76 sF6 D6 hx s7 o7 o9 ho s9 s0 nl1 ndx1 nex1 z1
  -- mine
  refine ⟨_, rfl, _, rfl, _, rfl, lim, pz, b, bs, rfl, X12.sa _ _ D12.hb, fun d1 q1 a1 H13 s13 hd1 hq1 ha1 l13 => ?_⟩
  obtain ⟨B13, X13, sB13, tB13, oB13⟩ := (X12.same s13).max
  have out12 : ∀ {c : Addr} {o' : HO}, H12 c = none → H13 c = some o' → B13 c = some o' := fun {c o'} n e => oB13 c o' e fun z => by
    obtain ⟨w, e2, _⟩ := X12.there z
    rw [n] at e2
    cases e2
  have l13B : LaneAt B13 d1 q1 a1 (L0 lim pz bs) := l13.keep (fun o e => out12 hd1 e) (fun o e => out12 hq1 e) (fun o e => out12 ha1 e) tB13
  have fd1 := X12.sa.free hd1
  have fq1 := X12.sa.free hq1
  clear out12 oB13 tB13 l13 s13 hd1 hq1 ha1 X12
  -- spare
  refine ⟨(by show 1 ≤ sizeLine; decide), fun n9 hn9 => ?_⟩
  have X14 := X13.new (o' := .lst [.int 9]) hn9
  have s14B : Same B13 (upd B13 n9 (.lst [.int 9])) := same_new (X13.sa.free hn9) _
  have n14 : upd H13 n9 (.lst [.int 9]) n9 = some (.lst (([9] : List Int).map V.int)) := upd_same
  generalize upd H13 n9 (.lst [.int 9]) = H14 at X14 n14
  generalize upd B13 n9 (.lst [.int 9]) = B14 at X14 s14B
  intro l2 dx2 nl2 ndx2 nex2
  have s0 : Same H14 (upd (upd H14 dx2 (.own l2)) l2 (.ins cL dx2 [])) := same_upd (same_new ndx2 _) nl2 _
  refine ⟨l2, dx2, 3, 0, n9, [9], H14, rfl, upd_same, nl2, s0, s0 _ _ n14, by decide, fun H15 hL15 => ⟨rfl, ?_⟩⟩
  have T15 : Two cL cJ B14 H15 l2 (P0 3 0 [9]) l1 (P0 lim pz bs) := ⟨H14, hL15, X14.p⟩
  have l14 := l13B.mono s14B
  have sF14 := sB13.trans s14B
  clear X14 X13 hL15 s0 nl2 ndx2 nex2 n14 hn9 l13B s14B sB13
  -- other
  refine ⟨(by show 1 ≤ sizeLine; decide), fun m9 hm9 => ?_⟩
  have s16 : Same H15 (upd H15 m9 (.lst [.int 9])) := same_new hm9 _
  refine ⟨3, 0, m9, [9], rfl, upd_same, fun d2 q2 a2 H17 s17 hd2 hq2 ha2 l17 => ?_⟩
  obtain ⟨R17, T17, s17R, n17, t17⟩ := T15.lay (s16.trans s17)
  have m2 : LaneAt R17 d2 q2 a2 (L0 3 0 [9]) := l17.keep (fun o e => n17 d2 o e (s16.free hd2)) (fun o e => n17 q2 o e (s16.free hq2)) (fun o e => n17 a2 o e (s16.free ha2)) t17
  have m1 := l14.mono s17R
  have dd : d1 ≠ d2 := ne_of_none (T15.sa _ _ l14.di) (s16.free hd2)
  have qq : q1 ≠ q2 := ne_of_none (T15.sa _ _ l14.pu) (s16.free hq2)
  have fd2 := (sF14.trans T15.sa).free (s16.free hd2)
  have fq2 := (sF14.trans T15.sa).free (s16.free hq2)
  have sF17 := sF14.trans s17R
  clear T15 s17R n17 t17 s16 s17 hd2 hq2 ha2 l17 l14 sF14 hm9
  -- due
  have w0 : ansV (L0 3 0 [9]) (.send 0 2) = .int 0 := by decide +kernel
  refine ⟨_, rfl, (by show 3 ≤ sizeLine; decide), fun p hp => ?_⟩
  have T18 := T17.same (same_new hp (.tup [.str "send", .int 0, .int 2]))
  have p18 : upd H17 p (.tup [.str "send", .int 0, .int 2]) p = some (.tup (Deed.send 0 2).vals) := upd_same
  generalize upd H17 p (.tup [.str "send", .int 0, .int 2]) = H18 at T18 p18
  refine ⟨d2, q2, a2, p, L0 3 0 [9], .send 0 2, rfl, m2.mono T18.sa, p18, True.intro, (L0_ok (by decide)).mono (by decide), (by intro z; cases z), fun a2' H19 f19 ha19 l19 => ?_⟩
  rw [w0]
  obtain ⟨R19, T19, c19⟩ := T18.go (H' := H19) fun b o e n => f19 b o e (fun z => by rw [z, m2.di] at n; cases n) fun z => by rw [z, m2.pu] at n; cases n
  have k19 : ∀ b o, R17 b = some o → b ≠ d2 → b ≠ q2 → R19 b = some o := fun b o e n1 n2 => c19 b o (f19 b o (T18.sa b o e) n1 n2) (.inl (by rw [e]; intro z; cases z))
  obtain ⟨ps1, r1, _⟩ := id m1.ro
  have m1' : LaneAt R19 d1 q1 a1 (L0 lim pz bs) := m1.keep (fun o e => k19 d1 o e dd (ne_of m1.di m2.pu (by intro z; cases z))) (fun o e => k19 q1 o e (ne_of m1.pu m2.di (by intro z; cases z)) qq) (fun o e => k19 a1 o e (ne_of r1 m2.di (by intro z; cases z)) (ne_lists m1.ro m2.pu (by intro z; cases z)))
    fun b xs e => k19 b _ e (ne_of e m2.di (by intro z; cases z)) (ne_of e m2.pu (by intro z; cases z))
  have m2' : LaneAt R19 d2 q2 a2' (ansL (L0 3 0 [9]) (.send 0 2)) := l19.keep (fun o e => c19 d2 o e (.inl (by rw [m2.di]; intro z; cases z))) (fun o e => c19 q2 o e (.inl (by rw [m2.pu]; intro z; cases z)))
    (fun o e => c19 a2' o e (ha19.elim (fun z => .inl (by rw [z]; obtain ⟨ps, h, _⟩ := m2.ro; rw [h]; intro y; cases y)) fun z => .inr (.inl z))) fun b xs e => c19 b _ e (.inr (.inr ⟨xs, rfl⟩))
  have sF19 : Same F12 R19 := fun c o e => k19 c o (sF17 c o e) (fun z => by rw [z, fd2] at e; cases e) (fun z => by rw [z, fq2] at e; cases e)
  clear m1 m2 k19 c19 l19 ha19 f19 T18 T17 p18 hp sF17 r1
  refine ⟨(by show 1 ≤ sizeLine; decide), fun u hu => ?_⟩
  obtain ⟨R20, T20, s20, n20, _⟩ := T19.lay (same_new hu (.lst [.int 0]))
  have u20 := n20 u _ upd_same hu
  have fu := (sF19.trans T19.sa).free hu
  have uq1 : u ≠ q1 := (ne_of_none (T19.sa _ _ m1'.pu) hu).symm
  have uq2 : u ≠ q2 := (ne_of_none (T19.sa _ _ m2'.pu) hu).symm
  clear n20
  generalize upd H19 u (.lst [.int 0]) = H20 at T20
  -- told
  obtain ⟨e2, ok2, few2, pl2⟩ := step_sim (P0_ok (lim := 3) (pz := 0) (bs := [9]) (by decide) (by decide)) (.send 0 2)
  refine ⟨_, rfl, (by show 3 ≤ sizeLine; decide), fun p2 hp2 => ?_⟩
  have T21 := T20.same (same_new hp2 (.tup [.str "send", .int 0, .int 2]))
  have p21 : upd H20 p2 (.tup [.str "send", .int 0, .int 2]) p2 = some (.tup (Deed.send 0 2).vals) := upd_same
  generalize upd H20 p2 (.tup [.str "send", .int 0, .int 2]) = H21 at T21 p21
  obtain ⟨B21, hB1, hB2⟩ := T21
  refine hand_go hB1 p21 True.intro (by decide) (P0_ok (by decide) (by decide)) fun v H22 hL22 hv => ?_
  have hv0 : AsAt H22 v (.int 0) := by
    rw [← w0]
    exact hv
  have ev : v = .int 0 := by
    cases hv0 with
    | yes h _ _ _ => exact absurd h (by decide +kernel)
    | no _ e => exact e
  subst ev
  have T22 : Two cL cJ R20 H22 l2 (stepP (P0 3 0 [9]) (.send 0 2)) l1 (P0 lim pz bs) := ⟨B21, hL22, hB2⟩
  refine ⟨(by show 1 ≤ sizeLine; decide), fun t ht => ?_⟩
  obtain ⟨R23, T23, s23, n23, _⟩ := T22.lay (same_new ht (.lst [.int 0]))
  have t23 := n23 t _ upd_same ht
  clear n23
  have sF20 := sF19.trans s20
  have Ap : Apart F12 u t d1 q1 d2 q2 := ⟨fu, (sF20.trans T22.sa).free ht, fd1, fq1, fd2, fq2, ne_of_none (T22.sa _ _ u20) ht, uq1, uq2, (ne_of_none (T22.sa _ _ (s20 _ _ m1'.pu)) ht).symm, (ne_of_none (T22.sa _ _ (s20 _ _ m2'.pu)) ht).symm, qq, dd⟩
  generalize upd H22 t (.lst [.int 0]) = H23 at T23
  have lo2 : LnOk (1 + 0) (toLn (stepP (P0 3 0 [9]) (.send 0 2))) := by
    rw [e2]
    exact ansL_ok (n := 0) (L0_ok (by decide)) (.send 0 2)
  have N : Next cL cJ F12 H23 l1 (P0 lim pz bs) l2 (stepP (P0 3 0 [9]) (.send 0 2)) u t d1 q1 d2 q2 [.int 0] [.int 0] [.int 0] (L0 lim pz bs) (toLn (stepP (P0 3 0 [9]) (.send 0 2))) :=
    ⟨R23, T23.swap, ⟨a1, a2', sF20.trans s23, s23 _ _ u20, t23, (m1'.mono s20).mono s23, by rw [e2]; exact (m2'.mono s20).mono s23, hbn, (by intro z; have y := congrArg List.length z; rw [show (toLn (stepP (P0 3 0 [9]) (.send 0 2))).purse.length = _ from pl2] at y; cases y), rfl, rfl⟩, ⟨.no (by decide +kernel) rfl, trivial⟩⟩
  clear T23 T22 s23 t23 sF20 fu fd1 fq1 fd2 fq2 uq1 uq2 u20 s20 m1' m2' T20 T19 sF19 hv hv0 hL22 hB1 hB2 p21 hp2 e2 w0 ht hu qq dd
  generalize stepP (P0 3 0 [9]) (.send 0 2) = P2 at N ok2 few2 lo2
  have few2' : P2.jobs.length ≤ 1 + 0 := few2
  have hpl := D12.dsAt.len
  have hdl2 := D12.len
  -- the loop
  refine ⟨_, rfl, r, _, rfl, .inl (SqL.of (N.sF _ _ D12.hr)), _, rfl, by rw [List.length_map]; omega, by rw [List.length_map]; omega, for_range (InvK7 cL cJ F12 a head lim pz ow b r x o l1 kp d1 l2 d2 u t q1 q2 bs ds)
    ⟨P2, [.int 0], none, none, rfl, N, ok2, few2', lo2⟩ ?_ ?_⟩
  · clear N ok2 few2 few2' lo2 P2
    rintro i σ H2 hi ⟨P2, tv, v1, v2, rfl, N, ok2, few2, lo2⟩
    have hil : i < ps.length := by
      rw [List.length_map] at hi
      omega
    have hp : ps[i]? = some ps[i] := List.getElem?_eq_getElem hil
    generalize ps[i] = p at hp
    obtain ⟨dd, g1, g2, g3⟩ := D12.dsAt.get hp
    have dok := D12.ok dd (List.mem_of_getElem? g1)
    have eat : atI (ps.map V.ref) ((0 : Int) + (i : Int)) = some (.ref p) := by
      rw [Int.zero_add]
      exact atI_nat (by rw [List.getElem?_map, hp]; rfl)
    obtain ⟨e1, ok1, few1, pl1⟩ := end_sim (ds.take i) (P0_ok (bs := bs) hlim hpz)
    have e1' : toLn (endP (P0 lim pz bs) (ds.take i)) = endL (L0 lim pz bs) (ds.take i) := e1
    have hlt : (ds.take i).length ≤ 31 := by rw [List.length_take]; omega
    have few1' : (endP (P0 lim pz bs) (ds.take i)).jobs.length ≤ 900 := by
      have : (P0 lim pz bs).jobs.length = 0 := rfl
      omega
    -- the spare
    refine ⟨MidK7 cL cJ F12 a head lim pz ow b r x o l1 kp d1 l2 d2 u t q1 q2 bs ds i, ?_, ?_⟩
    · refine ⟨_, rfl, _, _, rfl, rfl, (by show (0 : Int) < 4; decide), rfl, _, rfl, ?_⟩
      refine ite2 (fun c => ?_) (fun c => ?_)
      · clear c
        obtain ⟨a2, lA, pne, kk⟩ := N.swap.mine Ap.swap
        obtain ⟨z1, z2, z3, z4⟩ := step_sim ok2 dd
        refine ⟨_, rfl, _, rfl, _, rfl, r, _, _, _, rfl, rfl, SqL.of (N.sF _ _ D12.hr), eat, d2, q2, a2, p, toLn P2, dd, rfl, lA, N.sF _ _ g2, dok, lo2.mono (by omega), pne, fun a' H3 f3 ha3 l3 => ?_⟩
        rw [← z1] at l3
        have N3 := (kk a' H3 _ f3 ha3 l3 (fun z => pne (List.length_eq_zero_iff.mp (by rw [show (toLn P2).purse.length = _ from z4.symm]; exact congrArg List.length z)))).swap
        obtain ⟨B, hL, sB, kk2⟩ := N3.flip.own
        refine ⟨_, rfl, _, rfl, _, rfl, r, _, _, _, rfl, rfl, SqL.of (N3.sF _ _ D12.hr), eat, hand_go hL (N3.sF _ _ g2) dok (by omega) ok2 fun v H4 hL4 hv => ?_⟩
        have N4 := (kk2 H4 _ hL4).flip
        refine ⟨_, rfl, due_go (flat_of2 (ans_flat2 _ _)) fun v' H5 s5 hv' => ?_⟩
        refine ⟨v, v', asTr (ansV (toLn P2) dd), rfl, (hv.keep fun b xs e => s5 _ _ e).is (ans_flat2 _ _), hv'.is (ans_flat2 _ _), Nat.le_trans (asTr_size _) (by decide), fun H6 s6 => ⟨_, rfl, ?_⟩⟩
        refine iteF ?_
        exact ⟨stepP P2 dd, tv, _, rfl, N4.same (s5.trans s6), z2, by omega, by rw [z1]; exact (ansL_ok lo2 dd).mono (by omega)⟩
      · exact ⟨P2, tv, _, rfl, N, ok2, by omega, lo2.mono (by omega)⟩
    · clear N ok2 few2 lo2 P2 tv
      rintro σ H3 ⟨P2, tv, v2, rfl, N, ok2, few2, lo2⟩
      obtain ⟨a1, lA, pne, kk⟩ := N.mine Ap
      obtain ⟨hu3, _, al3⟩ := N.lists
      have hal := al3.len
      rw [List.length_cons, ansAll_len] at hal
      -- due
      refine ⟨_, rfl, .inl ⟨rfl, _, SqL.of hu3⟩, _, rfl, _, rfl, _, rfl, r, _, _, _, rfl, rfl, SqL.of (N.sF _ _ D12.hr), eat, d1, q1, a1, p, _, dd, rfl, lA, N.sF _ _ g2, dok, (endL_ok (ds.take i) (L0_ok hbf)).mono (by omega), pne, fun a' H4 f4 ha4 l4 => ?_⟩
      have N4 := kk a' H4 _ f4 ha4 l4 (fun z => by
        have y := endL_purse (L0 lim pz bs) (ds.take i ++ [dd])
        rw [endL_snoc, z] at y
        exact hbn (List.length_eq_zero_iff.mp y.symm))
      obtain ⟨hu4, N5⟩ := N4.due Ap (ansV (endL (L0 lim pz bs) (ds.take i)) dd)
      refine ⟨u, _, _, rfl, rfl, hu4, small1000 (by rw [List.length_cons, ansAll_len]; omega), ?_⟩
      generalize upd H4 u (.lst ((.int 0 :: ansAll (L0 lim pz bs) (ds.take i)) ++ [ansV (endL (L0 lim pz bs) (ds.take i)) dd])) = H5 at N5
      obtain ⟨hu5, ht5, _⟩ := N5.lists
      obtain ⟨B, hL, sB, kk2⟩ := N5.own
      have fin : ∀ v H6, LaneP cL cJ B H6 l1 (stepP (endP (P0 lim pz bs) (ds.take i)) dd) → AsAt H6 v (ansV (toLn (endP (P0 lim pz bs) (ds.take i))) dd) → H6 t = some (.lst tv) ∧
          Next cL cJ F12 (upd H6 t (.lst (tv ++ [v]))) l1 (endP (P0 lim pz bs) (ds.take (i + 1))) l2 P2 u t d1 q1 d2 q2 (.int 0 :: ansAll (L0 lim pz bs) (ds.take (i + 1))) (tv ++ [v]) (.int 0 :: ansAll (L0 lim pz bs) (ds.take (i + 1))) (endL (L0 lim pz bs) (ds.take (i + 1))) (toLn P2) := fun v H6 hL6 hv => by
        obtain ⟨ht6, N8⟩ := (kk2 H6 _ hL6).told Ap hv
        rw [e1'] at N8
        rw [take_snoc g1, endP_snoc, ansAll_snoc, endL_snoc]
        exact ⟨ht6, N8⟩
      -- told
      refine ⟨_, rfl, _, _, rfl, rfl, (by show (0 : Int) < 3; decide), rfl, _, rfl, ?_⟩
      refine ite2 (fun c => ?_) (fun c => ?_)
      · refine ⟨_, rfl, .inl ⟨rfl, _, SqL.of ht5⟩, _, rfl, _, rfl, _, rfl, r, _, _, _, rfl, rfl, SqL.of (N5.sF _ _ D12.hr), eat, _, rfl, _, rfl, u, _, _, _, rfl, rfl, SqL.of hu5, at_last _ _, l1, p, B, _, dd, by rw [e1']; rfl, hL, N5.sF _ _ g2, dok, few1', ok1, fun v H6 hL6 hv => ?_⟩
        obtain ⟨ht6, N8⟩ := fin v H6 hL6 hv
        exact ⟨t, _, _, rfl, rfl, ht6, small1000 (by omega), P2, _, _, _, rfl, N8, ok2, by omega, lo2.mono (by omega)⟩
      · refine ⟨_, rfl, .inl ⟨rfl, _, SqL.of ht5⟩, _, rfl, _, rfl, _, rfl, r, _, _, _, rfl, rfl, SqL.of (N5.sF _ _ D12.hr), eat, hand_go hL (N5.sF _ _ g2) dok few1' ok1 fun v H6 hL6 hv => ?_⟩
        obtain ⟨ht6, N8⟩ := fin v H6 hL6 hv
        exact ⟨t, _, _, rfl, rfl, ht6, small1000 (by omega), P2, _, _, _, rfl, N8, ok2, by omega, lo2.mono (by omega)⟩
  · clear N ok2 few2 few2' lo2 P2
    rintro σ H2 ⟨P2, tv, v1, v2, rfl, N, ok2, few2, lo2⟩
    have en : (((ps.map V.ref).length : Nat) : Int).toNat = ds.length := by
      rw [List.length_map, hpl]
      exact Int.toNat_natCast _
    rw [en] at few2 lo2
    rw [en, List.take_length] at N
    have dv2 : (V.int 0 :: ansAll (L0 lim pz bs) ds).all flat2 = true := by
      rw [List.all_cons, ansAll_flat]
      rfl
    -- ones, kept
    have fo : (on.map V.int ++ [V.int 9]).all flat2 = true := by
      rw [List.all_append]
      simp [flat2]
    refine ⟨_, rfl, _, rfl, .ref o, .ref kp, .lst ((on.map V.int ++ [V.int 9]).map trV), rfl, ⟨o, _, rfl, N.sF _ _ oF, is_flat fo⟩, ⟨kp, _, rfl, N.sF _ _ kF, is_flat fo⟩, ?_, fun H3 s3 => ⟨_, rfl, ?_⟩⟩
    · show 1 + sizes _ ≤ 100000
      rw [sizes_flat, List.length_append, List.length_map]
      show 1 + (on.length + 1) ≤ 100000
      omega
    refine iteF ?_
    replace N := N.same s3
    clear s3
    obtain ⟨hu3, ht3, al3⟩ := N.lists
    -- told against due
    refine ⟨_, rfl, _, rfl, u, rfl, ⟨_, SqL.of hu3⟩, fun cu hcu => ?_⟩
    have ncu : u ≠ cu := ne_of_none hu3 hcu
    refine comp_list (K := K) (a := u) (ys := .int 0 :: ansAll (L0 lim pz bs) ds) (tc := tAny) (te := tCall spAsDue [] E0 (tCons (tVar 0) tNil)) (cs := [])
      (InvDues H3 cu (.int 0 :: ansAll (L0 lim pz bs) ds)) ⟨same_new hcu _, upd_same, trivial⟩ (fun i xs H' z => by obtain ⟨s, h, _⟩ := z; exact ⟨h, SqL.of (s _ _ hu3)⟩) ?_
      (fun _ _ _ _ h q => h _ _ q) (fun σ H2 Q Q' h z => by obtain ⟨v, e, x⟩ := z; exact ⟨v, e, spAsDue_mono (E := E0) h x⟩) ?_
    · rintro i y xs H' hi ⟨s4, hc4, al4⟩
      have fy : flat2 y = true := List.all_eq_true.mp dv2 y (List.mem_of_getElem? hi)
      have hal := al4.len
      rw [List.length_take] at hal
      refine ⟨_, rfl, due_go (flat_of2 fy) fun v' H5 s5 hv' => ⟨s5 _ _ hc4, small1000 (by rw [List.length_cons, ansAll_len] at hal; omega), ?_⟩⟩
      have cu0 : H3 cu = none := hcu
      refine ⟨same_upd (s4.trans s5) cu0 _, upd_same, ?_⟩
      rw [take_snoc hi]
      have kt : ∀ b xs', H5 b = some (.tup xs') → upd H5 cu (.lst (xs ++ [v'])) b = some (.tup xs') := fun b xs' e => by rw [upd_ne (ne_of e (s5 _ _ hc4) (by intro z; cases z))]; exact e
      exact AllAs.snoc (hv'.keep kt) (al4.keep fun b xs' e => kt b xs' (s5 _ _ e))
    · rintro xs H4 ⟨s4, hc4, al4⟩
      rw [List.take_length] at al4
      refine ⟨.ref t, .ref cu, .lst ((.int 0 :: ansAll (L0 lim pz bs) ds).map asTr), rfl, ⟨t, _, rfl, s4 _ _ ht3, (al3.keep fun b xs e => s4 _ _ e).is dv2⟩, ⟨cu, _, rfl, hc4, al4.is dv2⟩, ?_, fun H5 s5 => ⟨_, rfl, ?_⟩⟩
      · show 1 + sizes _ ≤ 100000
        have y := sizes_as (.int 0 :: ansAll (L0 lim pz bs) ds)
        rw [List.length_cons, ansAll_len] at y
        omega
      refine iteF ?_
      replace N := N.same (s4.trans s5)
      clear s4 hc4 al4 s5 hu3 ht3 al3
      -- the spare's last deed
      refine ⟨_, rfl, (by show 2 ≤ sizeLine; decide), fun p hp => ?_⟩
      replace N := N.same (same_new hp (.tup [.str "run", .int 1]))
      have p6 : upd H5 p (.tup [.str "run", .int 1]) p = some (.tup (Deed.run 1).vals) := upd_same
      generalize upd H5 p (.tup [.str "run", .int 1]) = H6 at N p6
      obtain ⟨B, hL, sB, kk2⟩ := N.flip.own
      refine hand_go hL p6 ⟨by decide, by decide⟩ (by omega) ok2 fun v H7 hL7 hv => ?_
      replace N := (kk2 H7 _ hL7).flip
      refine ⟨_, rfl, (by show 2 ≤ sizeLine; decide), fun p' hp' => ?_⟩
      have hv8 := hv.keep (H' := upd H7 p' (.tup [.str "run", .int 1])) fun b xs e => same_new hp' _ _ _ e
      replace N := N.same (same_new hp' (.tup [.str "run", .int 1]))
      have p8 : upd H7 p' (.tup [.str "run", .int 1]) p' = some (.tup (Deed.run 1).vals) := upd_same
      generalize upd H7 p' (.tup [.str "run", .int 1]) = H8 at N p8 hv8
      obtain ⟨a2, lA, pne, kk⟩ := N.swap.mine Ap.swap
      refine ⟨d2, q2, a2, p', toLn P2, .run 1, rfl, lA, p8, ⟨by decide, by decide⟩, lo2.mono (by omega), pne, fun a' H9 f9 ha9 l9 => ?_⟩
      obtain ⟨z1, _, _, z4⟩ := step_sim ok2 (.run 1)
      rw [← z1] at l9
      have N9 := (kk a' H9 _ f9 ha9 l9 (fun z => pne (List.length_eq_zero_iff.mp (by rw [show (toLn P2).purse.length = _ from z4.symm]; exact congrArg List.length z)))).swap
      have hv9 := hv8.keep (H' := H9) fun b xs e => f9 b _ e (ne_of e lA.di (by intro z; cases z)) (ne_of e lA.pu (by intro z; cases z))
      refine ⟨v, _, asTr (ansV (toLn P2) (.run 1)), rfl, hv9.is (ans_flat2 _ _), (AsAt.no (ans_done rfl) rfl : AsAt H9 _ _).is (ans_flat2 _ _), Nat.le_trans (asTr_size _) (by decide), fun H10 s10 => ⟨_, rfl, ?_⟩⟩
      refine iteF ?_
      replace N9 := N9.same s10
      obtain ⟨hu10, _, _⟩ := N9.lists
      have x10 := N9.sF _ _ x12
      -- found
      refine ⟨_, rfl, _, _, _, _, rfl, TyOf.lst x10, k_list_list _, _, rfl, ?_⟩
      refine iteT ?_
      refine ⟨_, rfl, _, rfl, _, rfl, u, _, rfl, SqL.of hu10, fun sl hsl => ?_⟩
      rw [cut1]
      refine ⟨.ref x, .ref sl, .lst ((ansAll (L0 lim pz bs) ds).map trV), rfl, ⟨x, _, rfl, same_new hsl _ _ _ x10, is_flat (ansAll_flat _ _)⟩, ⟨sl, _, rfl, upd_same, is_flat (ansAll_flat _ _)⟩, ?_, fun Hz _ => k Hz⟩
      show 1 + sizes _ ≤ 100000
      rw [sizes_flat, ansAll_len]
      omega
end

theorem all_mk {l : PySem.W.OpenLaw} {w : World} {K : PySem.W.Frag} {h : Heap} {mg : Str → Option Value} {fa : Addr} (X : K.In h) (G : h.Ns mainGlobals mg) (hfa : mg "law" = some (.ref fa))
    {f0 : Addr} {od0 an0 : Option Addr} {sl0 : Array (Option Value)} {oc0 kV0 dc0 pm0 cd0 ct0 : Value}
    {f1 : Addr} {od1 an1 : Option Addr} {sl1 : Array (Option Value)} {oc1 kV1 dc1 pm1 cd1 ct1 : Value}
    {f2 : Addr} {od2 an2 : Option Addr} {sl2 : Array (Option Value)} {oc2 kV2 dc2 pm2 cd2 ct2 : Value}
    {f3 : Addr} {od3 an3 : Option Addr} {sl3 : Array (Option Value)} {oc3 kV3 dc3 pm3 cd3 ct3 : Value}
    {f4 : Addr} {od4 an4 : Option Addr} {sl4 : Array (Option Value)} {oc4 kV4 dc4 pm4 cd4 ct4 : Value}
    {f5 : Addr} {od5 an5 : Option Addr} {sl5 : Array (Option Value)} {oc5 kV5 dc5 pm5 cd5 ct5 : Value}
    {f6 : Addr} {od6 an6 : Option Addr} {sl6 : Array (Option Value)} {oc6 kV6 dc6 pm6 cd6 ct6 : Value}
    {f7 : Addr} {od7 an7 : Option Addr} {sl7 : Array (Option Value)} {oc7 kV7 dc7 pm7 cd7 ct7 : Value}
    {f8 : Addr} {od8 an8 : Option Addr} {sl8 : Array (Option Value)} {oc8 kV8 dc8 pm8 cd8 ct8 : Value}
    {f9 : Addr} {od9 an9 : Option Addr} {sl9 : Array (Option Value)} {oc9 kV9 dc9 pm9 cd9 ct9 : Value}
    {f10 : Addr} {od10 an10 : Option Addr} {sl10 : Array (Option Value)} {oc10 kV10 dc10 pm10 cd10 ct10 : Value}
    {f11 : Addr} {od11 an11 : Option Addr} {sl11 : Array (Option Value)} {oc11 kV11 dc11 pm11 cd11 ct11 : Value}
    {f12 : Addr} {od12 an12 : Option Addr} {sl12 : Array (Option Value)} {oc12 kV12 dc12 pm12 cd12 ct12 : Value}
    {f13 : Addr} {od13 an13 : Option Addr} {sl13 : Array (Option Value)} {oc13 kV13 dc13 pm13 cd13 ct13 : Value}
    {f14 : Addr} {od14 an14 : Option Addr} {sl14 : Array (Option Value)} {oc14 kV14 dc14 pm14 cd14 ct14 : Value}
    {f15 : Addr} {od15 an15 : Option Addr} {sl15 : Array (Option Value)} {oc15 kV15 dc15 pm15 cd15 ct15 : Value}
    {f16 : Addr} {od16 an16 : Option Addr} {sl16 : Array (Option Value)} {oc16 kV16 dc16 pm16 cd16 ct16 : Value}
    {f17 : Addr} {od17 an17 : Option Addr} {sl17 : Array (Option Value)} {oc17 kV17 dc17 pm17 cd17 ct17 : Value}
    {f18 : Addr} {od18 an18 : Option Addr} {sl18 : Array (Option Value)} {oc18 kV18 dc18 pm18 cd18 ct18 : Value}
    {f19 : Addr} {od19 an19 : Option Addr} {sl19 : Array (Option Value)} {oc19 kV19 dc19 pm19 cd19 ct19 : Value}
    {f20 : Addr} {od20 an20 : Option Addr} {sl20 : Array (Option Value)} {oc20 kV20 dc20 pm20 cd20 ct20 : Value}
    {f21 : Addr} {od21 an21 : Option Addr} {sl21 : Array (Option Value)} {oc21 kV21 dc21 pm21 cd21 ct21 : Value}
    {CL : Addr}
    {CJ : Addr}
    {g0 : Addr} {md0 mn0 : Option Addr} {ms0 : Array (Option Value)} {mc0 mk0 me0 mp0 mq0 mt0 : Value}
    {g1 : Addr} {md1 mn1 : Option Addr} {ms1 : Array (Option Value)} {mc1 mk1 me1 mp1 mq1 mt1 : Value}
    {g2 : Addr} {md2 mn2 : Option Addr} {ms2 : Array (Option Value)} {mc2 mk2 me2 mp2 mq2 mt2 : Value}
    {g3 : Addr} {md3 mn3 : Option Addr} {ms3 : Array (Option Value)} {mc3 mk3 me3 mp3 mq3 mt3 : Value}
    {g4 : Addr} {md4 mn4 : Option Addr} {ms4 : Array (Option Value)} {mc4 mk4 me4 mp4 mq4 mt4 : Value}
    {g5 : Addr} {md5 mn5 : Option Addr} {ms5 : Array (Option Value)} {mc5 mk5 me5 mp5 mq5 mt5 : Value}
    {g6 : Addr} {md6 mn6 : Option Addr} {ms6 : Array (Option Value)} {mc6 mk6 me6 mp6 mq6 mt6 : Value}
    {g7 : Addr} {md7 mn7 : Option Addr} {ms7 : Array (Option Value)} {mc7 mk7 me7 mp7 mq7 mt7 : Value}
    {g8 : Addr} {md8 mn8 : Option Addr} {ms8 : Array (Option Value)} {mc8 mk8 me8 mp8 mq8 mt8 : Value}
    {g9 : Addr} {md9 mn9 : Option Addr} {ms9 : Array (Option Value)} {mc9 mk9 me9 mp9 mq9 mt9 : Value}
    {g10 : Addr} {md10 mn10 : Option Addr} {ms10 : Array (Option Value)} {mc10 mk10 me10 mp10 mq10 mt10 : Value}
    {g11 : Addr} {md11 mn11 : Option Addr} {ms11 : Array (Option Value)} {mc11 mk11 me11 mp11 mq11 mt11 : Value}
    {e0 : Addr}
    {e1 : Addr}
    {e2 : Addr}
    {e3 : Addr}
    {eL : Addr}
    (a0 : PySem.W.nsIn K mainGlobals "ticked" = some (some (.ref f0)))
    (l0 : K.lookup f0 = some ⟨oc0, od0, .func (PySem.W.fnOf "ticked" "ticked" (defArgs sTicked) (defBody sTicked) (defScope sTicked) .none kV0 dc0 pm0 an0 cd0 ct0), sl0⟩)
    (c0 : PySem.W.codeIn K cd0 "ticked" = true)
    (k0 : PySem.W.keepIn K (.ref f0) = true)
    (a1 : PySem.W.nsIn K mainGlobals "rested" = some (some (.ref f1)))
    (l1 : K.lookup f1 = some ⟨oc1, od1, .func (PySem.W.fnOf "rested" "rested" (defArgs sRested) (defBody sRested) (defScope sRested) .none kV1 dc1 pm1 an1 cd1 ct1), sl1⟩)
    (c1 : PySem.W.codeIn K cd1 "rested" = true)
    (k1 : PySem.W.keepIn K (.ref f1) = true)
    (a2 : PySem.W.nsIn K mainGlobals "printed" = some (some (.ref f2)))
    (l2 : K.lookup f2 = some ⟨oc2, od2, .func (PySem.W.fnOf "printed" "printed" (defArgs sPrinted) (defBody sPrinted) (defScope sPrinted) .none kV2 dc2 pm2 an2 cd2 ct2), sl2⟩)
    (c2 : PySem.W.codeIn K cd2 "printed" = true)
    (k2 : PySem.W.keepIn K (.ref f2) = true)
    (a3 : PySem.W.nsIn K mainGlobals "answered" = some (some (.ref f3)))
    (l3 : K.lookup f3 = some ⟨oc3, od3, .func (PySem.W.fnOf "answered" "answered" (defArgs sPAnswered) (defBody sPAnswered) (defScope sPAnswered) .none kV3 dc3 pm3 an3 cd3 ct3), sl3⟩)
    (c3 : PySem.W.codeIn K cd3 "answered" = true)
    (k3 : PySem.W.keepIn K (.ref f3) = true)
    (a4 : PySem.W.nsIn K mainGlobals "done" = some (some (.ref f4)))
    (l4 : K.lookup f4 = some ⟨oc4, od4, .func (PySem.W.fnOf "done" "done" (defArgs sDone) (defBody sDone) (defScope sDone) .none kV4 dc4 pm4 an4 cd4 ct4), sl4⟩)
    (c4 : PySem.W.codeIn K cd4 "done" = true)
    (k4 : PySem.W.keepIn K (.ref f4) = true)
    (a5 : PySem.W.nsIn K mainGlobals "answers" = some (some (.ref f5)))
    (l5 : K.lookup f5 = some ⟨oc5, od5, .func (PySem.W.fnOf "answers" "answers" (defArgs sAnswers) (defBody sAnswers) (defScope sAnswers) .none kV5 dc5 pm5 an5 cd5 ct5), sl5⟩)
    (c5 : PySem.W.codeIn K cd5 "answers" = true)
    (k5 : PySem.W.keepIn K (.ref f5) = true)
    (a6 : PySem.W.nsIn K mainGlobals "_law_whole" = some (some (.ref f6)))
    (l6 : K.lookup f6 = some ⟨oc6, od6, .func (PySem.W.fnOf "_law_whole" "_law_whole" (defArgs sWhole) (defBody sWhole) (defScope sWhole) .none kV6 dc6 pm6 an6 cd6 ct6), sl6⟩)
    (c6 : PySem.W.codeIn K cd6 "_law_whole" = true)
    (k6 : PySem.W.keepIn K (.ref f6) = true)
    (a7 : PySem.W.nsIn K mainGlobals "_law_at" = some (some (.ref f7)))
    (l7 : K.lookup f7 = some ⟨oc7, od7, .func (PySem.W.fnOf "_law_at" "_law_at" (defArgs sAt) (defBody sAt) (defScope sAt) .none kV7 dc7 pm7 an7 cd7 ct7), sl7⟩)
    (c7 : PySem.W.codeIn K cd7 "_law_at" = true)
    (k7 : PySem.W.keepIn K (.ref f7) = true)
    (a8 : PySem.W.nsIn K mainGlobals "_law_deeds" = some (some (.ref f8)))
    (l8 : K.lookup f8 = some ⟨oc8, od8, .func (PySem.W.fnOf "_law_deeds" "_law_deeds" (defArgs sDeeds) (defBody sDeeds) (defScope sDeeds) .none kV8 dc8 pm8 an8 cd8 ct8), sl8⟩)
    (c8 : PySem.W.codeIn K cd8 "_law_deeds" = true)
    (k8 : PySem.W.keepIn K (.ref f8) = true)
    (a9 : PySem.W.nsIn K mainGlobals "_law_budgets_of" = some (some (.ref f9)))
    (l9 : K.lookup f9 = some ⟨oc9, od9, .func (PySem.W.fnOf "_law_budgets_of" "_law_budgets_of" (defArgs sBudgets) (defBody sBudgets) (defScope sBudgets) .none kV9 dc9 pm9 an9 cd9 ct9), sl9⟩)
    (c9 : PySem.W.codeIn K cd9 "_law_budgets_of" = true)
    (k9 : PySem.W.keepIn K (.ref f9) = true)
    (a10 : PySem.W.nsIn K mainGlobals "_law_refusal_of" = some (some (.ref f10)))
    (l10 : K.lookup f10 = some ⟨oc10, od10, .func (PySem.W.fnOf "_law_refusal_of" "_law_refusal_of" (defArgs sRefusal) (defBody sRefusal) (defScope sRefusal) .none kV10 dc10 pm10 an10 cd10 ct10), sl10⟩)
    (c10 : PySem.W.codeIn K cd10 "_law_refusal_of" = true)
    (k10 : PySem.W.keepIn K (.ref f10) = true)
    (a11 : PySem.W.nsIn K mainGlobals "_law_printed" = some (some (.ref f11)))
    (l11 : K.lookup f11 = some ⟨oc11, od11, .func (PySem.W.fnOf "_law_printed" "_law_printed" (defArgs sLPrinted) (defBody sLPrinted) (defScope sLPrinted) .none kV11 dc11 pm11 an11 cd11 ct11), sl11⟩)
    (c11 : PySem.W.codeIn K cd11 "_law_printed" = true)
    (k11 : PySem.W.keepIn K (.ref f11) = true)
    (a12 : PySem.W.nsIn K mainGlobals "_law_did" = some (some (.ref f12)))
    (l12 : K.lookup f12 = some ⟨oc12, od12, .func (PySem.W.fnOf "_law_did" "_law_did" (defArgs sDid) (defBody sDid) (defScope sDid) .none kV12 dc12 pm12 an12 cd12 ct12), sl12⟩)
    (c12 : PySem.W.codeIn K cd12 "_law_did" = true)
    (k12 : PySem.W.keepIn K (.ref f12) = true)
    (a13 : PySem.W.nsIn K mainGlobals "_law_lane_of" = some (some (.ref f13)))
    (l13 : K.lookup f13 = some ⟨oc13, od13, .func (PySem.W.fnOf "_law_lane_of" "_law_lane_of" (defArgs sLaneOf) (defBody sLaneOf) (defScope sLaneOf) .none kV13 dc13 pm13 an13 cd13 ct13), sl13⟩)
    (c13 : PySem.W.codeIn K cd13 "_law_lane_of" = true)
    (k13 : PySem.W.keepIn K (.ref f13) = true)
    (a14 : PySem.W.nsIn K mainGlobals "_law_tick_in" = some (some (.ref f14)))
    (l14 : K.lookup f14 = some ⟨oc14, od14, .func (PySem.W.fnOf "_law_tick_in" "_law_tick_in" (defArgs sTickIn) (defBody sTickIn) (defScope sTickIn) .none kV14 dc14 pm14 an14 cd14 ct14), sl14⟩)
    (c14 : PySem.W.codeIn K cd14 "_law_tick_in" = true)
    (k14 : PySem.W.keepIn K (.ref f14) = true)
    (a15 : PySem.W.nsIn K mainGlobals "_law_answered" = some (some (.ref f15)))
    (l15 : K.lookup f15 = some ⟨oc15, od15, .func (PySem.W.fnOf "_law_answered" "_law_answered" (defArgs sAnswered) (defBody sAnswered) (defScope sAnswered) .none kV15 dc15 pm15 an15 cd15 ct15), sl15⟩)
    (c15 : PySem.W.codeIn K cd15 "_law_answered" = true)
    (k15 : PySem.W.keepIn K (.ref f15) = true)
    (a16 : PySem.W.nsIn K mainGlobals "_law_done" = some (some (.ref f16)))
    (l16 : K.lookup f16 = some ⟨oc16, od16, .func (PySem.W.fnOf "_law_done" "_law_done" (defArgs sLDone) (defBody sLDone) (defScope sLDone) .none kV16 dc16 pm16 an16 cd16 ct16), sl16⟩)
    (c16 : PySem.W.codeIn K cd16 "_law_done" = true)
    (k16 : PySem.W.keepIn K (.ref f16) = true)
    (a17 : PySem.W.nsIn K mainGlobals "_law_by_any" = some (some (.ref f17)))
    (l17 : K.lookup f17 = some ⟨oc17, od17, .func (PySem.W.fnOf "_law_by_any" "_law_by_any" (defArgs sByAny) (defBody sByAny) (defScope sByAny) .none kV17 dc17 pm17 an17 cd17 ct17), sl17⟩)
    (c17 : PySem.W.codeIn K cd17 "_law_by_any" = true)
    (k17 : PySem.W.keepIn K (.ref f17) = true)
    (a18 : PySem.W.nsIn K mainGlobals "_law_by_hand" = some (some (.ref f18)))
    (l18 : K.lookup f18 = some ⟨oc18, od18, .func (PySem.W.fnOf "_law_by_hand" "_law_by_hand" (defArgs sByHand) (defBody sByHand) (defScope sByHand) .none kV18 dc18 pm18 an18 cd18 ct18), sl18⟩)
    (c18 : PySem.W.codeIn K cd18 "_law_by_hand" = true)
    (k18 : PySem.W.keepIn K (.ref f18) = true)
    (a19 : PySem.W.nsIn K mainGlobals "_law_as_due" = some (some (.ref f19)))
    (l19 : K.lookup f19 = some ⟨oc19, od19, .func (PySem.W.fnOf "_law_as_due" "_law_as_due" (defArgs sAsDue) (defBody sAsDue) (defScope sAsDue) .none kV19 dc19 pm19 an19 cd19 ct19), sl19⟩)
    (c19 : PySem.W.codeIn K cd19 "_law_as_due" = true)
    (k19 : PySem.W.keepIn K (.ref f19) = true)
    (a20 : PySem.W.nsIn K mainGlobals "_law_alike" = some (some (.ref f20)))
    (l20 : K.lookup f20 = some ⟨oc20, od20, .func (PySem.W.fnOf "_law_alike" "_law_alike" (defArgs sAlike) (defBody sAlike) (defScope sAlike) .none kV20 dc20 pm20 an20 cd20 ct20), sl20⟩)
    (c20 : PySem.W.codeIn K cd20 "_law_alike" = true)
    (k20 : PySem.W.keepIn K (.ref f20) = true)
    (a21 : PySem.W.nsIn K mainGlobals "law" = some (some (.ref f21)))
    (l21 : K.lookup f21 = some ⟨oc21, od21, .func (PySem.W.fnOf "law" "law" (defArgs sLaw) (defBody sLaw) (defScope sLaw) .none kV21 dc21 pm21 an21 cd21 ct21), sl21⟩)
    (c21 : PySem.W.codeIn K cd21 "law" = true)
    (k21 : PySem.W.keepIn K (.ref f21) = true)
    (nCL : PySem.W.nsIn K mainGlobals "Lane" = some (some (.ref CL)))
    (pgCL : PySem.W.plainGet K CL Str.empty = true)
    (hdCL : PySem.W.hasDictIn K CL = true)
    (poCL : PySem.W.plainOver K CL = true)
    (saCL : PySem.W.findIn K (.ref CL) "__setattr__" = some (some (.builtin "object.__setattr__")))
    (mkCL : PySem.W.makesIn K CL = true)
    (kcCL : PySem.W.keepIn K (.ref CL) = true)
    (naCLlimit : PySem.W.findIn K (.ref CL) "limit" = some none)
    (naCLpause : PySem.W.findIn K (.ref CL) "pause" = some none)
    (naCLbudgets : PySem.W.findIn K (.ref CL) "budgets" = some none)
    (naCLprinted : PySem.W.findIn K (.ref CL) "printed" = some none)
    (naCLrow : PySem.W.findIn K (.ref CL) "row" = some none)
    (naCLsent : PySem.W.findIn K (.ref CL) "sent" = some none)
    (naCLhot : PySem.W.findIn K (.ref CL) "hot" = some none)
    (naCLresting : PySem.W.findIn K (.ref CL) "resting" = some none)
    (nCJ : PySem.W.nsIn K mainGlobals "Job" = some (some (.ref CJ)))
    (pgCJ : PySem.W.plainGet K CJ Str.empty = true)
    (hdCJ : PySem.W.hasDictIn K CJ = true)
    (poCJ : PySem.W.plainOver K CJ = true)
    (saCJ : PySem.W.findIn K (.ref CJ) "__setattr__" = some (some (.builtin "object.__setattr__")))
    (mkCJ : PySem.W.makesIn K CJ = true)
    (kcCJ : PySem.W.keepIn K (.ref CJ) = true)
    (naCJnumber : PySem.W.findIn K (.ref CJ) "number" = some none)
    (naCJowner : PySem.W.findIn K (.ref CJ) "owner" = some none)
    (naCJpages : PySem.W.findIn K (.ref CJ) "pages" = some none)
    (naCJprinted : PySem.W.findIn K (.ref CJ) "printed" = some none)
    (ma0 : PySem.W.findIn K (.ref CJ) "__init__" = some (some (.ref g0)))
    (mi0 : PySem.W.isFn K (.ref g0) = true)
    (ml0 : K.lookup g0 = some ⟨mc0, md0, .func (PySem.W.fnOf "__init__" "Job.__init__" (defArgs sJInit) (defBody sJInit) (defScope sJInit) .none mk0 me0 mp0 mn0 mq0 mt0), ms0⟩)
    (mo0 : PySem.W.codeIn K mq0 "Job.__init__" = true)
    (mx0 : PySem.W.keepIn K (.ref g0) = true)
    (ma1 : PySem.W.findIn K (.ref CJ) "left" = some (some (.ref g1)))
    (mi1 : PySem.W.isFn K (.ref g1) = true)
    (ml1 : K.lookup g1 = some ⟨mc1, md1, .func (PySem.W.fnOf "left" "Job.left" (defArgs sLeft) (defBody sLeft) (defScope sLeft) .none mk1 me1 mp1 mn1 mq1 mt1), ms1⟩)
    (mo1 : PySem.W.codeIn K mq1 "Job.left" = true)
    (mx1 : PySem.W.keepIn K (.ref g1) = true)
    (ma2 : PySem.W.findIn K (.ref CL) "__init__" = some (some (.ref g2)))
    (mi2 : PySem.W.isFn K (.ref g2) = true)
    (ml2 : K.lookup g2 = some ⟨mc2, md2, .func (PySem.W.fnOf "__init__" "Lane.__init__" (defArgs sLInit) (defBody sLInit) (defScope sLInit) .none mk2 me2 mp2 mn2 mq2 mt2), ms2⟩)
    (mo2 : PySem.W.codeIn K mq2 "Lane.__init__" = true)
    (mx2 : PySem.W.keepIn K (.ref g2) = true)
    (ma3 : PySem.W.findIn K (.ref CL) "send" = some (some (.ref g3)))
    (mi3 : PySem.W.isFn K (.ref g3) = true)
    (ml3 : K.lookup g3 = some ⟨mc3, md3, .func (PySem.W.fnOf "send" "Lane.send" (defArgs sSend) (defBody sSend) (defScope sSend) .none mk3 me3 mp3 mn3 mq3 mt3), ms3⟩)
    (mo3 : PySem.W.codeIn K mq3 "Lane.send" = true)
    (mx3 : PySem.W.keepIn K (.ref g3) = true)
    (ma4 : PySem.W.findIn K (.ref CL) "stop" = some (some (.ref g4)))
    (mi4 : PySem.W.isFn K (.ref g4) = true)
    (ml4 : K.lookup g4 = some ⟨mc4, md4, .func (PySem.W.fnOf "stop" "Lane.stop" (defArgs sStop) (defBody sStop) (defScope sStop) .none mk4 me4 mp4 mn4 mq4 mt4), ms4⟩)
    (mo4 : PySem.W.codeIn K mq4 "Lane.stop" = true)
    (mx4 : PySem.W.keepIn K (.ref g4) = true)
    (ma5 : PySem.W.findIn K (.ref CL) "run" = some (some (.ref g5)))
    (mi5 : PySem.W.isFn K (.ref g5) = true)
    (ml5 : K.lookup g5 = some ⟨mc5, md5, .func (PySem.W.fnOf "run" "Lane.run" (defArgs sRun) (defBody sRun) (defScope sRun) .none mk5 me5 mp5 mn5 mq5 mt5), ms5⟩)
    (mo5 : PySem.W.codeIn K mq5 "Lane.run" = true)
    (mx5 : PySem.W.keepIn K (.ref g5) = true)
    (ma6 : PySem.W.findIn K (.ref CL) "grant" = some (some (.ref g6)))
    (mi6 : PySem.W.isFn K (.ref g6) = true)
    (ml6 : K.lookup g6 = some ⟨mc6, md6, .func (PySem.W.fnOf "grant" "Lane.grant" (defArgs sGrant) (defBody sGrant) (defScope sGrant) .none mk6 me6 mp6 mn6 mq6 mt6), ms6⟩)
    (mo6 : PySem.W.codeIn K mq6 "Lane.grant" = true)
    (mx6 : PySem.W.keepIn K (.ref g6) = true)
    (ma7 : PySem.W.findIn K (.ref CL) "ticks" = some (some (.ref g7)))
    (mi7 : PySem.W.isFn K (.ref g7) = true)
    (ml7 : K.lookup g7 = some ⟨mc7, md7, .func (PySem.W.fnOf "ticks" "Lane.ticks" (defArgs sTicks) (defBody sTicks) (defScope sTicks) .none mk7 me7 mp7 mn7 mq7 mt7), ms7⟩)
    (mo7 : PySem.W.codeIn K mq7 "Lane.ticks" = true)
    (mx7 : PySem.W.keepIn K (.ref g7) = true)
    (ma8 : PySem.W.findIn K (.ref CL) "check_owner" = some (some (.ref g8)))
    (mi8 : PySem.W.isFn K (.ref g8) = true)
    (ml8 : K.lookup g8 = some ⟨mc8, md8, .func (PySem.W.fnOf "check_owner" "Lane.check_owner" (defArgs sCheck) (defBody sCheck) (defScope sCheck) .none mk8 me8 mp8 mn8 mq8 mt8), ms8⟩)
    (mo8 : PySem.W.codeIn K mq8 "Lane.check_owner" = true)
    (mx8 : PySem.W.keepIn K (.ref g8) = true)
    (ma9 : PySem.W.findIn K (.ref CL) "place" = some (some (.ref g9)))
    (mi9 : PySem.W.isFn K (.ref g9) = true)
    (ml9 : K.lookup g9 = some ⟨mc9, md9, .func (PySem.W.fnOf "place" "Lane.place" (defArgs sPlace) (defBody sPlace) (defScope sPlace) .none mk9 me9 mp9 mn9 mq9 mt9), ms9⟩)
    (mo9 : PySem.W.codeIn K mq9 "Lane.place" = true)
    (mx9 : PySem.W.keepIn K (.ref g9) = true)
    (ma10 : PySem.W.findIn K (.ref CL) "tick" = some (some (.ref g10)))
    (mi10 : PySem.W.isFn K (.ref g10) = true)
    (ml10 : K.lookup g10 = some ⟨mc10, md10, .func (PySem.W.fnOf "tick" "Lane.tick" (defArgs sTickM) (defBody sTickM) (defScope sTickM) .none mk10 me10 mp10 mn10 mq10 mt10), ms10⟩)
    (mo10 : PySem.W.codeIn K mq10 "Lane.tick" = true)
    (mx10 : PySem.W.keepIn K (.ref g10) = true)
    (ma11 : PySem.W.findIn K (.ref CL) "print_page" = some (some (.ref g11)))
    (mi11 : PySem.W.isFn K (.ref g11) = true)
    (ml11 : K.lookup g11 = some ⟨mc11, md11, .func (PySem.W.fnOf "print_page" "Lane.print_page" (defArgs sPage) (defBody sPage) (defScope sPage) .none mk11 me11 mp11 mn11 mq11 mt11), ms11⟩)
    (mo11 : PySem.W.codeIn K mq11 "Lane.print_page" = true)
    (mx11 : PySem.W.keepIn K (.ref g11) = true)
    (en0 : PySem.W.nsIn K mainGlobals "NoOwner" = some (some (.ref e0)))
    (eo0 : PySem.W.excIn K e0 [.type "ValueError", .type "Exception", .type "BaseException", .type "object"] "ValueError.__new__" = true)
    (ex00 : PySem.W.exmOne K (.ref e0) (.ref e0) = some true)
    (en1 : PySem.W.nsIn K mainGlobals "NoPages" = some (some (.ref e1)))
    (eo1 : PySem.W.excIn K e1 [.type "ValueError", .type "Exception", .type "BaseException", .type "object"] "ValueError.__new__" = true)
    (ex10 : PySem.W.exmOne K (.ref e1) (.ref e0) = some false)
    (ex11 : PySem.W.exmOne K (.ref e1) (.ref e1) = some true)
    (en2 : PySem.W.nsIn K mainGlobals "Broke" = some (some (.ref e2)))
    (eo2 : PySem.W.excIn K e2 [.type "ValueError", .type "Exception", .type "BaseException", .type "object"] "ValueError.__new__" = true)
    (ex20 : PySem.W.exmOne K (.ref e2) (.ref e0) = some false)
    (ex21 : PySem.W.exmOne K (.ref e2) (.ref e1) = some false)
    (ex22 : PySem.W.exmOne K (.ref e2) (.ref e2) = some true)
    (en3 : PySem.W.nsIn K mainGlobals "NoJob" = some (some (.ref e3)))
    (eo3 : PySem.W.excIn K e3 [.type "ValueError", .type "Exception", .type "BaseException", .type "object"] "ValueError.__new__" = true)
    (ex30 : PySem.W.exmOne K (.ref e3) (.ref e0) = some false)
    (ex31 : PySem.W.exmOne K (.ref e3) (.ref e1) = some false)
    (ex32 : PySem.W.exmOne K (.ref e3) (.ref e2) = some false)
    (ex33 : PySem.W.exmOne K (.ref e3) (.ref e3) = some true)
    (enL : PySem.W.nsIn K mainGlobals "LaneError" = some (some (.ref eL)))
    (ex01 : PySem.W.exmOne K (.ref e0) (.ref e1) = some false)
    (ex02 : PySem.W.exmOne K (.ref e0) (.ref e2) = some false)
    (ex03 : PySem.W.exmOne K (.ref e0) (.ref e3) = some false)
    (exL0 : PySem.W.exmOne K (.ref e0) (.ref eL) = some true)
    (exV0 : PySem.W.exmOne K (.ref e0) (.type "ValueError") = some true)
    (xh0 : PySem.W.hasDictIn K e0 = true)
    (xg0 : PySem.W.findIn K (.ref e0) "__getattribute__" = some (some (.builtin "BaseException.__getattribute__")))
    (xx0 : PySem.W.findIn K (.ref e0) "__getattr__" = some none)
    (xc0 : PySem.W.findIn K (.ref e0) "__class__" = some (some (.builtin "object.__class__")))
    (xo0 : PySem.W.mroIn K e0 (.type "object") = some true)
    (xb0 : PySem.W.mroIn K e0 (.type "BaseException") = some true)
    (ex12 : PySem.W.exmOne K (.ref e1) (.ref e2) = some false)
    (ex13 : PySem.W.exmOne K (.ref e1) (.ref e3) = some false)
    (exL1 : PySem.W.exmOne K (.ref e1) (.ref eL) = some true)
    (exV1 : PySem.W.exmOne K (.ref e1) (.type "ValueError") = some true)
    (xh1 : PySem.W.hasDictIn K e1 = true)
    (xg1 : PySem.W.findIn K (.ref e1) "__getattribute__" = some (some (.builtin "BaseException.__getattribute__")))
    (xx1 : PySem.W.findIn K (.ref e1) "__getattr__" = some none)
    (xc1 : PySem.W.findIn K (.ref e1) "__class__" = some (some (.builtin "object.__class__")))
    (xo1 : PySem.W.mroIn K e1 (.type "object") = some true)
    (xb1 : PySem.W.mroIn K e1 (.type "BaseException") = some true)
    (ex23 : PySem.W.exmOne K (.ref e2) (.ref e3) = some false)
    (exL2 : PySem.W.exmOne K (.ref e2) (.ref eL) = some true)
    (exV2 : PySem.W.exmOne K (.ref e2) (.type "ValueError") = some true)
    (xh2 : PySem.W.hasDictIn K e2 = true)
    (xg2 : PySem.W.findIn K (.ref e2) "__getattribute__" = some (some (.builtin "BaseException.__getattribute__")))
    (xx2 : PySem.W.findIn K (.ref e2) "__getattr__" = some none)
    (xc2 : PySem.W.findIn K (.ref e2) "__class__" = some (some (.builtin "object.__class__")))
    (xo2 : PySem.W.mroIn K e2 (.type "object") = some true)
    (xb2 : PySem.W.mroIn K e2 (.type "BaseException") = some true)
    (exL3 : PySem.W.exmOne K (.ref e3) (.ref eL) = some true)
    (exV3 : PySem.W.exmOne K (.ref e3) (.type "ValueError") = some true)
    (xh3 : PySem.W.hasDictIn K e3 = true)
    (xg3 : PySem.W.findIn K (.ref e3) "__getattribute__" = some (some (.builtin "BaseException.__getattribute__")))
    (xx3 : PySem.W.findIn K (.ref e3) "__getattr__" = some none)
    (xc3 : PySem.W.findIn K (.ref e3) "__class__" = some (some (.builtin "object.__class__")))
    (xo3 : PySem.W.mroIn K e3 (.type "object") = some true)
    (xb3 : PySem.W.mroIn K e3 (.type "BaseException") = some true)
    (xn : PySem.W.specialIn K (.builtin "object.__class__") "__get__" = some (some (.builtin "getset_descriptor.__get__")))
    (xt : PySem.W.takesIn K (.builtin "object.__class__") = some true)
    (z0 : PySem.W.nsIn K mainGlobals "isinstance" = some none)
    (z1 : PySem.W.nsIn K mainGlobals "int" = some none)
    (z2 : PySem.W.nsIn K mainGlobals "bool" = some none)
    (z3 : PySem.W.nsIn K mainGlobals "str" = some none)
    (z4 : PySem.W.nsIn K mainGlobals "list" = some none)
    (z5 : PySem.W.nsIn K mainGlobals "tuple" = some none)
    (z6 : PySem.W.nsIn K mainGlobals "len" = some none)
    (z7 : PySem.W.nsIn K mainGlobals "range" = some none)
    (z8 : PySem.W.nsIn K mainGlobals "sum" = some none)
    (z9 : PySem.W.nsIn K mainGlobals "min" = some none)
    (z10 : PySem.W.nsIn K mainGlobals "max" = some none)
    (z11 : PySem.W.nsIn K mainGlobals "enumerate" = some none)
    (z12 : PySem.W.nsIn K mainGlobals "ValueError" = some none) :
    ∃ fd : FuncData, (∀ (s : Shared) (v : Value), BindsTo s fd ⟨[v], []⟩ [("_law_script", v)]) ∧ ∀ base : Heap, K.In base → base.Ns mainGlobals mg → FnOk l.prog w K mg base CX0 9 fa fd ["_law_script"] (spLaw K) := by
  have e := hfa.symm.trans (PySem.W.mg_of X G a21)
  cases e
  have T : Free mg := ⟨PySem.W.mg_none_of X G z0, PySem.W.mg_none_of X G z1, PySem.W.mg_none_of X G z2, PySem.W.mg_none_of X G z3, PySem.W.mg_none_of X G z4, PySem.W.mg_none_of X G z5, PySem.W.mg_none_of X G z6, PySem.W.mg_none_of X G z7, PySem.W.mg_none_of X G z8, PySem.W.mg_none_of X G z9, PySem.W.mg_none_of X G z10, PySem.W.mg_none_of X G z11, PySem.W.mg_none_of X G z12⟩
  have F0 := fun_mk (st := sTicked) l0 c0 k0
  have b0 := F0.binds (ps := ["limit", "pause", "hot", "resting", "waiting"]) fun _ _ _ _ _ _ us hl => len5 (C := fun us => bindArgs _ ⟨us, []⟩ = pure (List.zip _ us)) hl fun _ _ _ _ _ => rfl
  have m0 := PySem.W.mg_of X G a0
  have F1 := fun_mk (st := sRested) l1 c1 k1
  have b1 := F1.binds (ps := ["hot", "resting"]) fun _ _ _ _ _ _ us hl => len2 (C := fun us => bindArgs _ ⟨us, []⟩ = pure (List.zip _ us)) hl fun _ _ => rfl
  have m1 := PySem.W.mg_of X G a1
  have F2 := fun_mk (st := sPrinted) l2 c2 k2
  have b2 := F2.binds (ps := ["limit", "pause", "hot"]) fun _ _ _ _ _ _ us hl => len3 (C := fun us => bindArgs _ ⟨us, []⟩ = pure (List.zip _ us)) hl fun _ _ _ => rfl
  have m2 := PySem.W.mg_of X G a2
  have F3 := fun_mk (st := sPAnswered) l3 c3 k3
  have b3 := F3.binds (ps := ["lane", "deed"]) fun _ _ _ _ _ _ us hl => len2 (C := fun us => bindArgs _ ⟨us, []⟩ = pure (List.zip _ us)) hl fun _ _ => rfl
  have m3 := PySem.W.mg_of X G a3
  have F4 := fun_mk (st := sDone) l4 c4 k4
  have b4 := F4.binds (ps := ["lane", "deed"]) fun _ _ _ _ _ _ us hl => len2 (C := fun us => bindArgs _ ⟨us, []⟩ = pure (List.zip _ us)) hl fun _ _ => rfl
  have m4 := PySem.W.mg_of X G a4
  have F5 := fun_mk (st := sAnswers) l5 c5 k5
  have b5 := F5.binds (ps := ["limit", "pause", "budgets", "deeds"]) fun _ _ _ _ _ _ us hl => len4 (C := fun us => bindArgs _ ⟨us, []⟩ = pure (List.zip _ us)) hl fun _ _ _ _ => rfl
  have m5 := PySem.W.mg_of X G a5
  have F6 := fun_mk (st := sWhole) l6 c6 k6
  have b6 := F6.binds (ps := ["_law_found"]) fun _ _ _ _ _ _ us hl => len1 (C := fun us => bindArgs _ ⟨us, []⟩ = pure (List.zip _ us)) hl fun _ => rfl
  have m6 := PySem.W.mg_of X G a6
  have F7 := fun_mk (st := sAt) l7 c7 k7
  have b7 := F7.binds (ps := ["_law_script", "_law_k"]) fun _ _ _ _ _ _ us hl => len2 (C := fun us => bindArgs _ ⟨us, []⟩ = pure (List.zip _ us)) hl fun _ _ => rfl
  have m7 := PySem.W.mg_of X G a7
  have F8 := fun_mk (st := sDeeds) l8 c8 k8
  have b8 := F8.binds (ps := ["_law_cells", "_law_budgets"]) fun _ _ _ _ _ _ us hl => len2 (C := fun us => bindArgs _ ⟨us, []⟩ = pure (List.zip _ us)) hl fun _ _ => rfl
  have m8 := PySem.W.mg_of X G a8
  have F9 := fun_mk (st := sBudgets) l9 c9 k9
  have b9 := F9.binds (ps := ["_law_cell", "_law_owners"]) fun _ _ _ _ _ _ us hl => len2 (C := fun us => bindArgs _ ⟨us, []⟩ = pure (List.zip _ us)) hl fun _ _ => rfl
  have m9 := PySem.W.mg_of X G a9
  have F10 := fun_mk (st := sRefusal) l10 c10 k10
  have b10 := F10.binds (ps := ["_law_budgets", "_law_rows", "_law_deed"]) fun _ _ _ _ _ _ us hl => len3 (C := fun us => bindArgs _ ⟨us, []⟩ = pure (List.zip _ us)) hl fun _ _ _ => rfl
  have m10 := PySem.W.mg_of X G a10
  have F11 := fun_mk (st := sLPrinted) l11 c11 k11
  have b11 := F11.binds (ps := ["_law_rows", "_law_many"]) fun _ _ _ _ _ _ us hl => len2 (C := fun us => bindArgs _ ⟨us, []⟩ = pure (List.zip _ us)) hl fun _ _ => rfl
  have m11 := PySem.W.mg_of X G a11
  have F12 := fun_mk (st := sDid) l12 c12 k12
  have b12 := F12.binds (ps := ["_law_budgets", "_law_rows", "_law_deed", "_law_sent"]) fun _ _ _ _ _ _ us hl => len4 (C := fun us => bindArgs _ ⟨us, []⟩ = pure (List.zip _ us)) hl fun _ _ _ _ => rfl
  have m12 := PySem.W.mg_of X G a12
  have F13 := fun_mk (st := sLaneOf) l13 c13 k13
  have b13 := F13.binds (ps := ["_law_limit", "_law_pause", "_law_budgets"]) fun _ _ _ _ _ _ us hl => len3 (C := fun us => bindArgs _ ⟨us, []⟩ = pure (List.zip _ us)) hl fun _ _ _ => rfl
  have m13 := PySem.W.mg_of X G a13
  have F14 := fun_mk (st := sTickIn) l14 c14 k14
  have b14 := F14.binds (ps := ["_law_mine"]) fun _ _ _ _ _ _ us hl => len1 (C := fun us => bindArgs _ ⟨us, []⟩ = pure (List.zip _ us)) hl fun _ => rfl
  have m14 := PySem.W.mg_of X G a14
  have F15 := fun_mk (st := sAnswered) l15 c15 k15
  have b15 := F15.binds (ps := ["_law_mine", "_law_deed"]) fun _ _ _ _ _ _ us hl => len2 (C := fun us => bindArgs _ ⟨us, []⟩ = pure (List.zip _ us)) hl fun _ _ => rfl
  have m15 := PySem.W.mg_of X G a15
  have F16 := fun_mk (st := sLDone) l16 c16 k16
  have b16 := F16.binds (ps := ["_law_lane", "_law_deed"]) fun _ _ _ _ _ _ us hl => len2 (C := fun us => bindArgs _ ⟨us, []⟩ = pure (List.zip _ us)) hl fun _ _ => rfl
  have m16 := PySem.W.mg_of X G a16
  have F17 := fun_mk (st := sByAny) l17 c17 k17
  have b17 := F17.binds (ps := ["_law_lane", "_law_deed", "_law_due"]) fun _ _ _ _ _ _ us hl => len3 (C := fun us => bindArgs _ ⟨us, []⟩ = pure (List.zip _ us)) hl fun _ _ _ => rfl
  have m17 := PySem.W.mg_of X G a17
  have F18 := fun_mk (st := sByHand) l18 c18 k18
  have b18 := F18.binds (ps := ["_law_lane", "_law_deed"]) fun _ _ _ _ _ _ us hl => len2 (C := fun us => bindArgs _ ⟨us, []⟩ = pure (List.zip _ us)) hl fun _ _ => rfl
  have m18 := PySem.W.mg_of X G a18
  have F19 := fun_mk (st := sAsDue) l19 c19 k19
  have b19 := F19.binds (ps := ["_law_word"]) fun _ _ _ _ _ _ us hl => len1 (C := fun us => bindArgs _ ⟨us, []⟩ = pure (List.zip _ us)) hl fun _ => rfl
  have m19 := PySem.W.mg_of X G a19
  have F20 := fun_mk (st := sAlike) l20 c20 k20
  have b20 := F20.binds (ps := ["_law_found", "_law_due"]) fun _ _ _ _ _ _ us hl => len2 (C := fun us => bindArgs _ ⟨us, []⟩ = pure (List.zip _ us)) hl fun _ _ => rfl
  have m20 := PySem.W.mg_of X G a20
  have F21 := fun_mk (st := sLaw) l21 c21 k21
  have G0 := fun_mk (st := sJInit) ml0 mo0 mx0
  have d0 := G0.binds (ps := ["self", "number", "owner", "pages"]) fun _ _ _ _ _ _ us hl => len4 (C := fun us => bindArgs _ ⟨us, []⟩ = pure (List.zip _ us)) hl fun _ _ _ _ => rfl
  have y0 : Mk K CJ g0 := ⟨mkCJ, ma0, mi0, kcCJ⟩
  have G1 := fun_mk (st := sLeft) ml1 mo1 mx1
  have d1 := G1.binds (ps := ["self"]) fun _ _ _ _ _ _ us hl => len1 (C := fun us => bindArgs _ ⟨us, []⟩ = pure (List.zip _ us)) hl fun _ => rfl
  have y1 : Meth K CJ "left" g1 := ⟨ma1, mi1, mx1⟩
  have G2 := fun_mk (st := sLInit) ml2 mo2 mx2
  have d2 := G2.binds (ps := ["self", "limit", "pause", "budgets"]) fun _ _ _ _ _ _ us hl => len4 (C := fun us => bindArgs _ ⟨us, []⟩ = pure (List.zip _ us)) hl fun _ _ _ _ => rfl
  have y2 : Mk K CL g2 := ⟨mkCL, ma2, mi2, kcCL⟩
  have G3 := fun_mk (st := sSend) ml3 mo3 mx3
  have d3 := G3.binds (ps := ["self", "owner", "pages"]) fun _ _ _ _ _ _ us hl => len3 (C := fun us => bindArgs _ ⟨us, []⟩ = pure (List.zip _ us)) hl fun _ _ _ => rfl
  have y3 : Meth K CL "send" g3 := ⟨ma3, mi3, mx3⟩
  have G4 := fun_mk (st := sStop) ml4 mo4 mx4
  have d4 := G4.binds (ps := ["self", "job"]) fun _ _ _ _ _ _ us hl => len2 (C := fun us => bindArgs _ ⟨us, []⟩ = pure (List.zip _ us)) hl fun _ _ => rfl
  have y4 : Meth K CL "stop" g4 := ⟨ma4, mi4, mx4⟩
  have G5 := fun_mk (st := sRun) ml5 mo5 mx5
  have d5 := G5.binds (ps := ["self", "many"]) fun _ _ _ _ _ _ us hl => len2 (C := fun us => bindArgs _ ⟨us, []⟩ = pure (List.zip _ us)) hl fun _ _ => rfl
  have y5 : Meth K CL "run" g5 := ⟨ma5, mi5, mx5⟩
  have G6 := fun_mk (st := sGrant) ml6 mo6 mx6
  have d6 := G6.binds (ps := ["self", "owner", "many"]) fun _ _ _ _ _ _ us hl => len3 (C := fun us => bindArgs _ ⟨us, []⟩ = pure (List.zip _ us)) hl fun _ _ _ => rfl
  have y6 : Meth K CL "grant" g6 := ⟨ma6, mi6, mx6⟩
  have G7 := fun_mk (st := sTicks) ml7 mo7 mx7
  have d7 := G7.binds (ps := ["self", "many"]) fun _ _ _ _ _ _ us hl => len2 (C := fun us => bindArgs _ ⟨us, []⟩ = pure (List.zip _ us)) hl fun _ _ => rfl
  have y7 : Meth K CL "ticks" g7 := ⟨ma7, mi7, mx7⟩
  have G8 := fun_mk (st := sCheck) ml8 mo8 mx8
  have d8 := G8.binds (ps := ["self", "owner"]) fun _ _ _ _ _ _ us hl => len2 (C := fun us => bindArgs _ ⟨us, []⟩ = pure (List.zip _ us)) hl fun _ _ => rfl
  have y8 : Meth K CL "check_owner" g8 := ⟨ma8, mi8, mx8⟩
  have G9 := fun_mk (st := sPlace) ml9 mo9 mx9
  have d9 := G9.binds (ps := ["self", "number"]) fun _ _ _ _ _ _ us hl => len2 (C := fun us => bindArgs _ ⟨us, []⟩ = pure (List.zip _ us)) hl fun _ _ => rfl
  have y9 : Meth K CL "place" g9 := ⟨ma9, mi9, mx9⟩
  have G10 := fun_mk (st := sTickM) ml10 mo10 mx10
  have d10 := G10.binds (ps := ["self"]) fun _ _ _ _ _ _ us hl => len1 (C := fun us => bindArgs _ ⟨us, []⟩ = pure (List.zip _ us)) hl fun _ => rfl
  have y10 : Meth K CL "tick" g10 := ⟨ma10, mi10, mx10⟩
  have G11 := fun_mk (st := sPage) ml11 mo11 mx11
  have d11 := G11.binds (ps := ["self"]) fun _ _ _ _ _ _ us hl => len1 (C := fun us => bindArgs _ ⟨us, []⟩ = pure (List.zip _ us)) hl fun _ => rfl
  have y11 : Meth K CL "print_page" g11 := ⟨ma11, mi11, mx11⟩
  have n1CL := PySem.W.mg_of X G nCL
  have n1CJ := PySem.W.mg_of X G nCJ
  have U : Txt K mg CL CJ := ⟨⟨pgCL, hdCL, poCL, saCL⟩, ⟨pgCJ, hdCJ, poCJ, saCJ⟩, naCLlimit, naCLpause, naCLbudgets, naCLprinted, naCLrow, naCLsent, naCLhot, naCLresting, naCJnumber, naCJowner, naCJpages, naCJprinted⟩
  have Z : Exc K mg e0 e1 e2 e3 := ⟨PySem.W.mg_of X G en0, PySem.W.mg_of X G en1, PySem.W.mg_of X G en2, PySem.W.mg_of X G en3, ⟨eo0⟩, ⟨eo1⟩, ⟨eo2⟩, ⟨eo3⟩, ex00, ex10, ex11, ex20, ex21, ex22, ex30, ex31, ex32, ex33⟩
  have Y : ExcX K mg e0 e1 e2 e3 eL := ⟨PySem.W.mg_of X G enL, ⟨⟨xh0, xg0, xx0, xc0, xo0, xb0, xn, xt⟩, exL0, kit_yes ex00, kit_no ex01 ex00, kit_no ex02 ex00, kit_no ex03 ex00, kit_yes exV0⟩, ⟨⟨xh1, xg1, xx1, xc1, xo1, xb1, xn, xt⟩, exL1, kit_no ex10 ex11, kit_yes ex11, kit_no ex12 ex11, kit_no ex13 ex11, kit_yes exV1⟩, ⟨⟨xh2, xg2, xx2, xc2, xo2, xb2, xn, xt⟩, exL2, kit_no ex20 ex22, kit_no ex21 ex22, kit_yes ex22, kit_no ex23 ex22, kit_yes exV2⟩, ⟨⟨xh3, xg3, xx3, xc3, xo3, xb3, xn, xt⟩, exL3, kit_no ex30 ex33, kit_no ex31 ex33, kit_no ex32 ex33, kit_yes ex33, kit_yes exV3⟩⟩
  refine ⟨PySem.W.fnOf "law" "law" (defArgs sLaw) (defBody sLaw) (defScope sLaw) .none kV21 dc21 pm21 an21 cd21 ct21, fun s v => .of_eq rfl, fun base _ _ => ?_⟩
  have CTk : Callee l.prog w K mg base 2 "ticked" ["limit", "pause", "hot", "resting", "waiting"] spTick := ⟨_, _, ok_ticked F0 (ok_rested F1) b1 F1.kp m1 (ok_printed F2) b2 F2.kp m2, b0, F0.kp, m0⟩
  have KJ : KCallee l.prog w K mg base CJ 1 "Job" ["self", "number", "owner", "pages"] (spJInit CJ) := ⟨_, _, ok_jinit G0 U, d0, y0, n1CJ⟩
  have ML : MCallee l.prog w K mg base CJ 1 "left" ["self"] (spLeft CJ) := ⟨_, _, ok_left G1 U, d1, y1⟩
  have KL : KCallee l.prog w K mg base CL 1 "Lane" ["self", "limit", "pause", "budgets"] (spLInit CL CJ) := ⟨_, _, ok_linit G2 T U, d2, y2, n1CL⟩
  have MC : MCalleeX l.prog w K mg base CL 1 "check_owner" ["self", "owner"] (spCheck CL CJ e0) := ⟨_, _, ok_check G8 T U Z, d8, y8⟩
  have MPl : MCalleeX l.prog w K mg base CL 1 "place" ["self", "number"] (spPlace CL CJ e3) := ⟨_, _, ok_place G9 T U Z, d9, y9⟩
  have MS : MCalleeX l.prog w K mg base CL 3 "send" ["self", "owner", "pages"] (spSend CL CJ e0 e1 e2) := ⟨_, _, ok_send G3 T U Z MC KJ, d3, y3⟩
  have MO : MCalleeX l.prog w K mg base CL 2 "stop" ["self", "job"] (spStop CL CJ e3) := ⟨_, _, ok_stop G4 T U MPl ML, d4, y4⟩
  have MG : MCalleeX l.prog w K mg base CL 2 "grant" ["self", "owner", "many"] (spGrant CL CJ e0) := ⟨_, _, ok_grant G6 T U MC, d6, y6⟩
  have MP : MCallee l.prog w K mg base CL 2 "print_page" ["self"] (spPage CL CJ) := ⟨_, _, ok_page G11 T U ML, d11, y11⟩
  have MT : MCallee l.prog w K mg base CL 3 "tick" ["self"] (spTickM CL CJ) := ⟨_, _, ok_tickM G10 T U CTk MP, d10, y10⟩
  have MTs : MCallee l.prog w K mg base CL 4 "ticks" ["self", "many"] (spTicks CL CJ) := ⟨_, _, ok_ticks G7 T U MT, d7, y7⟩
  have MR : MCallee l.prog w K mg base CL 5 "run" ["self", "many"] (spRun CL CJ) := ⟨_, _, ok_run G5 T U MTs, d5, y5⟩
  have CDn : CalleeX l.prog w K mg base 6 "done" ["lane", "deed"] (spDone CL CJ e0 e1 e2 e3) := ⟨_, _, ok_done F4 T U MS MO MR MG, b4, F4.kp, m4⟩
  have CAd : Callee l.prog w K mg base 7 "answered" ["lane", "deed"] (spPAnswered CL CJ) := ⟨_, _, ok_panswered F3 T Z CDn, b3, F3.kp, m3⟩
  have CW : Callee l.prog w K mg base 1 "_law_whole" ["_law_found"] spWhole := ⟨_, _, ok_whole F6 T, b6, F6.kp, m6⟩
  have CA : Callee l.prog w K mg base 1 "_law_at" ["_law_script", "_law_k"] (spAt K) := ⟨_, _, ok_at F7 T, b7, F7.kp, m7⟩
  have CB : Callee l.prog w K mg base 1 "_law_budgets_of" ["_law_cell", "_law_owners"] spBudgets := ⟨_, _, ok_budgets F9 T, b9, F9.kp, m9⟩
  have CE : Callee l.prog w K mg base 1 "_law_deeds" ["_law_cells", "_law_budgets"] spDeeds := ⟨_, _, ok_deeds F8 T, b8, F8.kp, m8⟩
  have CR : Callee l.prog w K mg base 1 "_law_refusal_of" ["_law_budgets", "_law_rows", "_law_deed"] spRefusal := ⟨_, _, ok_refusal F10 T, b10, F10.kp, m10⟩
  have CP : Callee l.prog w K mg base 1 "_law_printed" ["_law_rows", "_law_many"] spLPrinted := ⟨_, _, ok_lprinted F11 T, b11, F11.kp, m11⟩
  have CD : Callee l.prog w K mg base 1 "_law_did" ["_law_budgets", "_law_rows", "_law_deed", "_law_sent"] spDid := ⟨_, _, ok_did F12 T, b12, F12.kp, m12⟩
  have CO : Callee l.prog w K mg base 1 "_law_lane_of" ["_law_limit", "_law_pause", "_law_budgets"] (spLaneOf K) := ⟨_, _, ok_lane_of F13 T, b13, F13.kp, m13⟩
  have CT : Callee l.prog w K mg base 2 "_law_tick_in" ["_law_mine"] spTickIn := ⟨_, _, ok_tick_in F14 T CP, b14, F14.kp, m14⟩
  have CN : Callee l.prog w K mg base 3 "_law_answered" ["_law_mine", "_law_deed"] spAnswered := ⟨_, _, ok_answered F15 T CT CR CD, b15, F15.kp, m15⟩
  have CLk : Callee l.prog w K mg base 2 "_law_alike" ["_law_found", "_law_due"] spAlike := ⟨_, _, ok_alike F20 T (ok_whole F6 T) b6 F6.kp m6, b20, F20.kp, m20⟩
  have CX : Callee l.prog w K mg base 8 "answers" ["limit", "pause", "budgets", "deeds"] spAnswers := ⟨_, _, ok_answers F5 T KL CAd, b5, F5.kp, m5⟩
  have CLD : CalleeX l.prog w K mg base 6 "_law_done" ["_law_lane", "_law_deed"] (spDone CL CJ e0 e1 e2 e3) := ⟨_, _, ok_ldone F16 T U MS MO MR MG, b16, F16.kp, m16⟩
  have CBa : Callee l.prog w K mg base 7 "_law_by_any" ["_law_lane", "_law_deed", "_law_due"] (spByAny CL CJ) := ⟨_, _, ok_by_any F17 T Z Y CLD, b17, F17.kp, m17⟩
  have CBh : Callee l.prog w K mg base 7 "_law_by_hand" ["_law_lane", "_law_deed"] (spByHand CL CJ) := ⟨_, _, ok_by_hand F18 Z CLD, b18, F18.kp, m18⟩
  have CAs : Callee l.prog w K mg base 1 "_law_as_due" ["_law_word"] spAsDue := ⟨_, _, ok_as_due F19, b19, F19.kp, m19⟩
  exact ok_law F21 T CA CB CE CX CLk CO CN KL CBh CBa CAs
theorem walk {l : PySem.W.OpenLaw} {q : Program} {loose : List Str} {XP : (Str → Option Value) → Heap → Prop} {YP : World → Heap → Prop} {d : DefRec} {K : Params → PySem.W.Frag} (hn : l.most = some 63) (hdf : d.params.defaults = [])
    (hY : ∀ (w : World) (h : Heap), YP w h → (K w.params).In h)
    (F : ∀ (w : World) (mg : Str → Option Value) (fa : Addr) (h : Heap), (K w.params).In h → h.Ns mainGlobals mg → mg d.name = some (.ref fa) →
      ∃ fd : FuncData, (∀ (s : Shared) (u : Value), BindsTo s fd ⟨[u], []⟩ [("_law_script", u)]) ∧ ∀ base : Heap, (K w.params).In base → base.Ns mainGlobals mg → FnOk l.prog w (K w.params) mg base CX0 9 fa fd ["_law_script"] (spLaw (K w.params))) :
    PySem.W.WalkO q loose XP YP l.row.toRowW d [] (fun f vs => PySem.call f vs) :=
  L2.walk_of (n := 63) (k := 9) (x := "_law_script") (CX := fun _ => CX0) (sp := fun w => spLaw (K w.params)) hn (by decide) hdf ⟨rfl, by decide, by decide⟩ hY F (fun _ _ a ns hl _ hS => ⟨a, ns, rfl, hS, hl, fun _ => rfl⟩) fun _ _ _ _ _ z => z
end My
open PySem PySem.W PyProof.Rows
set_option maxRecDepth 100000 in
set_option maxHeartbeats 0 in
theorem PySem.Challenge.cw_printlane_k07_by_hand_holds : PySem.Challenge.rw_printlane_k07_by_hand.Holds := by
  w_on; o_law; k_head; (case hw => w_witness2)
  k_fill
  refine My.walk (l := PySem.Challenge.rw_printlane_k07_by_hand) rfl rfl (fun w h Y => PySem.W.kIn_of Y) ?F
  case F =>
    intro w mg fa h KX G hmg
    refine' My.all_mk KX G hmg ?a0 ?l0 ?c0 ?k0 ?a1 ?l1 ?c1 ?k1 ?a2 ?l2 ?c2 ?k2 ?a3 ?l3 ?c3 ?k3 ?a4 ?l4 ?c4 ?k4 ?a5 ?l5 ?c5 ?k5 ?a6 ?l6 ?c6 ?k6 ?a7 ?l7 ?c7 ?k7 ?a8 ?l8 ?c8 ?k8 ?a9 ?l9 ?c9 ?k9 ?a10 ?l10 ?c10 ?k10 ?a11 ?l11 ?c11 ?k11 ?a12 ?l12 ?c12 ?k12 ?a13 ?l13 ?c13 ?k13 ?a14 ?l14 ?c14 ?k14 ?a15 ?l15 ?c15 ?k15 ?a16 ?l16 ?c16 ?k16 ?a17 ?l17 ?c17 ?k17 ?a18 ?l18 ?c18 ?k18 ?a19 ?l19 ?c19 ?k19 ?a20 ?l20 ?c20 ?k20 ?a21 ?l21 ?c21 ?k21 ?nCL ?pgCL ?hdCL ?poCL ?saCL ?mkCL ?kcCL ?naCLlimit ?naCLpause ?naCLbudgets ?naCLprinted ?naCLrow ?naCLsent ?naCLhot ?naCLresting ?nCJ ?pgCJ ?hdCJ ?poCJ ?saCJ ?mkCJ ?kcCJ ?naCJnumber ?naCJowner ?naCJpages ?naCJprinted ?ma0 ?mi0 ?ml0 ?mo0 ?mx0 ?ma1 ?mi1 ?ml1 ?mo1 ?mx1 ?ma2 ?mi2 ?ml2 ?mo2 ?mx2 ?ma3 ?mi3 ?ml3 ?mo3 ?mx3 ?ma4 ?mi4 ?ml4 ?mo4 ?mx4 ?ma5 ?mi5 ?ml5 ?mo5 ?mx5 ?ma6 ?mi6 ?ml6 ?mo6 ?mx6 ?ma7 ?mi7 ?ml7 ?mo7 ?mx7 ?ma8 ?mi8 ?ml8 ?mo8 ?mx8 ?ma9 ?mi9 ?ml9 ?mo9 ?mx9 ?ma10 ?mi10 ?ml10 ?mo10 ?mx10 ?ma11 ?mi11 ?ml11 ?mo11 ?mx11 ?en0 ?eo0 ?ex00 ?en1 ?eo1 ?ex10 ?ex11 ?en2 ?eo2 ?ex20 ?ex21 ?ex22 ?en3 ?eo3 ?ex30 ?ex31 ?ex32 ?ex33 ?enL ?ex01 ?ex02 ?ex03 ?exL0 ?exV0 ?xh0 ?xg0 ?xx0 ?xc0 ?xo0 ?xb0 ?ex12 ?ex13 ?exL1 ?exV1 ?xh1 ?xg1 ?xx1 ?xc1 ?xo1 ?xb1 ?ex23 ?exL2 ?exV2 ?xh2 ?xg2 ?xx2 ?xc2 ?xo2 ?xb2 ?exL3 ?exV3 ?xh3 ?xg3 ?xx3 ?xc3 ?xo3 ?xb3 ?xn ?xt ?z0 ?z1 ?z2 ?z3 ?z4 ?z5 ?z6 ?z7 ?z8 ?z9 ?z10 ?z11 ?z12
    (case a0 => k_is)
    (case l0 => k_is)
    (case c0 => k_is)
    (case k0 => k_is)
    (case a1 => k_is)
    (case l1 => k_is)
    (case c1 => k_is)
    (case k1 => k_is)
    (case a2 => k_is)
    (case l2 => k_is)
    (case c2 => k_is)
    (case k2 => k_is)
    (case a3 => k_is)
    (case l3 => k_is)
    (case c3 => k_is)
    (case k3 => k_is)
    (case a4 => k_is)
    (case l4 => k_is)
    (case c4 => k_is)
    (case k4 => k_is)
    (case a5 => k_is)
    (case l5 => k_is)
    (case c5 => k_is)
    (case k5 => k_is)
    (case a6 => k_is)
    (case l6 => k_is)
    (case c6 => k_is)
    (case k6 => k_is)
    (case a7 => k_is)
    (case l7 => k_is)
    (case c7 => k_is)
    (case k7 => k_is)
    (case a8 => k_is)
    (case l8 => k_is)
    (case c8 => k_is)
    (case k8 => k_is)
    (case a9 => k_is)
    (case l9 => k_is)
    (case c9 => k_is)
    (case k9 => k_is)
    (case a10 => k_is)
    (case l10 => k_is)
    (case c10 => k_is)
    (case k10 => k_is)
    (case a11 => k_is)
    (case l11 => k_is)
    (case c11 => k_is)
    (case k11 => k_is)
    (case a12 => k_is)
    (case l12 => k_is)
    (case c12 => k_is)
    (case k12 => k_is)
    (case a13 => k_is)
    (case l13 => k_is)
    (case c13 => k_is)
    (case k13 => k_is)
    (case a14 => k_is)
    (case l14 => k_is)
    (case c14 => k_is)
    (case k14 => k_is)
    (case a15 => k_is)
    (case l15 => k_is)
    (case c15 => k_is)
    (case k15 => k_is)
    (case a16 => k_is)
    (case l16 => k_is)
    (case c16 => k_is)
    (case k16 => k_is)
    (case a17 => k_is)
    (case l17 => k_is)
    (case c17 => k_is)
    (case k17 => k_is)
    (case a18 => k_is)
    (case l18 => k_is)
    (case c18 => k_is)
    (case k18 => k_is)
    (case a19 => k_is)
    (case l19 => k_is)
    (case c19 => k_is)
    (case k19 => k_is)
    (case a20 => k_is)
    (case l20 => k_is)
    (case c20 => k_is)
    (case k20 => k_is)
    (case a21 => k_is)
    (case l21 => k_is)
    (case c21 => k_is)
    (case k21 => k_is)
    (case nCL => k_is)
    (case pgCL => k_is)
    (case hdCL => k_is)
    (case poCL => k_is)
    (case saCL => k_is)
    (case mkCL => k_is)
    (case kcCL => k_is)
    (case naCLlimit => k_is)
    (case naCLpause => k_is)
    (case naCLbudgets => k_is)
    (case naCLprinted => k_is)
    (case naCLrow => k_is)
    (case naCLsent => k_is)
    (case naCLhot => k_is)
    (case naCLresting => k_is)
    (case nCJ => k_is)
    (case pgCJ => k_is)
    (case hdCJ => k_is)
    (case poCJ => k_is)
    (case saCJ => k_is)
    (case mkCJ => k_is)
    (case kcCJ => k_is)
    (case naCJnumber => k_is)
    (case naCJowner => k_is)
    (case naCJpages => k_is)
    (case naCJprinted => k_is)
    (case ma0 => k_is)
    (case mi0 => k_is)
    (case ml0 => k_is)
    (case mo0 => k_is)
    (case mx0 => k_is)
    (case ma1 => k_is)
    (case mi1 => k_is)
    (case ml1 => k_is)
    (case mo1 => k_is)
    (case mx1 => k_is)
    (case ma2 => k_is)
    (case mi2 => k_is)
    (case ml2 => k_is)
    (case mo2 => k_is)
    (case mx2 => k_is)
    (case ma3 => k_is)
    (case mi3 => k_is)
    (case ml3 => k_is)
    (case mo3 => k_is)
    (case mx3 => k_is)
    (case ma4 => k_is)
    (case mi4 => k_is)
    (case ml4 => k_is)
    (case mo4 => k_is)
    (case mx4 => k_is)
    (case ma5 => k_is)
    (case mi5 => k_is)
    (case ml5 => k_is)
    (case mo5 => k_is)
    (case mx5 => k_is)
    (case ma6 => k_is)
    (case mi6 => k_is)
    (case ml6 => k_is)
    (case mo6 => k_is)
    (case mx6 => k_is)
    (case ma7 => k_is)
    (case mi7 => k_is)
    (case ml7 => k_is)
    (case mo7 => k_is)
    (case mx7 => k_is)
    (case ma8 => k_is)
    (case mi8 => k_is)
    (case ml8 => k_is)
    (case mo8 => k_is)
    (case mx8 => k_is)
    (case ma9 => k_is)
    (case mi9 => k_is)
    (case ml9 => k_is)
    (case mo9 => k_is)
    (case mx9 => k_is)
    (case ma10 => k_is)
    (case mi10 => k_is)
    (case ml10 => k_is)
    (case mo10 => k_is)
    (case mx10 => k_is)
    (case ma11 => k_is)
    (case mi11 => k_is)
    (case ml11 => k_is)
    (case mo11 => k_is)
    (case mx11 => k_is)
    (case en0 => k_is)
    (case eo0 => k_exc)
    (case ex00 => kts_exm)
    (case en1 => k_is)
    (case eo1 => k_exc)
    (case ex10 => kts_exm)
    (case ex11 => kts_exm)
    (case en2 => k_is)
    (case eo2 => k_exc)
    (case ex20 => kts_exm)
    (case ex21 => kts_exm)
    (case ex22 => kts_exm)
    (case en3 => k_is)
    (case eo3 => k_exc)
    (case ex30 => kts_exm)
    (case ex31 => kts_exm)
    (case ex32 => kts_exm)
    (case ex33 => kts_exm)
    (case enL => k_is)
    (case ex01 => kts_exm)
    (case ex02 => kts_exm)
    (case ex03 => kts_exm)
    (case exL0 => kts_exm)
    (case exV0 => kts_exm)
    (case xh0 => k_is)
    (case xg0 => k_is)
    (case xx0 => k_is)
    (case xc0 => k_is)
    (case xo0 => k_is)
    (case xb0 => k_is)
    (case ex12 => kts_exm)
    (case ex13 => kts_exm)
    (case exL1 => kts_exm)
    (case exV1 => kts_exm)
    (case xh1 => k_is)
    (case xg1 => k_is)
    (case xx1 => k_is)
    (case xc1 => k_is)
    (case xo1 => k_is)
    (case xb1 => k_is)
    (case ex23 => kts_exm)
    (case exL2 => kts_exm)
    (case exV2 => kts_exm)
    (case xh2 => k_is)
    (case xg2 => k_is)
    (case xx2 => k_is)
    (case xc2 => k_is)
    (case xo2 => k_is)
    (case xb2 => k_is)
    (case exL3 => kts_exm)
    (case exV3 => kts_exm)
    (case xh3 => k_is)
    (case xg3 => k_is)
    (case xx3 => k_is)
    (case xc3 => k_is)
    (case xo3 => k_is)
    (case xb3 => k_is)
    (case xn => k_is)
    (case xt => k_is)
    (case z0 => k_is)
    (case z1 => k_is)
    (case z2 => k_is)
    (case z3 => k_is)
    (case z4 => k_is)
    (case z5 => k_is)
    (case z6 => k_is)
    (case z7 => k_is)
    (case z8 => k_is)
    (case z9 => k_is)
    (case z10 => k_is)
    (case z11 => k_is)
    (case z12 => k_is)
#print axioms PySem.Challenge.cw_printlane_k07_by_hand_holds
