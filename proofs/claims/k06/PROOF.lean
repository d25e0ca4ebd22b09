import PyProof.Rows.All
import Wide.All
import OpenK.AllK
import Wide.FinOn
import PyProof.EqAt
import PyProof.EqKinds
import PyProof.TupleCall
import Lean
import PySem.Challenge.RW_layerdial_k06_all_that_holds
set_option Elab.async false
set_option linter.all false
set_option maxRecDepth 100000
namespace L2
open PySem PySem.Spec PyProof.Rows

/-- a key: an int or a str -/
abbrev Key := Sum Int Str
def keyIs : Key → Value → Bool
  | .inl k, v => Value.isInt k v
  | .inr x, v => Value.isStrOf x v
def keyH (w : World) : Key → Int
  | .inl k => hashInt k
  | .inr x => hashStr w x
theorem keyIs_shape : ∀ {k : Key} {v : Value}, keyIs k v = true → (∃ i t, k = Sum.inl i ∧ v = Value.int i t) ∨ (∃ x t, k = Sum.inr x ∧ v = Value.str x t)
  | .inl i, v, h => by
    obtain ⟨t, e⟩ := Value.isInt_shape (k := i) (v := v) h
    exact .inl ⟨i, t, rfl, e⟩
  | .inr x, v, h => by
    obtain ⟨t, e⟩ := Value.isStrOf_shape (x := x) (v := v) h
    exact .inr ⟨x, t, rfl, e⟩
theorem keyIs_int (i : Int) (t : Tok) : keyIs (.inl i) (.int i t) = true := by simp [keyIs, Value.isInt]
theorem keyIs_str (x : Str) (t : Tok) : keyIs (.inr x) (.str x t) = true := by simp [keyIs, Value.isStrOf]
theorem key_ll (a b : Int) : decide ((Sum.inl a : Key) = Sum.inl b) = (a == b) := by
  by_cases e : a = b
  · subst e; simp
  · have h : ¬ (Sum.inl a : Key) = Sum.inl b := fun q => e (Sum.inl.inj q)
    rw [decide_eq_false h]
    exact (beq_eq_false_iff_ne.mpr e).symm
theorem key_rr (a b : Str) : decide ((Sum.inr a : Key) = Sum.inr b) = decide (a = b) := by
  by_cases e : a = b
  · subst e; simp
  · have h : ¬ (Sum.inr a : Key) = Sum.inr b := fun q => e (Sum.inr.inj q)
    rw [decide_eq_false h, decide_eq_false e]
theorem key_lr (a : Int) (b : Str) : decide ((Sum.inl a : Key) = Sum.inr b) = false := decide_eq_false (fun q => nomatch q)
theorem key_rl (a : Str) (b : Int) : decide ((Sum.inr a : Key) = Sum.inl b) = false := decide_eq_false (fun q => nomatch q)

def mixKind (prog : Program) (w : World) : PySem.KeyKind prog w Key where
  is := keyIs
  hash := keyH w
  inj := fun v a b ha hb => by
    rcases keyIs_shape ha with ⟨i, t, rfl, rfl⟩ | ⟨x, t, rfl, rfl⟩
    · rcases keyIs_shape hb with ⟨j, u, rfl, e⟩ | ⟨y, u, rfl, e⟩
      · injection e with e1 _; rw [e1]
      · exact nomatch e
    · rcases keyIs_shape hb with ⟨j, u, rfl, e⟩ | ⟨y, u, rfl, e⟩
      · exact nomatch e
      · injection e with e1 _; rw [e1]
  byValue := fun k v h => by
    rcases keyIs_shape h with ⟨i, t, rfl, rfl⟩ | ⟨x, t, rfl, rfl⟩ <;> rfl
  pyHash := fun hv h => by
    rcases keyIs_shape hv with ⟨i, t, rfl, rfl⟩ | ⟨x, t, rfl, rfl⟩
    · exact wpAny_pyHash_int h
    · exact wpAny_pyHash_str h
  eqBool := fun hu hv h => by
    rcases keyIs_shape hu with ⟨i, t, rfl, rfl⟩ | ⟨x, t, rfl, rfl⟩
    · rcases keyIs_shape hv with ⟨j, u, rfl, rfl⟩ | ⟨y, u, rfl, rfl⟩
      · rw [key_ll] at h; exact wpAny_eqBool_int h
      · rw [key_lr] at h; exact SeqAt.EqAt.int_str i t y u _ _ _ _ h
    · rcases keyIs_shape hv with ⟨j, u, rfl, rfl⟩ | ⟨y, u, rfl, rfl⟩
      · rw [key_rl] at h; exact SeqAt.EqAt.str_int x t j u _ _ _ _ h
      · rw [key_rr] at h; exact wpAny_eqBool_str h
  «strs» := fun k x t v h => by
    rcases keyIs_shape h with ⟨i, u, rfl, e⟩ | ⟨y, u, rfl, e⟩
    · exact nomatch e
    · injection e with e1 _
      subst e1
      cases v <;> rfl

theorem mixKind_int (prog : Program) (w : World) (i : Int) (t : Tok) : (mixKind prog w).is (.inl i) (.int i t) = true := keyIs_int i t
theorem mixKind_str (prog : Program) (w : World) (x : Str) (t : Tok) : (mixKind prog w).is (.inr x) (.str x t) = true := keyIs_str x t
end L2

namespace L2
open PySem PySem.Spec PyProof.Rows

/-- a value, without the heap -/
inductive V where
  | non | bl (b : Bool) | int (i : Int) | str (x : Str) | byt (b : Array UInt8) | flt (b : UInt64) | ref (a : Addr) | ty (n : String)
  deriving DecidableEq

def RelV : V → Value → Prop
  | .non, u => u = Value.none
  | .bl b, u => u = Value.bool b
  | .int i, u => ∃ t, u = Value.int i t
  | .str x, u => ∃ t, u = Value.str x t
  | .byt b, u => ∃ t, u = Value.bytes b t
  | .flt b, u => ∃ t, u = Value.float b t
  | .ref a, u => u = Value.ref a
  | .ty n, u => u = Value.type n

abbrev Vals : List V → List Value → Prop := Paired RelV
theorem Vals.length {xs : List V} {us : List Value} (r : Vals xs us) : xs.length = us.length := Paired.length r
theorem Vals.get : ∀ {xs : List V} {us : List Value} {i : Nat} {x : V}, Vals xs us → xs[i]? = some x → ∃ u, us[i]? = some u ∧ RelV x u
  | _, _, _, _, .nil, e => by simp at e
  | _, _, 0, _, .cons r _, e => by simp at e; subst e; exact ⟨_, rfl, r⟩
  | _, _, i + 1, x, .cons _ t, e => by
    obtain ⟨u, h1, h2⟩ := Vals.get (i := i) (x := x) t (by simpa using e)
    exact ⟨u, by simpa using h1, h2⟩
theorem Vals.set {x : V} {u : Value} (r : RelV x u) : ∀ {xs : List V} {us : List Value} (i : Nat), Vals xs us → Vals (xs.set i x) (us.set i u)
  | _, _, _, .nil => .nil
  | _, _, 0, .cons _ t => .cons r t
  | _, _, i + 1, .cons q t => .cons q (Vals.set r i t)
theorem Vals.append : ∀ {xs ys : List V} {us ws : List Value}, Vals xs us → Vals ys ws → Vals (xs ++ ys) (us ++ ws)
  | _, _, _, _, .nil, s => s
  | _, _, _, _, .cons r t, s => .cons r (Vals.append t s)
theorem Vals.take : ∀ {xs : List V} {us : List Value} (n : Nat), Vals xs us → Vals (xs.take n) (us.take n)
  | _, _, 0, _ => .nil
  | _, _, _ + 1, .nil => .nil
  | _, _, n + 1, .cons r t => .cons r (Vals.take n t)
theorem Vals.drop : ∀ {xs : List V} {us : List Value} (n : Nat), Vals xs us → Vals (xs.drop n) (us.drop n)
  | _, _, 0, r => r
  | _, _, _ + 1, .nil => .nil
  | _, _, n + 1, .cons _ t => Vals.drop n t

def RelO : Option V → Option Value → Prop
  | some v, some u => RelV v u
  | none, none => True
  | _, _ => False
def KV {κ : Type} : List (κ × V) → List (κ × Value) → Prop := Paired fun (p : κ × V) (q : κ × Value) => p.1 = q.1 ∧ RelV p.2 q.2

/-- a key of a dict (00_mix): an int or a text -/
def kV : Key → V
  | .inl i => .int i
  | .inr x => .str x

/-- what stands at a tracked address -/
inductive HO where
  /-- a list -/
  | lst (xs : List V)
  /-- a tuple (never changes) -/
  | tup (xs : List V)
  /-- a dict whose keys are ints and texts; one whose keys are tuples of ints and texts (the empty one is both) -/
  | dK (kvs : List (Key × V)) | dT (kvs : List (List Key × V))
  /-- a set of ints: its members, its size -/
  | set (S : Int → Bool) (n : Nat)
  /-- an instance of the class at C, its dict at dx, its attributes -/
  | ins (C dx : Addr) (fs : List (Str × V))
  /-- the dict of the instance at x -/
  | own (x : Addr)
  /-- the dict of an exception -/
  | xd (fs : List (Str × V))
  /-- a bound method, f of x -/
  | met (f x : Addr)
  /-- a range object lo, lo + 1, .. below hi -/
  | rng (lo hi : Int)
  /-- a thing that is known to the object (the script; a dict while a loop walks it): read, never written while it is so -/
  | frz (o : Obj) (u : HO)
  /-- a code object's table -/
  | tbl (ps : Array Value)
  /-- any other thing, by what is true of its one object (a def of one's own: SetO a S n := HO.ext fun h => ..) -/
  | ext (φ : Heap → Prop)

abbrev Hp := Addr → Option HO
def upd (H : Hp) (a : Addr) (o : HO) : Hp := fun b => if b = a then some o else H b
theorem upd_same {H : Hp} {a : Addr} {o : HO} : upd H a o a = some o := by unfold upd; rw [if_pos rfl]
theorem upd_ne {H : Hp} {a b : Addr} {o : HO} (h : b ≠ a) : upd H a o b = H b := by unfold upd; rw [if_neg h]
theorem upd_upd {H : Hp} {a : Addr} {o u : HO} : upd (upd H a o) a u = upd H a u := by
  funext b; unfold upd; split <;> rfl
/-- two objects of different content stand apart -/
theorem ne_of {H : Hp} {a b : Addr} {o u : HO} (h : H a = some o) (h' : H b = some u) (d : o ≠ u) : a ≠ b := by
  intro e; subst e; rw [h] at h'; exact d (Option.some.inj h')
theorem ne_of_none {H : Hp} {a b : Addr} {o : HO} (h : H a = some o) (h' : H b = none) : a ≠ b := by
  intro e; subst e; rw [h] at h'; cases h'

section
variable (P : Program) (w : World)
def ObjOk (H : Hp) (h : Heap) (a : Addr) : HO → Prop
  | .lst xs => xs.length ≤ sizeLine ∧ ∃ (its : List Value) (n : Nat), Vals xs its ∧ h.get? a = some { cls := .type "list", data := .seq its.toArray n }
  | .tup xs => xs.length ≤ sizeLine ∧ ∃ its : List Value, Vals xs its ∧ IsTup h a its.toArray
  | .dK kvs => kvs.length ≤ sizeLine ∧ (a == sysModules) = false ∧ ∃ vs, KV kvs vs ∧ h.DictOf (mixKind P w) a vs
  | .dT kvs => kvs.length ≤ sizeLine ∧ (a == sysModules) = false ∧ ∃ xs : List (List Key × Addr × Value),
      Paired (fun (p : List Key × V) (q : List Key × Addr × Value) => p.1 = q.1 ∧ H q.2.1 = some (.tup (p.1.map kV)) ∧ RelV p.2 q.2.2) kvs xs ∧
      ∃ o es ep, h.get? a = some o ∧ o.ExactDict ∧ o.data = .dict es ep ∧ es.toList = xs.map (entryOfKey (tupleKind (mixKind P w))) ∧ (xs.map (·.1)).Nodup
  | .set S n => h.SetOf (intKind P w) a S n
  | .ins C dx fs => H dx = some (.own a) ∧ fs.length ≤ 1000 ∧ dx ≠ a ∧ h.get? a = some (PySem.W.instObj C dx) ∧
      ∃ mA, h.Ns1 dx mA ∧ (∀ f, RelO (fs.lookup f) (mA f)) ∧ PySem.Within mA (fs.map (·.1))
  | .own _ => ∃ o, h.get? a = some o
  | .xd fs => ∃ mA, h.Ns1 a mA ∧ ∀ f, RelO (fs.lookup f) (mA f)
  | .rng lo hi => ∃ t u v, h.get? a = some { cls := .type "range", data := .fields #[.int lo t, .int hi u, .int 1 v] }
  | .frz o u => h.get? a = some o ∧ ObjOk H h a u
  | .tbl ps => h.get? a = some { cls := .none, data := .fields ps }
  | .met f x => h.get? a = some (PySem.W.methodObj (.ref f) (.ref x))
  | .ext φ => φ h ∧ (∃ o, h.get? a = some o) ∧ ∀ h1 h2 : Heap, φ h1 → (∀ o, h1.get? a = some o → h2.get? a = some o) → φ h2
/-- the abstract heap is held -/
def HOk (H : Hp) (h : Heap) : Prop := ∀ a o, H a = some o → ObjOk P w H h a o
end

section
variable {P : Program} {w : World} {H H' : Hp} {h h' : Heap} {a : Addr} {o : HO}
theorem ObjOk.lt (x : ObjOk P w H h a o) : a < h.objs.size := by
  cases o with
  | lst xs => obtain ⟨_, _, _, _, e⟩ := x; exact Heap.lt_size e
  | tup xs => obtain ⟨_, _, _, p⟩ := x; exact p.lt
  | dK kvs => obtain ⟨_, _, _, _, o, _, _, e, _⟩ := x; exact Heap.lt_size e
  | dT kvs => obtain ⟨_, _, _, _, o, _, _, e, _⟩ := x; exact Heap.lt_size e
  | set S n => obtain ⟨o, _, _, _, e, _⟩ := x; exact Heap.lt_size e
  | ins C dx fs => obtain ⟨_, _, _, e, _⟩ := x; exact Heap.lt_size e
  | own y => obtain ⟨_, e⟩ := x; exact Heap.lt_size e
  | xd fs => obtain ⟨_, ⟨_, _, _, e, _⟩, _⟩ := x; exact Heap.lt_size e
  | rng lo hi => obtain ⟨_, _, _, e⟩ := x; exact Heap.lt_size e
  | frz ob u => obtain ⟨e, _⟩ := x; exact Heap.lt_size e
  | tbl ps => exact Heap.lt_size (show h.get? a = some _ from x)
  | met f y => exact Heap.lt_size (show h.get? a = some _ from x)
  | ext φ => obtain ⟨_, ⟨_, e⟩, _⟩ := x; exact Heap.lt_size e
theorem Paired.mapP {α β : Type} {F G : α → β → Prop} : ∀ {l₁ : List α} {l₂ : List β}, Paired F l₁ l₂ → (∀ a b, F a b → G a b) → Paired G l₁ l₂
  | _, _, .nil, _ => .nil
  | _, _, .cons r t, f => .cons (f _ _ r) (Paired.mapP t f)
/-- what an object's description leans on: its own object, its own dict, the tuples -/
theorem ObjOk.stay (x : ObjOk P w H h a o) (k : ∀ b u, (b = a ∨ H b = some (.own a)) → h.get? b = some u → h'.get? b = some u)
    (ho : ∀ b, H b = some (.own a) → H' b = some (.own a)) (ht : ∀ b xs, H b = some (.tup xs) → H' b = some (.tup xs)) : ObjOk P w H' h' a o := by
  induction o with
  | lst xs => obtain ⟨z, its, n, r, e⟩ := x; exact ⟨z, its, n, r, k _ _ (.inl rfl) e⟩
  | tup xs => obtain ⟨z, its, r, ob, e, c⟩ := x; exact ⟨z, its, r, ob, k _ _ (.inl rfl) e, c⟩
  | dK kvs => obtain ⟨z, y, vs, r, ob, es, ep, e, c⟩ := x; exact ⟨z, y, vs, r, ob, es, ep, k _ _ (.inl rfl) e, c⟩
  | dT kvs =>
    obtain ⟨z, y, xs, r, ob, es, ep, e, c⟩ := x
    exact ⟨z, y, xs, Paired.mapP r fun p q z => ⟨z.1, ht _ _ z.2.1, z.2.2⟩, ob, es, ep, k _ _ (.inl rfl) e, c⟩
  | set S n => obtain ⟨ob, es, ep, t, e, c⟩ := x; exact ⟨ob, es, ep, t, k _ _ (.inl rfl) e, c⟩
  | ins C dx fs =>
    obtain ⟨d, z, ne, e, mA, ⟨od, es, ep, e2, c⟩, r⟩ := x
    exact ⟨ho _ d, z, ne, k _ _ (.inl rfl) e, mA, ⟨od, es, ep, k _ _ (.inr d) e2, c⟩, r⟩
  | own y => obtain ⟨ob, e⟩ := x; exact ⟨ob, k _ _ (.inl rfl) e⟩
  | xd fs => obtain ⟨mA, ⟨od, es, ep, e, c⟩, r⟩ := x; exact ⟨mA, ⟨od, es, ep, k _ _ (.inl rfl) e, c⟩, r⟩
  | rng lo hi => obtain ⟨t, u, v, e⟩ := x; exact ⟨t, u, v, k _ _ (.inl rfl) e⟩
  | frz ob u ih => obtain ⟨e, q⟩ := x; exact ⟨k _ _ (.inl rfl) e, ih q⟩
  | tbl ps =>
    have e : h.get? a = some { cls := .none, data := .fields ps } := x
    show h'.get? a = some { cls := .none, data := .fields ps }
    exact k a _ (.inl rfl) e
  | met f y =>
    have e : h.get? a = some (PySem.W.methodObj (.ref f) (.ref y)) := x
    show h'.get? a = some (PySem.W.methodObj (.ref f) (.ref y))
    exact k a _ (.inl rfl) e
  | ext φ => obtain ⟨p, ⟨o, e⟩, st⟩ := x; exact ⟨st _ _ p fun o q => k _ _ (.inl rfl) q, ⟨o, k _ _ (.inl rfl) e⟩, st⟩
theorem HOk.lt (x : HOk P w H h) (e : H a = some o) : a < h.objs.size := (x a o e).lt
theorem HOk.fresh (x : HOk P w H h) (e : h.objs.size ≤ a) : H a = none := by
  cases q : H a with
  | none => rfl
  | some u => exact absurd (Nat.lt_of_lt_of_le (x.lt q) e) (Nat.lt_irrefl _)
/-- every object of the heap is kept -/
theorem HOk.kept (x : HOk P w H h) (k : ∀ b u, h.get? b = some u → h'.get? b = some u) : HOk P w H h' := fun a o e =>
  (x a o e).stay (fun b u _ q => k b u q) (fun _ q => q) fun _ _ q => q
/-- a new object is laid and tracked -/
theorem HOk.laid (x : HOk P w H h) (k : ∀ b u, h.get? b = some u → h'.get? b = some u) (hp : h.objs.size ≤ a) (new : ObjOk P w (upd H a o) h' a o) : HOk P w (upd H a o) h' := fun b u e => by
  have hn := x.fresh hp
  by_cases hb : b = a
  · subst hb; rw [upd_same] at e; cases e; exact new
  · rw [upd_ne hb] at e
    exact (x b u e).stay (fun c v _ q => k c v q) (fun c q => by rw [upd_ne (ne_of_none q hn)]; exact q) fun c xs q => by rw [upd_ne (ne_of_none q hn)]; exact q
end

/-- what may be read as u: it is u, or a known u -/
def Rd (H : Hp) (a : Addr) (u : HO) : Prop := H a = some u ∨ ∃ o, H a = some (.frz o u)
theorem Rd.ok {P : Program} {w : World} {H : Hp} {h : Heap} {a : Addr} {u : HO} (r : Rd H a u) (x : HOk P w H h) : ObjOk P w H h a u := by
  rcases r with r | ⟨o, r⟩
  · exact x a u r
  · obtain ⟨_, q⟩ := x a _ r
    exact q
/-- what may be written -/
def Mut : Option HO → Prop
  | some (.lst _) => True
  | some (.dK _) => True
  | some (.dT _) => True
  | some (.set _ _) => True
  | some (.ins _ _ _) => True
  | some (.ext _) => True
  | _ => False
section
variable {P : Program} {w : World} {H : Hp} {h h' : Heap} {x e : Addr} {o' : HO}
/-- the object at e is changed: x itself, or the dict of the instance x -/
theorem HOk.write (ok : HOk P w H h) (mu : Mut (H x)) (he : e = x ∨ H e = some (.own x)) (k : ∀ b u, b ≠ e → h.get? b = some u → h'.get? b = some u) (heo : ∃ u, h'.get? e = some u)
    (new : ObjOk P w (upd H x o') h' x o') : HOk P w (upd H x o') h' := fun b u q => by
  have nown : ∀ c y, H c = some (.own y) → c ≠ x := fun c y r z => by subst z; rw [r] at mu; exact mu
  have ntup : ∀ c xs, H c = some (.tup xs) → c ≠ x := fun c xs r z => by subst z; rw [r] at mu; exact mu
  by_cases hb : b = x
  · subst hb; rw [upd_same] at q; cases q; exact new
  · rw [upd_ne hb] at q
    by_cases hbe : b = e
    · have q' : H b = some (.own x) := by
        rcases he with z | z
        · exact absurd (hbe.trans z) hb
        · rw [hbe]; exact z
      rw [q] at q'; cases q'
      obtain ⟨v, hv⟩ := heo
      exact ⟨v, by rw [hbe]; exact hv⟩
    · refine (ok b u q).stay (fun c v hc r => k c v ?_ r) (fun c r => by rw [upd_ne (nown c b r)]; exact r) fun c xs r => by rw [upd_ne (ntup c xs r)]; exact r
      rcases hc with rfl | hc
      · exact hbe
      · rintro rfl
        rcases he with z | z
        · exact nown c b hc z
        · rw [hc] at z; cases z; exact hb rfl
end

/-! ### kept unless tracked; of the frames at fs (the callers') the slots may change (an exception that passes writes there); of the records at ex (iterators) nothing is said -/
structure Un (fs ex : List Addr) (H H' : Hp) (h h' : Heap) : Prop where
  keep : ∀ b o, h.get? b = some o → H b = none → b ∉ fs → b ∉ ex → h'.get? b = some o
  slot : ∀ b o, h.get? b = some o → H b = none → b ∈ fs → b ∉ ex → ∃ sl, h'.get? b = some { o with slots := sl }
  free : ∀ b o, h.get? b = some o → H b = none → b ∉ ex → H' b = none
  there : ∀ b o, h.get? b = some o → b ∉ ex → ∃ o', h'.get? b = some o'
  tups : ∀ b xs, H b = some (.tup xs) → H' b = some (.tup xs)
  frzs : ∀ b o u, H b = some (.frz o u) → H' b = some (.frz o u)
  tbls : ∀ b ps, H b = some (.tbl ps) → ∃ more, H' b = some (.tbl (ps ++ more))
section
variable {fs fs' ex ex' : List Addr} {H H1 H2 : Hp} {h h1 h2 h' : Heap} {a x e : Addr} {o : HO}
theorem Un.any (u : Un fs ex H H1 h h1) {b : Addr} {ob : Obj} (q : h.get? b = some ob) (n : H b = none) (hx : b ∉ ex) : ∃ sl, h1.get? b = some { ob with slots := sl } := by
  by_cases hb : b ∈ fs
  · exact u.slot b ob q n hb hx
  · exact ⟨ob.slots, u.keep b ob q n hb hx⟩
theorem Un.kept (k : ∀ b u, h.get? b = some u → h'.get? b = some u) : Un fs ex H H h h' :=
  ⟨fun b ob q _ _ _ => k b ob q, fun b ob q _ _ _ => ⟨ob.slots, k b ob q⟩, fun _ _ _ n _ => n, fun b ob q _ => ⟨ob, k b ob q⟩, fun _ _ q => q, fun _ _ _ q => q, fun _ ps q => ⟨#[], by rw [q]; simp⟩⟩
theorem Un.refl : Un fs ex H H h h := Un.kept fun _ _ q => q
theorem Un.laid (k : ∀ b u, h.get? b = some u → h'.get? b = some u) (hp : h.objs.size ≤ a) (hn : H a = none) : Un fs ex H (upd H a o) h h' where
  keep := fun b u q _ _ _ => k b u q
  slot := fun b u q _ _ _ => ⟨u.slots, k b u q⟩
  free := fun b u q n _ => by rw [upd_ne (Nat.ne_of_lt (Nat.lt_of_lt_of_le (Heap.lt_size q) hp))]; exact n
  there := fun b u q _ => ⟨u, k b u q⟩
  tups := fun b xs q => by rw [upd_ne (ne_of_none q hn)]; exact q
  frzs := fun b u xs q => by rw [upd_ne (ne_of_none q hn)]; exact q
  tbls := fun b ps q => ⟨#[], by rw [upd_ne (ne_of_none q hn), q]; simp⟩
theorem Un.write (mu : Mut (H x)) (he : e = x ∨ H e = some (.own x)) (k : ∀ b u, b ≠ e → h.get? b = some u → h'.get? b = some u) (heo : ∃ u, h'.get? e = some u) : Un fs ex H (upd H x o) h h' := by
  have hx : ∀ b, H b = none → b ≠ x := fun b n z => by subst z; rw [n] at mu; exact mu
  have hb : ∀ b, H b = none → b ≠ e := fun b n z => by
    subst z
    rcases he with r | r
    · exact hx b n r
    · rw [n] at r; cases r
  have hm : ∀ b u, H b = some u → ¬ Mut (some u) → b ≠ x := fun b u q nm z => by subst z; rw [q] at mu; exact nm mu
  refine ⟨fun b u q n _ _ => k b u (hb b n) q, fun b u q n _ _ => ⟨u.slots, k b u (hb b n) q⟩, fun b u q n _ => by rw [upd_ne (hx b n)]; exact n, fun b u q _ => ?_,
    fun b xs q => by rw [upd_ne (hm b _ q fun z => z)]; exact q, fun b u xs q => by rw [upd_ne (hm b _ q fun z => z)]; exact q, fun b ps q => ⟨#[], by rw [upd_ne (hm b _ q fun z => z), q]; simp⟩⟩
  by_cases hbe : b = e
  · subst hbe; exact heo
  · exact ⟨u, k b u hbe q⟩
end

/-! ### the heap without what is tracked -/
def trk (h : Heap) (H : Hp) : List Addr := (List.range h.objs.size).filter fun a => (H a).isSome
def hidT (h : Heap) (H : Hp) : Heap := PySem.W.hideAll h (trk h H)
theorem hidT_size (h : Heap) (H : Hp) : (hidT h H).objs.size = h.objs.size := PySem.W.hideAll_size _ _
theorem hidT_get {h : Heap} {H : Hp} {b : Addr} {o : Obj} (e : h.get? b = some o) (n : H b = none) : (hidT h H).get? b = some o :=
  PySem.W.hideAll_get _ e fun hm => by
    have q : (H b).isSome = true := (List.mem_filter.mp hm).2
    rw [n] at q; simp at q
theorem of_hidT {h : Heap} {H : Hp} {b : Addr} {o : Obj} (e : (hidT h H).get? b = some o) : h.get? b = some o ∧ H b = none := by
  have e' : h.get? b = some o := PySem.W.of_hideAll (trk h H) e
  refine ⟨e', ?_⟩
  cases q : H b with
  | none => rfl
  | some x =>
    have hm : b ∈ trk h H := List.mem_filter.mpr ⟨List.mem_range.mpr (Heap.lt_size e'), by simp [q]⟩
    have z : (hidT h H).get? b = none := PySem.W.hideAll_none (trk h H) hm
    rw [z] at e; cases e

/-! ### OpenK's ledger, filled with every new object but one -/
def allNews (g h : Heap) (L : Addr) : List (Addr × Obj) := (List.range h.objs.size).filterMap fun a => if a = L ∨ (g.get? a).isSome = true then none else (h.get? a).map fun o => (a, o)
def rest (g h : Heap) (L d : Addr) : List (Addr × Obj) := (allNews g h L).filter fun p => decide (p.1 ≠ d)
end L2

namespace L2
open PySem PySem.Spec PyProof.Rows

/-- the module's facts, over the base: the heap at the law's entry without what is tracked there -/
structure Mod (K : PySem.W.Frag) (mg : Str → Option Value) (base : Heap) : Prop where
  kin : K.In base
  glob : base.Ns mainGlobals mg
  blt : ∃ mb, base.Ns builtinsNs mb ∧ ∀ x : Str, x ≠ "__name__" → mb x = bootBuiltins x
  nolimit : base.NoLimit

/-- the context: a def's body (or a comprehension's block) running. base: fixed through the whole law; s₀, H₀: the entry; outer: the frames whose slots others may change (a def's callers); stack: all frames that run;
   ex: iterators that were made ahead of the entry and are walked here (a comprehension's); fn: the names whose cells were made at the entry (a def: all; a comprehension's block: its own); calm: not within an except suite; pn: pins that every state bears; xe: what is wanted of an exception that leaves the code -/
structure Cx where
  prog : Program
  w : World
  K : PySem.W.Frag
  mg : Str → Option Value
  base : Heap
  A : Around
  N : List Str
  s₀ : Shared
  H₀ : Hp
  env : Env
  outer : List Env
  stack : List Env
  ex : List Addr
  fn : Str → Bool
  calm : Bool
  pn : List (Addr × Obj)
  xe : Value → Shared → Prop
/-- the callers' frames -/
def frs (l : List Env) : List Addr := l.filterMap (·.frame)
abbrev Cx.fs (X : Cx) : List Addr := frs X.outer

def Vis (sc : Scope) (x : Str) : Prop := sc.names.lookup x = some .local ∨ sc.names.lookup x = some .cell ∨ sc.names.lookup x = some .free
def Loc (sc : Scope) (x : Str) : Prop := sc.names.lookup x = some .local ∨ sc.names.lookup x = some .cell
def Look (env : Env) (h : Heap) (m : Str → Option Value) (x : Str) (u : Value) : Prop :=
  (env.kindOf x = some .local ∧ m x = some u) ∨ ((env.kindOf x = some .cell ∨ env.kindOf x = some .free) ∧ ∃ c, env.cells.lookup x = some c ∧ h.IsCell c (some u))

structure Cx.Ok (X : Cx) : Prop where
  mod : Mod X.K X.mg X.base
  kind : X.env.scope.kind = .function
  glob : X.env.globals = mainGlobals
  blt : X.env.builtins = builtinsNs
  above : X.s₀.heap.objs.size ≤ X.env.locals
  inj : ∀ x y c, X.env.cells.lookup x = some c → X.env.cells.lookup y = some c → x = y
  has : ∀ x, (X.env.kindOf x = some .cell ∨ X.env.kindOf x = some .free) → ∃ c, X.env.cells.lookup x = some c
  cab : ∀ x c, X.fn x = true → X.env.cells.lookup x = some c → X.s₀.heap.objs.size ≤ c
  hd : X.calm = true → X.A.handled = none
  frames : X.A.frames = some X.stack
  stk : X.stack = X.outer ∨ (X.stack = X.env :: X.outer ∧ X.env.frame = some X.env.locals)
  exf : ∀ b ∈ X.ex, b ≠ X.env.locals ∧ ∀ x c, X.env.cells.lookup x = some c → c ≠ b
  bs : ∀ b o, X.base.get? b = some o → X.s₀.heap.get? b = some o ∧ X.H₀ b = none
  bsz : X.base.objs.size ≤ X.s₀.heap.objs.size
  noex : ∀ b o, X.base.get? b = some o → b ∉ X.ex
  exfs : ∀ b ∈ X.ex, b ∉ X.fs
  funs : X.s₀.heap.FunFrames X.base X.outer
  frf : ∀ b ∈ X.fs, X.H₀ b = none

structure Inv (X : Cx) (pins : List (Addr × Obj)) (σ : List (Option V)) (H : Hp) (s : Shared) : Prop where
  ok : X.Ok
  os : s.os = X.s₀.os
  bare : AllBare s.gens
  base : Un X.fs X.ex X.H₀ H X.s₀.heap s.heap
  loc : ∃ m, s.heap.Ns X.env.locals m ∧ ∀ (i : Nat) (x : Str) (v : V), X.N[i]? = some x → σ[i]? = some (some v) → Vis X.env.scope x → ∃ u, RelV v u ∧ Look X.env s.heap m x u
  cell : ∀ x c, X.env.cells.lookup x = some c → ∃ v, s.heap.IsCell c v
  free : H X.env.locals = none
  freeC : ∀ x c, X.env.cells.lookup x = some c → H c = none
  pin : ∀ p ∈ X.pn ++ pins, s.heap.get? p.1 = some p.2 ∧ H p.1 = none ∧ p.1 ≠ X.env.locals ∧ p.1 ∉ X.fs ∧ ∀ v, p.2.data ≠ .cell v
  hok : HOk X.prog X.w H s.heap
  len : σ.length = X.N.length

section
variable {X : Cx} {pins : List (Addr × Obj)} {σ : List (Option V)} {H H' : Hp} {s : Shared} {h' : Heap}

theorem Cx.Ok.nofr (ok : X.Ok) {b : Addr} {o : Obj} (e : X.base.get? b = some o) : b ∉ X.fs := fun hb => by
  have := (ok.funs.mem hb).1
  rw [e] at this; cases this
theorem Inv.bs (I : Inv X pins σ H s) : ∀ b o, X.base.get? b = some o → s.heap.get? b = some o ∧ H b = none := fun b o e =>
  ⟨I.base.keep b o (I.ok.bs b o e).1 (I.ok.bs b o e).2 (I.ok.nofr e) (I.ok.noex b o e), I.base.free b o (I.ok.bs b o e).1 (I.ok.bs b o e).2 (I.ok.noex b o e)⟩
theorem Inv.bk (I : Inv X pins σ H s) : ∀ b o, X.base.get? b = some o → s.heap.get? b = some o := fun b o e => (I.bs b o e).1
theorem Inv.mod (I : Inv X pins σ H s) : Mod X.K X.mg X.base := I.ok.mod
theorem Inv.kIn (I : Inv X pins σ H s) : X.K.In s.heap := I.ok.mod.kin.keeps I.bk
theorem Inv.lt (I : Inv X pins σ H s) : X.env.locals < s.heap.objs.size := let ⟨_, hn, _⟩ := I.loc; hn.lt
theorem Inv.sz (I : Inv X pins σ H s) : X.s₀.heap.objs.size ≤ s.heap.objs.size := Nat.le_trans I.ok.above (Nat.le_of_lt I.lt)
theorem Inv.nofs (I : Inv X pins σ H s) {a : Addr} (h : s.heap.objs.size ≤ a) : a ∉ X.fs := fun hb => by
  obtain ⟨_, o, ho, _⟩ := I.ok.funs.mem hb
  exact absurd (Nat.lt_of_lt_of_le (Heap.lt_size ho) (Nat.le_trans I.sz h)) (Nat.lt_irrefl _)
theorem Inv.cne (I : Inv X pins σ H s) : ∀ x c, X.env.cells.lookup x = some c → c ≠ X.env.locals := fun x c e z => by
  obtain ⟨v, o, ho, hd⟩ := I.cell x c e
  obtain ⟨m, ⟨o', es, ep, ho', hd', _⟩, _⟩ := I.loc
  rw [z, ho'] at ho; cases ho; rw [hd'] at hd; cases hd
theorem Inv.funs (I : Inv X pins σ H s) : s.heap.FunFrames X.base X.outer := by
  have all : ∀ (l : List Env), (∀ b ∈ frs l, b ∈ X.fs) → X.s₀.heap.FunFrames X.base l → s.heap.FunFrames X.base l := by
    intro l
    induction l with
    | nil => intro _ _; trivial
    | cons env r ih =>
      intro hs hl
      obtain ⟨hk, ⟨L, o, hf, hn, ho, hd⟩, hr⟩ := hl
      have hL : L ∈ X.fs := hs L (by unfold frs; rw [List.filterMap_cons, hf]; exact List.mem_cons_self)
      obtain ⟨sl, e⟩ := I.base.slot L o ho (I.ok.frf L hL) hL fun z => I.ok.exfs L z hL
      exact ⟨hk, ⟨L, _, hf, hn, e, hd⟩, ih (fun b hb => hs b (by unfold frs; rw [List.filterMap_cons, hf]; exact List.mem_cons_of_mem _ hb)) hr⟩
  exact all X.outer (fun _ hb => hb) I.ok.funs

/-- the frames that run, for a call -/
theorem Inv.stack (I : Inv X pins σ H s) : s.heap.FunFrames X.base X.stack := by
  rcases I.ok.stk with e | ⟨e, hf⟩
  · rw [e]; exact I.funs
  · rw [e]
    obtain ⟨m, hn, _⟩ := I.loc
    refine .cons (by rw [I.ok.kind]; decide) hf hn ?_ I.funs
    exact Heap.get?_none_of_le (Nat.le_trans I.ok.bsz I.ok.above)
theorem Inv.stkSub (I : Inv X pins σ H s) : ∀ b ∈ frs X.stack, b ∈ X.env.locals :: X.fs := fun b hb => by
  rcases I.ok.stk with e | ⟨e, hf⟩
  · rw [e] at hb; exact List.mem_cons_of_mem _ hb
  · rw [e] at hb
    unfold frs at hb
    rw [List.filterMap_cons, hf] at hb
    exact hb
theorem Inv.stkFree (I : Inv X pins σ H s) : ∀ b ∈ frs X.stack, H b = none := fun b hb => by
  rcases List.mem_cons.mp (I.stkSub b hb) with e | hb
  · rw [e]; exact I.free
  · obtain ⟨_, o, ho, _⟩ := I.ok.funs.mem hb
    exact I.base.free b o ho (I.ok.frf b hb) fun z => I.ok.exfs b z hb

/-- THE STEP: the untracked objects but the frame and the records at ch are kept (the callers' frames up to slots), the frame's map is kept, the new abstract heap is held -/
theorem Inv.step {g' : Array GenState} {t' : Nat} {d' : Drawn} {ch : List Addr} (I : Inv X pins σ H s)
    (hch : ∀ b ∈ ch, (b ∈ X.ex ∨ X.s₀.heap.objs.size ≤ b) ∧ b ≠ X.env.locals ∧ (∀ x c, X.env.cells.lookup x = some c → c ≠ b) ∧ ∀ p ∈ X.pn ++ pins, p.1 ≠ b)
    (keep : ∀ b o, b ≠ X.env.locals → b ∉ X.fs → b ∉ ch → s.heap.get? b = some o → H b = none → h'.get? b = some o)
    (slot : ∀ b o, b ≠ X.env.locals → b ∈ X.fs → b ∉ ch → s.heap.get? b = some o → H b = none → ∃ sl, h'.get? b = some { o with slots := sl }) (free : ∀ b o, b ∉ ch → s.heap.get? b = some o → H b = none → H' b = none)
    (there : ∀ b o, b ∉ ch → s.heap.get? b = some o → ∃ o', h'.get? b = some o')
    (tups : ∀ b xs, H b = some (.tup xs) → H' b = some (.tup xs)) (frzs : ∀ b o u, H b = some (.frz o u) → H' b = some (.frz o u)) (tbls : ∀ b ps, H b = some (.tbl ps) → ∃ more, H' b = some (.tbl (ps ++ more)))
    (ns : ∀ m, s.heap.Ns X.env.locals m → h'.Ns X.env.locals m) (hok : HOk X.prog X.w H' h') (hg : AllBare g') :
    Inv X pins σ H' { s with heap := h', gens := g', drawn := d', toks := t' } := by
  have neL : ∀ b o, X.s₀.heap.get? b = some o → b ≠ X.env.locals := fun b o e => Nat.ne_of_lt (Nat.lt_of_lt_of_le (Heap.lt_size e) I.ok.above)
  have neC : ∀ b o, X.s₀.heap.get? b = some o → b ∉ X.ex → b ∉ ch := fun b o e hx hb => by
    rcases (hch b hb).1 with z | z
    · exact hx z
    · exact absurd (Nat.lt_of_lt_of_le (Heap.lt_size e) z) (Nat.lt_irrefl _)
  have cellK : ∀ x c, X.env.cells.lookup x = some c → ∀ v, s.heap.IsCell c v → h'.IsCell c v := fun x c e v ⟨o, ho, hd⟩ => by
    have nch : c ∉ ch := fun z => (hch c z).2.2.1 x c e rfl
    by_cases hc : c ∈ X.fs
    · obtain ⟨sl, q⟩ := slot c o (I.cne x c e) hc nch ho (I.freeC x c e)
      exact ⟨_, q, hd⟩
    · exact ⟨o, keep c o (I.cne x c e) hc nch ho (I.freeC x c e), hd⟩
  refine ⟨I.ok, I.os, hg, ⟨fun b o e n hb hx => ?_, fun b o e n hb hx => ?_, fun b o e n hx => ?_, fun b o e hx => ?_, fun b xs e => tups b xs (I.base.tups b xs e), fun b o xs e => frzs b o xs (I.base.frzs b o xs e), fun b ps e => ?_⟩, ?_, fun x c e => ?_, ?_, fun x c e => ?_, fun p hp => ?_, hok, I.len⟩
  · exact keep b o (neL b o e) hb (neC b o e hx) (I.base.keep b o e n hb hx) (I.base.free b o e n hx)
  · obtain ⟨sl, e1⟩ := I.base.slot b o e n hb hx
    obtain ⟨sl', e2⟩ := slot b _ (neL b o e) hb (neC b o e hx) e1 (I.base.free b o e n hx)
    exact ⟨sl', e2⟩
  · obtain ⟨o', e1⟩ := I.base.there b o e hx
    exact free b o' (neC b o e hx) e1 (I.base.free b o e n hx)
  · obtain ⟨o', e1⟩ := I.base.there b o e hx
    exact there b o' (neC b o e hx) e1
  · obtain ⟨m1, e1⟩ := I.base.tbls b ps e
    obtain ⟨m2, e2⟩ := tbls b _ e1
    exact ⟨m1 ++ m2, by rw [e2, Array.append_assoc]⟩
  · obtain ⟨m, hn, hl⟩ := I.loc
    refine ⟨m, ns m hn, fun i x v e1 e2 e3 => ?_⟩
    obtain ⟨u, r, l⟩ := hl i x v e1 e2 e3
    refine ⟨u, r, ?_⟩
    rcases l with l | ⟨k, c, e, z⟩
    · exact .inl l
    · exact .inr ⟨k, c, e, cellK x c e _ z⟩
  · obtain ⟨v, z⟩ := I.cell x c e
    exact ⟨v, cellK x c e v z⟩
  · obtain ⟨m, ⟨o, _, _, ho, _⟩, _⟩ := I.loc
    exact free _ o (fun z => (hch _ z).2.1 rfl) ho I.free
  · obtain ⟨v, o, ho, hd⟩ := I.cell x c e
    exact free c o (fun z => (hch c z).2.2.1 x c e rfl) ho (I.freeC x c e)
  · obtain ⟨e, n, ne, nf, d⟩ := I.pin p hp
    have nch : p.1 ∉ ch := fun z => (hch p.1 z).2.2.2 p hp rfl
    exact ⟨keep p.1 p.2 ne nf nch e n, free p.1 p.2 nch e n, ne, nf, d⟩
/-- .. where the frame's own object is kept too -/
theorem Inv.un {t' : Nat} (I : Inv X pins σ H s) (u : Un X.fs [] H H' s.heap h') (hok : HOk X.prog X.w H' h') : Inv X pins σ H' { s with heap := h', toks := t' } := by
  obtain ⟨m, ⟨o, es, ep, ho, r⟩, _⟩ := id I.loc
  obtain ⟨sl, hL⟩ := u.any ho I.free (by simp)
  exact I.step (g' := s.gens) (d' := s.drawn) (ch := []) (fun _ z => nomatch z) (fun b o _ hb _ e n => u.keep b o e n hb (by simp)) (fun b o _ hb _ e n => u.slot b o e n hb (by simp)) (fun b o _ e n => u.free b o e n (by simp)) (fun b o _ e => u.there b o e (by simp)) u.tups u.frzs u.tbls (fun m' hm => by
    obtain ⟨o', es', ep', ho', r'⟩ := hm
    rw [ho] at ho'; cases ho'
    exact ⟨_, es', ep', hL, r'⟩) hok I.bare
/-- behind a call (or a comprehension's block): the slots of this frame may have changed too, the records at ch may have turned -/
theorem Inv.call {g' : Array GenState} {t' : Nat} {d' : Drawn} {ch : List Addr} (I : Inv X pins σ H s) (u : Un (frs X.stack) ch H H' s.heap h') (hok : HOk X.prog X.w H' h') (hg : AllBare g')
    (hch : ∀ b ∈ ch, (b ∈ X.ex ∨ X.s₀.heap.objs.size ≤ b) ∧ b ≠ X.env.locals ∧ (∀ x c, X.env.cells.lookup x = some c → c ≠ b) ∧ ∀ p ∈ X.pn ++ pins, p.1 ≠ b) :
    Inv X pins σ H' { s with heap := h', gens := g', drawn := d', toks := t' } := by
  obtain ⟨m, ⟨o, es, ep, ho, r⟩, _⟩ := id I.loc
  obtain ⟨sl, hL⟩ := u.any ho I.free fun z => (hch _ z).2.1 rfl
  exact I.step (ch := ch) hch (fun b o hL hb hc e n => u.keep b o e n (fun z => (List.mem_cons.mp (I.stkSub b z)).elim hL hb) hc) (fun b o _ _ hc e n => u.any e n hc) (fun b o hc e n => u.free b o e n hc) (fun b o hc e => u.there b o e hc) u.tups u.frzs u.tbls (fun m' hm => by
    obtain ⟨o', es', ep', ho', r'⟩ := hm
    rw [ho] at ho'; cases ho'
    exact ⟨_, es', ep', hL, r'⟩) hok hg
/-- an untracked record of ours (an iterator) has turned -/
theorem Inv.turned {t' : Nat} {it : Addr} (I : Inv X pins σ H s) (k : ∀ b o, b ≠ it → s.heap.get? b = some o → h'.get? b = some o) (hn : H it = none) (hL : it ≠ X.env.locals)
    (h1 : it ∈ X.ex ∨ X.s₀.heap.objs.size ≤ it) (h2 : ∀ x c, X.env.cells.lookup x = some c → c ≠ it) (h3 : ∀ p ∈ X.pn ++ pins, p.1 ≠ it) : Inv X pins σ H { s with heap := h', toks := t' } := by
  have nit : ∀ b u, H b = some u → b ≠ it := fun b u e z => by rw [z, hn] at e; cases e
  refine I.step (g' := s.gens) (d' := s.drawn) (ch := [it]) (fun b hb => ?_) (fun b o _ _ hc e _ => k b o (fun z => hc (by simp [z])) e) (fun b o _ _ hc e _ => ⟨o.slots, k b o (fun z => hc (by simp [z])) e⟩) (fun _ _ _ _ n => n)
    (fun b o hc e => ⟨o, k b o (fun z => hc (by simp [z])) e⟩) (fun _ _ e => e) (fun _ _ _ e => e) (fun b ps e => ⟨#[], by rw [e]; simp⟩) (fun m hm => ?_) (fun b u e => ?_) I.bare
  · have e : b = it := by simpa using hb
    subst e
    exact ⟨h1, hL, h2, h3⟩
  · obtain ⟨o, es, ep, ho, r⟩ := hm
    exact ⟨o, es, ep, k _ o (Ne.symm hL) ho, r⟩
  · refine (I.hok b u e).stay (fun c v hc q => k c v ?_ q) (fun _ q => q) fun _ _ q => q
    rcases hc with z | z
    · rw [z]; exact nit b u e
    · exact nit c _ z
theorem Inv.tok (I : Inv X pins σ H s) (t : Nat) : Inv X pins σ H { s with toks := t } := I.un (h' := s.heap) (t' := t) Un.refl I.hok
/-- all objects kept -/
theorem Inv.kept {t' : Nat} (I : Inv X pins σ H s) (k : ∀ b u, s.heap.get? b = some u → h'.get? b = some u) : Inv X pins σ H { s with heap := h', toks := t' } := I.un (Un.kept k) (I.hok.kept k)
/-- a new object laid and tracked -/
theorem Inv.laid {a : Addr} {o : HO} {t' : Nat} (I : Inv X pins σ H s) (k : ∀ b u, s.heap.get? b = some u → h'.get? b = some u) (hp : s.heap.objs.size ≤ a) (new : ObjOk X.prog X.w (upd H a o) h' a o) :
    Inv X pins σ (upd H a o) { s with heap := h', toks := t' } := I.un (Un.laid k hp (I.hok.fresh hp)) (I.hok.laid k hp new)
/-- an object written -/
theorem Inv.write {x e : Addr} {o : HO} {t' : Nat} (I : Inv X pins σ H s) (mu : Mut (H x)) (he : e = x ∨ H e = some (.own x)) (k : ∀ b u, b ≠ e → s.heap.get? b = some u → h'.get? b = some u) (heo : ∃ u, h'.get? e = some u)
    (new : ObjOk X.prog X.w (upd H x o) h' x o) : Inv X pins σ (upd H x o) { s with heap := h', toks := t' } := I.un (Un.write mu he k heo) (I.hok.write mu he k heo new)
theorem Inv.pins_of {pins' : List (Addr × Obj)} (I : Inv X pins σ H s) (h : ∀ p ∈ pins', s.heap.get? p.1 = some p.2 ∧ H p.1 = none ∧ p.1 ≠ X.env.locals ∧ p.1 ∉ X.fs ∧ ∀ v, p.2.data ≠ .cell v) : Inv X pins' σ H s :=
  ⟨I.ok, I.os, I.bare, I.base, I.loc, I.cell, I.free, I.freeC, fun p hp => (List.mem_append.mp hp).elim (fun z => I.pin p (List.mem_append_left _ z)) (h p), I.hok, I.len⟩

theorem nodup_ix {N : List Str} (hN : N.Nodup) {i j : Nat} {x : Str} (a : N[i]? = some x) (b : N[j]? = some x) : i = j := by
  obtain ⟨h1, e1⟩ := List.getElem?_eq_some_iff.mp a
  obtain ⟨h2, e2⟩ := List.getElem?_eq_some_iff.mp b
  exact (List.getElem_inj hN).mp (e1.trans e2.symm)

/-- a name is stored; what changed -/
theorem store_ok2 {M : Model} {A : Around} {E : Value → Shared → Prop} {i : Nat} {x : Str} {v : V} {u : Value} {Q : Unit → Shared → Prop} (I : Inv X pins σ H s) (hN : X.N.Nodup) (hi : X.N[i]? = some x) (hx : Loc X.env.scope x) (r : RelV v u)
    (h : ∀ s', Inv X pins (σ.set i (some v)) H s' → (∃ a, Heap.SameBut a s.heap s'.heap ∧ (a = X.env.locals ∨ X.env.cells.lookup x = some a)) → Q () s') (hf : X.fn x = true ∨ X.env.scope.names.lookup x = some .local := by first | exact .inl rfl | exact .inr rfl | assumption) : wpAny M A (storeName X.env x u) Q E s := by
  obtain ⟨m, hn, hl⟩ := id I.loc
  have hcls : (X.env.scope.kind == .class || (X.env.scope.kind == .module && X.env.locals != X.env.globals)) = false := by rw [I.ok.kind]; rfl
  have hiσ : i < σ.length := by rw [I.len]; exact (List.getElem?_eq_some_iff.mp hi).1
  have cne := I.cne
  have tracked : ∀ {a : Addr} {h' : Heap}, (∃ o, s.heap.get? a = some o ∧ H a = none) → Heap.SameBut a s.heap h' → HOk X.prog X.w H h' := fun {a h'} ha hs b ob e => by
    obtain ⟨_, _, hfree⟩ := ha
    refine (I.hok b ob e).stay (fun c w' hc q => (hs.2 c ?_).trans q) (fun _ q => q) fun _ _ q => q
    rintro rfl
    rcases hc with rfl | hc
    · rw [hfree] at e; cases e
    · rw [hfree] at hc; cases hc
  rcases hx with hk | hk
  · refine wpAny_storeName_local hk hn (fun h' hn' hs => ?_) hcls
    obtain ⟨oL, _, _, hoL, _⟩ := id hn
    refine h _ ⟨I.ok, I.os, I.bare, ⟨fun b o e n hb hx => ?_, fun b o e n hb hx => ?_, I.base.free, fun b o e hx => ?_, I.base.tups, I.base.frzs, I.base.tbls⟩, ⟨_, hn', fun j y v' e1 e2 e3 => ?_⟩, fun y c e => ?_, I.free, I.freeC, fun p hp => ?_, tracked ⟨oL, hoL, I.free⟩ hs, by simpa using I.len⟩ ⟨_, hs, .inl rfl⟩
    · exact (hs.2 b (Nat.ne_of_lt (Nat.lt_of_lt_of_le (Heap.lt_size e) I.ok.above))).trans (I.base.keep b o e n hb hx)
    · obtain ⟨sl, e1⟩ := I.base.slot b o e n hb hx
      exact ⟨sl, (hs.2 b (Nat.ne_of_lt (Nat.lt_of_lt_of_le (Heap.lt_size e) I.ok.above))).trans e1⟩
    · obtain ⟨o', e1⟩ := I.base.there b o e hx
      exact ⟨o', (hs.2 b (Nat.ne_of_lt (Nat.lt_of_lt_of_le (Heap.lt_size e) I.ok.above))).trans e1⟩
    · by_cases hj : j = i
      · subst hj
        rw [hi] at e1; cases e1
        rw [List.getElem?_set_self hiσ] at e2
        cases e2
        exact ⟨u, r, .inl ⟨hk, by simp⟩⟩
      · rw [List.getElem?_set_ne (Ne.symm hj)] at e2
        obtain ⟨u', r', q⟩ := hl j y v' e1 e2 e3
        refine ⟨u', r', ?_⟩
        rcases q with ⟨k, e⟩ | ⟨k, c, e, z⟩
        · refine .inl ⟨k, ?_⟩
          have : y ≠ x := fun e => hj (nodup_ix hN e1 (e ▸ hi))
          simp [this, e]
        · exact .inr ⟨k, c, e, z.sameBut hs (cne y c e)⟩
    · obtain ⟨w', z⟩ := I.cell y c e
      exact ⟨w', z.sameBut hs (cne y c e)⟩
    · obtain ⟨e, n, ne, nf, d⟩ := I.pin p hp
      exact ⟨(hs.2 p.1 ne).trans e, n, ne, nf, d⟩
  · have hfn : X.fn x = true := by
      rcases hf with z | z
      · exact z
      · rw [z] at hk; cases hk
    obtain ⟨c, hc⟩ := I.ok.has x (.inl hk)
    obtain ⟨w', z⟩ := I.cell x c hc
    refine wpAny_storeName_cell I.ok.kind hk hc z (fun h' hc' hs => ?_)
    obtain ⟨oc, hoc, hocd⟩ := id z
    refine h { s with heap := h' } ⟨I.ok, I.os, I.bare, ⟨fun b o e n hb hx => ?_, fun b o e n hb hx => ?_, I.base.free, fun b o e hx => ?_, I.base.tups, I.base.frzs, I.base.tbls⟩, ⟨m, hn.sameBut hs (Ne.symm (cne x c hc)), fun j y v' e1 e2 e3 => ?_⟩, fun y c' e => ?_, I.free, I.freeC, fun p hp => ?_, tracked ⟨oc, hoc, I.freeC x c hc⟩ hs, by simpa using I.len⟩ ⟨c, hs, .inr hc⟩
    · exact (hs.2 b (Nat.ne_of_lt (Nat.lt_of_lt_of_le (Heap.lt_size e) (I.ok.cab x c hfn hc)))).trans (I.base.keep b o e n hb hx)
    · obtain ⟨sl, e1⟩ := I.base.slot b o e n hb hx
      exact ⟨sl, (hs.2 b (Nat.ne_of_lt (Nat.lt_of_lt_of_le (Heap.lt_size e) (I.ok.cab x c hfn hc)))).trans e1⟩
    · obtain ⟨o', e1⟩ := I.base.there b o e hx
      exact ⟨o', (hs.2 b (Nat.ne_of_lt (Nat.lt_of_lt_of_le (Heap.lt_size e) (I.ok.cab x c hfn hc)))).trans e1⟩
    · by_cases hj : j = i
      · subst hj
        rw [hi] at e1; cases e1
        rw [List.getElem?_set_self hiσ] at e2
        cases e2
        exact ⟨u, r, .inr ⟨.inl hk, c, hc, hc'⟩⟩
      · rw [List.getElem?_set_ne (Ne.symm hj)] at e2
        obtain ⟨u', r', q⟩ := hl j y v' e1 e2 e3
        refine ⟨u', r', ?_⟩
        rcases q with q | ⟨k, c', e, z'⟩
        · exact .inl q
        · refine .inr ⟨k, c', e, z'.sameBut hs ?_⟩
          rintro rfl
          exact hj (nodup_ix hN e1 (I.ok.inj _ _ _ e hc ▸ hi))
    · by_cases hcc : c' = c
      · subst hcc; exact ⟨_, hc'⟩
      · obtain ⟨w2, z2⟩ := I.cell y c' e
        exact ⟨w2, z2.sameBut hs hcc⟩
    · obtain ⟨e, n, ne, nf, d⟩ := I.pin p hp
      refine ⟨(hs.2 p.1 ?_).trans e, n, ne, nf, d⟩
      intro q
      rw [q, hoc] at e
      have q' : oc = p.2 := Option.some.inj e
      exact d w' (by rw [← q']; exact hocd)
theorem store_ok {M : Model} {A : Around} {E : Value → Shared → Prop} {i : Nat} {x : Str} {v : V} {u : Value} {Q : Unit → Shared → Prop} (I : Inv X pins σ H s) (hN : X.N.Nodup) (hi : X.N[i]? = some x) (hx : Loc X.env.scope x) (r : RelV v u)
    (h : ∀ s', Inv X pins (σ.set i (some v)) H s' → Q () s') (hf : X.fn x = true ∨ X.env.scope.names.lookup x = some .local := by first | exact .inl rfl | exact .inr rfl | assumption) : wpAny M A (storeName X.env x u) Q E s :=
  store_ok2 I hN hi hx r (fun s' I' _ => h s' I') hf
/-- behind a call or a block, the state as it is -/
theorem Inv.call' {s' : Shared} {ch : List Addr} (I : Inv X pins σ H s) (ho : s'.os = s.os) (u : Un (frs X.stack) ch H H' s.heap s'.heap) (hok : HOk X.prog X.w H' s'.heap) (hg : AllBare s'.gens)
    (hch : ∀ b ∈ ch, (b ∈ X.ex ∨ X.s₀.heap.objs.size ≤ b) ∧ b ≠ X.env.locals ∧ (∀ x c, X.env.cells.lookup x = some c → c ≠ b) ∧ ∀ p ∈ X.pn ++ pins, p.1 ≠ b) : Inv X pins σ H' s' := by
  obtain ⟨h', g', d', t', o'⟩ := s'
  have e : o' = s.os := ho
  subst e
  exact I.call (g' := g') (t' := t') (d' := d') u hok hg hch
end

/-! ### the judgements -/
/-- an exception: its class, its own dict's address (where it has one), the abstract heap behind it -/
abbrev XK := Value → Option Addr → Hp → Prop
abbrev St := List (Option V)
abbrev VK := V → Hp → Prop
/-- an expression's reading; a test's; an argument list's -/
abbrev TE := St → Hp → VK → Prop
abbrev TT := St → Hp → (Bool → Hp → Prop) → Prop
abbrev TA := St → Hp → (List V → Hp → Prop) → Prop
/-- what is wanted behind a statement -/
structure Ends where
  nx : St → Hp → Prop
  rt : VK
  bk : St → Hp → Prop := fun _ _ => False
  ct : St → Hp → Prop := fun _ _ => False
abbrev TS := Ends → St → Hp → Prop

def EP (X : Cx) (pins : List (Addr × Obj)) (σ : St) (Q : VK) (u : Value) (s' : Shared) : Prop := ∃ v H', Inv X pins σ H' s' ∧ RelV v u ∧ Q v H'
def TP (X : Cx) (pins : List (Addr × Obj)) (σ : St) (Q : Bool → Hp → Prop) (b : Bool) (s' : Shared) : Prop := ∃ H', Inv X pins σ H' s' ∧ Q b H'
def AP (X : Cx) (pins : List (Addr × Obj)) (σ : St) (Q : List V → Hp → Prop) (us : List Value) (s' : Shared) : Prop := ∃ vs H', Inv X pins σ H' s' ∧ Vals vs us ∧ Q vs H'
def SP (X : Cx) (pins : List (Addr × Obj)) (D : Ends) (f : Flow) (s' : Shared) : Prop :=
  match f with
  | .next => ∃ σ' H', Inv X pins σ' H' s' ∧ D.nx σ' H'
  | .brk => ∃ σ' H', Inv X pins σ' H' s' ∧ D.bk σ' H'
  | .cont => ∃ σ' H', Inv X pins σ' H' s' ∧ D.ct σ' H'
  | .ret u => ∃ v σ' H', Inv X pins σ' H' s' ∧ RelV v u ∧ D.rt v H'

def PE (X : Cx) (e : Expr) (t : TE) : Prop :=
  ∀ (pins : List (Addr × Obj)) (s : Shared) (σ : St) (H : Hp) (Q : VK), Inv X pins σ H s → t σ H Q → wpAny (model X.prog X.w) X.A (eval e X.env) (EP X pins σ Q) X.xe s
def PT (X : Cx) (e : Expr) (t : TT) : Prop :=
  ∀ (pins : List (Addr × Obj)) (s : Shared) (σ : St) (H : Hp) (Q : Bool → Hp → Prop), Inv X pins σ H s → t σ H Q → wpAny (model X.prog X.w) X.A (isTrue e X.env (eval e X.env)) (TP X pins σ Q) X.xe s
/-- a test whatever its 'whole' is (and, or) -/
def PW (X : Cx) (e : Expr) (t : TT) : Prop :=
  ∀ (whole : Sem Value) (pins : List (Addr × Obj)) (s : Shared) (σ : St) (H : Hp) (Q : Bool → Hp → Prop), Inv X pins σ H s → t σ H Q → wpAny (model X.prog X.w) X.A (isTrue e X.env whole) (TP X pins σ Q) X.xe s
theorem PW.pt {X : Cx} {e : Expr} {t : TT} (h : PW X e t) : PT X e t := h _
/-- an argument list (no star), from the left -/
def PA (X : Cx) (es : List Expr) (t : TA) : Prop :=
  ∀ (pos : Pos) (pins : List (Addr × Obj)) (s : Shared) (σ : St) (H : Hp) (Q : List V → Hp → Prop), Inv X pins σ H s → t σ H Q → wpAny (model X.prog X.w) X.A (spliced (backTo pos (starEach es X.env))) (AP X pins σ Q) X.xe s
def PS (X : Cx) (st : Stmt) (t : TS) : Prop :=
  ∀ (pins : List (Addr × Obj)) (s : Shared) (σ : St) (H : Hp) (D : Ends), Inv X pins σ H s → t D σ H → wpAny (model X.prog X.w) X.A (exec st X.env) (SP X pins D) X.xe s
def PSs (X : Cx) (st : List Stmt) (t : TS) : Prop :=
  ∀ (pins : List (Addr × Obj)) (s : Shared) (σ : St) (H : Hp) (D : Ends), Inv X pins σ H s → t D σ H → wpAny (model X.prog X.w) X.A (execs st X.env) (SP X pins D) X.xe s
/-- weaken the end -/
theorem thn {α : Type} {t : Sem α} {Q Q' : α → Shared → Prop} {M : Model} {A : Around} {E : Value → Shared → Prop} {s : Shared} (h : wpAny M A t Q E s) (hQ : ∀ a s, Q a s → Q' a s) : wpAny M A t Q' E s := wpAny_mono h hQ fun _ _ x => x
end L2

namespace L2
open PySem PySem.Spec PyProof.Rows
section
variable {X : Cx}


/-! ### names and constants -/
def tVar (i : Nat) : TE := fun σ H Q => ∃ v, σ[i]? = some (some v) ∧ Q v H
def tC (v : V) : TE := fun _ H Q => Q v H
theorem pe_var {i : Nat} {x : Str} {pos : Pos} (hN : X.N[i]? = some x) (hv : Vis X.env.scope x) (hd : (x == ("__debug__" : Str)) = false := by decide) (hcd : (x == ("__classdict__" : Str)) = false := by decide) : PE X (.Name x pos) (tVar i) := by
  intro pins s σ H Q I h
  obtain ⟨v, e, h⟩ := h
  obtain ⟨m, hn, hl⟩ := I.loc
  obtain ⟨u, r, l⟩ := hl i x v hN e hv
  have fin : EP X pins σ Q u s := ⟨v, H, I, r, h⟩
  rcases l with ⟨hk, hm⟩ | ⟨hk, c, hc, hcell⟩
  · exact wpAny_Name (wpAny_loadName_local I.ok.kind hk hn hm fin) hd
  · rcases hk with hk | hk
    · exact wpAny_Name (wpAny_loadName_cell I.ok.kind hk hc hcell fin) hd
    · exact wpAny_Name (wpAny_loadName_free I.ok.kind hk hc hcell fin hcd) hd
theorem pe_int {i j pos} : PE X (.Constant (.int i) j pos) (tC (.int i)) := fun _ _ _ H _ I h => wpAny_Constant_int ⟨.int i, H, I.tok _, ⟨_, rfl⟩, h⟩
theorem pe_bl {b j pos} : PE X (.Constant (.bool b) j pos) (tC (.bl b)) := fun _ _ _ H _ I h => Constant_bool ⟨.bl b, H, I, rfl, h⟩
theorem pe_non {j pos} : PE X (.Constant .none j pos) (tC .non) := fun _ _ _ H _ I h => Constant_none ⟨.non, H, I, rfl, h⟩
theorem pe_str {x j pos} : PE X (.Constant (.str x) j pos) (tC (.str x)) := fun _ _ _ H _ I h => Calls.Constant_str ⟨.str x, H, I.tok _, ⟨_, rfl⟩, h⟩

/-- a global name of the def -/
def Gl (X : Cx) (x : Str) : Prop := X.env.kindOf x = some .globalImplicit
theorem ld_glob {E : Value → Shared → Prop} {pins : List (Addr × Obj)} {s : Shared} {σ : St} {H : Hp} {x : Str} {u : Value} {pos : Pos} {Q : Value → Shared → Prop} (I : Inv X pins σ H s) (hg : Gl X x) (hm : X.mg x = some u) (h : Q u s)
    (hd : (x == ("__debug__" : Str)) = false := by decide) : wpAny (model X.prog X.w) X.A (eval (.Name x pos) X.env) Q E s :=
  Calls.Name_function_global I.ok.kind hg (Calls.loadGlobal_global (by rw [I.ok.glob]; exact I.mod.glob.keeps I.bk) hm h) hd
theorem ld_blt {E : Value → Shared → Prop} {pins : List (Addr × Obj)} {s : Shared} {σ : St} {H : Hp} {x : Str} {u : Value} {pos : Pos} {Q : Value → Shared → Prop} (I : Inv X pins σ H s) (hg : Gl X x) (hm : X.mg x = none) (hv : bootBuiltins x = some u) (h : Q u s)
    (hn : x ≠ "__name__" := by decide) (hd : (x == ("__debug__" : Str)) = false := by decide) : wpAny (model X.prog X.w) X.A (eval (.Name x pos) X.env) Q E s := by
  obtain ⟨mb, h1, h2⟩ := I.mod.blt
  exact Calls.Name_function_global I.ok.kind hg (Calls.loadGlobal_builtin (by rw [I.ok.glob]; exact I.mod.glob.keeps I.bk) hm (by rw [I.ok.blt]; exact h1.keeps I.bk) ((h2 x hn).trans hv) h) hd
theorem pe_bltn {x : Str} {v : V} {u : Value} {pos : Pos} (hg : Gl X x) (hm : X.mg x = none) (hv : bootBuiltins x = some u) (r : RelV v u) (hn : x ≠ "__name__" := by decide) (hd : (x == ("__debug__" : Str)) = false := by decide) : PE X (.Name x pos) (tC v) :=
  fun _ _ _ H _ I h => ld_blt I hg hm hv ⟨v, H, I, r, h⟩ hn hd

/-! ### arithmetic -/
/-- two ints -/
def t2I (ta tb : TE) (k : Int → Int → Hp → Prop) : St → Hp → Prop := fun σ H => ta σ H fun x H1 => tb σ H1 fun y H2 => ∃ i j, x = .int i ∧ y = .int j ∧ k i j H2
def tAdd (ta tb : TE) : TE := fun σ H Q => t2I ta tb (fun i j H2 => Q (.int (i + j)) H2) σ H
def tSub (ta tb : TE) : TE := fun σ H Q => t2I ta tb (fun i j H2 => Q (.int (i - j)) H2) σ H
/-- the left factor below 2^64 -/
def tMul (ta tb : TE) : TE := fun σ H Q => t2I ta tb (fun i j H2 => (-(2 ^ 64) < i ∧ i < 2 ^ 64) ∧ Q (.int (i * j)) H2) σ H
variable {a b : Expr} {ta tb : TE} {pos : Pos}

/-! ### comparisons -/
def PC (X : Cx) (op : CmpOp) (a b : Expr) (t : TE) : Prop :=
  ∀ (pins : List (Addr × Obj)) (s : Shared) (σ : St) (H : Hp) (Q : VK), Inv X pins σ H s → t σ H Q →
    wpAny (model X.prog X.w) X.A (eval a X.env) (fun v s₁ => wpAny (model X.prog X.w) X.A (eval b X.env) (fun u s₂ => wpAny (model X.prog X.w) X.A (compareOp op v u) (EP X pins σ Q) X.xe s₂) X.xe s₁) X.xe s
theorem nobehind (b : Expr) {op : CmpOp} (h : op ≠ .In) (h2 : op ≠ .NotIn) : behindInMarks op b = false := by
  have e1 : (op == CmpOp.In) = false := by cases op <;> first | rfl | exact absurd rfl h
  have e2 : (op == CmpOp.NotIn) = false := by cases op <;> first | rfl | exact absurd rfl h2
  cases b <;> simp [behindInMarks, e1, e2]
def tCmp (p : Int → Int → Bool) (ta tb : TE) : TE := fun σ H Q => t2I ta tb (fun i j H2 => Q (.bl (p i j)) H2) σ H
abbrev tLt : TE → TE → TE := tCmp fun i j => decide (i < j)
abbrev tLe : TE → TE → TE := tCmp fun i j => decide (i ≤ j)
abbrev tGt : TE → TE → TE := tCmp fun i j => decide (j < i)
abbrev tGe : TE → TE → TE := tCmp fun i j => decide (j ≤ i)
abbrev tEqI : TE → TE → TE := tCmp fun i j => decide (i = j)
abbrev tNeI : TE → TE → TE := tCmp fun i j => !decide (i = j)
/-- is None -/
def tIsN (ta : TE) : TE := fun σ H Q => ta σ H fun x H1 => Q (.bl (decide (x = .non))) H1
def tNotN (ta : TE) : TE := fun σ H Q => ta σ H fun x H1 => Q (.bl (!decide (x = .non))) H1
theorem RelV.none_iff {x : V} {v : Value} (r : RelV x v) : (v == Value.none) = decide (x = .non) := by
  cases x with
  | non => cases r; rfl
  | bl _ => cases r; rfl
  | int _ => obtain ⟨t, rfl⟩ := r; rfl
  | str _ => obtain ⟨t, rfl⟩ := r; rfl
  | byt _ => obtain ⟨t, rfl⟩ := r; rfl
  | flt _ => obtain ⟨t, rfl⟩ := r; rfl
  | ref _ => cases r; rfl
  | ty _ => cases r; rfl
theorem pc_isN {j pos'} (ha : PE X a ta) : PC X .Is a (.Constant .none j pos') (tIsN ta) := by
  intro pins s σ H Q I h
  refine thn (ha pins s σ H _ I h) fun v s1 ⟨x, H1, I1, r1, q1⟩ => ?_
  exact Constant_none (is_none_gen ⟨.bl _, H1, I1, by rw [r1.none_iff]; rfl, q1⟩)
theorem pc_notN {j pos'} (ha : PE X a ta) : PC X .IsNot a (.Constant .none j pos') (tNotN ta) := by
  intro pins s σ H Q I h
  refine thn (ha pins s σ H _ I h) fun v s1 ⟨x, H1, I1, r1, q1⟩ => ?_
  exact Constant_none (isnot_none_gen ⟨.bl _, H1, I1, by rw [r1.none_iff]; rfl, q1⟩)
/-- a comparison as a value, as a test -/
def tB (t : TE) : TT := fun σ H Q => t σ H fun x H1 => ∃ c, x = .bl c ∧ Q c H1
theorem pe_cmp {op : CmpOp} {t : TE} (h : PC X op a b t) (h1 : behindInMarks op b = false := by first | exact nobehind _ (by decide) (by decide) | rfl) : PE X (.Compare a [op] [b] pos) t := fun pins s σ H Q I hw => wpAny_Compare1 (h pins s σ H Q I hw) h1
theorem pt_cmp {op : CmpOp} {t : TE} (h : PC X op a b t) (h1 : behindInMarks op b = false := by first | exact nobehind _ (by decide) (by decide) | rfl) : PT X (.Compare a [op] [b] pos) (tB t) := by
  intro pins s σ H Q I hw
  refine wpAny_isTrue_Compare1 (thn (h pins s σ H _ I hw) fun v s1 h1 => thn h1 fun u s2 h2 => thn h2 fun c s3 ⟨x, H1, I1, r1, q1⟩ => ?_) h1
  obtain ⟨d, rfl, q⟩ := q1
  cases r1
  exact wpAny_truthy_bool ⟨H1, I1, q⟩
/-- an expression whose value is a bool, as a test -/
theorem pt_val {e : Expr} {t : TE} (h : PE X e t) (he : ∀ whole, isTrue e X.env whole = (do let v ← whole; standAt e.pos; holding [v] (truthy v)) := by intro _; rfl) : PT X e (tB t) := by
  intro pins s σ H Q I hw
  refine isTrue_plain (thn (h pins s σ H _ I hw) fun v s1 ⟨x, H1, I1, r1, q1⟩ => ?_) (he _)
  obtain ⟨d, rfl, q⟩ := q1
  cases r1
  exact wpAny_truthy_bool ⟨H1, I1, q⟩

/-! ### and, or, not -/
variable {tA tB' : TT} {rest : List Expr}
def tAnd (t u : TT) : TT := fun σ H Q => t σ H fun c H1 => if c = true then u σ H1 Q else Q false H1
def tOr (t u : TT) : TT := fun σ H Q => t σ H fun c H1 => if c = true then Q true H1 else u σ H1 Q
def tNot (t : TT) : TT := fun σ H Q => t σ H fun c H1 => Q (!c) H1
theorem pw_or1 (ha : PT X a tA) : PW X (.BoolOp .Or [a] pos) tA := by
  intro wh pins s σ H Q I h
  refine isTrue_or (thn (ha pins s σ H Q I h) fun c s1 e => ?_)
  cases c with
  | false => exact isTrue_or_nil e
  | true => exact e
theorem pw_or (ha : PT X a tA) (hb : PW X (.BoolOp .Or (b :: rest) pos) tB') : PW X (.BoolOp .Or (a :: b :: rest) pos) (tOr tA tB') := by
  intro wh pins s σ H Q I h
  refine isTrue_or (thn (ha pins s σ H _ I h) fun c s1 ⟨H1, I1, q1⟩ => ?_)
  cases c with
  | true => exact ⟨H1, I1, q1⟩
  | false => exact hb wh pins s1 σ H1 Q I1 q1
theorem pt_not (ha : PT X a tA) : PT X (.UnaryOp .Not a pos) (tNot tA) := by
  intro pins s σ H Q I h
  exact isTrue_not (ha pins s σ H (fun c H1 => Q (!c) H1) I h)
/-- .. as values (bools) -/
def tAndV (ta tb : TE) : TE := fun σ H Q => ta σ H fun x H1 => ∃ c, x = .bl c ∧ if c = true then tb σ H1 Q else Q (.bl false) H1
def tOrV (ta tb : TE) : TE := fun σ H Q => ta σ H fun x H1 => ∃ c, x = .bl c ∧ if c = true then Q (.bl true) H1 else tb σ H1 Q
def tNotV (ta : TE) : TE := fun σ H Q => ta σ H fun x H1 => ∃ c, x = .bl c ∧ Q (.bl (!c)) H1
theorem pe_one {op} {t : TE} (h : PE X a t) : PE X (.BoolOp op [a] pos) t := fun pins s σ H Q I hw => BoolOp_one (h pins s σ H Q I hw)
theorem pe_and (ha : PE X a ta) (hb : PE X (.BoolOp .And (b :: rest) pos) tb) : PE X (.BoolOp .And (a :: b :: rest) pos) (tAndV ta tb) := by
  intro pins s σ H Q I h
  refine BoolOp_and (thn (ha pins s σ H _ I h) fun v s1 ⟨x, H1, I1, r1, q1⟩ => ?_)
  obtain ⟨c, rfl, q1⟩ := q1
  cases r1
  refine wpAny_truthy_bool ?_
  cases c with
  | true => exact hb pins s1 σ H1 Q I1 q1
  | false => exact ⟨.bl false, H1, I1, rfl, q1⟩
theorem pe_not (ha : PE X a ta) : PE X (.UnaryOp .Not a pos) (tNotV ta) := by
  intro pins s σ H Q I h
  refine UnaryOp_ (thn (ha pins s σ H _ I h) fun v s1 ⟨x, H1, I1, r1, q1⟩ => ?_)
  obtain ⟨c, rfl, q1⟩ := q1
  cases r1
  exact not_of (wpAny_truthy_bool ⟨.bl (!c), H1, I1, rfl, q1⟩)
/-- a if t else b -/
def tIf (t : TT) (ta tb : TE) : TE := fun σ H Q => t σ H fun c H1 => if c = true then ta σ H1 Q else tb σ H1 Q
end
end L2

namespace L2
open PySem PySem.Spec PyProof.Rows

/-! ### a list, a tuple that is read: tracked, frozen, or an object of the module -/
def SqL (K : PySem.W.Frag) (H : Hp) (a : Addr) (xs : List V) : Prop :=
  Rd H a (.lst xs) ∨
    ∃ (o : Obj) (its : Array Value) (n : Nat), K.lookup a = some o ∧ o.cls = .type "list" ∧ o.dict = none ∧ o.data = .seq its n ∧ its.size ≤ sizeLine ∧ Vals xs its.toList
def SqT (K : PySem.W.Frag) (H : Hp) (a : Addr) (xs : List V) : Prop :=
  Rd H a (.tup xs) ∨
    ∃ (o : Obj) (its : Array Value) (n : Nat), K.lookup a = some o ∧ o.cls = .type "tuple" ∧ o.data = .seq its n ∧ its.size ≤ sizeLine ∧ Vals xs its.toList
def absV : Value → Option V
  | .none => some .non
  | .bool b => some (.bl b)
  | .int i _ => some (.int i)
  | .str x _ => some (.str x)
  | .bytes b _ => some (.byt b)
  | .float b _ => some (.flt b)
  | .ref a => some (.ref a)
  | .type n => some (.ty n)
  | _ => none
theorem RelV.abs {x : V} {u : Value} (r : RelV x u) : absV u = some x := by
  cases x with
  | non => cases r; rfl
  | bl _ => cases r; rfl
  | int _ => obtain ⟨t, rfl⟩ := r; rfl
  | str _ => obtain ⟨t, rfl⟩ := r; rfl
  | byt _ => obtain ⟨t, rfl⟩ := r; rfl
  | flt _ => obtain ⟨t, rfl⟩ := r; rfl
  | ref _ => cases r; rfl
  | ty _ => cases r; rfl
theorem RelV.inj {x y : V} {u : Value} (r : RelV x u) (q : RelV y u) : x = y := Option.some.inj (r.abs.symm.trans q.abs)
theorem Vals.inj : ∀ {xs ys : List V} {us : List Value}, Vals xs us → Vals ys us → xs = ys
  | _, _, _, .nil, .nil => rfl
  | _, _, _, .cons r t, .cons r' t' => by rw [r.inj r', Vals.inj t t']
section
variable {X : Cx} {pins : List (Addr × Obj)} {σ : St} {H : Hp} {s : Shared} {a : Addr} {xs ys : List V}
theorem SqL.of {K : PySem.W.Frag} (h : H a = some (.lst xs)) : SqL K H a xs := .inl (.inl h)
theorem SqT.of {K : PySem.W.Frag} (h : H a = some (.tup xs)) : SqT K H a xs := .inl (.inl h)
theorem Inv.list (I : Inv X pins σ H s) (h : SqL X.K H a xs) : ∃ its : List Value, Vals xs its ∧ PlainL s.heap a its.toArray ∧ xs.length ≤ sizeLine := by
  rcases h with h | ⟨o, its, n, hk, hc, hd, hs, hz, r⟩
  · obtain ⟨z, its, n, r, e⟩ := h.ok I.hok
    exact ⟨its, r, ⟨_, n, e, rfl, rfl, rfl⟩, z⟩
  · refine ⟨its.toList, r, ⟨o, n, I.kIn a o hk, hc, hd, by simpa using hs⟩, ?_⟩
    have e := r.length
    simp only [Array.length_toList] at e
    omega
theorem Inv.tuple (I : Inv X pins σ H s) (h : SqT X.K H a xs) : ∃ its : List Value, Vals xs its ∧ IsTup s.heap a its.toArray ∧ xs.length ≤ sizeLine := by
  rcases h with h | ⟨o, its, n, hk, hc, hs, hz, r⟩
  · obtain ⟨z, its, r, p⟩ := h.ok I.hok
    exact ⟨its, r, p, z⟩
  · refine ⟨its.toList, r, ⟨o, I.kIn a o hk, hc, n, by simpa using hs⟩, ?_⟩
    have e := r.length
    simp only [Array.length_toList] at e
    omega
theorem Inv.list_inj (I : Inv X pins σ H s) (h : SqL X.K H a xs) (h' : SqL X.K H a ys) : xs = ys := by
  obtain ⟨its, r, ⟨o, n, e, _, _, d⟩, _⟩ := I.list h
  obtain ⟨its', r', ⟨o', n', e', _, _, d'⟩, _⟩ := I.list h'
  rw [e] at e'; cases e'
  rw [d] at d'
  injection d' with d1 _
  have : its = its' := by simpa using congrArg Array.toList d1
  subst this
  exact r.inj r'
end

/-! ### another wish about exceptions -/
abbrev Cx.wish (X : Cx) (E : Value → Shared → Prop) : Cx := { X with xe := E }
/-- no exception leaves -/
abbrev Cx.nox (X : Cx) : Cx := X.wish fun _ _ => False
theorem Cx.Ok.wish {X : Cx} (ok : X.Ok) (E : Value → Shared → Prop) : (X.wish E).Ok :=
  ⟨ok.mod, ok.kind, ok.glob, ok.blt, ok.above, ok.inj, ok.has, ok.cab, ok.hd, ok.frames, ok.stk, ok.exf, ok.bs, ok.bsz, ok.noex, ok.exfs, ok.funs, ok.frf⟩
theorem Cx.Ok.unwish {X : Cx} {E : Value → Shared → Prop} (ok : (X.wish E).Ok) : X.Ok :=
  ⟨ok.mod, ok.kind, ok.glob, ok.blt, ok.above, ok.inj, ok.has, ok.cab, ok.hd, ok.frames, ok.stk, ok.exf, ok.bs, ok.bsz, ok.noex, ok.exfs, ok.funs, ok.frf⟩
section
variable {X : Cx} {pins : List (Addr × Obj)} {σ : St} {H : Hp} {s : Shared} {E : Value → Shared → Prop}
theorem Inv.wish (I : Inv X pins σ H s) (E : Value → Shared → Prop) : Inv (X.wish E) pins σ H s := ⟨I.ok.wish E, I.os, I.bare, I.base, I.loc, I.cell, I.free, I.freeC, I.pin, I.hok, I.len⟩
theorem Inv.unwish (I : Inv (X.wish E) pins σ H s) : Inv X pins σ H s := ⟨I.ok.unwish, I.os, I.bare, I.base, I.loc, I.cell, I.free, I.freeC, I.pin, I.hok, I.len⟩
theorem SP.unwish {D : Ends} {f : Flow} {s' : Shared} (h : SP (X.wish E) pins D f s') : SP X pins D f s' := by
  cases f with
  | next => obtain ⟨σ', H', I, q⟩ := h; exact ⟨σ', H', I.unwish, q⟩
  | brk => obtain ⟨σ', H', I, q⟩ := h; exact ⟨σ', H', I.unwish, q⟩
  | cont => obtain ⟨σ', H', I, q⟩ := h; exact ⟨σ', H', I.unwish, q⟩
  | ret u => obtain ⟨v, σ', H', I, r, q⟩ := h; exact ⟨v, σ', H', I.unwish, r, q⟩
theorem PSs.nox {st : List Stmt} {t : TS} (h : PSs X.nox st t) : PSs X st t := fun pins s σ H D I hw =>
  wpAny_mono (h pins s σ H D (I.wish _) hw) (fun _ _ q => q.unwish) fun _ _ z => False.elim z
end

/-! ### blocks and small statements -/
section
variable {X : Cx} {st : Stmt} {rest : List Stmt} {t u : TS} {e : Expr} {te : TE} {pos : Pos}
def tNext : TS := fun D σ H => D.nx σ H
def tSeq (t u : TS) : TS := fun D σ H => t { D with nx := u D } σ H
theorem pss_nil : PSs X [] tNext := fun _ _ σ H _ I h => wpAny_execs_nil ⟨σ, H, I, h⟩
theorem pss_cons (h1 : PS X st t) (h2 : PSs X rest u) : PSs X (st :: rest) (tSeq t u) := by
  intro pins s σ H D I h
  refine wpAny_execs_cons (thn (h1 pins s σ H { D with nx := u D } I h) fun f s1 q => ?_)
  cases f with
  | next =>
    obtain ⟨σ', H', I', q⟩ := q
    exact h2 pins s1 σ' H' D I' q
  | ret v => exact q
  | brk => exact q
  | cont => exact q
theorem pss_one (h1 : PS X st t) : PSs X [st] t := by
  intro pins s σ H D I h
  refine wpAny_execs_cons (thn (h1 pins s σ H D I h) fun f s1 q => ?_)
  cases f with
  | next => exact wpAny_execs_nil q
  | ret v => exact q
  | brk => exact q
  | cont => exact q
def tBreak : TS := fun D σ H => D.bk σ H
def tCont : TS := fun D σ H => D.ct σ H
theorem ps_break : PS X (.Break pos) tBreak := fun _ _ σ H _ I h => wpAny_Break ⟨σ, H, I, h⟩
/-- in a def's body nothing is shown -/
theorem Inv.quiet {pins : List (Addr × Obj)} {σ : St} {H : Hp} {s : Shared} (I : Inv X pins σ H s) : interactive X.env = false := by simp [interactive, I.ok.kind]
/-- an expression whose value is dropped -/
def tDrop (te : TE) : TS := fun D σ H => te σ H fun _ H1 => D.nx σ H1
theorem ps_expr (he : PE X e te) (hs : swapsWith e none pos.line X.env = pure false := by rfl) : PS X (.Expr e pos) (tDrop te) := by
  intro pins s σ H D I h
  exact wpAny_Expr_any (thn (he pins s σ H _ I h) fun v s1 ⟨x, H1, I1, r1, q1⟩ => ⟨σ, H1, I1, q1⟩) I.quiet hs
def tRet (te : TE) : TS := fun D σ H => te σ H D.rt
theorem ps_ret (he : PE X e te) : PS X (.Return (some e) pos) (tRet te) := by
  intro pins s σ H D I h
  exact wpAny_Return_some (thn (he pins s σ H _ I h) fun v s1 ⟨x, H1, I1, r1, q1⟩ => ⟨x, σ, H1, I1, r1, q1⟩)
def tRetN : TS := fun D _ H => D.rt .non H
def tIfS (c : TT) (t u : TS) : TS := fun D σ H => c σ H fun b H1 => if b = true then t D σ H1 else u D σ H1
theorem ps_if {c : Expr} {a b : List Stmt} {tc : TT} (hc : PT X c tc) (ha : PSs X a t) (hb : PSs X b u) : PS X (.If c a b pos) (tIfS tc t u) := by
  intro pins s σ H D I h
  refine wpAny_If (thn (hc pins s σ H _ I h) fun d s1 ⟨H1, I1, q1⟩ => ?_)
  cases d with
  | true => exact ha pins s1 σ H1 D I1 q1
  | false => exact hb pins s1 σ H1 D I1 q1
/-- code that the proof never comes to -/
def tNever : TS := fun _ _ _ => False
end

/-! ### targets -/
abbrev TG := V → St → Hp → (St → Hp → Prop) → Prop
abbrev TGs := List V → St → Hp → (St → Hp → Prop) → Prop
def PG (X : Cx) (target : Expr) (t : TG) : Prop :=
  ∀ (pins : List (Addr × Obj)) (s : Shared) (σ : St) (H : Hp) (v : V) (u : Value) (Q : St → Hp → Prop), Inv X pins σ H s → RelV v u → t v σ H Q →
    wpAny (model X.prog X.w) X.A (assign target X.env u) (fun _ s' => ∃ σ' H', Inv X pins σ' H' s' ∧ Q σ' H') X.xe s
/-- several targets, one after another -/
def PGs (X : Cx) (ts : List Expr) (t : TGs) : Prop :=
  ∀ (pins : List (Addr × Obj)) (s : Shared) (σ : St) (H : Hp) (vs : List V) (us : List Value) (Q : St → Hp → Prop), Inv X pins σ H s → Vals vs us → t vs σ H Q →
    wpAny (model X.prog X.w) X.A (assignInOrder ((assignEach ts X.env).map (·.2)) us) (fun _ s' => ∃ σ' H', Inv X pins σ' H' s' ∧ Q σ' H') X.xe s
/-- o[i] = v, by values -/
abbrev TSet := V → V → V → Hp → (Hp → Prop) → Prop
def PSet (X : Cx) (t : TSet) : Prop :=
  ∀ (pins : List (Addr × Obj)) (s : Shared) (σ : St) (H : Hp) (o i v : V) (ov iv u : Value) (Q : Hp → Prop), Inv X pins σ H s → RelV o ov → RelV i iv → RelV v u → t o i v H Q →
    wpAny (model X.prog X.w) X.A (setItem ov iv u) (fun _ s' => ∃ H', Inv X pins σ H' s' ∧ Q H') X.xe s
/-- a op= b, by values -/
abbrev TIp := V → V → Hp → VK → Prop
def PIp (X : Cx) (op : Operator) (t : TIp) : Prop :=
  ∀ (pins : List (Addr × Obj)) (s : Shared) (σ : St) (H : Hp) (x y : V) (v u : Value) (Q : VK), Inv X pins σ H s → RelV x v → RelV y u → t x y H Q →
    wpAny (model X.prog X.w) X.A (inplaceOp op v u) (EP X pins σ Q) X.xe s
section
variable {X : Cx} {pos : Pos}
def gName (i : Nat) : TG := fun v σ H Q => Q (σ.set i (some v)) H
theorem pg_name {i : Nat} {x : Str} (hN : X.N.Nodup) (hi : X.N[i]? = some x) (hx : Loc X.env.scope x) (hf : X.fn x = true ∨ X.env.scope.names.lookup x = some .local := by first | exact .inl rfl | exact .inr rfl | assumption) : PG X (.Name x pos) (gName i) := by
  intro pins s σ H v u Q I r h
  exact wpAny_assign_Name (store_ok I hN hi hx r (fun s' I' => ⟨_, H, I', h⟩) hf)
def gNil : TGs := fun vs σ H Q => vs = [] ∧ Q σ H
def gCons (t : TG) (u : TGs) : TGs := fun vs σ H Q => ∃ v r, vs = v :: r ∧ t v σ H fun σ' H' => u r σ' H' Q
theorem pgs_nil : PGs X [] gNil := by
  intro pins s σ H vs us Q I r h
  obtain ⟨e, h⟩ := h
  subst e
  cases r
  exact assignInOrder_nil ⟨σ, H, I, h⟩
theorem pgs_cons {e : Expr} {es : List Expr} {t : TG} {u : TGs} (h1 : PG X e t) (h2 : PGs X es u)
    (hs : (assignEach (e :: es) X.env).map (·.2) = assign e X.env :: (assignEach es X.env).map (·.2) := by rfl) : PGs X (e :: es) (gCons t u) := by
  intro pins s σ H vs us Q I r h
  obtain ⟨v, vr, e1, h⟩ := h
  subst e1
  cases r with
  | cons r rr =>
    rw [hs]
    refine assignInOrder_cons (thn (h1 pins s σ H _ _ _ I r h) fun _ s1 ⟨σ1, H1, I1, q1⟩ => ?_)
    exact h2 pins s1 σ1 H1 _ _ Q I1 rr q1
/-- (a, b, ..) = a tuple of that length -/
def gTup (K : PySem.W.Frag) (n : Nat) (t : TGs) : TG := fun v σ H Q => ∃ a xs, v = .ref a ∧ SqT K H a xs ∧ xs.length = n ∧ t xs σ H Q
theorem pg_tup {es : List Expr} {k : Nat} {t : TGs} {n : Nat} (hc : X.calm = true) (h : PGs X es t)
    (hn : (assignEach es X.env).length = n := by rfl) (hst : (assignEach es X.env).findIdx? (·.1) = none := by rfl) : PG X (.Tuple es k pos) (gTup X.K n t) := by
  intro pins s σ H v u Q I r hw
  obtain ⟨a, xs, e1, hq, hl, hw⟩ := hw
  subst e1
  cases r
  obtain ⟨its, rv, ht, hz⟩ := I.tuple hq
  refine assign_Tuple_tuple (I.ok.hd hc) ht (by simp [hn, ← hl, rv.length]) hst fun h' hx => ?_
  have I1 : Inv X pins σ H { s with heap := h' } := I.kept (t' := s.toks) fun b o e => hx b o (Nat.ne_of_lt (Heap.lt_size e)) e
  exact h pins _ σ H xs _ Q I1 (by simpa using rv) hw
/-- o[i] = .. -/
def gSub (to ti : TE) (t : TSet) : TG := fun v σ H Q => to σ H fun o H1 => ti σ H1 fun i H2 => t o i v H2 fun H3 => Q σ H3
theorem pg_sub {o i : Expr} {to ti : TE} {t : TSet} (ho : PE X o to) (hi : PE X i ti) (hs : PSet X t)
    (ha : ∀ v, assign (.Subscript o i pos) X.env v = (do
      let ov ← holding [v] (eval o X.env)
      let iv ← holding [v, ov] (eval i X.env)
      standAt pos
      holding [v, ov, iv] (setItem ov iv v)
      release [v, ov, iv] []) := by intro _; rfl) : PG X (.Subscript o i pos) (gSub to ti t) := by
  intro pins s σ H v u Q I r h
  rw [ha]
  refine wpAny_bind (wpAny_holding (thn (ho pins s σ H _ I h) fun ov s1 ⟨x, H1, I1, r1, q1⟩ => ?_))
  refine wpAny_bind (wpAny_holding (thn (hi pins s1 σ H1 _ I1 q1) fun iv s2 ⟨y, H2, I2, r2, q2⟩ => ?_))
  refine wpAny_bind (wpAny_standAt (wpAny_bind (wpAny_holding (thn (hs pins s2 σ H2 x y v ov iv u _ I2 r1 r2 r q2) fun _ s3 ⟨H3, I3, q3⟩ => ?_))))
  exact wpAny_release ⟨σ, H3, I3, q3⟩
/-- target = value -/
def tAsg (te : TE) (g : TG) : TS := fun D σ H => te σ H fun x H1 => g x σ H1 D.nx
theorem ps_asg {tg e : Expr} {te : TE} {g : TG} (he : PE X e te) (hg : PG X tg g) (hs : swapsWithSole [tg] e pos.line X.env = pure false := by rfl) (hw : swappedStores [tg] e X.env = pure none := by rfl)
    (h1 : (assignEach [tg] X.env).map (·.2) = [assign tg X.env] := by rfl) : PS X (.Assign [tg] e pos) (tAsg te g) := by
  intro pins s σ H D I h
  refine wpAny_Assign_stores (thn (he pins s σ H _ I h) fun v s1 ⟨x, H1, I1, r1, q1⟩ => ?_) hs hw
  rw [h1]
  exact thn (hg pins s1 σ H1 x v _ I1 r1 q1) fun _ s2 q => q
/-- name = value -/
theorem ps_set {i : Nat} {x : Str} {e : Expr} {te : TE} {pos' : Pos} (hN : X.N.Nodup) (hi : X.N[i]? = some x) (hx : Loc X.env.scope x) (he : PE X e te) (hs : swapsWith e (some (.Name x pos')) pos.line X.env = pure false := by rfl) (hf : X.fn x = true ∨ X.env.scope.names.lookup x = some .local := by first | exact .inl rfl | exact .inr rfl | assumption) :
    PS X (.Assign [.Name x pos'] e pos) (tAsg te (gName i)) := by
  intro pins s σ H D I h
  refine wpAny_Assign_Name (thn (he pins s σ H _ I h) fun v s1 ⟨y, H1, I1, r1, q1⟩ => ?_) hs
  exact store_ok I1 hN hi hx r1 (fun s2 I2 => ⟨_, H1, I2, q1⟩) hf
/-- a, b = x, y with plain local names: stored from the right; the pair itself is not tracked (the opening rows as in PyProof/Rows/TupAssign.lean:23) -/
def tPar (i j : Nat) (ta : TA) : TS := fun D σ H => ta σ H fun vs H1 => ∃ v w, vs = [v, w] ∧ D.nx ((σ.set i (some v)).set j (some w)) H1
/-- name op= e -/
def tAug (i : Nat) (te : TE) (ti : TIp) : TS := fun D σ H => ∃ x, σ[i]? = some (some x) ∧ te σ H fun y H1 => ti x y H1 fun z H2 => D.nx (σ.set i (some z)) H2
/-- o[i] op= e -/
def tAugS (to ti te : TE) (tget : V → V → Hp → VK → Prop) (tip : TIp) (tset : TSet) : TS := fun D σ H => to σ H fun o H1 => ti σ H1 fun i H2 => tget o i H2 fun x H3 => te σ H3 fun y H4 => tip x y H4 fun z H5 => tset o i z H5 fun H6 => D.nx σ H6
/-- o[i], by values -/
def PGet (X : Cx) (t : V → V → Hp → VK → Prop) : Prop :=
  ∀ (pins : List (Addr × Obj)) (s : Shared) (σ : St) (H : Hp) (o i : V) (ov iv : Value) (Q : VK), Inv X pins σ H s → RelV o ov → RelV i iv → t o i H Q →
    wpAny (model X.prog X.w) X.A (getItem ov iv) (EP X pins σ Q) X.xe s
/-- ints -/
def ipI (f : Int → Int → Int) : TIp := fun x y H Q => ∃ i j, x = .int i ∧ y = .int j ∧ Q (.int (f i j)) H
end

/-! ### while -/
section
variable {X : Cx} {pos : Pos}
/-- the invariant W with its measure -/
def tWhile (c : TT) (tb : TS) : TS := fun D σ H => ∃ W : Nat → St → Hp → Prop, (∃ m, W m σ H) ∧ ∀ m σ H, W m σ H →
  c σ H fun b H1 => if b = true then ∃ N : St → Hp → Prop, (∀ σ' H', N σ' H' → ∃ m', m' < m ∧ W m' σ' H') ∧ tb { D with nx := N, ct := N, bk := D.nx } σ H1 else D.nx σ H1
theorem ps_while {c : Expr} {body : List Stmt} {tc : TT} {tb : TS} (hp : PassesOwn (model X.prog X.w) X.A X.env X.xe) (hc : PT X c tc) (hb : PSs X body tb) : PS X (.While c body [] pos) (tWhile tc tb) := by
  intro pins s σ H D I h
  obtain ⟨W, ⟨m0, w0⟩, turn⟩ := h
  refine wpAny_While (codeAny_whileLoop (fun n s' => ∃ σ' H', Inv X pins σ' H' s' ∧ W n σ' H') ?_ m0 ⟨σ, H, I, w0⟩)
  rintro n s1 ⟨σ1, H1, I1, w1⟩
  refine wpAny_passesOwn hp (thn (hc pins s1 σ1 H1 _ I1 (turn n σ1 H1 w1)) fun b s2 ⟨H2, I2, q2⟩ => ?_)
  cases b with
  | true =>
    obtain ⟨N, hN, q2⟩ := q2
    rw [if_pos rfl]
    refine wpAny_passesOwn hp (thn (hb pins s2 σ1 H2 _ I2 q2) fun f s3 q3 => ?_)
    cases f with
    | next =>
      obtain ⟨σ3, H3, I3, n3⟩ := q3
      obtain ⟨m', hm, w3⟩ := hN σ3 H3 n3
      exact ⟨m', hm, σ3, H3, I3, w3⟩
    | cont =>
      obtain ⟨σ3, H3, I3, n3⟩ := q3
      obtain ⟨m', hm, w3⟩ := hN σ3 H3 n3
      exact ⟨m', hm, σ3, H3, I3, w3⟩
    | brk => exact q3
    | ret v => exact q3
  | false =>
    rw [if_neg Bool.false_ne_true]
    exact wpAny_execs_nil ⟨σ1, H2, I2, q2⟩
end

/-! ### what a loop or a comprehension walks -/
/-- at turn i: it yields x (the heap may grow), or it stops -/
structure It where
  go : Nat → Hp → Prop
  yld : Nat → Hp → V → Hp → Prop
  stop : Nat → Hp → Prop
/-- the iterator's own objects may turn: they are not the frame's, not pinned, younger than the entry (or a comprehension's own) -/
def FpOk (X : Cx) (pins : List (Addr × Obj)) (H : Hp) (b : Addr) : Prop :=
  H b = none ∧ b ≠ X.env.locals ∧ b ∉ X.fs ∧ (b ∈ X.ex ∨ X.s₀.heap.objs.size ≤ b) ∧ (∀ x c, X.env.cells.lookup x = some c → c ≠ b) ∧ ∀ p ∈ X.pn ++ pins, p.1 ≠ b
theorem Inv.fpOk {X : Cx} {pins : List (Addr × Obj)} {σ : St} {H H' : Hp} {s : Shared} {b : Addr} (I : Inv X pins σ H s) (hb : s.heap.objs.size ≤ b) (hn : H' b = none) : FpOk X pins H' b := by
  refine ⟨hn, Nat.ne_of_gt (Nat.lt_of_lt_of_le I.lt hb), I.nofs hb, .inr (Nat.le_trans I.sz hb), fun x c e z => ?_, fun p hp z => ?_⟩
  · obtain ⟨v, q⟩ := I.cell x c e
    exact absurd (Nat.lt_of_lt_of_le q.lt (by rw [z]; exact hb)) (Nat.lt_irrefl _)
  · exact absurd (Nat.lt_of_lt_of_le (Heap.lt_size (I.pin p hp).1) (by rw [z]; exact hb)) (Nat.lt_irrefl _)
structure Turn (P : Program) (w : World) (K : PySem.W.Frag) (tg : Expr) (J : It) (fp : List Addr) (it : Addr) (tn : Nat → Heap → Prop) : Prop where
  mem : it ∈ fp
  obj : ∀ i h, tn i h → ∀ b ∈ fp, ∃ o, h.get? b = some o ∧ ∀ v, o.data ≠ .cell v
  keep : ∀ i h h', tn i h → (∀ b ∈ fp, ∀ o, h.get? b = some o → h'.get? b = some o) → tn i h'
  item : ∀ (X : Cx), X.prog = P → X.w = w → X.K = K → X.calm = true → ∀ (i : Nat) (pins : List (Addr × Obj)) (s : Shared) (σ : St) (H : Hp) (E : Value → Shared → Prop), Inv X pins σ H s → (∀ b ∈ fp, FpOk X pins H b) → tn i s.heap → J.go i H →
    wpAny (model P w) X.A (pyNext (.ref it)) (fun r s1 => ∃ u, r = some u ∧
      wpAny (model P w) X.A (letOwnedTupleGo tg (.ref it) u) (fun _ s2 => ∃ x H', Inv X pins σ H' s2 ∧ RelV x u ∧ J.yld i H x H' ∧ tn (i + 1) s2.heap ∧ ∀ b ∈ fp, H' b = none) E s1) E s
  done : ∀ (X : Cx), X.prog = P → X.w = w → X.K = K → X.calm = true → ∀ (i : Nat) (pins : List (Addr × Obj)) (s : Shared) (σ : St) (H : Hp) (E : Value → Shared → Prop), Inv X pins σ H s → (∀ b ∈ fp, FpOk X pins H b) → tn i s.heap → J.stop i H →
    wpAny (model P w) X.A (pyNext (.ref it)) (fun r s1 => r = none ∧ Inv X pins σ H s1) E s
  self : ∀ (A : Around) (i : Nat) (s : Shared) (Q : Value → Shared → Prop) (E : Value → Shared → Prop), tn i s.heap → Q (.ref it) s → wpAny (model P w) A (pyIter (.ref it)) Q E s
abbrev TI := St → Hp → (It → Hp → Prop) → Prop
/-- an iterator has come -/
def PIE (X : Cx) (pins : List (Addr × Obj)) (σ : St) (tg : Expr) (R : It → Hp → Prop) (itv : Value) (s2 : Shared) : Prop :=
  ∃ (it : Addr) (fp : List Addr) (tn : Nat → Heap → Prop) (J : It) (H' : Hp), itv = .ref it ∧ Inv X pins σ H' s2 ∧ Turn X.prog X.w X.K tg J fp it tn ∧ tn 0 s2.heap ∧ (∀ b ∈ fp, FpOk X pins H' b) ∧ R J H'
def PI (X : Cx) (tg iter : Expr) (wi : TI) : Prop :=
  ∀ (pins : List (Addr × Obj)) (s : Shared) (σ : St) (H : Hp) (R : It → Hp → Prop), Inv X pins σ H s → wi σ H R →
    wpAny (model X.prog X.w) X.A (eval iter X.env) (fun v s1 => wpAny (model X.prog X.w) X.A (pyIter v) (PIE X pins σ tg R) X.xe s1) X.xe s

/-- the step ahead of the store is nothing for an iterator that keeps no tuple -/
theorem go_of {M : Model} {A : Around} {E : Value → Shared → Prop} {s : Shared} {tg : Expr} {it : Addr} {u : Value} {o : Obj} {n : String} {vs : Array Value} {Q : Unit → Shared → Prop} (ho : s.heap.get? it = some o) (hc : o.cls = .type n) (hd : o.data = .fields vs)
    (hn : ["enumerate", "zip", "dict_itemiterator", "dict_reverseitemiterator", "odict_iterator", "itertools.zip_longest", "itertools.pairwise"].contains n = false) (hQ : Q () s) : wpAny M A (letOwnedTupleGo tg (.ref it) u) Q E s := by
  unfold letOwnedTupleGo
  cases tg <;> first
    | exact wpAny_pure hQ
    | (cases u <;> first
        | exact wpAny_pure hQ
        | (refine wpAny_bind (wpAny_load ho ?_)
           rw [hc, hd]
           show wpAny M A (if (["enumerate", "zip", "dict_itemiterator", "dict_reverseitemiterator", "odict_iterator", "itertools.zip_longest", "itertools.pairwise"].contains n && vs[0]? == some (rawInt _)) = true then _ else _) Q E s
           rw [if_neg (by intro h; rw [hn, Bool.false_and] at h; cases h)]
           exact wpAny_pure hQ))

/-- the list at a, as it stands at each turn (a loop may append to it) -/
def Itl (K : PySem.W.Frag) (a : Addr) : It :=
  ⟨fun i H => ∃ xs x, SqL K H a xs ∧ xs[i]? = some x, fun i H x H' => H' = H ∧ ∀ xs, SqL K H a xs → xs[i]? = some x, fun i H => ∃ xs, SqL K H a xs ∧ xs.length ≤ i⟩
def Itt (K : PySem.W.Frag) (a : Addr) : It :=
  ⟨fun i H => ∃ xs x, SqT K H a xs ∧ xs[i]? = some x, fun i H x H' => H' = H ∧ ∀ xs, SqT K H a xs → xs[i]? = some x, fun i H => ∃ xs, SqT K H a xs ∧ xs.length ≤ i⟩
/-- lo, lo + 1, .. (n of them) -/
def Itr (lo : Int) (n : Nat) : It := ⟨fun i _ => i < n, fun i H x H' => H' = H ∧ x = .int (lo + i), fun i _ => n ≤ i⟩
theorem turn_list {P : Program} {w : World} {K : PySem.W.Frag} {tg : Expr} (a it : Addr) : Turn P w K tg (Itl K a) [it] it (fun i h => h.IsListIter it a i) where
  mem := by simp
  obj := fun i h st b hb => by
    have e : b = it := by simpa using hb
    subst e
    obtain ⟨o, e, c, d⟩ := st
    exact ⟨o, e, fun v z => by rw [d] at z; cases z⟩
  keep := fun i h h' st k => st.at fun o e => k it (by simp) o e
  item := by
    intro X hP hw hK hc i pins s σ H E I hf st hg
    subst hP hw hK
    obtain ⟨xs, x, hq, hx⟩ := hg
    obtain ⟨its, rv, p, hz⟩ := I.list hq
    obtain ⟨u, hu, ru⟩ := rv.get hx
    obtain ⟨f0, f1, f2, f3, f4, f5⟩ := hf it (by simp)
    refine wpAny_pyNext_list_item st p.isList (x := u) (by simpa using hu) fun h' st' sb => ?_
    have I1 : Inv X pins σ H { s with heap := h' } := I.turned (t' := s.toks) (fun b o hb e => (sb.2 b hb).trans e) f0 f1 f3 f4 f5
    obtain ⟨o, e, c, d⟩ := id st'
    exact ⟨u, rfl, go_of (s := { s with heap := h' }) e c d (by decide) ⟨x, H, I1, ru, ⟨rfl, fun ys hy => by rw [I.list_inj hy hq]; exact hx⟩, st', fun b hb => (hf b hb).1⟩⟩
  done := by
    intro X hP hw hK hc i pins s σ H E I hf st hg
    subst hP hw hK
    obtain ⟨xs, hq, hx⟩ := hg
    obtain ⟨its, rv, p, hz⟩ := I.list hq
    obtain ⟨f0, f1, f2, f3, f4, f5⟩ := hf it (by simp)
    have hl := rv.length
    exact wpAny_pyNext_list_end (I.ok.hd hc) st p.isList (by simp; omega) fun h' eb => ⟨rfl, I.turned (t' := s.toks) (fun b o hb e => eb b o hb e) f0 f1 f3 f4 f5⟩
  self := fun _ _ _ _ _ st h => wpAny_pyIter_listiter st h
theorem turn_range {P : Program} {w : World} {K : PySem.W.Frag} {tg : Expr} (it : Addr) (lo : Int) (n : Nat) : Turn P w K tg (Itr lo n) [it] it (fun i h => IsRangeIter h it (lo + (i : Nat) * 1) ((n : Int) - (i : Nat)) 1) where
  mem := by simp
  obj := fun i h st b hb => by
    have e : b = it := by simpa using hb
    subst e
    exact ⟨_, st, fun v z => by
      have z' : Data.fields _ = Data.cell v := z
      cases z'⟩
  keep := fun i h h' st k => k it (by simp) _ st
  item := by
    intro X hP hw hK hc i pins s σ H E I hf st hg
    subst hP hw hK
    obtain ⟨f0, f1, f2, f3, f4, f5⟩ := hf it (by simp)
    have W := Walks.range (prog := X.prog) (w := X.w) (I.ok.hd hc) it lo 1 n
    refine W.item i s _ _ hg st fun v h' tk hv st' kk => ?_
    obtain ⟨t, rfl⟩ := hv
    have I1 : Inv X pins σ H { s with heap := h', toks := tk } := I.turned (fun b o hb e => kk b o (by simpa using hb) e) f0 f1 f3 f4 f5
    refine ⟨_, rfl, go_of (s := { s with heap := h', toks := tk }) (n := "range_iterator") st' rfl rfl (by decide) ⟨.int (lo + i), H, I1, ⟨t, ?_⟩, ⟨rfl, rfl⟩, st', fun b hb => (hf b hb).1⟩⟩
    rw [Int.mul_one]
  done := by
    intro X hP hw hK hc i pins s σ H E I hf st hg
    subst hP hw hK
    obtain ⟨f0, f1, f2, f3, f4, f5⟩ := hf it (by simp)
    exact wpAny_pyNext_range_end (I.ok.hd hc) st (by have : n ≤ i := hg; omega) fun h' eb => ⟨rfl, I.turned (t' := s.toks) (fun b o hb e => eb b o hb e) f0 f1 f3 f4 f5⟩
  self := fun _ _ _ _ _ st h => wpAny_pyIter_rangeiter st h
end L2

namespace L2
open PySem PySem.Spec PyProof.Rows
section
variable {X : Cx} {tg : Expr}
def iList (K : PySem.W.Frag) (tl : TE) : TI := fun σ H R => tl σ H fun x H1 => ∃ a, x = .ref a ∧ (∃ xs, SqL K H1 a xs) ∧ R (Itl K a) H1
def iTup (K : PySem.W.Frag) (tl : TE) : TI := fun σ H R => tl σ H fun x H1 => ∃ a, x = .ref a ∧ (∃ xs, SqT K H1 a xs) ∧ R (Itt K a) H1
theorem pi_list {l : Expr} {tl : TE} (hl : PE X l tl) : PI X tg l (iList X.K tl) := by
  intro pins s σ H R I h
  refine thn (hl pins s σ H _ I h) fun v s1 ⟨x, H1, I1, r1, q1⟩ => ?_
  obtain ⟨a, e, ⟨xs, hq⟩, q⟩ := q1
  subst e
  cases r1
  obtain ⟨its, rv, p, hz⟩ := I1.list hq
  refine wpAny_pyIter_list p.isList ?_
  refine ⟨s1.heap.objs.size, [s1.heap.objs.size], _, _, H1, rfl, I1.kept (t' := s1.toks) fun b o e => Heap.get?_push_of_some _ e, turn_list a _, ⟨_, Heap.get?_push_size _ rfl, rfl, rfl⟩, fun b hb => ?_, q⟩
  have e : b = s1.heap.objs.size := by simpa using hb
  subst e
  exact I1.fpOk (Nat.le_refl _) (I1.hok.fresh (Nat.le_refl _))
/-- a range object just made, walked -/
theorem range_it {pins : List (Addr × Obj)} {σ : St} {H : Hp} {s : Shared} {R : It → Hp → Prop} {E : Value → Shared → Prop} {lo hi : Int} {t u v : Tok} {tk : Nat} (I : Inv X pins σ H s) (h1 : -(2 ^ 62) ≤ lo) (h2 : lo < 2 ^ 62) (h3 : -(2 ^ 62) ≤ hi) (h4 : hi < 2 ^ 62)
    (q : R (Itr lo (hi - lo).toNat) H) : wpAny (model X.prog X.w) X.A (pyIter (.ref s.heap.objs.size)) (PIE X pins σ tg R) E { s with heap := s.heap.push { cls := .type "range", data := .fields #[.int lo t, .int hi u, .int 1 v] }, toks := tk } := by
  refine wpAny_pyIter_range (IsRange.new ..) (small_one h1 h2 h3 h4) ?_
  have I1 : Inv X pins σ H { s with heap := s.heap.push { cls := .type "range", data := .fields #[.int lo t, .int hi u, .int 1 v] }, toks := tk } := I.kept fun b o e => Heap.get?_push_of_some _ e
  refine ⟨(s.heap.push { cls := .type "range", data := .fields #[.int lo t, .int hi u, .int 1 v] }).objs.size, [(s.heap.push { cls := .type "range", data := .fields #[.int lo t, .int hi u, .int 1 v] }).objs.size], _, _, H, rfl,
    I1.kept (t' := tk) fun b o e => Heap.get?_push_of_some _ e, turn_range _ lo (hi - lo).toNat, ?_, fun b hb => ?_, q⟩
  · have e1 : lo + ((0 : Nat) : Int) * 1 = lo := by simp
    have e2 : (((hi - lo).toNat : Nat) : Int) - ((0 : Nat) : Int) = Builtin.Range.rangeSize lo hi 1 := by rw [rangeSize_one]; split <;> omega
    show IsRangeIter _ _ (lo + ((0 : Nat) : Int) * 1) ((((hi - lo).toNat : Nat) : Int) - ((0 : Nat) : Int)) 1
    rw [e1, e2]
    exact Heap.get?_push_size _ rfl
  · have e : b = (s.heap.push { cls := .type "range", data := .fields #[.int lo t, .int hi u, .int 1 v] }).objs.size := by simpa using hb
    subst e
    exact I1.fpOk (Nat.le_refl _) (I1.hok.fresh (Nat.le_refl _))
def iRng1 (ta : TA) : TI := fun σ H R => ta σ H fun vs H1 => ∃ j : Int, vs = [.int j] ∧ -(2 ^ 62) ≤ j ∧ j < 2 ^ 62 ∧ R (Itr 0 j.toNat) H1
def iRng2 (ta : TA) : TI := fun σ H R => ta σ H fun vs H1 => ∃ i j : Int, vs = [.int i, .int j] ∧ (-(2 ^ 62) ≤ i ∧ i < 2 ^ 62 ∧ -(2 ^ 62) ≤ j ∧ j < 2 ^ 62) ∧ R (Itr i (j - i).toNat) H1
theorem pi_range1 {a : Expr} {ta : TA} {p pos : Pos} (hg : Gl X "range") (hm : X.mg "range" = none) (ha : PA X [a] ta) (hs : starEach [a] X.env = [(false, eval a X.env)] := by rfl) : PI X tg (.Call (.Name "range" p) [a] [] pos) (iRng1 ta) := by
  intro pins s σ H R I h
  refine Call_ (ld_blt I hg hm boot_range (PyProof.Rows.callWith_type1 (thn (ha pos pins s σ H _ I h) fun us s1 ⟨vs, H1, I1, r1, q1⟩ => ?_) hs rfl))
  obtain ⟨j, e, q1, q2, q⟩ := q1
  subst e
  cases r1 with
  | cons r rr =>
    cases rr
    obtain ⟨t, rfl⟩ := r
    exact call_range_1 (range_it I1 (by omega) (by omega) q1 q2 (by simpa using q))

/-! ### for -/
/-- W: the invariant by the turn and a measure; N: what the body is to reach -/
def tFor (wi : TI) (g : TG) (tb : TS) : TS := fun D σ H => wi σ H fun J H1 => ∃ W : Nat → Nat → St → Hp → Prop, (∃ m, W 0 m σ H1) ∧ ∀ i m σ H, W i m σ H →
  (J.stop i H ∧ D.nx σ H) ∨ (J.go i H ∧ ∃ N : St → Hp → Prop, (∀ σ' H', N σ' H' → ∃ m', m' < m ∧ W (i + 1) m' σ' H') ∧ ∀ x H', J.yld i H x H' → g x σ H' fun σ2 H2 => tb { D with nx := N, ct := N, bk := D.nx } σ2 H2)
/-- the records at fp as they stand -/
def pinsAt (fp : List Addr) (h : Heap) : List (Addr × Obj) := fp.filterMap fun b => (h.get? b).map fun o => (b, o)
theorem mem_pinsAt {fp : List Addr} {h : Heap} {b : Addr} {o : Obj} (hb : b ∈ fp) (e : h.get? b = some o) : (b, o) ∈ pinsAt fp h := List.mem_filterMap.mpr ⟨b, hb, by rw [e]; rfl⟩
theorem of_pinsAt {fp : List Addr} {h : Heap} {p : Addr × Obj} (hp : p ∈ pinsAt fp h) : p.1 ∈ fp ∧ h.get? p.1 = some p.2 := by
  obtain ⟨b, hb, e⟩ := List.mem_filterMap.mp hp
  cases q : h.get? b with
  | none => rw [q] at e; cases e
  | some o =>
    rw [q] at e
    have e' : (b, o) = p := Option.some.inj e
    subst e'
    exact ⟨hb, q⟩
theorem Inv.pinned {pins : List (Addr × Obj)} {σ : St} {H : Hp} {s : Shared} {fp : List Addr} (I : Inv X pins σ H s) (hf : ∀ b ∈ fp, FpOk X pins H b) (ho : ∀ b ∈ fp, ∃ o, s.heap.get? b = some o ∧ ∀ v, o.data ≠ .cell v) : Inv X (pins ++ pinsAt fp s.heap) σ H s :=
  I.pins_of fun p hp => (List.mem_append.mp hp).elim (fun z => I.pin p (List.mem_append_right _ z)) fun z => by
    obtain ⟨hb, e⟩ := of_pinsAt z
    obtain ⟨f0, f1, f2, _⟩ := hf p.1 hb
    obtain ⟨o, e', d⟩ := ho p.1 hb
    rw [e] at e'; cases e'
    exact ⟨e, f0, f1, f2, d⟩
theorem Inv.unpinned {pins pl : List (Addr × Obj)} {σ : St} {H : Hp} {s : Shared} (I : Inv X (pins ++ pl) σ H s) : Inv X pins σ H s := I.pins_of fun p hp => I.pin p (List.mem_append_right _ (List.mem_append_left _ hp))
theorem ps_for {iter : Expr} {body : List Stmt} {wi : TI} {g : TG} {tb : TS} {pos : Pos} (hp : PassesOwn (model X.prog X.w) X.A X.env X.xe) (hc : X.calm = true) (hi : PI X tg iter wi) (hg : PG X tg g) (hb : PSs X body tb)
    (hs : ∀ x, foldedSetIterable iter X.env x = pure x := by intro _; rfl) : PS X (.For tg iter body [] pos) (tFor wi g tb) := by
  intro pins s σ H D I h
  refine wpAny_For (thn (hi pins s σ H _ I h) fun v s1 h1 => thn h1 fun itv s2 h2 => ?_) hs
  obtain ⟨it, fp, tn, J, H2, e, I2, T, st2, f2, W, ⟨m0, w0⟩, turn⟩ := h2
  subst e
  -- what stays true of the iterator's objects through the loop
  have stat : ∀ {H' : Hp}, (∀ b ∈ fp, H' b = none) → ∀ b ∈ fp, FpOk X pins H' b := fun hn b hb => ⟨hn b hb, (f2 b hb).2⟩
  refine codeAny_forLoop_any (fun n s' => ∃ i σ' H', Inv X pins σ' H' s' ∧ tn i s'.heap ∧ (∀ b ∈ fp, H' b = none) ∧ W i n σ' H') ?_ m0 ⟨0, σ, H2, I2, st2, fun b hb => (f2 b hb).1, w0⟩
  rintro n s3 ⟨i, σ3, H3, I3, st3, fr3, w3⟩
  rcases turn i n σ3 H3 w3 with ⟨stop, qn⟩ | ⟨go, N, hN, step⟩
  · refine wpAny_passesOwn hp (thn (T.done X rfl rfl rfl hc i pins s3 σ3 H3 X.xe I3 (stat fr3) st3 stop) fun r s4 ⟨hr, I4⟩ => ?_)
    subst hr
    exact wpAny_execs_nil ⟨σ3, H3, I4, qn⟩
  · refine wpAny_passesOwn hp (thn (T.item X rfl rfl rfl hc i pins s3 σ3 H3 X.xe I3 (stat fr3) st3 go) fun r s4 ⟨u, hr, h4⟩ => ?_)
    subst hr
    refine wpAny_passesOwn hp (thn h4 fun _ s5 ⟨x, H5, I5, r5, y5, st5, fr5⟩ => ?_)
    have I5' := I5.pinned (stat fr5) (T.obj _ _ st5)
    refine wpAny_passesOwn hp (thn (hg _ s5 σ3 H5 x u _ I5' r5 (step x H5 y5)) fun _ s6 ⟨σ6, H6, I6, q6⟩ => ?_)
    refine wpAny_passesOwn hp (thn (hb _ s6 σ6 H6 _ I6 q6) fun f s7 q7 => ?_)
    have again : ∀ {σ7 : St} {H7 : Hp}, Inv X (pins ++ pinsAt fp s5.heap) σ7 H7 s7 → N σ7 H7 → ∃ m, m < n ∧ ∃ i σ' H', Inv X pins σ' H' s7 ∧ tn i s7.heap ∧ (∀ b ∈ fp, H' b = none) ∧ W i m σ' H' := fun {σ7 H7} I7 n7 => by
      obtain ⟨m', hm, w7⟩ := hN σ7 H7 n7
      refine ⟨m', hm, i + 1, σ7, H7, I7.unpinned, T.keep _ _ _ st5 fun b hb o e => (I7.pin (b, o) (List.mem_append_right _ (List.mem_append_right _ (mem_pinsAt hb e)))).1, fun b hb => ?_, w7⟩
      obtain ⟨o, e, d⟩ := T.obj _ _ st5 b hb
      exact (I7.pin (b, o) (List.mem_append_right _ (List.mem_append_right _ (mem_pinsAt hb e)))).2.1
    cases f with
    | next => obtain ⟨σ7, H7, I7, n7⟩ := q7; exact again I7 n7
    | cont => obtain ⟨σ7, H7, I7, n7⟩ := q7; exact again I7 n7
    | brk => obtain ⟨σ7, H7, I7, q7⟩ := q7; exact ⟨σ7, H7, I7.unpinned, q7⟩
    | ret v => obtain ⟨x7, σ7, H7, I7, r7, q7⟩ := q7; exact ⟨x7, σ7, H7, I7.unpinned, r7, q7⟩
end

/-! ### the forms one uses -/
/-- over a list that the body leaves as it is -/
theorem for_list {K : PySem.W.Frag} {a : Addr} {xs : List V} {g : TG} {tb : TS} {D : Ends} {σ : St} {H : Hp} (Pv : Nat → St → Hp → Prop) (h0 : Pv 0 σ H) (hl : ∀ i σ H, i ≤ xs.length → Pv i σ H → SqL K H a xs)
    (hs : ∀ i x σ H, xs[i]? = some x → Pv i σ H → g x σ H fun σ2 H2 => tb { D with nx := Pv (i + 1), ct := Pv (i + 1), bk := D.nx } σ2 H2) (hd : ∀ σ H, Pv xs.length σ H → D.nx σ H) :
    ∃ W : Nat → Nat → St → Hp → Prop, (∃ m, W 0 m σ H) ∧ ∀ i m σ H, W i m σ H →
      ((Itl K a).stop i H ∧ D.nx σ H) ∨ ((Itl K a).go i H ∧ ∃ N : St → Hp → Prop, (∀ σ' H', N σ' H' → ∃ m', m' < m ∧ W (i + 1) m' σ' H') ∧ ∀ x H', (Itl K a).yld i H x H' → g x σ H' fun σ2 H2 => tb { D with nx := N, ct := N, bk := D.nx } σ2 H2) := by
  refine ⟨fun i m σ H => m = xs.length - i ∧ i ≤ xs.length ∧ Pv i σ H, ⟨xs.length, by simp, Nat.zero_le _, h0⟩, ?_⟩
  rintro i m σ H ⟨rfl, hi, p⟩
  have q := hl i σ H hi p
  by_cases hlt : i < xs.length
  · refine .inr ⟨⟨xs, xs[i], q, by simp [hlt]⟩, Pv (i + 1), fun σ' H' p' => ⟨xs.length - (i + 1), by omega, rfl, hlt, p'⟩, fun x H' y => ?_⟩
    obtain ⟨e, y⟩ := y
    subst e
    exact hs i x σ _ (y xs q) p
  · have e : i = xs.length := by omega
    subst e
    exact .inl ⟨⟨xs, q, Nat.le_refl _⟩, hd σ H p⟩
theorem for_range {lo : Int} {n : Nat} {g : TG} {tb : TS} {D : Ends} {σ : St} {H : Hp} (Pv : Nat → St → Hp → Prop) (h0 : Pv 0 σ H)
    (hs : ∀ i σ H, i < n → Pv i σ H → g (.int (lo + i)) σ H fun σ2 H2 => tb { D with nx := Pv (i + 1), ct := Pv (i + 1), bk := D.nx } σ2 H2) (hd : ∀ σ H, Pv n σ H → D.nx σ H) :
    ∃ W : Nat → Nat → St → Hp → Prop, (∃ m, W 0 m σ H) ∧ ∀ i m σ H, W i m σ H →
      ((Itr lo n).stop i H ∧ D.nx σ H) ∨ ((Itr lo n).go i H ∧ ∃ N : St → Hp → Prop, (∀ σ' H', N σ' H' → ∃ m', m' < m ∧ W (i + 1) m' σ' H') ∧ ∀ x H', (Itr lo n).yld i H x H' → g x σ H' fun σ2 H2 => tb { D with nx := N, ct := N, bk := D.nx } σ2 H2) := by
  refine ⟨fun i m σ H => m = n - i ∧ i ≤ n ∧ Pv i σ H, ⟨n, by simp, Nat.zero_le _, h0⟩, ?_⟩
  rintro i m σ H ⟨rfl, hi, p⟩
  by_cases hlt : i < n
  · refine .inr ⟨hlt, Pv (i + 1), fun σ' H' p' => ⟨n - (i + 1), by omega, rfl, hlt, p'⟩, fun x H' y => ?_⟩
    obtain ⟨e, y⟩ := y
    subst e y
    exact hs i σ _ hlt p
  · have e : i = n := by omega
    subst e
    exact .inl ⟨Nat.le_refl _, hd σ H p⟩
end L2

namespace L2
open PySem PySem.Spec PyProof.Rows

abbrev R2 := V → V → Hp → VK → Prop
/-- a two-place operation on values: f is binaryOp op, inplaceOp op or compareOp op -/
def OpR (X : Cx) (f : Value → Value → Sem Value) (r : R2) : Prop :=
  ∀ (pins : List (Addr × Obj)) (s : Shared) (σ : St) (H : Hp) (x y : V) (v u : Value) (Q : VK), Inv X pins σ H s → RelV x v → RelV y u → r x y H Q →
    wpAny (model X.prog X.w) X.A (f v u) (EP X pins σ Q) X.xe s
/-- a one-place operation -/
def UnR (X : Cx) (f : Value → Sem Value) (r : V → Hp → VK → Prop) : Prop :=
  ∀ (pins : List (Addr × Obj)) (s : Shared) (σ : St) (H : Hp) (x : V) (v : Value) (Q : VK), Inv X pins σ H s → RelV x v → r x H Q →
    wpAny (model X.prog X.w) X.A (f v) (EP X pins σ Q) X.xe s
/-- a call of a value that is known (a builtin, a type) with values -/
def CallR (X : Cx) (f : Value) (r : List V → Hp → VK → Prop) : Prop :=
  ∀ (pins : List (Addr × Obj)) (s : Shared) (σ : St) (H : Hp) (xs : List V) (us : List Value) (Q : VK), Inv X pins σ H s → Vals xs us → r xs H Q →
    wpAny (model X.prog X.w) X.A (call f us) (EP X pins σ Q) X.xe s
/-- a value's truth -/
def TruR (X : Cx) (r : V → Hp → (Bool → Hp → Prop) → Prop) : Prop :=
  ∀ (pins : List (Addr × Obj)) (s : Shared) (σ : St) (H : Hp) (x : V) (v : Value) (Q : Bool → Hp → Prop), Inv X pins σ H s → RelV x v → r x H Q →
    wpAny (model X.prog X.w) X.A (truthy v) (TP X pins σ Q) X.xe s

def tOp (r : R2) (ta tb : TE) : TE := fun σ H Q => ta σ H fun x H1 => tb σ H1 fun y H2 => r x y H2 Q
def tUn (r : V → Hp → VK → Prop) (ta : TE) : TE := fun σ H Q => ta σ H fun x H1 => r x H1 Q
/-- ints in, under C, and a value out -/
def rI (C : Int → Int → Prop) (g : Int → Int → V) : R2 := fun x y H Q => ∃ i j, x = .int i ∧ y = .int j ∧ C i j ∧ Q (g i j) H
def rI0 (g : Int → Int → V) : R2 := fun x y H Q => ∃ i j, x = .int i ∧ y = .int j ∧ Q (g i j) H
def rU (g : Int → V) : V → Hp → VK → Prop := fun x H Q => ∃ i, x = .int i ∧ Q (g i) H

section
variable {X : Cx} {a b c : Expr} {ta tb tc : TE} {pos : Pos}

theorem binT (ha : PE X a ta) (hb : PE X b tb) {pins : List (Addr × Obj)} {s : Shared} {σ : St} {H : Hp} {R : V → V → Hp → Prop} (I : Inv X pins σ H s)
    (h : ta σ H fun x H1 => tb σ H1 fun y H2 => R x y H2) {Q : Value → Shared → Prop} {f : Value → Value → Sem Value}
    (hf : ∀ v u s2 x y H2, Inv X pins σ H2 s2 → RelV x v → RelV y u → R x y H2 → wpAny (model X.prog X.w) X.A (f v u) Q X.xe s2) :
    wpAny (model X.prog X.w) X.A (eval a X.env) (fun v s₁ => wpAny (model X.prog X.w) X.A (eval b X.env) (fun u s₂ => wpAny (model X.prog X.w) X.A (f v u) Q X.xe s₂) X.xe s₁) X.xe s := by
  refine thn (ha pins s σ H _ I h) fun v s1 ⟨x, H1, I1, r1, q1⟩ => ?_
  refine thn (hb pins s1 σ H1 _ I1 q1) fun u s2 ⟨y, H2, I2, r2, q2⟩ => ?_
  exact hf v u s2 x y H2 I2 r1 r2 q2

theorem pe_op {op : Operator} {r : R2} (ho : OpR X (binaryOp op) r) (ha : PE X a ta) (hb : PE X b tb) : PE X (.BinOp a op b pos) (tOp r ta tb) := by
  intro pins s σ H Q I h
  exact wpAny_BinOp (binT ha hb I h fun v u s2 x y H2 I2 rx ry q => ho pins s2 σ H2 x y v u Q I2 rx ry q)
theorem pe_un {op : UnaryOp} {r : V → Hp → VK → Prop} (ho : UnR X (unaryOp op) r) (ha : PE X a ta) : PE X (.UnaryOp op a pos) (tUn r ta) := by
  intro pins s σ H Q I h
  exact UnaryOp_ (thn (ha pins s σ H _ I h) fun v s1 ⟨x, H1, I1, r1, q1⟩ => ho pins s1 σ H1 x v Q I1 r1 q1)

/-! ### ints -/
theorem opI {f : Value → Value → Sem Value} {C : Int → Int → Prop} {g : Int → Int → Int}
    (rule : ∀ (i j : Int) (t u : Tok) (s : Shared) (Q : Value → Shared → Prop) (E : Value → Shared → Prop), C i j → Q (.int (g i j) s.toks) { s with toks := s.toks + 1 } → wpAny (model X.prog X.w) X.A (f (.int i t) (.int j u)) Q E s) :
    OpR X f (rI C fun i j => .int (g i j)) := by
  intro pins s σ H x y v u Q I rx ry h
  obtain ⟨i, j, rfl, rfl, hc, q⟩ := h
  obtain ⟨t, rfl⟩ := rx
  obtain ⟨t', rfl⟩ := ry
  exact rule i j t t' s _ _ hc ⟨.int (g i j), H, I.tok _, ⟨_, rfl⟩, q⟩
theorem opI0 {f : Value → Value → Sem Value} {g : Int → Int → Int}
    (rule : ∀ (i j : Int) (t u : Tok) (s : Shared) (Q : Value → Shared → Prop) (E : Value → Shared → Prop), Q (.int (g i j) s.toks) { s with toks := s.toks + 1 } → wpAny (model X.prog X.w) X.A (f (.int i t) (.int j u)) Q E s) :
    OpR X f (rI0 fun i j => .int (g i j)) := by
  intro pins s σ H x y v u Q I rx ry h
  obtain ⟨i, j, rfl, rfl, q⟩ := h
  obtain ⟨t, rfl⟩ := rx
  obtain ⟨t', rfl⟩ := ry
  exact rule i j t t' s _ _ ⟨.int (g i j), H, I.tok _, ⟨_, rfl⟩, q⟩
theorem opB0 {f : Value → Value → Sem Value} {g : Int → Int → Bool}
    (rule : ∀ (i j : Int) (t u : Tok) (s : Shared) (Q : Value → Shared → Prop) (E : Value → Shared → Prop), Q (.bool (g i j)) s → wpAny (model X.prog X.w) X.A (f (.int i t) (.int j u)) Q E s) :
    OpR X f (rI0 fun i j => .bl (g i j)) := by
  intro pins s σ H x y v u Q I rx ry h
  obtain ⟨i, j, rfl, rfl, q⟩ := h
  obtain ⟨t, rfl⟩ := rx
  obtain ⟨t', rfl⟩ := ry
  exact rule i j t t' s _ _ ⟨.bl (g i j), H, I, rfl, q⟩

def CDiv (i j : Int) : Prop := 0 < j ∧ j < 1073741824
def CDivN (i j : Int) : Prop := j ≠ 0 ∧ j.natAbs < 1073741824
def CPow (i j : Int) : Prop := 0 ≤ j ∧ j ≤ 1000000 ∧ i.natAbs < 2 ^ 64
def CMul (i j : Int) : Prop := (-(2 ^ 64) < i ∧ i < 2 ^ 64) ∨ (-(2 ^ 64) < j ∧ j < 2 ^ 64)
theorem CMul.ok {i j : Int} (h : CMul i j) : IntMulOk i j := by
  rcases h with ⟨h1, h2⟩ | ⟨h1, h2⟩
  · exact .of_left (intBits_le_64 h1 h2)
  · exact .of_right (intBits_le_64 h1 h2)

theorem op_add : OpR X (binaryOp .Add) (rI0 fun i j => .int (i + j)) := opI0 fun _ _ _ _ _ _ _ q => add_int q
theorem op_sub : OpR X (binaryOp .Sub) (rI0 fun i j => .int (i - j)) := opI0 fun _ _ _ _ _ _ _ q => sub_int q
theorem op_mul : OpR X (binaryOp .Mult) (rI CMul fun i j => .int (i * j)) := opI fun _ _ _ _ _ _ _ hc q => mul_int q hc.ok
/-- // by a positive divisor -/
theorem op_fdiv : OpR X (binaryOp .FloorDiv) (rI CDiv fun i j => .int (i / j)) := opI fun i j _ _ _ _ _ hc q => by
  have h1 : (0 : Int) < j := hc.1
  have h2 : j < 1073741824 := hc.2
  exact floordiv_int (by omega) (by rw [Int.fdiv_eq_ediv_of_nonneg i (by omega)]; exact q) (.inl (PyProof.noPylong_small (by omega)))
/-- % by a positive divisor of any size -/
theorem op_mod : OpR X (binaryOp .Mod) (rI (fun _ j => 0 < j) fun i j => .int (i % j)) := opI fun i j _ _ _ _ _ hc q => by
  have h1 : (0 : Int) < j := hc
  exact mod_int' (by omega) (by rw [Int.fmod_eq_emod_of_nonneg i (by omega)]; exact q)
theorem op_pow : OpR X (binaryOp .Pow) (rI CPow fun i j => .int (i ^ j.toNat)) := opI fun _ _ _ _ _ _ _ hc q => pow_int_small hc.1 hc.2.1 hc.2.2 q


theorem unI {f : Value → Sem Value} {g : Int → Int}
    (rule : ∀ (i : Int) (t : Tok) (s : Shared) (Q : Value → Shared → Prop) (E : Value → Shared → Prop), Q (.int (g i) s.toks) { s with toks := s.toks + 1 } → wpAny (model X.prog X.w) X.A (f (.int i t)) Q E s) :
    UnR X f (rU fun i => .int (g i)) := by
  intro pins s σ H x v Q I rx h
  obtain ⟨i, rfl, q⟩ := h
  obtain ⟨t, rfl⟩ := rx
  exact rule i t s _ _ ⟨.int (g i), H, I.tok _, ⟨_, rfl⟩, q⟩
theorem un_neg : UnR X (unaryOp .USub) (rU fun i => .int (-i)) := unI fun _ _ _ _ _ q => neg_int q

/-! ### bools among ints: n += (a < b) -/
end

/-! ### comparisons -/
/-- the scalars that == tells apart as data does -/
def scal : V → V → Bool
  | .non, .non => true | .non, .int _ => true | .int _, .non => true | .non, .bl _ => true | .bl _, .non => true | .non, .str _ => true | .str _, .non => true
  | .int _, .int _ => true | .bl _, .bl _ => true | .str _, .str _ => true | .byt _, .byt _ => true
  | .int _, .str _ => true | .str _, .int _ => true | .bl _, .str _ => true | .str _, .bl _ => true
  | _, _ => false
def rEq : R2 := fun x y H Q => scal x y = true ∧ Q (.bl (decide (x = y))) H
def rNe : R2 := fun x y H Q => scal x y = true ∧ Q (.bl (!decide (x = y))) H

theorem dec_int {i j : Int} : decide (V.int i = V.int j) = (i == j) := by
  rw [Bool.eq_iff_iff]
  simp
theorem dec_bl {i j : Bool} : decide (V.bl i = V.bl j) = (i == j) := by
  rw [Bool.eq_iff_iff]
  simp
theorem dec_str {i j : Str} : decide (V.str i = V.str j) = (i == j) := by
  rw [Bool.eq_iff_iff]
  simp
theorem dec_byt {i j : Array UInt8} : decide (V.byt i = V.byt j) = (i.toList == j.toList) := by
  rw [Bool.eq_iff_iff]
  cases i
  cases j
  simp

section
variable {X : Cx} {a b c : Expr} {ta tb tc : TE} {pos : Pos}
theorem fin_bl {pins : List (Addr × Obj)} {σ : St} {H : Hp} {s : Shared} {Q : VK} {k k' : Bool} (I : Inv X pins σ H s) (q : Q (.bl k) H) (e : k = k') : EP X pins σ Q (.bool k') s := by
  subst e
  exact ⟨.bl k, H, I, rfl, q⟩
theorem op_eq : OpR X (compareOp .Eq) rEq := by
  intro pins s σ H x y v u Q I rx ry h
  obtain ⟨hs, q⟩ := h
  cases x with
  | non =>
    cases rx
    cases y with
    | non => cases ry; exact PySem.EqNone.eq_none_none (fin_bl I q (by simp))
    | bl j => cases ry; exact PySem.EqNone.eq_none_bool (fin_bl I q (by simp))
    | int j => obtain ⟨t', rfl⟩ := ry; exact PySem.EqNone.eq_none_int (fin_bl I q (by simp))
    | str j => obtain ⟨t', rfl⟩ := ry; exact PySem.EqNone.eq_none_str (fin_bl I q (by simp))
    | _ => exact absurd (show false = true from hs) Bool.false_ne_true
  | bl i =>
    cases rx
    cases y with
    | non => cases ry; exact PySem.EqNone.eq_bool_none (fin_bl I q (by simp))
    | bl j => cases ry; exact eq_bool (fin_bl I q dec_bl)
    | str j => obtain ⟨t', rfl⟩ := ry; exact PySem.EqMixed.eq_bool_str (fin_bl I q (by simp))
    | _ => exact absurd (show false = true from hs) Bool.false_ne_true
  | int i =>
    obtain ⟨t, rfl⟩ := rx
    cases y with
    | non => cases ry; exact PySem.EqNone.eq_int_none (fin_bl I q (by simp))
    | int j => obtain ⟨t', rfl⟩ := ry; exact eq_int (fin_bl I q dec_int)
    | str j => obtain ⟨t', rfl⟩ := ry; exact PySem.EqMixed.eq_int_str (fin_bl I q (by simp))
    | _ => exact absurd (show false = true from hs) Bool.false_ne_true
  | str i =>
    obtain ⟨t, rfl⟩ := rx
    cases y with
    | non => cases ry; exact PySem.EqNone.eq_str_none (fin_bl I q (by simp))
    | bl j => cases ry; exact PySem.EqMixed.eq_str_bool (fin_bl I q (by simp))
    | int j => obtain ⟨t', rfl⟩ := ry; exact PySem.EqMixed.eq_str_int (fin_bl I q (by simp))
    | str j => obtain ⟨t', rfl⟩ := ry; exact eq_str (fin_bl I q dec_str)
    | _ => exact absurd (show false = true from hs) Bool.false_ne_true
  | byt i =>
    obtain ⟨t, rfl⟩ := rx
    cases y with
    | byt j => obtain ⟨t', rfl⟩ := ry; exact PySem.W.eq_bytes (fin_bl I q dec_byt)
    | _ => exact absurd (show false = true from hs) Bool.false_ne_true
  | _ => cases y <;> exact absurd (show false = true from hs) Bool.false_ne_true
theorem op_ne : OpR X (compareOp .NotEq) rNe := by
  intro pins s σ H x y v u Q I rx ry h
  obtain ⟨hs, q⟩ := h
  cases x with
  | non =>
    cases rx
    cases y with
    | non => cases ry; exact PySem.EqNone.ne_none_none (fin_bl I q (by simp))
    | bl j => cases ry; exact PySem.EqNone.ne_none_bool (fin_bl I q (by simp))
    | int j => obtain ⟨t', rfl⟩ := ry; exact PySem.EqNone.ne_none_int (fin_bl I q (by simp))
    | str j => obtain ⟨t', rfl⟩ := ry; exact PySem.EqNone.ne_none_str (fin_bl I q (by simp))
    | _ => exact absurd (show false = true from hs) Bool.false_ne_true
  | bl i =>
    cases rx
    cases y with
    | non => cases ry; exact PySem.EqNone.ne_bool_none (fin_bl I q (by simp))
    | bl j => cases ry; exact ne_bool (fin_bl I q (congrArg not dec_bl))
    | str j => obtain ⟨t', rfl⟩ := ry; exact PySem.EqMixed.ne_bool_str (fin_bl I q (by simp))
    | _ => exact absurd (show false = true from hs) Bool.false_ne_true
  | int i =>
    obtain ⟨t, rfl⟩ := rx
    cases y with
    | non => cases ry; exact PySem.EqNone.ne_int_none (fin_bl I q (by simp))
    | int j => obtain ⟨t', rfl⟩ := ry; exact ne_int (fin_bl I q (congrArg not dec_int))
    | str j => obtain ⟨t', rfl⟩ := ry; exact PySem.EqMixed.ne_int_str (fin_bl I q (by simp))
    | _ => exact absurd (show false = true from hs) Bool.false_ne_true
  | str i =>
    obtain ⟨t, rfl⟩ := rx
    cases y with
    | non => cases ry; exact PySem.EqNone.ne_str_none (fin_bl I q (by simp))
    | bl j => cases ry; exact PySem.EqMixed.ne_str_bool (fin_bl I q (by simp))
    | int j => obtain ⟨t', rfl⟩ := ry; exact PySem.EqMixed.ne_str_int (fin_bl I q (by simp))
    | str j => obtain ⟨t', rfl⟩ := ry; exact ne_str (fin_bl I q (congrArg not dec_str))
    | _ => exact absurd (show false = true from hs) Bool.false_ne_true
  | byt i =>
    obtain ⟨t, rfl⟩ := rx
    cases y with
    | byt j => obtain ⟨t', rfl⟩ := ry; exact PySem.W.ne_bytes (fin_bl I q (congrArg not dec_byt))
    | _ => exact absurd (show false = true from hs) Bool.false_ne_true
  | _ => cases y <;> exact absurd (show false = true from hs) Bool.false_ne_true

theorem op_lt : OpR X (compareOp .Lt) (rI0 fun i j => .bl (decide (i < j))) := opB0 fun _ _ _ _ _ _ _ q => lt_int q
theorem op_le : OpR X (compareOp .LtE) (rI0 fun i j => .bl (decide (i ≤ j))) := opB0 fun _ _ _ _ _ _ _ q => le_int q
theorem op_gt : OpR X (compareOp .Gt) (rI0 fun i j => .bl (decide (j < i))) := opB0 fun _ _ _ _ _ _ _ q => gt_int q
theorem op_ge : OpR X (compareOp .GtE) (rI0 fun i j => .bl (decide (j ≤ i))) := opB0 fun _ _ _ _ _ _ _ q => ge_int q


/-- is, is not of two objects that are tracked lists or instances -/
def isObj : HO → Bool
  | .lst _ => true
  | .ins _ _ _ => true
  | _ => false


theorem nomark (b : Expr) {op : CmpOp} (h : op ≠ .In := by decide) (h2 : op ≠ .NotIn := by decide) : behindInMarks op b = false := by
  have e1 : (op == CmpOp.In) = false := by cases op <;> first | rfl | exact absurd rfl h
  have e2 : (op == CmpOp.NotIn) = false := by cases op <;> first | rfl | exact absurd rfl h2
  cases b <;> simp [behindInMarks, e1, e2]
/-- a comparison as a value; hm: nomark b, or (for in, not in) by with_unfolding_all rfl -/
theorem pe_cmpR {op : CmpOp} {r : R2} (ho : OpR X (compareOp op) r) (ha : PE X a ta) (hb : PE X b tb) (hm : behindInMarks op b = false) : PE X (.Compare a [op] [b] pos) (tOp r ta tb) := by
  intro pins s σ H Q I h
  exact wpAny_Compare1 (binT ha hb I h fun v u s2 x y H2 I2 rx ry q => ho pins s2 σ H2 x y v u Q I2 rx ry q) hm
/-- a reading of a value as a test -/
def tTest (t : TE) : TT := fun σ H Q => t σ H fun x H' => ∃ k, x = .bl k ∧ Q k H'
theorem pt_cmpR {op : CmpOp} {r : R2} (ho : OpR X (compareOp op) r) (ha : PE X a ta) (hb : PE X b tb) (hm : behindInMarks op b = false) : PT X (.Compare a [op] [b] pos) (tTest (tOp r ta tb)) := by
  intro pins s σ H Q I h
  refine wpAny_isTrue_Compare1 (thn (ha pins s σ H _ I h) fun v s1 ⟨x, H1, I1, r1, q1⟩ => thn (hb pins s1 σ H1 _ I1 q1) fun u s2 ⟨y, H2, I2, r2, q2⟩ =>
    thn (ho pins s2 σ H2 x y v u _ I2 r1 r2 q2) fun c s3 ⟨z, H3, I3, r3, k, e, q3⟩ => ?_) hm
  subst e
  cases r3
  exact wpAny_truthy_bool ⟨H3, I3, q3⟩
/-- a op1 b op2 c -/
def tChain (r r' : R2) (ta tb tc : TE) : TE := fun σ H Q => ta σ H fun x H1 => tb σ H1 fun y H2 => r x y H2 fun z H3 => ∃ k, z = .bl k ∧
  (if k = true then tc σ H3 fun w' H4 => r' y w' H4 Q else Q (.bl false) H3)
theorem pe_chain {op op' : CmpOp} {r r' : R2} (ho : OpR X (compareOp op) r) (ho' : OpR X (compareOp op') r') (ha : PE X a ta) (hb : PE X b tb) (hc : PE X c tc)
    (hm : lastMarks [op, op'] [b, c] = false := by with_unfolding_all rfl) : PE X (.Compare a [op, op'] [b, c] pos) (tChain r r' ta tb tc) := by
  intro pins s σ H Q I h
  refine Compare_chain (thn (ha pins s σ H _ I h) fun v s1 ⟨x, H1, I1, r1, q1⟩ => chain_link (thn (hb pins s1 σ H1 _ I1 q1) fun u s2 ⟨y, H2, I2, r2, q2⟩ =>
    thn (ho pins s2 σ H2 x y v u _ I2 r1 r2 q2) fun d s3 ⟨z, H3, I3, r3, k, e, q3⟩ => ?_)) hm
  subst e
  cases r3
  refine wpAny_truthy_bool ?_
  cases k with
  | false => exact ite_ff ⟨.bl false, H3, I3, rfl, q3⟩
  | true => exact ite_tt (chain_last (thn (hc pins s3 σ H3 _ I3 q3) fun w' s4 ⟨z', H4, I4, r4, q4⟩ => ho' pins s4 σ H4 y z' u w' Q I4 r2 r4 q4))

/-! ### truth -/
/-- a value's truth by the abstract heap -/
def TruV (K : PySem.W.Frag) (x : V) (H : Hp) (k : Bool) : Prop :=
  match x with
  | .non => k = false
  | .bl b => k = b
  | .int i => k = (i != 0)
  | .str y => y.length ≤ sizeLine ∧ k = ((y.length : Int) != 0)
  | .byt y => y.size ≤ sizeLine ∧ k = ((y.size : Int) != 0)
  | .ref p => (∃ xs, SqL K H p xs ∧ k = !xs.isEmpty) ∨ (∃ xs, SqT K H p xs ∧ k = !xs.isEmpty) ∨ ∃ kvs, H p = some (.dK kvs) ∧ k = !kvs.isEmpty
  | _ => False
theorem line63 : (sizeLine : Nat) < 2 ^ 63 := by rw [sizeLine_eq]; decide

/-! ### strs and bytes -/
theorem op_add_str : OpR X (binaryOp .Add) (fun x y H Q => ∃ i j, x = .str i ∧ y = .str j ∧ i.length + j.length ≤ sizeLine ∧ Q (.str (i ++ j)) H) := by
  intro pins s σ H x y v u Q I rx ry h
  obtain ⟨i, j, rfl, rfl, hz, q⟩ := h
  obtain ⟨t, rfl⟩ := rx
  obtain ⟨t', rfl⟩ := ry
  exact add_str (fun t' tk => ⟨.str (i ++ j), H, I.tok _, ⟨_, rfl⟩, q⟩) hz

def PlainIxT (b : Expr) : Prop := ∀ o i, subscripted b false o i = operate [o, i] (getItem o i)

/-! ### scalar builtins, by CallR -/
theorem vals1 {x : V} {us : List Value} (r : Vals [x] us) : ∃ u, us = [u] ∧ RelV x u := by
  cases r with
  | cons r1 r2 => cases r2; exact ⟨_, rfl, r1⟩
theorem vals2 {x y : V} {us : List Value} (r : Vals [x, y] us) : ∃ u w', us = [u, w'] ∧ RelV x u ∧ RelV y w' := by
  cases r with
  | cons r1 r2 =>
    cases r2 with
    | cons r3 r4 => cases r4; exact ⟨_, _, rfl, r1, r3⟩
theorem call_min2 (hc : X.calm = true) : CallR X (.builtin "min") (fun xs H Q => ∃ i j, xs = [.int i, .int j] ∧ Q (.int (if j < i then j else i)) H) := by
  intro pins s σ H xs us Q I r h
  obtain ⟨i, j, rfl, q⟩ := h
  obtain ⟨u, w', rfl, ⟨t, rfl⟩, ⟨t', rfl⟩⟩ := vals2 r
  refine min_two_ints (I.ok.hd hc) fun h' tk k => ⟨_, H, I.kept k, ?_, q⟩
  by_cases hj : j < i
  · rw [if_pos hj, if_pos hj]; exact ⟨_, rfl⟩
  · rw [if_neg hj, if_neg hj]; exact ⟨_, rfl⟩
theorem call_int1 : CallR X (.type "int") (fun xs H Q => (∃ i, xs = [.int i] ∧ Q (.int i) H) ∨ ∃ k, xs = [.bl k] ∧ Q (.int (if k then 1 else 0)) H) := by
  intro pins s σ H xs us Q I r h
  rcases h with ⟨i, rfl, q⟩ | ⟨k, rfl, q⟩
  · obtain ⟨u, rfl, t, rfl⟩ := vals1 r
    exact call_int_int ⟨.int i, H, I, ⟨_, rfl⟩, q⟩
  · obtain ⟨u, rfl, r1⟩ := vals1 r
    cases r1
    exact call_int_bool ⟨.int (if k then 1 else 0), H, I.tok _, ⟨_, rfl⟩, q⟩
theorem call_str_int : CallR X (.type "str") (fun xs H Q => ∃ i, xs = [.int i] ∧ i.natAbs.log2 < 1920 ∧ Q (.str (toString i)) H) := by
  intro pins s σ H xs us Q I r h
  obtain ⟨i, rfl, hz, q⟩ := h
  obtain ⟨u, rfl, t, rfl⟩ := vals1 r
  exact PySem.P.str_of_int hz ⟨.str _, H, I.tok _, ⟨_, rfl⟩, q⟩
/-- len of a str, a bytes, a list, a tuple -/
def LenV (K : PySem.W.Frag) (x : V) (H : Hp) (n : Nat) : Prop :=
  match x with
  | .str y => y.length ≤ sizeLine ∧ n = y.length
  | .byt y => y.size ≤ sizeLine ∧ n = y.size
  | .ref p => (∃ xs, SqL K H p xs ∧ n = xs.length) ∨ ∃ xs, SqT K H p xs ∧ n = xs.length
  | _ => False
end
end L2

namespace L2
open PySem PySem.Spec PyProof.Rows

/-! ### an instance, its attributes a map -/
structure ObjM (h : Heap) (x dx C : Addr) (mA : Str → Option Value) : Prop where
  obj : h.get? x = some (PySem.W.instObj C dx)
  ns : h.Ns1 dx mA
  ne : dx ≠ x

theorem lookIn_ns {h : Heap} {dx : Addr} {mA : Str → Option Value} (n : h.Ns1 dx mA) : ∃ od, h.get? dx = some od ∧ ∀ name, PySem.W.lookIn name od = some (mA name) := by
  obtain ⟨o, es, ep, ho, hd, hk, _, hm⟩ := n
  refine ⟨o, ho, fun name => ?_⟩
  have e := hm name
  unfold nsFind findBy at e
  rw [← Array.find?_toList] at e
  unfold PySem.W.lookIn
  rw [hd]
  dsimp only
  split
  · rename_i y q
    rw [q] at e
    exact congrArg some e
  · rename_i q
    rw [q] at e
    have a : es.toList.any (·.refKey) = false := by
      rw [List.any_eq_false]
      intro y hy
      obtain ⟨z, t, hkey⟩ := hk y (Array.mem_toList_iff.mp hy)
      simp [DictEntry.refKey, hkey]
    have a' : ¬ es.toList.any (·.refKey) = true := by rw [a]; exact Bool.false_ne_true
    rw [if_neg a']
    exact congrArg some e

theorem ObjM.look {h : Heap} {x dx C : Addr} {mA : Str → Option Value} (I : ObjM h x dx C mA) : ∃ od, PySem.W.InstAt h x (PySem.W.instObj C dx) C (some od) ∧ ∀ name, PySem.W.lookIn name od = some (mA name) :=
  let ⟨od, ho, hl⟩ := lookIn_ns I.ns
  ⟨od, ⟨I.obj, rfl, rfl, ho⟩, hl⟩

section
variable {prog : Program} {w : World} {A : Around} {E : Value → Shared → Prop} {s : Shared} {K : PySem.W.Frag} {x dx C f : Addr} {mA : Str → Option Value} {name : Str} {v : Value}

theorem get_map {expr : Bool} {Q : Value → Shared → Prop} (X : K.In s.heap) (I : ObjM s.heap x dx C mA) (hg : PySem.W.plainGet K C name = true) (hh : PySem.W.hasDictIn K C = true)
    (ha : PySem.W.findIn K (.ref C) name = some none) (hv : mA name = some v) (hv' : PySem.W.handedIn v = true) (h : Q v { s with toks := s.toks + 1 }) :
    wpAny (model prog w) A (getAttr (.ref x) name expr) Q E s := by
  obtain ⟨od, J, hl⟩ := I.look
  exact PySem.W.get_value X J (PySem.W.plainGet_of hg).1 (PySem.W.findObj_own hh ha rfl (by rw [hl, hv])) hv' h


theorem get_meth {pl : Sem Bool} {Q : Value × List Value → Shared → Prop} (X : K.In s.heap) (I : ObjM s.heap x dx C mA) (hg : PySem.W.plainGet K C name = true)
    (hf : PySem.W.findIn K (.ref C) name = some (some (.ref f))) (ht : PySem.W.isFn K (.ref f) = true) (hv : mA name = none) (h : Q (.ref f, [.ref x]) s) :
    wpAny (model prog w) A (getMethod (.ref x) name pl) Q E s := by
  obtain ⟨od, J, hl⟩ := I.look
  exact PySem.W.method_fn X J (PySem.W.plainGet_of hg).1 (PySem.W.plainGet_of hg).2 hf (beq_iff_eq.mp ht) (by show (PySem.W.lookIn name od).map (·.isSome) = some false; rw [hl, hv]; rfl) h

theorem set_map {ns : List Str} {Q : Unit → Shared → Prop} (X : K.In s.heap) (I : ObjM s.heap x dx C mA)
    (hs : PySem.W.findIn K (.ref C) "__setattr__" = some (some (.builtin "object.__setattr__"))) (hp : PySem.W.plainOver K C = true) (ht : PySem.W.takerIn K C name = some none) (hh : PySem.W.hasDictIn K C = true)
    (hw : PySem.Within mA ns) (hsz : ns.length ≤ sizeLine)
    (h : ∀ h', ObjM h' x dx C (fun y => if y = name then some v else mA y) → Heap.SameBut dx s.heap h' → Q () { s with heap := h', toks := s.toks + 2 }) :
    wpAny (model prog w) A (setAttr (.ref x) name v) Q E s := by
  obtain ⟨od, J, hl⟩ := I.look
  refine PySem.W.set_plain X J hs (PySem.W.osa_open (s := { s with toks := s.toks + 1 }) (r := none) X J hp ht fun b => ?_)
  obtain ⟨cd, hc, hd'⟩ := PySem.W.any_some hh
  have hx : s.heap.get? x = some ⟨.ref C, some dx, .plain, #[]⟩ := I.obj
  refine wpAny_bind (wpAny_pure (wpAny_bind (wpAny_bind (wpAny_loadPart hx (wpAny_bind (PySem.W.Looks.here (s := { s with toks := s.toks + 1 }) (PySem.W.looks_clsIn X hc) ?_))))))
  rw [hd']
  refine wpAny_pure (a := some dx) (wpAny_bind (wpAny_pure (wpAny_bind ?_)))
  refine wpAny_nsSet1 (s := { s with toks := s.toks + 1 }) I.ns fun h' hn2 hs2 => ?_
  obtain ⟨oD, esD, epD, hoD, hdD, hcD⟩ := hn2.count (PySem.Within.cons name v hw)
  refine wpAny_bind (wpAny_lookBehind hoD (by rw [hdD]; exact pastItsLine_dict (Nat.le_trans hcD (by rw [List.length_cons]; omega))) ?_)
  exact wpAny_pure (h _ ⟨(hs2.2 _ (Ne.symm I.ne)).trans I.obj, hn2, I.ne⟩ hs2)

/-- C(..): the dict at the heap's end, the instance behind it; then its __init__ -/
theorem make_map {R : Result → Shared → Prop} {vs : List Value} {kw : List (Str × Value)} (X : K.In s.heap) (hm : PySem.W.makesIn K C = true)
    (hi : PySem.W.findIn K (.ref C) "__init__" = some (some (.ref f))) (hf : PySem.W.typeIn K (.ref f) = some (.type "function"))
    (h : codeAny (model prog w) (A.under (.builtin "type.__call__" ⟨.ref C :: vs, kw⟩)) (.call (.ref f) ⟨.ref (s.heap.objs.size + 1) :: vs, kw⟩) (PySem.W.InitBack (s.heap.objs.size + 1) R)
      { s with heap := (s.heap.push PySem.W.emptyDict).push (PySem.W.instObj C s.heap.objs.size) }) :
    codeAny (model prog w) A (.call (.ref C) ⟨vs, kw⟩) R s := by
  obtain ⟨hh, g, d, t, os⟩ := s
  exact PySem.W.make_core (PySem.W.makes_of X hm) (PySem.W.looks_findIn X hi) (fun self => PySem.W.bind_fn X self hf) (.inl rfl) h
end

/-! ### the attributes as a list of pairs -/
def putF (f : Str) (v : V) : List (Str × V) → List (Str × V)
  | [] => [(f, v)]
  | (g, x) :: r => if g = f then (g, v) :: r else (g, x) :: putF f v r
theorem lookup_putF (f g : Str) (v : V) : ∀ fs : List (Str × V), (putF f v fs).lookup g = if g = f then some v else fs.lookup g
  | [] => by
    show List.lookup g [(f, v)] = _
    by_cases h : g = f
    · have hb : (g == f) = true := beq_iff_eq.mpr h
      simp only [List.lookup, hb, if_pos h]
    · have hb : (g == f) = false := beq_eq_false_iff_ne.mpr h
      simp only [List.lookup, hb, if_neg h]
  | (k, x) :: r => by
    have ih := lookup_putF f g v r
    rw [show putF f v ((k, x) :: r) = (if k = f then (k, v) :: r else (k, x) :: putF f v r) from rfl]
    by_cases hk : k = f
    · rw [if_pos hk]
      by_cases h : g = k
      · have hb : (g == k) = true := beq_iff_eq.mpr h
        simp only [List.lookup, hb, if_pos (h.trans hk)]
      · have hb : (g == k) = false := beq_eq_false_iff_ne.mpr h
        simp only [List.lookup, hb, if_neg (fun e : g = f => h (e.trans hk.symm))]
    · rw [if_neg hk]
      by_cases h : g = k
      · have hb : (g == k) = true := beq_iff_eq.mpr h
        simp only [List.lookup, hb, if_neg (fun e : g = f => hk (h.symm.trans e))]
      · have hb : (g == k) = false := beq_eq_false_iff_ne.mpr h
        simp only [List.lookup, hb]
        exact ih
theorem keys_putF (f : Str) (v : V) : ∀ fs : List (Str × V), f ∈ (putF f v fs).map (·.1) ∧ ∀ g, g ∈ fs.map (·.1) → g ∈ (putF f v fs).map (·.1)
  | [] => ⟨by simp [putF], fun g h => by simp at h⟩
  | (k, x) :: r => by
    obtain ⟨i1, i2⟩ := keys_putF f v r
    rw [show putF f v ((k, x) :: r) = (if k = f then (k, v) :: r else (k, x) :: putF f v r) from rfl]
    by_cases hk : k = f
    · rw [if_pos hk]
      subst hk
      exact ⟨by simp, fun g h => by simpa using h⟩
    · rw [if_neg hk]
      refine ⟨?_, fun g h => ?_⟩
      · rw [List.map_cons]
        exact List.mem_cons_of_mem _ i1
      · rw [List.map_cons] at h ⊢
        rcases List.mem_cons.mp h with e | e
        · exact List.mem_cons.mpr (.inl e)
        · exact List.mem_cons_of_mem _ (i2 g e)
theorem length_putF (f : Str) (v : V) : ∀ fs : List (Str × V), (putF f v fs).length ≤ fs.length + 1
  | [] => by simp [putF]
  | (k, x) :: r => by
    have ih := length_putF f v r
    rw [show putF f v ((k, x) :: r) = (if k = f then (k, v) :: r else (k, x) :: putF f v r) from rfl]
    by_cases hk : k = f
    · rw [if_pos hk, List.length_cons, List.length_cons]; omega
    · rw [if_neg hk, List.length_cons, List.length_cons]; omega

theorem RelO.some_of {v : V} {o : Option Value} (r : RelO (some v) o) : ∃ u, o = some u ∧ RelV v u := by
  cases o with
  | none => exact (show False from r).elim
  | some u => exact ⟨u, rfl, r⟩
theorem RelO.none_of {o : Option Value} (r : RelO none o) : o = none := by
  cases o with
  | none => rfl
  | some u => exact (show False from r).elim
theorem handed_of {v : V} {u : Value} (r : RelV v u) : PySem.W.handedIn u = true := by
  cases v with
  | non => cases (show u = Value.none from r); rfl
  | bl b => cases (show u = Value.bool b from r); rfl
  | int i => obtain ⟨t, e⟩ := (show ∃ t, u = Value.int i t from r); cases e; rfl
  | str x => obtain ⟨t, e⟩ := (show ∃ t, u = Value.str x t from r); cases e; rfl
  | byt b => obtain ⟨t, e⟩ := (show ∃ t, u = Value.bytes b t from r); cases e; rfl
  | flt b => obtain ⟨t, e⟩ := (show ∃ t, u = Value.float b t from r); cases e; rfl
  | ref a => cases (show u = Value.ref a from r); rfl
  | ty n => cases (show u = Value.type n from r); rfl

section
variable {P : Program} {w : World} {H H' : Hp} {h h' : Heap} {a C dx : Addr} {fs fs' : List (Str × V)}
theorem ins_get (hok : HOk P w H h) (e : H a = some (.ins C dx fs)) : ∃ mA, ObjM h a dx C mA ∧ (∀ f, RelO (fs.lookup f) (mA f)) ∧ PySem.Within mA (fs.map (·.1)) ∧ fs.length ≤ 1000 ∧ H dx = some (.own a) := by
  obtain ⟨d, z, ne, ob, mA, n, r, q⟩ := (show ObjOk P w H h a (.ins C dx fs) from hok a _ e)
  exact ⟨mA, ⟨ob, n, ne⟩, r, q, z, d⟩
end

/-! ### what of the text a class must have -/
structure Cls (K : PySem.W.Frag) (C : Addr) : Prop where
  pg : PySem.W.plainGet K C Str.empty = true
  hd : PySem.W.hasDictIn K C = true
  po : PySem.W.plainOver K C = true
  sa : PySem.W.findIn K (.ref C) "__setattr__" = some (some (.builtin "object.__setattr__"))
theorem Cls.get {K : PySem.W.Frag} {C : Addr} (c : Cls K C) (f : Str) : PySem.W.plainGet K C f = true := c.pg
/-- no class of it has the name -/
def NoAttr (K : PySem.W.Frag) (C : Addr) (f : Str) : Prop := PySem.W.findIn K (.ref C) f = some none
theorem NoAttr.taker {K : PySem.W.Frag} {C : Addr} {f : Str} (n : NoAttr K C f) : PySem.W.takerIn K C f = some none := by
  unfold PySem.W.takerIn
  rw [show PySem.W.findIn K (.ref C) f = some none from n]
  rfl
/-- a constant of the class -/
structure Con (K : PySem.W.Frag) (C : Addr) (f : Str) (v : V) (u : Value) : Prop where
  at_ : PySem.W.findIn K (.ref C) f = some (some u)
  rel : RelV v u
  get : PySem.W.specialIn K u "__get__" = some none
  cp : PySem.W.copiedNames.contains f = false
/-- a method: a plain def of the class or of one above it -/
structure Meth (K : PySem.W.Frag) (C : Addr) (m : Str) (f : Addr) : Prop where
  at_ : PySem.W.findIn K (.ref C) m = some (some (.ref f))
  fn : PySem.W.isFn K (.ref f) = true
  kp : PySem.W.keepIn K (.ref f) = true

section
variable {X : Cx} {pins : List (Addr × Obj)} {σ : St} {H : Hp} {s : Shared} {a C dx : Addr} {fs : List (Str × V)} {f : Str} {v : V} {A : Around} {E : Value → Shared → Prop}

theorem getattr_ok {b : Bool} {Q : Value → Shared → Prop} (I : Inv X pins σ H s) (e : H a = some (.ins C dx fs)) (c : Cls X.K C) (n : NoAttr X.K C f) (l : fs.lookup f = some v)
    (h : ∀ u s', Inv X pins σ H s' → RelV v u → Q u s') : wpAny (model X.prog X.w) A (getAttr (.ref a) f b) Q E s := by
  obtain ⟨mA, O, r, _, _, _⟩ := ins_get I.hok e
  obtain ⟨u, hu, ru⟩ := RelO.some_of (v := v) (o := mA f) (by rw [← l]; exact r f)
  exact get_map I.kIn O (c.get f) c.hd n hu (handed_of ru) (h u _ (I.tok _) ru)


theorem getmeth_ok {m : Str} {g : Addr} {pl : Sem Bool} {Q : Value × List Value → Shared → Prop} (I : Inv X pins σ H s) (e : H a = some (.ins C dx fs)) (c : Cls X.K C) (k : Meth X.K C m g) (l : fs.lookup m = none)
    (h : Q (.ref g, [.ref a]) s) : wpAny (model X.prog X.w) A (getMethod (.ref a) m pl) Q E s := by
  obtain ⟨mA, O, r, _, _, _⟩ := ins_get I.hok e
  have hn : mA m = none := RelO.none_of (by rw [← l]; exact r m)
  exact get_meth I.kIn O (c.get m) k.at_ k.fn hn h

theorem setattr_ok {y : V} {u : Value} {Q : Unit → Shared → Prop} (I : Inv X pins σ H s) (e : H a = some (.ins C dx fs)) (c : Cls X.K C) (n : NoAttr X.K C f) (hl : fs.length < 1000) (ry : RelV y u)
    (h : ∀ s', Inv X pins σ (upd H a (.ins C dx (putF f y fs))) s' → Q () s') : wpAny (model X.prog X.w) A (setAttr (.ref a) f u) Q E s := by
  obtain ⟨mA, O, r, wi, _, ho⟩ := ins_get I.hok e
  have hz : (fs.map (·.1)).length ≤ sizeLine := by rw [List.length_map, sizeLine_eq]; omega
  refine set_map I.kIn O c.sa c.po n.taker c.hd wi hz fun h' O' sb => h _ ?_
  have hd : ∃ o, h'.get? dx = some o := let ⟨o, _, _, e', _⟩ := O'.ns; ⟨o, e'⟩
  refine I.write (x := a) (e := dx) (by rw [e]; exact True.intro) (.inr ho) (fun b q hb z => (sb.2 b hb).trans z) hd ?_
  refine ⟨by rw [upd_ne O.ne]; exact ho, ?_, O.ne, O'.obj, _, O'.ns, fun g => ?_, fun g hg => ?_⟩
  · have := length_putF f y fs; omega
  · show RelO ((putF f y fs).lookup g) (if g = f then some u else mA g)
    rw [lookup_putF]
    by_cases q : g = f
    · rw [if_pos q, if_pos q]; exact ry
    · rw [if_neg q, if_neg q]; exact r g
  · by_cases q : g = f
    · rw [q]; exact (keys_putF f y fs).1
    · refine (keys_putF f y fs).2 g (wi g fun z => hg ?_)
      show (if g = f then some u else mA g) = none
      rw [if_neg q]; exact z

/-- a new instance, tracked, without attributes -/
theorem Inv.made (I : Inv X pins σ H s) : Inv X pins σ (upd (upd H s.heap.objs.size (.own (s.heap.objs.size + 1))) (s.heap.objs.size + 1) (.ins C s.heap.objs.size []))
    { s with heap := (s.heap.push PySem.W.emptyDict).push (PySem.W.instObj C s.heap.objs.size) } := by
  have e1 : (s.heap.push PySem.W.emptyDict).get? s.heap.objs.size = some PySem.W.emptyDict := Heap.get?_push_size s.heap rfl
  have e2 : ((s.heap.push PySem.W.emptyDict).push (PySem.W.instObj C s.heap.objs.size)).get? (s.heap.objs.size + 1) = some (PySem.W.instObj C s.heap.objs.size) := by
    have := Heap.get?_push_size (s.heap.push PySem.W.emptyDict) (o := PySem.W.instObj C s.heap.objs.size) rfl
    rwa [Heap.size_push] at this
  have e3 : (s.heap.push PySem.W.emptyDict).Ns s.heap.objs.size (fun _ => none) := ⟨PySem.W.emptyDict, #[], _, e1, rfl, (fun e he => absurd he (by simp)), fun _ => rfl⟩
  have I1 := I.laid (a := s.heap.objs.size) (o := .own (s.heap.objs.size + 1)) (h' := s.heap.push PySem.W.emptyDict) (t' := s.toks) (fun b u q => Heap.get?_push_of_some _ q) (Nat.le_refl _) ⟨_, e1⟩
  refine I1.laid (a := s.heap.objs.size + 1) (o := .ins C s.heap.objs.size []) (t' := s.toks) (fun b u q => Heap.get?_push_of_some _ q) (Nat.le_of_eq (Heap.size_push _ _)) ?_
  have ne : s.heap.objs.size ≠ s.heap.objs.size + 1 := Nat.ne_of_lt (Nat.lt_succ_self _)
  refine ⟨by rw [upd_ne ne, upd_same], Nat.zero_le _, ne, e2, fun _ => none, (Heap.Ns1.of_empty e3).at fun o q => Heap.get?_push_of_some _ q, fun _ => True.intro, fun y hy => absurd rfl hy⟩

/-- e.f where nothing but the object is asked: through attributeBase (super) and the last hold -/
theorem attr_of {prog : Program} {w : World} {env : Env} {e : Expr} {f : Str} {pos : Pos} {s : Shared} {Q : Value → Shared → Prop} (hb : attributeBase e f env (eval e env) = eval e env)
    (h : wpAny (model prog w) A (eval e env) (fun o s₁ => wpAny (model prog w) A (getAttr o f true) Q E s₁) E s) : wpAny (model prog w) A (eval (.Attribute e f pos) env) Q E s :=
  Attribute_any_ h (by rw [arm_eval_Attribute, hb])
end

/-! ### readings and rules -/
/-- e.f, an attribute of the instance -/
def tFld (K : PySem.W.Frag) (ta : TE) (f : Str) : TE := fun σ H Q => ta σ H fun x H1 => ∃ a C dx fs v, x = .ref a ∧ H1 a = some (.ins C dx fs) ∧ Cls K C ∧ NoAttr K C f ∧ fs.lookup f = some v ∧ Q v H1
/-- e.f, a constant of the class -/
def tCon (K : PySem.W.Frag) (ta : TE) (f : Str) : TE := fun σ H Q => ta σ H fun x H1 => ∃ a C dx fs v u, x = .ref a ∧ H1 a = some (.ins C dx fs) ∧ Cls K C ∧ Con K C f v u ∧ fs.lookup f = none ∧ Q v H1
/-- e.f = value -/
def sFld (K : PySem.W.Frag) (ta tv : TE) (f : Str) : TS := fun D σ H => tv σ H fun y H1 => ta σ H1 fun x H2 => ∃ a C dx fs, x = .ref a ∧ H2 a = some (.ins C dx fs) ∧ Cls K C ∧ NoAttr K C f ∧ fs.length < 1000 ∧
  D.nx σ (upd H2 a (.ins C dx (putF f y fs)))
/-- an augmented operator on two values -/
def InOp (X : Cx) (op : Operator) (rd : V → V → Hp → VK → Prop) : Prop :=
  ∀ (pins : List (Addr × Obj)) (s : Shared) (σ : St) (H : Hp) (x y : V) (u v : Value) (Q : VK), Inv X pins σ H s → RelV x u → RelV y v → rd x y H Q → wpAny (model X.prog X.w) X.A (inplaceOp op u v) (EP X pins σ Q) X.xe s
/-- e.f op= value -/
def sFldAug (K : PySem.W.Frag) (ta tv : TE) (rd : V → V → Hp → VK → Prop) (f : Str) : TS := fun D σ H => ta σ H fun x H1 => ∃ a C dx fs v, x = .ref a ∧ H1 a = some (.ins C dx fs) ∧ Cls K C ∧ NoAttr K C f ∧ fs.lookup f = some v ∧
  tv σ H1 fun y H2 => rd v y H2 fun z H3 => ∃ dx' fs', H3 a = some (.ins C dx' fs') ∧ fs'.length < 1000 ∧ D.nx σ (upd H3 a (.ins C dx' (putF f z fs')))

section
variable {X : Cx} {o e value : Expr} {f : Str} {pos pos' tpos : Pos} {ta tv : TE}
theorem pe_fld (he : PE X e ta) (hb : attributeBase e f X.env (eval e X.env) = eval e X.env) : PE X (.Attribute e f pos) (tFld X.K ta f) := by
  intro pins s σ H Q I h
  refine attr_of hb (thn (he pins s σ H _ I h) fun u s1 ⟨x, H1, I1, rx, a, C, dx, fs, v, ex, ea, c, n, l, q⟩ => ?_)
  subst ex
  obtain rfl : u = Value.ref a := rx
  exact getattr_ok I1 ea c n l fun u' s2 I2 ru => ⟨v, H1, I2, ru, q⟩
theorem ps_fld (ha : PE X o ta) (hv : PE X value tv) (hs : swapsWith value (some (.Attribute o f pos')) pos.line X.env = pure false) : PS X (.Assign [.Attribute o f pos'] value pos) (sFld X.K ta tv f) := by
  intro pins s σ H D I h
  refine plainObj_wpAny_Assign_Attribute (thn (hv pins s σ H _ I h) fun u s1 ⟨y, H1, I1, ry, q⟩ => thn (ha pins s1 σ H1 _ I1 q) fun ov s2 ⟨x, H2, I2, rx, a, C, dx, fs, ex, ea, c, n, l, q2⟩ => ?_) hs
  subst ex
  obtain rfl : ov = Value.ref a := rx
  exact setattr_ok I2 ea c n l ry fun s3 I3 => ⟨σ, _, I3, q2⟩
def rAdd : V → V → Hp → VK → Prop := fun x y H Q => ∃ i j, x = .int i ∧ y = .int j ∧ Q (.int (i + j)) H
def rSub : V → V → Hp → VK → Prop := fun x y H Q => ∃ i j, x = .int i ∧ y = .int j ∧ Q (.int (i - j)) H

end

/-! ### isinstance -/
section
variable {X : Cx} {pins : List (Addr × Obj)} {σ : St} {H : Hp} {s : Shared} {A : Around} {E : Value → Shared → Prop} {Q : Value → Shared → Prop} {c : Value} {b : Bool}
/-- the type of a value, as the fragment's deciders take it; for an instance its class -/
inductive TyOf (K : PySem.W.Frag) (H : Hp) : V → Value → Prop where
  | non : TyOf K H .non (.type "NoneType")
  | bl (x : Bool) : TyOf K H (.bl x) (.type "bool")
  | int (i : Int) : TyOf K H (.int i) (.type "int")
  | str (x : Str) : TyOf K H (.str x) (.type "str")
  | flt (x : UInt64) : TyOf K H (.flt x) (.type "float")
  | lst {a : Addr} {xs : List V} (e : H a = some (.lst xs)) : TyOf K H (.ref a) (.type "list")
  | frz {a : Addr} {o : Obj} {xs : List V} (e : H a = some (.frz o (.lst xs))) : TyOf K H (.ref a) (.type "list")
  | tup {a : Addr} {xs : List V} (e : H a = some (.tup xs)) : TyOf K H (.ref a) (.type "tuple")
  | dK {a : Addr} {kvs : List (Key × V)} (e : H a = some (.dK kvs)) : TyOf K H (.ref a) (.type "dict")
  | dT {a : Addr} {kvs : List (List Key × V)} (e : H a = some (.dT kvs)) : TyOf K H (.ref a) (.type "dict")
  | ins {a C dx : Addr} {fs : List (Str × V)} (e : H a = some (.ins C dx fs)) (cl : Cls K C) (ha : PySem.W.findIn K (.ref C) "__class__" = some (some (.builtin "object.__class__")))
      (hn : PySem.W.specialIn K (.builtin "object.__class__") "__get__" = some (some (.builtin "getset_descriptor.__get__"))) (htk : PySem.W.takesIn K (.builtin "object.__class__") = some true)
      (hm : PySem.W.mroIn K C (.type "object") = some true) : TyOf K H (.ref a) (.ref C)
/-- isinstance(x, c) for one class c, a built-in or an own one: kitOne's answer -/
theorem isinst_ok {x : V} {u t : Value} (I : Inv X pins σ H s) (rx : RelV x u) (ty : TyOf X.K H x t) (e : PySem.W.kitOne X.K t c = some b) (h : ∀ tk, Q (.bool b) { s with toks := tk }) :
    wpAny (model X.prog X.w) A (call (.builtin "isinstance") [u, c]) Q E s := by
  cases ty with
  | non => cases (show u = Value.none from rx); exact PySem.W.kia_one PySem.W.kitx_none I.kIn True.intro e (fun z => nomatch z) h
  | bl y => cases (show u = Value.bool y from rx); exact PySem.W.kia_one PySem.W.kitx_bool I.kIn True.intro e (fun z => nomatch z) h
  | int i => obtain ⟨t, q⟩ := (show ∃ t, u = Value.int i t from rx); cases q; exact PySem.W.kia_one PySem.W.kitx_int I.kIn True.intro e (fun z => nomatch z) h
  | str y => obtain ⟨t, q⟩ := (show ∃ t, u = Value.str y t from rx); cases q; exact PySem.W.kia_one PySem.W.kitx_str I.kIn True.intro e (fun z => nomatch z) h
  | flt y => obtain ⟨t, q⟩ := (show ∃ t, u = Value.float y t from rx); cases q; exact PySem.W.kia_one PySem.W.kitx_float I.kIn True.intro e (fun z => nomatch z) h
  | @lst a xs ea =>
    cases (show u = Value.ref a from rx)
    obtain ⟨_, _, n, _, h1⟩ := (show ObjOk X.prog X.w H s.heap a (.lst xs) from I.hok a _ ea)
    exact PySem.W.kia_one PySem.W.kitx_list I.kIn ⟨_, h1, rfl⟩ e (fun z => nomatch z) h
  | @frz a ob xs ea =>
    cases (show u = Value.ref a from rx)
    obtain ⟨_, _, _, n, _, h1⟩ := (show ObjOk X.prog X.w H s.heap a (.frz ob (.lst xs)) from I.hok a _ ea)
    exact PySem.W.kia_one PySem.W.kitx_list I.kIn ⟨_, h1, rfl⟩ e (fun z => nomatch z) h
  | @tup a xs ea =>
    cases (show u = Value.ref a from rx)
    obtain ⟨_, _, _, p⟩ := (show ObjOk X.prog X.w H s.heap a (.tup xs) from I.hok a _ ea)
    obtain ⟨o, h1, h2, _⟩ := p
    exact PySem.W.kia_one PySem.W.kitx_tuple I.kIn ⟨o, h1, h2⟩ e (fun z => nomatch z) h
  | @dK a kvs ea =>
    cases (show u = Value.ref a from rx)
    obtain ⟨_, _, vs, _, p⟩ := (show ObjOk X.prog X.w H s.heap a (.dK kvs) from I.hok a _ ea)
    obtain ⟨o, es, ep, h1, h2, _⟩ := p
    exact PySem.W.kia_one PySem.W.kitx_dict I.kIn ⟨o, h1, h2.1⟩ e (fun z => nomatch z) h
  | @dT a kvs ea =>
    cases (show u = Value.ref a from rx)
    obtain ⟨_, _, xs, _, o, es, ep, h1, h2, _⟩ := (show ObjOk X.prog X.w H s.heap a (.dT kvs) from I.hok a _ ea)
    exact PySem.W.kia_one PySem.W.kitx_dict I.kIn ⟨o, h1, h2.1⟩ e (fun z => nomatch z) h
  | @ins a C dx fs ea cl ha hn htk hm =>
    cases (show u = Value.ref a from rx)
    obtain ⟨mA, O, _⟩ := ins_get I.hok ea
    obtain ⟨od, J, _⟩ := O.look
    exact PySem.W.kia_one (PySem.W.kitx_own (cl.get _) cl.hd ha hn htk hm) I.kIn J e (fun z => nomatch z) h
end
end L2

namespace L2
open PySem PySem.Spec PyProof.Rows

/-! ### room -/
structure Room (k : Nat) (A : Around) : Prop where
  hd : A.handled = none
  dp : A.depth + 3 * k + 5 < recursionLimit
  un : A.units + 16 * k + 200 < cLine
theorem Room.mono {j k : Nat} {A : Around} (r : Room k A) (h : j ≤ k) : Room j A := ⟨r.hd, by have := r.dp; omega, by have := r.un; omega⟩
theorem Room.deeper {k : Nat} {A : Around} (r : Room (k + 1) A) (env : Env) : Room k (A.deeper env) :=
  ⟨r.hd, by have := r.dp; show A.depth + 1 + 3 * k + 5 < _; omega, by have := r.un; show A.units + 3 + 16 * k + 200 < _; omega⟩
theorem make_depth {A : Around} {C : Addr} {us : List Value} {kw : List (Str × Value)} : (A.under (.builtin "type.__call__" ⟨.ref C :: us, kw⟩)).depth = A.depth + 1 := by
  first | rfl | simp [Around.under, Code.weight, Code.isCreation, Code.isGuard, Code.isCaller, Code.frames, Code.isFrame, guardIds]
theorem make_units {A : Around} {C : Addr} {us : List Value} {kw : List (Str × Value)} : (A.under (.builtin "type.__call__" ⟨.ref C :: us, kw⟩)).units = A.units + 1 := by
  first | rfl | simp [Around.under, Code.cUnits, Code.frames, Code.isFrame]
theorem Room.make {k : Nat} {A : Around} (r : Room (k + 1) A) (C : Addr) (us : List Value) (kw : List (Str × Value)) : Room k (A.under (.builtin "type.__call__" ⟨.ref C :: us, kw⟩)) :=
  ⟨r.hd, by have := r.dp; rw [make_depth]; omega, by have := r.un; rw [make_units]; omega⟩
theorem Room.depth {k : Nat} {A : Around} (r : Room k A) : A.depth < recursionLimit := by have := r.dp; omega
theorem Room.units {k : Nat} {A : Around} (r : Room k A) : A.units + 64 < cLine := by have := r.un; omega
theorem Room.units0 {k : Nat} {A : Around} (r : Room k A) : A.units < cLine := by have := r.un; omega

/-! ### argument lists and displays -/
def tNil : TA := fun _ H Q => Q [] H
def tCons (ta : TE) (tr : TA) : TA := fun σ H Q => ta σ H fun x H1 => tr σ H1 fun xs H2 => Q (x :: xs) H2
section
variable {X : Cx} {e : Expr} {es : List Expr} {te : TE} {t : TA} {pos : Pos}
theorem pa_nil : PA X [] tNil := fun _ _ _ _ H Q I h => Calls.spliced_nil ⟨[], H, I, .nil, h⟩
theorem pa_cons (ha : PE X e te) (hr : PA X es t) (hs : starEach (e :: es) X.env = (false, eval e X.env) :: starEach es X.env := by rfl) : PA X (e :: es) (tCons te t) := by
  intro pos pins s σ H Q I h
  rw [hs]
  show wpAny _ _ (spliced ((false, eval e X.env) :: backTo pos (starEach es X.env))) _ _ s
  refine Calls.spliced_cons (thn (ha pins s σ H _ I h) fun u s1 ⟨x, H1, I1, r1, q1⟩ => ?_)
  exact thn (hr pos pins s1 σ H1 _ I1 q1) fun us s2 ⟨xs, H2, I2, r2, q2⟩ => ⟨x :: xs, H2, I2, .cons r1 r2, q2⟩

/-- a tuple, a list of written items -/
def tTup (t : TA) : TE := fun σ H Q => t σ H fun xs H1 => xs.length ≤ sizeLine ∧ ∀ p, H1 p = none → Q (.ref p) (upd H1 p (.tup xs))
def tLst (t : TA) : TE := fun σ H Q => t σ H fun xs H1 => xs.length ≤ sizeLine ∧ ∀ p, H1 p = none → Q (.ref p) (upd H1 p (.lst xs))
theorem pe_tup {x1} (h : PA X es t) : PE X (.Tuple es x1 pos) (tTup t) := by
  intro pins s σ H Q I hq
  refine wpAny_Tuple_spliced (thn (h pos pins s σ H _ I hq) fun us s1 ⟨xs, H1, I1, r, z, q⟩ => ⟨by rw [← r.length]; exact z, ?_⟩)
  have hf : H1 s1.heap.objs.size = none := I1.hok.fresh (Nat.le_refl _)
  refine ⟨.ref s1.heap.objs.size, upd H1 s1.heap.objs.size (.tup xs), I1.laid (t' := s1.toks) (fun b u e => Heap.get?_push_of_some _ e) (Nat.le_refl _) ?_, rfl, q _ hf⟩
  exact ⟨z, us, r, ⟨_, Heap.get?_push_size _ rfl, rfl, _, rfl⟩⟩
theorem pe_lst (h : PA X es t) : PE X (.List es pos) (tLst t) := by
  intro pins s σ H Q I hq
  refine wpAny_List_spliced (thn (h pos pins s σ H _ I hq) fun us s1 ⟨xs, H1, I1, r, z, q⟩ => ⟨by rw [← r.length]; exact z, ?_⟩)
  have hf : H1 s1.heap.objs.size = none := I1.hok.fresh (Nat.le_refl _)
  refine ⟨.ref s1.heap.objs.size, upd H1 s1.heap.objs.size (.lst xs), I1.laid (t' := s1.toks) (fun b u e => Heap.get?_push_of_some _ e) (Nat.le_refl _) ?_, rfl, q _ hf⟩
  exact ⟨z, us, 0, r, Heap.get?_push_size _ rfl⟩
end

/-! ### what a def promises -/
/-- a def's promise: the bound arguments in the parameters' order, the heap, the wanted end, the wanted exception -/
abbrev Sp := List V → Hp → VK → XK → Prop
/-- how an exception lies behind a call (file 08 gives it): the callers' frames, abstract heap and state ahead of the call, the wish, the exception, the state -/
abbrev CXT := List Env → Hp → Shared → XK → Value → Shared → Prop

/-- the state at a call -/
structure Env0 (P : Program) (w : World) (K : PySem.W.Frag) (mg : Str → Option Value) (base : Heap) (A : Around) (outer : List Env) (s : Shared) (H : Hp) : Prop where
  frames : A.frames = some outer
  mod : Mod K mg base
  bs : ∀ b o, base.get? b = some o → s.heap.get? b = some o ∧ H b = none
  bsz : base.objs.size ≤ s.heap.objs.size
  funs : s.heap.FunFrames base outer
  frf : ∀ b ∈ frs outer, H b = none
  hok : HOk P w H s.heap
  bare : AllBare s.gens
/-- a call's end -/
def CE (outer : List Env) (P : Program) (w : World) (H : Hp) (s : Shared) (Q : VK) (u : Value) (s' : Shared) : Prop :=
  ∃ v H', s'.os = s.os ∧ AllBare s'.gens ∧ Un (frs outer) [] H H' s.heap s'.heap ∧ HOk P w H' s'.heap ∧ RelV v u ∧ Q v H'
def CR (CX : CXT) (outer : List Env) (P : Program) (w : World) (H : Hp) (s : Shared) (Q : VK) (E : XK) (r : Result) (s' : Shared) : Prop :=
  match r with
  | .ok (.ret u) => CE outer P w H s Q u s'
  | .ok _ => False
  | .error e => CX outer H s E e s'
structure FnOk (P : Program) (w : World) (K : PySem.W.Frag) (mg : Str → Option Value) (base : Heap) (CX : CXT) (k : Nat) (f : Addr) (fd : FuncData) (ps : List Str) (sp : Sp) : Prop where
  len : ∀ vs H Q E, sp vs H Q E → vs.length = ps.length
  run : ∀ (A : Around) (outer : List Env) (s : Shared) (H : Hp) (args : Args) (us : List Value) (vs : List V) (Q : VK) (E : XK), Room k A → Env0 P w K mg base A outer s H → BindsTo s fd args (ps.zip us) → Vals vs us → sp vs H Q E →
    codeAny (model P w) A (.call (.ref f) args) (CR CX outer P w H s Q E) s

theorem Env0.make {P : Program} {w : World} {K : PySem.W.Frag} {mg : Str → Option Value} {base : Heap} {A : Around} {outer : List Env} {s : Shared} {H : Hp} (e : Env0 P w K mg base A outer s H) (C : Addr) (us : List Value) (kw : List (Str × Value)) :
    Env0 P w K mg base (A.under (.builtin "type.__call__" ⟨.ref C :: us, kw⟩)) outer s H := ⟨by first | exact e.frames | (simpa [Around.under, Code.envs, Code.isFrame, pushEnvs] using e.frames), e.mod, e.bs, e.bsz, e.funs, e.frf, e.hok, e.bare⟩

section
variable {X : Cx} {pins : List (Addr × Obj)} {σ : St} {H : Hp} {s s' : Shared}
/-- from a body: what a callee wants -/
theorem Inv.env0 (I : Inv X pins σ H s) : Env0 X.prog X.w X.K X.mg X.base X.A X.stack s H :=
  ⟨I.ok.frames, I.ok.mod, I.bs, Nat.le_trans I.ok.bsz I.sz, I.stack, I.stkFree, I.hok, I.bare⟩
/-- behind a call -/
theorem Inv.after {Q : VK} {u : Value} (I : Inv X pins σ H s) (h : CE X.stack X.prog X.w H s Q u s') : EP X pins σ Q u s' := by
  obtain ⟨v, H', os, bare, un, hok, r, q⟩ := h
  obtain ⟨hh, g, d, t, os'⟩ := s'
  obtain rfl : os' = s.os := os
  exact ⟨v, H', I.call (h' := hh) (g' := g) (d' := d) (t' := t) (ch := []) un hok bare (fun b z => absurd z (by simp)), r, q⟩
end

/-! ### calls -/
/-- f(..): the written arguments, then the defaults dvs; E: what is wanted of an exception -/
def tCall (sp : Sp) (dvs : List V) (E : XK) (t : TA) : TE := fun σ H Q => t σ H fun vs H1 => sp (vs ++ dvs) H1 Q E
/-- o.m(..) of an instance of the class at C -/
def tMeth (C : Addr) (m : Str) (sp : Sp) (dvs : List V) (E : XK) (ta : TE) (t : TA) : TE := fun σ H Q => ta σ H fun x H1 => ∃ a dx fs, x = .ref a ∧ H1 a = some (.ins C dx fs) ∧ fs.lookup m = none ∧
  t σ H1 fun vs H2 => sp (x :: (vs ++ dvs)) H2 Q E
/-- C(..): a new instance and its dict, then __init__ -/
def tMake (C : Addr) (sp : Sp) (dvs : List V) (E : XK) (t : TA) : TE := fun σ H Q => t σ H fun vs H1 => ∀ x dx, H1 x = none → H1 dx = none → dx ≠ x →
  sp (.ref x :: (vs ++ dvs)) (upd (upd H1 dx (.own x)) x (.ins C dx [])) (fun v H2 => v = .non ∧ Q (.ref x) H2) E

/-- how the parameters are bound: us the positional arguments, kw the keywords' values by name, ds the defaults that fill up -/
def Binds (K : PySem.W.Frag) (fd : FuncData) (ps : List Str) (ds : List Value) : Prop :=
  ∀ (s : Shared) (us : List Value), K.In s.heap → (us ++ ds).length = ps.length → BindsTo s fd ⟨us, []⟩ (ps.zip (us ++ ds))
/-- every parameter is given -/
theorem Binds.all {K : PySem.W.Frag} {fd : FuncData} {ps : List Str} (h : ∀ us : List Value, us.length = ps.length → bindArgs fd ⟨us, []⟩ = pure (ps.zip us)) : Binds K fd ps [] := fun s us _ hl => by
  rw [List.append_nil] at hl ⊢
  exact .of_eq (h us hl)

/-- an exception of a callee reaches what this body wants of exceptions -/
def Passes (CX : CXT) (X : Cx) (E : XK) : Prop := ∀ (pins : List (Addr × Obj)) (σ : St) (H : Hp) (s : Shared) (e : Value) (s' : Shared), Inv X pins σ H s → CX X.stack H s E e s' → X.xe e s'

section
variable {X : Cx} {CX : CXT} {k : Nat} {f C : Addr} {fd : FuncData} {ps : List Str} {sp : Sp} {dvs : List V} {ds : List Value} {E : XK} {x m : Str} {p pos apos : Pos} {e o : Expr} {es : List Expr} {ta : TE} {t : TA}

/-- the callee runs -/
theorem run_fn {pins : List (Addr × Obj)} {σ : St} {H : Hp} {s : Shared} {Q : VK} {us : List Value} {vs : List V} (F : FnOk X.prog X.w X.K X.mg X.base CX k f fd ps sp) (hr : Room k X.A) (hb : Binds X.K fd ps ds) (hd : Vals dvs ds) (hx : Passes CX X E)
    (I : Inv X pins σ H s) (r : Vals vs us) (h : sp (vs ++ dvs) H Q E) : wpAny (model X.prog X.w) X.A (call (.ref f) us) (EP X pins σ Q) X.xe s := by
  have r2 : Vals (vs ++ dvs) (us ++ ds) := r.append hd
  have hl : (us ++ ds).length = ps.length := by rw [← r2.length]; exact F.len _ _ _ _ h
  refine wpAny_call (codeAny_mono (F.run X.A X.stack s H ⟨us, []⟩ (us ++ ds) (vs ++ dvs) Q E hr I.env0 (hb s us I.kIn hl) r2 h) fun r s' hq => ?_)
  cases r with
  | error e => exact hx pins σ H s e s' I hq
  | ok fl =>
    cases fl with
    | ret u => exact I.after hq
    | next => exact False.elim hq
    | brk => exact False.elim hq
    | cont => exact False.elim hq



/-- what a class must have to be made -/
structure Mk (K : PySem.W.Frag) (C f : Addr) : Prop where
  makes : PySem.W.makesIn K C = true
  init : PySem.W.findIn K (.ref C) "__init__" = some (some (.ref f))
  fn : PySem.W.isFn K (.ref f) = true
  kp : PySem.W.keepIn K (.ref C) = true

theorem run_make {pins : List (Addr × Obj)} {σ : St} {H : Hp} {s : Shared} {Q : VK} {us : List Value} {vs : List V} (M : Mk X.K C f) (F : FnOk X.prog X.w X.K X.mg X.base CX k f fd ps sp) (hr : Room (k + 1) X.A) (hb : Binds X.K fd ps ds) (hd : Vals dvs ds)
    (hx : Passes CX X E) (I : Inv X pins σ H s) (r : Vals vs us)
    (h : ∀ x dx, H x = none → H dx = none → dx ≠ x → sp (.ref x :: (vs ++ dvs)) (upd (upd H dx (.own x)) x (.ins C dx [])) (fun v H2 => v = .non ∧ Q (.ref x) H2) E) :
    wpAny (model X.prog X.w) X.A (call (.ref C) us) (EP X pins σ Q) X.xe s := by
  have hq := h (s.heap.objs.size + 1) s.heap.objs.size (I.hok.fresh (Nat.le_succ _)) (I.hok.fresh (Nat.le_refl _)) (Nat.ne_of_lt (Nat.lt_succ_self _))
  have I2 := Inv.made (C := C) I
  have r2 : Vals (V.ref (s.heap.objs.size + 1) :: (vs ++ dvs)) (Value.ref (s.heap.objs.size + 1) :: (us ++ ds)) := .cons rfl (r.append hd)
  have hl : (Value.ref (s.heap.objs.size + 1) :: us ++ ds).length = ps.length := by
    have e := r2.length
    rw [F.len _ _ _ _ hq] at e
    exact e.symm
  refine wpAny_call (make_map (f := f) I.kIn M.makes M.init (beq_iff_eq.mp M.fn) (codeAny_mono (F.run _ X.stack _ _ ⟨Value.ref (s.heap.objs.size + 1) :: us, []⟩ (Value.ref (s.heap.objs.size + 1) :: (us ++ ds)) _ _ E (hr.make C us [])
    (I2.env0.make C us []) (hb _ (Value.ref (s.heap.objs.size + 1) :: us) I2.kIn hl) r2 hq) fun r s' hq' => ?_))
  cases r with
  | error e => exact hx pins σ _ _ e s' I2 hq'
  | ok fl =>
    cases fl with
    | ret u =>
      obtain ⟨v, H', I3, rv, ev, q3⟩ := I2.after hq'
      subst ev
      exact ⟨rv, ⟨V.ref (s.heap.objs.size + 1), H', I3, rfl, q3⟩⟩
    | next => exact False.elim hq'
    | brk => exact False.elim hq'
    | cont => exact False.elim hq'
end

/-! ### keywords -/
/-- the values of the keywords, from the left -/
def PK (X : Cx) (kws : List Keyword) (t : TA) : Prop :=
  ∀ (pos : Pos) (pins : List (Addr × Obj)) (s : Shared) (σ : St) (H : Hp) (Q : List V → Hp → Prop), Inv X pins σ H s → t σ H Q → wpAny (model X.prog X.w) X.A (evalAll ((backToKw pos (keywordEach kws X.env)).map (·.2))) (AP X pins σ Q) X.xe s
section
variable {X : Cx} {CX : CXT} {k : Nat} {f C : Addr} {fd : FuncData} {ps ks : List Str} {sp : Sp} {E : XK} {x m : Str} {p pos apos kpos : Pos} {e o : Expr} {es : List Expr} {kws : List Keyword} {te ta : TE} {t tk : TA} {nm : Option Str}

/-- how a call with keywords binds: g puts the positional values us and the keywords' values ws (names ks) in the parameters' order, defaults among them -/
structure KBinds (K : PySem.W.Frag) (fd : FuncData) (ps ks : List Str) (g : List Value → List Value → List Value) (gV : List V → List V → List V) : Prop where
  to : ∀ (s : Shared) (us ws : List Value), K.In s.heap → (g us ws).length = ps.length → BindsTo s fd ⟨us, ks.zip ws⟩ (ps.zip (g us ws))
  rel : ∀ {vs : List V} {us : List Value} {zs : List V} {ws : List Value}, Vals vs us → Vals zs ws → Vals (gV vs zs) (g us ws)
def tCallK (sp : Sp) (gV : List V → List V → List V) (E : XK) (t tk : TA) : TE := fun σ H Q => t σ H fun vs H1 => tk σ H1 fun zs H2 => sp (gV vs zs) H2 Q E
variable {g : List Value → List Value → List Value} {gV : List V → List V → List V}
end

/-! ### a def's body keeps its promise -/
/-- names: the parameters first -/
structure FnScope (N P : List Str) (sc : Scope) : Prop where
  kind : sc.kind = .function
  co : sc.isCoroutine = false
  gen : sc.isGenerator = false
  nd : N.Nodup
  pre : N.take P.length = P
  par : ∀ x ∈ P, sc.names.lookup x = some .local ∨ sc.names.lookup x = some .cell
  nofree : ∀ y ∈ sc.names, y.2 ≠ .free

theorem bindL_out {kindOf : Str → Option NameKind} {x : Str} : ∀ {binds : List (Str × Value)} {m : Str → Option Value}, (∀ v, (x, v) ∉ binds) → bindL kindOf binds m x = m x
  | [], _, _ => rfl
  | (n, v) :: r, m, h => by
    unfold bindL
    rw [bindL_out fun w hw => h w (List.mem_cons_of_mem _ hw)]
    split
    · have : x ≠ n := by rintro rfl; exact h v List.mem_cons_self
      simp [this]
    · rfl
theorem bindC_out {kindOf : Str → Option NameKind} {x : Str} : ∀ {binds : List (Str × Value)} {m : Str → Option Value}, (∀ v, (x, v) ∉ binds) → bindC kindOf binds m x = m x
  | [], _, _ => rfl
  | (n, v) :: r, m, h => by
    unfold bindC
    rw [bindC_out fun w hw => h w (List.mem_cons_of_mem _ hw)]
    split
    · rfl
    · have : x ≠ n := by rintro rfl; exact h v List.mem_cons_self
      simp [this]
theorem bindL_get {kindOf : Str → Option NameKind} {x : Str} {v : Value} : ∀ {P : List Str} {vs : List Value} {i : Nat} {m : Str → Option Value}, P.Nodup → P[i]? = some x → vs[i]? = some v → kindOf x = some .local →
    bindL kindOf (P.zip vs) m x = some v
  | [], _, _, _, _, h, _, _ => by simp at h
  | _ :: _, [], _, _, _, _, h, _ => by simp at h
  | p :: P, w :: vs, 0, m, nd, h1, h2, hk => by
    simp at h1 h2; subst h1; subst h2
    show bindL kindOf ((p, w) :: P.zip vs) m p = _
    unfold bindL
    rw [bindL_out fun v hv => (List.nodup_cons.mp nd).1 (List.of_mem_zip hv).1, if_pos hk]
    simp
  | p :: P, w :: vs, i + 1, m, nd, h1, h2, hk => by
    show bindL kindOf ((p, w) :: P.zip vs) m x = _
    unfold bindL
    exact bindL_get (i := i) (List.nodup_cons.mp nd).2 (by simpa using h1) (by simpa using h2) hk
theorem bindC_get {kindOf : Str → Option NameKind} {x : Str} {v : Value} : ∀ {P : List Str} {vs : List Value} {i : Nat} {m : Str → Option Value}, P.Nodup → P[i]? = some x → vs[i]? = some v → kindOf x ≠ some .local →
    bindC kindOf (P.zip vs) m x = some v
  | [], _, _, _, _, h, _, _ => by simp at h
  | _ :: _, [], _, _, _, _, h, _ => by simp at h
  | p :: P, w :: vs, 0, m, nd, h1, h2, hk => by
    simp at h1 h2; subst h1; subst h2
    show bindC kindOf ((p, w) :: P.zip vs) m p = _
    unfold bindC
    rw [bindC_out fun v hv => (List.nodup_cons.mp nd).1 (List.of_mem_zip hv).1, if_neg hk]
    simp
  | p :: P, w :: vs, i + 1, m, nd, h1, h2, hk => by
    show bindC kindOf ((p, w) :: P.zip vs) m x = _
    unfold bindC
    exact bindC_get (i := i) (List.nodup_cons.mp nd).2 (by simpa using h1) (by simpa using h2) hk

/-- the names' values at the entry -/
def start (N : List Str) (vs : List V) : St := vs.map some ++ List.replicate (N.length - vs.length) none

/-- the context of a def's body, at its entry; an exception leaves the frame, then lies as CX says -/
def cxOf (CX : CXT) (P : Program) (w : World) (K : PySem.W.Frag) (mg : Str → Option Value) (base : Heap) (N : List Str) (qual : Str) (scope : Scope) (f : Addr) (cd : Value) (A : Around) (outer : List Env) (s : Shared) (H : Hp) (E : XK) : Cx where
  prog := P
  w := w
  K := K
  mg := mg
  base := base
  A := A.deeper (envOfC qual scope s.heap.objs.size f cd)
  N := N
  s₀ := s
  H₀ := H
  env := envOfC qual scope s.heap.objs.size f cd
  outer := outer
  stack := envOfC qual scope s.heap.objs.size f cd :: outer
  ex := []
  calm := true
  fn := fun _ => true
  pn := []
  xe := fun e s' => wpAny (model P w) (A.deeper (envOfC qual scope s.heap.objs.size f cd)) (leaving (envOfC qual scope s.heap.objs.size f cd) e) (fun _ s'' => CX outer H s E e s'') (fun e' s'' => CX outer H s E e' s'') s'

theorem cell_has {sc : Scope} {n : Nat} {x : Str} (h : sc.names.lookup x = some .cell) : ∃ c, (cellsFrom n sc.names []).lookup x = some c := by
  have q := PySem.W.cellsFrom_some sc.names n [] (.inl h)
  exact Option.isSome_iff_exists.mp q

theorem inv_start {CX : CXT} {P : Program} {w : World} {K : PySem.W.Frag} {mg : Str → Option Value} {base : Heap} {N ps : List Str} {qual : Str} {scope : Scope} {f : Addr} {cd : Value} {A : Around} {outer : List Env} {s s1 : Shared} {H : Hp} {E : XK} {us : List Value} {vs : List V}
    (S : FnScope N ps scope) (hd : A.handled = none) (e0 : Env0 P w K mg base A outer s H) (hl : vs.length = ps.length) (r : Vals vs us)
    (x : InCallC s s.heap.objs.size (bindL (envOfC qual scope s.heap.objs.size f cd).kindOf (ps.zip us) fun _ => none) (cellsFrom (s.heap.objs.size + 1) scope.names []) (bindC (envOfC qual scope s.heap.objs.size f cd).kindOf (ps.zip us) fun _ => none) s1) :
    Inv (cxOf CX P w K mg base N qual scope f cd A outer s H E) [] (start N vs) H s1 := by
  have hpl : ps.length ≤ N.length := by have := congrArg List.length S.pre; rw [List.length_take] at this; omega
  obtain ⟨h1, tk, rfl, hk⟩ := x.done
  have noA : ∀ b : Addr, b ∉ (cxOf CX P w K mg base N qual scope f cd A outer s H E).ex := fun b z => absurd (show b ∈ ([] : List Addr) from z) (by simp)
  refine ⟨⟨e0.mod, S.kind, rfl, rfl, Nat.le_refl _, fun y z c h1 h2 => ?_, fun y hy => ?_, fun y c _ h => ?_, fun _ => hd, Around.frames_deeper e0.frames, .inr ⟨rfl, rfl⟩, fun b z => absurd z (noA b), e0.bs, e0.bsz, fun b _ _ => noA b, fun b z => absurd z (noA b), e0.funs, e0.frf⟩,
    rfl, e0.bare, Un.kept hk, ⟨_, x.toInCall.ns, fun i y v h1 h2 h3 => ?_⟩, fun y c h => ⟨_, x.cell y c h⟩, e0.hok.fresh (Nat.le_refl _), fun y c h => ?_, fun p hp => absurd (show p ∈ ([] : List (Addr × Obj)) from hp) (by simp), e0.hok.kept hk, ?_⟩
  · exact name_of_addr x.apart (PySem.mem_of_lookup h1) (PySem.mem_of_lookup h2)
  · have hy : scope.names.lookup y = some .cell ∨ scope.names.lookup y = some .free := hy
    rcases hy with hy | hy
    · exact cell_has hy
    · exact absurd rfl (S.nofree _ (PySem.mem_of_lookup hy))
  · exact Nat.le_of_lt (x.above y c (PySem.mem_of_lookup h))
  · have hi : i < vs.length := by
      unfold start at h2
      by_cases hi : i < vs.length
      · exact hi
      · rw [List.getElem?_append_right (by simpa using hi)] at h2
        rw [List.getElem?_replicate] at h2
        split at h2 <;> cases h2
    have ha : vs[i]? = some v := by
      unfold start at h2
      rw [List.getElem?_append_left (by simpa using hi), List.getElem?_map] at h2
      cases e : vs[i]? with
      | none => rw [e] at h2; cases h2
      | some a => rw [e] at h2; cases h2; rfl
    obtain ⟨u, hu, rv⟩ := r.get ha
    have hp : ps[i]? = some y := by
      rw [← S.pre, List.getElem?_take_of_lt (by omega)]; exact h1
    have ndP : ps.Nodup := by rw [← S.pre]; exact S.nd.sublist (List.take_sublist _ _)
    refine ⟨u, rv, ?_⟩
    rcases S.par y (List.mem_of_getElem? hp) with k | k
    · exact .inl ⟨k, bindL_get ndP hp hu k⟩
    · obtain ⟨c, e⟩ := cell_has (n := s.heap.objs.size + 1) k
      refine .inr ⟨.inl k, c, e, ?_⟩
      have q := x.cell y c e
      rw [bindC_get ndP hp hu (by show scope.names.lookup y ≠ _; rw [k]; decide)] at q
      exact q
  · exact e0.hok.fresh (Nat.le_of_lt (x.above y c (PySem.mem_of_lookup h)))
  · unfold start
    show _ = N.length
    rw [List.length_append, List.length_map, List.length_replicate]
    omega

/-- THE RULE: a def (or a method) of the text, by its body. The body's reading t is chosen for each entry; it is run at the parameters' values -/
theorem fn_of {CX : CXT} {P : Program} {w : World} {K : PySem.W.Frag} {mg : Str → Option Value} {base : Heap} {k : Nat} {f : Addr} {name qual : Str} {params : Arguments} {body : List Stmt} {scope : Scope} {dV kV doc pm cdv ct oc : Value} {an od : Option Addr}
    {osl : Array (Option Value)} {N ps : List Str} {sp : Sp} (lk : K.lookup f = some ⟨oc, od, .func (PySem.W.fnOf name qual params body scope dV kV doc pm an cdv ct), osl⟩) (hcd : PySem.W.codeIn K cdv qual = true) (S : FnScope N ps scope)
    (len : ∀ vs H Q E, sp vs H Q E → vs.length = ps.length)
    (hbody : ∀ (A : Around) (outer : List Env) (s : Shared) (H : Hp) (vs : List V) (Q : VK) (E : XK), Room k (A.deeper (envOfC qual scope s.heap.objs.size f cdv)) → sp vs H Q E →
      ∃ t, PSs (cxOf CX P w K mg base N qual scope f cdv A outer s H E) body t ∧ t { nx := fun _ H' => Q .non H', rt := Q } (start N vs) H) :
    FnOk P w K mg base CX (k + 1) f (PySem.W.fnOf name qual params body scope dV kV doc pm an cdv ct) ps sp := by
  refine ⟨len, fun A outer s H args us vs Q E hr e0 hb r hsp => ?_⟩
  have hl := len _ _ _ _ hsp
  have KX : K.In s.heap := e0.mod.kin.keeps fun b o e => (e0.bs b o e).1
  have lim : s.heap.NoLimit := e0.mod.nolimit.keeps fun b o e => (e0.bs b o e).1
  have hkind : ∀ y ∈ ps.zip us, scope.names.lookup y.1 = some .local ∨ (scope.names.lookup y.1 = some .cell ∧ ((cellsFrom (s.heap.objs.size + 1) scope.names []).lookup y.1).isSome = true) := fun ⟨n, v⟩ hy => by
    rcases S.par n (List.of_mem_zip hy).1 with q | q
    · exact .inl q
    · exact .inr ⟨q, PySem.W.cellsFrom_some _ _ _ (.inl q)⟩
  refine codeAny_call_function hr.depth (KX _ _ lk) rfl S.co S.gen rfl (PySem.W.codeRec_of KX hcd) (hb _ _ _ _ ?_)
  refine wpAny_newFunctionEnv_cells S.kind hkind fun env he s1 x => ?_
  subst he
  refine ⟨lim.keeps x.toInCall.keep, codeAny_func ?_⟩
  obtain ⟨t, ht, hq⟩ := hbody A outer s H vs Q E (hr.deeper _) hsp
  have I : Inv (cxOf CX P w K mg base N qual scope f cdv A outer s H E) [] (start N vs) H s1 := inv_start S hr.hd e0 hl r x
  refine wpAny_mono (ht [] s1 (start N vs) H _ I hq) (fun fl s' hs => ?_) fun e s' hs => hs
  have fin : ∀ {σ' : St} {H' : Hp} {v : V} {u : Value}, Inv (cxOf CX P w K mg base N qual scope f cdv A outer s H E) [] σ' H' s' → RelV v u → Q v H' → CE outer P w H s Q u s' :=
    fun {σ' H' v u} J rv q => ⟨v, H', J.os, J.bare, J.base, J.hok, rv, q⟩
  cases fl with
  | ret u =>
    obtain ⟨v, σ', H', J, rv, q⟩ := hs
    exact fin J rv q
  | next =>
    obtain ⟨σ', H', J, q⟩ := hs
    exact fin (v := V.non) (u := Value.none) J rfl q
  | brk =>
    obtain ⟨_, _, _, q⟩ := hs
    exact False.elim q
  | cont =>
    obtain ⟨_, _, _, q⟩ := hs
    exact False.elim q
end L2

namespace L2
open PySem PySem.Spec PyProof.Rows
section
variable {X : Cx} {x : Str} {p pos : Pos} {e : Expr} {es : List Expr} {t : TA} {id T : String} {r : List V → Hp → VK → Prop}

def tCB (r : List V → Hp → VK → Prop) (t : TA) : TE := fun σ H Q => t σ H fun vs H1 => r vs H1 Q
/-- f(e, ..), f a built-in function -/
theorem pe_callB (hc : CallR X (.builtin id) r) (hg : Gl X x) (hm : X.mg x = none) (hv : bootBuiltins x = some (.builtin id)) (ha : PA X (e :: es) t) (hn : x ≠ "__name__" := by decide) (hdb : (x == ("__debug__" : Str)) = false := by decide)
    (he : starEach (e :: es) X.env = (false, eval e X.env) :: starEach es X.env := by rfl) (hpl : (backTo pos (starEach es X.env)).any (·.1) = false := by rfl) : PE X (.Call (.Name x p) (e :: es) [] pos) (tCB r t) := by
  intro pins s σ H Q I h
  refine wpAny_Call_Name_kw (ld_blt I hg hm hv ?_ hn hdb)
  exact PyProof.Rows.callWith_builtin1 (thn (ha pos pins s σ H _ I h) fun us s1 ⟨vs, H1, I1, r1, q1⟩ => hc pins s1 σ H1 vs us Q I1 r1 q1) he hpl
/-- T(e, ..), T a built-in type -/
theorem pe_callTy (hc : CallR X (.type T) r) (hg : Gl X x) (hm : X.mg x = none) (hv : bootBuiltins x = some (.type T)) (ha : PA X (e :: es) t) (hn : x ≠ "__name__" := by decide) (hdb : (x == ("__debug__" : Str)) = false := by decide)
    (he : starEach (e :: es) X.env = (false, eval e X.env) :: starEach es X.env := by rfl) (hpl : (backTo pos (starEach es X.env)).any (·.1) = false := by rfl) : PE X (.Call (.Name x p) (e :: es) [] pos) (tCB r t) := by
  intro pins s σ H Q I h
  refine wpAny_Call_Name_kw (ld_blt I hg hm hv ?_ hn hdb)
  exact PyProof.Rows.callWith_type1 (thn (ha pos pins s σ H _ I h) fun us s1 ⟨vs, H1, I1, r1, q1⟩ => hc pins s1 σ H1 vs us Q I1 r1 q1) he hpl
end
end L2

namespace HT
open PySem PyProof.Rows

/-- t < u of tuples of ints -/
def lexLt : List Int → List Int → Bool
  | [], [] => false
  | [], _ :: _ => true
  | _ :: _, [] => false
  | x :: xs, y :: ys => if x = y then lexLt xs ys else decide (x < y)


section
open PySem.SeqAt
open PySem.AutoSeq1 (wpAny_loadPart')
open PySem.MeetsSeq PySem.MeetsSeq2 PySem.MeetsSeq3

end

section
variable {prog : Program} {w : World} {A : Around} {E : Value → Shared → Prop} {s : Shared}



/-! ### t[a:b], not the whole -/
/-- a slice's bound as a place among n (d where it is left out) -/
def sIx (n d : Nat) : Option Int → Nat
  | none => d
  | some v => if v < 0 then (v + (n : Int)).toNat else min v.toNat n
theorem sIx_none (n d : Nat) : sIx n d none = d := rfl
theorem sIx_nat (n d k : Nat) : sIx n d (some (k : Int)) = min k n := by
  show (if (k : Int) < 0 then ((k : Int) + (n : Int)).toNat else min (k : Int).toNat n) = min k n
  rw [if_neg (by omega), Int.toNat_natCast]

end
end HT

namespace L2
open PySem PySem.Spec PyProof.Rows

/-! ### the parts of a slice -/
abbrev TO := St → Hp → (Option Int → Hp → Prop) → Prop
/-- a slice's part (left out, or an int) -/
def PO (X : Cx) (e : Option Expr) (t : TO) : Prop :=
  ∀ (pins : List (Addr × Obj)) (s : Shared) (σ : St) (H : Hp) (Q : Option Int → Hp → Prop), Inv X pins σ H s → t σ H Q →
    wpAny (model X.prog X.w) X.A (evalPart e X.env) (fun u s' => ∃ o H', Inv X pins σ H' s' ∧ IsPart u o ∧ Q o H') X.xe s
def tNoPart : TO := fun _ H Q => Q none H
def tPart (t : TE) : TO := fun σ H Q => t σ H fun x H1 => ∃ i, x = .int i ∧ Q (some i) H1

theorem intsAre_of {ns : List Int} : ∀ {us : List Value}, Vals (ns.map V.int) us → IntsAre us ns := by
  induction ns with
  | nil => intro us r; rw [List.map_nil] at r; cases r; exact .nil
  | cons n ns ih =>
    intro us r
    rw [List.map_cons] at r
    cases r with
    | cons r1 r2 =>
      obtain ⟨t, e⟩ := r1
      subst e
      exact .cons n t (ih r2)

section
variable {X : Cx} {e : Expr} {te : TE} {lo hi : Option Expr} {tl th : TO} {pos p2 : Pos}

theorem po_none : PO X none tNoPart := by
  intro pins s σ H Q I h
  rw [evalPart_none]
  exact wpAny_pure ⟨none, H, I, .none, h⟩
theorem po_some (h : PE X e te) : PO X (some e) (tPart te) := by
  intro pins s σ H Q I hw
  rw [evalPart_some]
  refine thn (h pins s σ H _ I hw) fun u s1 ⟨x, H1, I1, r1, q1⟩ => ?_
  obtain ⟨i, rfl, q⟩ := q1
  obtain ⟨t, rfl⟩ := r1
  exact ⟨some i, H1, I1, .int i t, q⟩

/-- what a slice of a value is, by values: the slice object stands at sl -/
def SlR (X : Cx) (r : V → Option Int → Option Int → Hp → VK → Prop) : Prop :=
  ∀ (pins : List (Addr × Obj)) (s : Shared) (σ : St) (H : Hp) (x : V) (v vl vu : Value) (lo hi : Option Int) (sl : Addr) (Q : VK), Inv X pins σ H s → RelV x v → s.heap.IsSliceOf sl vl vu .none → IsPart vl lo → IsPart vu hi → r x lo hi H Q →
    ∃ T id, typeLookup (.type T) "__getitem__" = pure (some (.builtin id)) ∧ s.TypeIs v T ∧ wpAny (model X.prog X.w) X.A (getItem v (.ref sl)) (EP X pins σ Q) X.xe s
def tSl (r : V → Option Int → Option Int → Hp → VK → Prop) (te : TE) (tl th : TO) : TE := fun σ H Q => te σ H fun x H1 => tl σ H1 fun l H2 => th σ H2 fun u H3 => r x l u H3 Q
/-- a[lo:hi], any a -/
theorem pe_slice {r : V → Option Int → Option Int → Hp → VK → Prop} (hr : SlR X r) (he : PE X e te) (hl : PO X lo tl) (hu : PO X hi th) : PE X (.Subscript e (.Slice lo hi none p2) pos) (tSl r te tl th) := by
  intro pins s σ H Q I h
  refine Subscript_ (thn (he pins s σ H _ I h) fun v s1 ⟨x, H1, I1, r1, q1⟩ => ?_)
  refine wpAny_Slice (thn (hl pins s1 σ H1 _ I1 q1) fun vl s2 ⟨l, H2, I2, pl, q2⟩ => thn (hu pins s2 σ H2 _ I2 q2) fun vu s3 ⟨u, H3, I3, pu, q3⟩ => ?_)
  rw [evalPart_none]
  refine wpAny_pure ?_
  have I4 : Inv X pins σ H3 { s3 with heap := s3.heap.push { cls := .type "slice", data := .fields #[vl, vu, .none] } } := I3.kept (t' := s3.toks) fun b ob q => Heap.get?_push_of_some _ q
  obtain ⟨T, id, hT, ht, hg⟩ := hr pins { s3 with heap := s3.heap.push { cls := .type "slice", data := .fields #[vl, vu, .none] } } σ H3 x v vl vu l u s3.heap.objs.size Q I4 r1 (Heap.IsSliceOf.new ..) pl pu q3
  show wpAny (model X.prog X.w) X.A (subscriptTail e (.Slice lo hi none p2) v (.ref s3.heap.objs.size)) (EP X pins σ Q) X.xe { s3 with heap := s3.heap.push { cls := .type "slice", data := .fields #[vl, vu, .none] } }
  exact tail_any (ops := [.ref s3.heap.objs.size, v]) ht hT hg (by with_unfolding_all rfl)

/-- the items of xs[lo:hi] -/
def cutV (xs : List V) (lo hi : Option Int) : List V := (xs.drop (HT.sIx xs.length 0 lo)).take (HT.sIx xs.length xs.length hi - HT.sIx xs.length 0 lo)
theorem cutV_length (xs : List V) (lo hi : Option Int) : (cutV xs lo hi).length ≤ xs.length := by
  unfold cutV
  rw [List.length_take, List.length_drop]
  omega
/-- t[lo:hi], not the whole of it (the whole would be t itself) -/
def rSlT (K : PySem.W.Frag) : V → Option Int → Option Int → Hp → VK → Prop := fun x lo hi H Q => ∃ a xs, x = .ref a ∧ SqT K H a xs ∧
  ¬ (HT.sIx xs.length 0 lo = 0 ∧ HT.sIx xs.length xs.length hi = xs.length) ∧ ∀ p, H p = none → Q (.ref p) (upd H p (.tup (cutV xs lo hi)))

/-! ### t < u, t + u -/
def rLtT (K : PySem.W.Frag) : R2 := fun x y H Q => ∃ a b ns ms, x = .ref a ∧ y = .ref b ∧ SqT K H a (ns.map V.int) ∧ SqT K H b (ms.map V.int) ∧ Q (.bl (HT.lexLt ns ms)) H
/-- t + u, t not empty: u empty gives t itself -/
def rCatT (K : PySem.W.Frag) : R2 := fun x y H Q => ∃ a b xs ys, x = .ref a ∧ y = .ref b ∧ SqT K H a xs ∧ SqT K H b ys ∧ xs ≠ [] ∧ xs.length + ys.length ≤ sizeLine ∧
  (ys = [] → Q (.ref a) H) ∧ (ys ≠ [] → ∀ p, H p = none → Q (.ref p) (upd H p (.tup (xs ++ ys))))
end
end L2

namespace L2
open PySem PySem.Spec PyProof.Rows

/-! ### places -/
/-- the place that an index of any sign means -/
def ixN (n : Nat) (i : Int) : Option Nat := if 0 ≤ i then (if i < n then some i.toNat else none) else if -(n : Int) ≤ i then some (i + n).toNat else none
def atI {α : Type} (xs : List α) (i : Int) : Option α := (ixN xs.length i).bind fun j => xs[j]?
theorem ixN_seq {n : Nat} {i : Int} {j : Nat} (h : ixN n i = some j) : seqIndex? i n = some j ∧ j < n ∧ -(n : Int) ≤ i ∧ i < n := by
  unfold ixN at h
  by_cases h0 : 0 ≤ i
  · rw [if_pos h0] at h
    by_cases h1 : i < n
    · rw [if_pos h1] at h
      have e : i.toNat = j := Option.some.inj h
      exact ⟨by rw [seqIndex_of h0 h1, e], by omega, by omega, h1⟩
    · rw [if_neg h1] at h; cases h
  · rw [if_neg h0] at h
    by_cases h1 : -(n : Int) ≤ i
    · rw [if_pos h1] at h
      have e : (i + n).toNat = j := Option.some.inj h
      exact ⟨by rw [seqIndex_neg (by omega) h1, e], by omega, h1, by omega⟩
    · rw [if_neg h1] at h; cases h
theorem atI_get {α : Type} {xs : List α} {i : Int} {v : α} (h : atI xs i = some v) : ∃ j, seqIndex? i xs.length = some j ∧ xs[j]? = some v ∧ j < xs.length ∧ -(xs.length : Int) ≤ i ∧ i < xs.length := by
  unfold atI at h
  cases e : ixN xs.length i with
  | none => rw [e] at h; cases h
  | some j =>
    rw [e] at h
    obtain ⟨h1, h2, h3, h4⟩ := ixN_seq e
    exact ⟨j, h1, h, h2, h3, h4⟩
theorem atI_nat {α : Type} {xs : List α} {j : Nat} {v : α} (h : xs[j]? = some v) : atI xs (j : Int) = some v := by
  have hj : j < xs.length := (List.getElem?_eq_some_iff.mp h).1
  have e : ixN xs.length (j : Int) = some j := by
    unfold ixN
    rw [if_pos (by omega), if_pos (by omega)]; simp
  unfold atI; rw [e]; exact h

/-! ### what may be subscripted -/
/-- what stands as an index of a plain subscript -/
def PlainIx (b : Expr) : Prop := ∀ o i, subscripted b false o i = operate [o, i] (getItem o i)
/-- a subscript by values -/
def IxR (X : Cx) (r : R2) : Prop :=
  ∀ (value slice : Expr) (pins : List (Addr × Obj)) (s : Shared) (σ : St) (H : Hp) (x y : V) (v u : Value) (Q : VK), Inv X pins σ H s → RelV x v → RelV y u → r x y H Q →
    subscripted slice false v u = operate [v, u] (getItem v u) → wpAny (model X.prog X.w) X.A (subscriptTail value slice v u) (EP X pins σ Q) X.xe s
/-- a call of a builtin's method by values: the receiver, the arguments -/
def MtR (X : Cx) (id : String) (r : V → List V → Hp → VK → Prop) : Prop :=
  ∀ (pins : List (Addr × Obj)) (s : Shared) (σ : St) (H : Hp) (x : V) (xs : List V) (v : Value) (us : List Value) (Q : VK), Inv X pins σ H s → RelV x v → Vals xs us → r x xs H Q →
    wpAny (model X.prog X.w) X.A (call (.builtin id) (v :: us)) (EP X pins σ Q) X.xe s
section
variable {X : Cx} {a b : Expr} {ta tb : TE} {pos : Pos}
theorem IxR.or {r r' : R2} (h : IxR X r) (h' : IxR X r') : IxR X (fun x y H Q => r x y H Q ∨ r' x y H Q) := by
  intro value slice pins s σ H x y v u Q I rx ry q hs
  rcases q with q | q
  · exact h value slice pins s σ H x y v u Q I rx ry q hs
  · exact h' value slice pins s σ H x y v u Q I rx ry q hs
/-- a[b] -/
theorem pe_ix {r : R2} (hr : IxR X r) (ha : PE X a ta) (hb : PE X b tb) (hs : PlainIx b) : PE X (.Subscript a b pos) (tOp r ta tb) := by
  intro pins s σ H Q I h
  exact Subscript_ (binT ha hb I h fun v u s2 x y H2 I2 rx ry q => hr a b pins s2 σ H2 x y v u Q I2 rx ry q (hs _ _))

def rIxL (K : PySem.W.Frag) : R2 := fun x y H Q => ∃ p xs i v, x = .ref p ∧ y = .int i ∧ SqL K H p xs ∧ atI xs i = some v ∧ Q v H
def rIxT (K : PySem.W.Frag) : R2 := fun x y H Q => ∃ p xs i v, x = .ref p ∧ y = .int i ∧ SqT K H p xs ∧ atI xs i = some v ∧ Q v H
def rIxS : R2 := fun x y H Q => ∃ z i c, x = .str z ∧ y = .int i ∧ z.length ≤ sizeLine ∧ atI z.cps.toList i = some c ∧ Q (.str ⟨#[c]⟩) H
theorem ix_list : IxR X (rIxL X.K) := by
  intro value slice pins s σ H x y v u Q I rx ry h hs
  obtain ⟨p, xs, i, z, rfl, rfl, hq, he, q⟩ := h
  cases rx
  obtain ⟨t, rfl⟩ := ry
  obtain ⟨its, r, pl, hz⟩ := I.list hq
  obtain ⟨j, h1, h2, h3, h4, h5⟩ := atI_get he
  obtain ⟨w, ew, rw'⟩ := r.get h2
  have hl := r.length
  have hn := line63
  have fin : EP X pins σ Q w s := ⟨z, H, I, rw', q⟩
  by_cases h0 : 0 ≤ i
  · have hj : i.toNat = j := by
      rw [seqIndex_of h0 h5] at h1
      exact Option.some.inj h1
    exact item_listR pl.isList h0 (by omega) (by rw [hj]; simpa using ew) fin hs
  · have hj : (i + (its.toArray.size : Int)).toNat = j := by
      rw [seqIndex_neg (by omega) h4] at h1
      rw [List.size_toArray, ← hl]
      exact Option.some.inj h1
    exact subscriptTail_builtinR (x := w) pl.isList.typeIs slot_list_getitem.lookup
      (wpAny_getItem_list_neg (Q := fun r s' => r = w ∧ EP X pins σ Q r s') pl.isList (by omega) (by rw [List.size_toArray] <;> omega) (by omega) (by rw [hj]; simpa using ew) ⟨rfl, fin⟩) hs
theorem ix_tup : IxR X (rIxT X.K) := by
  intro value slice pins s σ H x y v u Q I rx ry h hs
  obtain ⟨p, xs, i, z, rfl, rfl, hq, he, q⟩ := h
  cases rx
  obtain ⟨t, rfl⟩ := ry
  obtain ⟨its, r, pl, hz⟩ := I.tuple hq
  obtain ⟨j, h1, h2, h3, h4, h5⟩ := atI_get he
  obtain ⟨w, ew, rw'⟩ := r.get h2
  have hl := r.length
  have hn := line63
  have fin : EP X pins σ Q w s := ⟨z, H, I, rw', q⟩
  exact subscriptTail_builtinR (x := w) pl.typeIs slot_tuple_getitem.lookup
    (getItem_tuple (j := j) (Q := fun r s' => r = w ∧ EP X pins σ Q r s') pl (by omega) (by omega) (by rw [List.size_toArray, ← hl]; exact h1) (by simpa using ew) ⟨rfl, fin⟩) hs
theorem ix_str : IxR X rIxS := by
  intro value slice pins s σ H x y v u Q I rx ry h hs
  obtain ⟨z, i, c, rfl, rfl, hz, he, q⟩ := h
  obtain ⟨t, rfl⟩ := rx
  obtain ⟨t', rfl⟩ := ry
  obtain ⟨j, h1, h2, h3, h4, h5⟩ := atI_get he
  have hl : z.cps.toList.length = z.length := by simp [Str.length]
  rw [hl] at h1 h4 h5
  have hn := line63
  exact tail_any (typeIs_str s z t) slot_str_getitem.lookup (getItem_str (c := c) (by
    have e1 : decide (i < -(2 ^ 63 : Int)) = false := decide_eq_false (by omega)
    have e2 : decide (i ≥ 2 ^ 63) = false := decide_eq_false (by omega)
    rw [e1, e2, Bool.or_false]) (by rw [h1]; simpa using h2) ⟨.str ⟨#[c]⟩, H, I.tok _, ⟨_, rfl⟩, q⟩) hs
/-- list, tuple or str -/
def rIx (K : PySem.W.Frag) : R2 := fun x y H Q => rIxL K x y H Q ∨ rIxT K x y H Q ∨ rIxS x y H Q
theorem ix_seq : IxR X (rIx X.K) := ix_list.or (ix_tup.or ix_str)

/-! ### xs[i] = v, any sign -/
/-- the list's object behind a store -/
theorem mapSeq_set (its : List Value) (n j : Nat) (u : Value) : Obj.mapSeq (·.setIfInBounds j u) { cls := .type "list", data := .seq its.toArray n } = { cls := .type "list", data := .seq (its.set j u).toArray n } := by
  simp [Obj.mapSeq]
theorem Inv.lst {pins : List (Addr × Obj)} {σ : St} {H : Hp} {s : Shared} {p : Addr} {xs : List V} (I : Inv X pins σ H s) (h : H p = some (.lst xs)) :
    ∃ (its : List Value) (n : Nat), Vals xs its ∧ s.heap.get? p = some { cls := .type "list", data := .seq its.toArray n } ∧ xs.length ≤ sizeLine := by
  obtain ⟨z, its, n, r, e⟩ := I.hok p _ h
  exact ⟨its, n, r, e, z⟩
/-- the list at p is written by an update of its object -/
theorem Inv.lstUpd {pins : List (Addr × Obj)} {σ : St} {H : Hp} {s : Shared} {p : Addr} {xs ys : List V} {its its' : List Value} {n n' : Nat} {f : Obj → Obj} (I : Inv X pins σ H s) (h : H p = some (.lst xs))
    (ho : s.heap.get? p = some { cls := .type "list", data := .seq its.toArray n }) (hf : f { cls := .type "list", data := .seq its.toArray n } = { cls := .type "list", data := .seq its'.toArray n' }) (r : Vals ys its') (hz : ys.length ≤ sizeLine) (t : Nat) :
    Inv X pins σ (upd H p (.lst ys)) { s with heap := s.heap.update p f, toks := t } := by
  have e : (s.heap.update p f).get? p = some { cls := .type "list", data := .seq its'.toArray n' } := by
    rw [Heap.get?_update_self f ho (by rw [hf] <;> rfl), hf]
  refine I.write (x := p) (e := p) (by rw [h]; trivial) (.inl rfl) (fun b u hb q => (Heap.get?_update_other _ _ (Ne.symm hb)).trans q) ⟨_, e⟩ ?_
  exact ⟨hz, its', n', r, e⟩
def rSetL : V → V → V → Hp → (Hp → Prop) → Prop := fun o i v H Q => ∃ p xs k j, o = .ref p ∧ i = .int k ∧ H p = some (.lst xs) ∧ ixN xs.length k = some j ∧ Q (upd H p (.lst (xs.set j v)))
theorem set_list : PSet X rSetL := by
  intro pins s σ H o i v ov iv u Q I ro ri rv h
  obtain ⟨p, xs, k, j, rfl, rfl, hp, hj, q⟩ := h
  cases ro
  obtain ⟨t, rfl⟩ := ri
  obtain ⟨its, n, r, ho, hz⟩ := I.lst hp
  obtain ⟨h1, h2, h3, h4⟩ := ixN_seq hj
  have hl := r.length
  have hn := line63
  have I' : Inv X pins σ (upd H p (.lst (xs.set j v))) { s with heap := s.heap.update p (Obj.mapSeq (·.setIfInBounds j u)) } :=
    I.lstUpd hp ho (mapSeq_set its n j u) (r.set rv j) (by rw [List.length_set]; exact hz) s.toks
  by_cases h0 : 0 ≤ k
  · have hk : k.toNat = j := by
      rw [seqIndex_of h0 h4] at h1
      exact Option.some.inj h1
    exact PySem.W.ki_setAt ho h0 (by omega) (by rw [List.size_toArray, ← hl]; exact h4) (by rw [hk]; exact ⟨_, I', q⟩)
  · have hk : (k + (its.toArray.size : Int)).toNat = j := by
      rw [seqIndex_neg (by omega) h3] at h1
      rw [List.size_toArray, ← hl]
      exact Option.some.inj h1
    exact PySem.W.ki_setBack ho (by omega) (by rw [List.size_toArray, ← hl]; exact h3) (by omega) (by rw [hk]; exact ⟨_, I', q⟩)

/-! ### slices -/
theorem slice_bounds (lo hi : Option Int) (n : Nat) : (sliceBounds lo hi none n).1 = ((HT.sIx n 0 lo : Nat) : Int) ∧ (sliceBounds lo hi none n).2.1 = ((HT.sIx n n hi : Nat) : Int) ∧ (sliceBounds lo hi none n).2.2 = 1 := by
  refine ⟨?_, ?_, rfl⟩
  · cases lo with
    | none => simp [sliceBounds, HT.sIx]
    | some i =>
      simp only [sliceBounds, HT.sIx, Option.getD_none, show (1 : Int) > 0 by decide, if_true]
      by_cases h : i < 0
      · simp only [h, if_true] <;> omega
      · simp only [h, if_false] <;> omega
  · cases hi with
    | none => simp [sliceBounds, HT.sIx]
    | some i =>
      simp only [sliceBounds, HT.sIx, Option.getD_none, show (1 : Int) > 0 by decide, if_true]
      by_cases h : i < 0
      · simp only [h, if_true] <;> omega
      · simp only [h, if_false] <;> omega
theorem slicePick_cut (its : List Value) (lo hi : Option Int) : slicePick its.toArray lo hi none = ((its.drop (HT.sIx its.length 0 lo)).take (HT.sIx its.length its.length hi - HT.sIx its.length 0 lo)).toArray := by
  obtain ⟨h1, h2, h3⟩ := slice_bounds lo hi its.toArray.size
  unfold slicePick
  rw [h1, h2, h3]
  simp only [sliceRange_one, pick_run, List.size_toArray] <;> rfl
/-- xs[lo:hi] of a list: a new list -/
def rSlL (K : PySem.W.Frag) : V → Option Int → Option Int → Hp → VK → Prop := fun x lo hi H Q => ∃ a xs, x = .ref a ∧ SqL K H a xs ∧ ∀ p, H p = none → Q (.ref p) (upd H p (.lst (cutV xs lo hi)))
theorem sl_list : SlR X (rSlL X.K) := by
  intro pins s σ H x v vl vu lo hi sl Q I rx hs pl pu h
  obtain ⟨a, xs, rfl, hx, q⟩ := h
  cases rx
  obtain ⟨its, r, ht, hz⟩ := I.list hx
  have hlen := r.length
  refine ⟨"list", _, slot_list_getitem.lookup, ht.isList.typeIs, ?_⟩
  refine wpAny_getItem_list_slice ht.isList hs pl pu .none (by simp) ?_ (by rw [List.size_toArray] <;> omega)
  rw [slicePick_cut, ← hlen]
  refine ⟨.ref s.heap.objs.size, _, I.laid (t' := s.toks) (o := .lst (cutV xs lo hi)) (fun b ob q => Heap.get?_push_of_some _ q) (Nat.le_refl _) ?_, rfl, q _ (I.hok.fresh (Nat.le_refl _))⟩
  exact ⟨Nat.le_trans (cutV_length xs lo hi) hz, _, 0, (r.drop (HT.sIx xs.length 0 lo)).take (HT.sIx xs.length xs.length hi - HT.sIx xs.length 0 lo), Heap.get?_push_size _ rfl⟩

/-! ### in, not in: flat items -/
def flatV : V → Bool
  | .non => true
  | .bl _ => true
  | .int _ => true
  | .str _ => true
  | _ => false
/-- == of flat values -/
def eqV : V → V → Bool
  | .non, .non => true
  | .bl a, .bl b => a == b
  | .bl a, .int b => (if a then 1 else 0) == b
  | .int a, .bl b => a == (if b then 1 else 0)
  | .int a, .int b => a == b
  | .str a, .str b => a == b
  | _, _ => false
theorem eqAt_V {A : Around} {s : Shared} {y x : V} {u v : Value} (ry : RelV y u) (rx : RelV x v) (fy : flatV y = true) (fx : flatV x = true) : SeqAt.EqAt A s u v (eqV y x) := by
  cases y with
  | non =>
    cases ry
    cases x with
    | non => cases rx; exact SeqAt.EqAt.same _
    | bl b => cases rx; exact SeqAt.EqAt.none_bool b
    | int b => obtain ⟨t, rfl⟩ := rx; exact SeqAt.EqAt.none_int b t
    | str b => obtain ⟨t, rfl⟩ := rx; exact SeqAt.EqAt.none_str b t
    | _ => exact absurd (show false = true from fx) Bool.false_ne_true
  | bl a =>
    cases ry
    cases x with
    | non => cases rx; exact SeqAt.EqAt.bool_none a
    | bl b => cases rx; exact SeqAt.EqAt.bool_bool a b
    | int b => obtain ⟨t, rfl⟩ := rx; exact SeqAt.EqAt.bool_int a b t
    | str b => obtain ⟨t, rfl⟩ := rx; exact SeqAt.EqAt.bool_str a b t
    | _ => exact absurd (show false = true from fx) Bool.false_ne_true
  | int a =>
    obtain ⟨t', rfl⟩ := ry
    cases x with
    | non => cases rx; exact SeqAt.EqAt.int_none a t'
    | bl b => cases rx; exact SeqAt.EqAt.int_bool a t' b
    | int b => obtain ⟨t, rfl⟩ := rx; exact SeqAt.EqAt.int_int a t' b t
    | str b => obtain ⟨t, rfl⟩ := rx; exact SeqAt.EqAt.int_str a t' b t
    | _ => exact absurd (show false = true from fx) Bool.false_ne_true
  | str a =>
    obtain ⟨t', rfl⟩ := ry
    cases x with
    | non => cases rx; exact SeqAt.EqAt.str_none a t'
    | bl b => cases rx; exact SeqAt.EqAt.str_bool a t' b
    | int b => obtain ⟨t, rfl⟩ := rx; exact SeqAt.EqAt.str_int a t' b t
    | str b => obtain ⟨t, rfl⟩ := rx; exact SeqAt.EqAt.str_str a t' b t
    | _ => exact absurd (show false = true from fx) Bool.false_ne_true
  | _ => exact absurd (show false = true from fy) Bool.false_ne_true
/-- the items' answers, read off the values (a value's own answer does not lean on its token) -/
def eqU (x : V) (u : Value) : Bool := match u with
  | .none => eqV .non x
  | .bool b => eqV (.bl b) x
  | .int i _ => eqV (.int i) x
  | .str z _ => eqV (.str z) x
  | _ => false
def inV (x : V) (xs : List V) : Bool := xs.any fun y => eqV y x
/-- x in a list or tuple of flat items -/
def rIn (K : PySem.W.Frag) (neg : Bool) : R2 := fun x y H Q => ∃ p xs, y = .ref p ∧ (SqL K H p xs ∨ SqT K H p xs) ∧ flatV x = true ∧ xs.all flatV = true ∧ Q (.bl (if neg then !inV x xs else inV x xs)) H

/-! ### len, list(x), tuple(x) of any list or tuple that is read -/
theorem call_len_seq : CallR X (.builtin "len") (fun xs H Q => ∃ p ys, xs = [.ref p] ∧ (SqL X.K H p ys ∨ SqT X.K H p ys) ∧ Q (.int ys.length) H) := by
  intro pins s σ H xs us Q I r h
  obtain ⟨p, ys, rfl, hq, q⟩ := h
  obtain ⟨u, rfl, rx⟩ := vals1 r
  cases rx
  have hn := line63
  rcases hq with hq | hq
  · obtain ⟨its, r', pl, hz⟩ := I.list hq
    have hlen := r'.length
    exact Calls.call_len_list pl.isList (by simp only [List.size_toArray] <;> omega) ⟨.int ys.length, H, I.tok _, ⟨s.toks + 1, by rw [List.size_toArray, hlen]⟩, q⟩
  · obtain ⟨its, r', pl, hz⟩ := I.tuple hq
    have hlen := r'.length
    exact len_tuple pl (by simp only [List.size_toArray] <;> omega) ⟨.int ys.length, H, I.tok _, ⟨s.toks + 1, by rw [List.size_toArray, hlen]⟩, q⟩
theorem call_list_of : CallR X (.type "list") (fun xs H Q => ∃ p ys, xs = [.ref p] ∧ (SqL X.K H p ys ∨ SqT X.K H p ys) ∧ ∀ l, H l = none → Q (.ref l) (upd H l (.lst ys))) := by
  intro pins s σ H xs us Q I r h
  obtain ⟨p, ys, rfl, hq, q⟩ := h
  obtain ⟨u, rfl, rx⟩ := vals1 r
  cases rx
  have fin : ∀ (its : List Value), Vals ys its → ys.length ≤ sizeLine → ∀ (h' : Heap) (c' : Nat), (∀ b o', s.heap.get? b = some o' → h'.get? b = some o') →
      h'.get? s.heap.objs.size = some { cls := .type "list", dict := none, data := .seq its.toArray c', slots := #[] } → EP X pins σ Q (.ref s.heap.objs.size) { s with heap := h' } := fun its r' hz h' c' kp e =>
    ⟨.ref s.heap.objs.size, _, I.laid (t' := s.toks) kp (Nat.le_refl _) (show ObjOk X.prog X.w _ h' _ (.lst ys) from ⟨hz, its, c', r', e⟩), rfl, q _ (I.hok.fresh (Nat.le_refl _))⟩
  rcases hq with hq | hq
  · obtain ⟨its, r', pl, hz⟩ := I.list hq
    have hlen := r'.length
    obtain ⟨o, ho, hc, n, hd⟩ := pl.isList
    exact call_list_seq p (.inl rfl) ho hc hd (fun h' c' kp e => fin its r' hz h' c' kp e) (by simp only [List.size_toArray] <;> omega)
  · obtain ⟨its, r', pl, hz⟩ := I.tuple hq
    have hlen := r'.length
    obtain ⟨o, ho, hc, n, hd⟩ := pl
    exact call_list_seq p (.inr rfl) ho hc hd (fun h' c' kp e => fin its r' hz h' c' kp e) (by simp only [List.size_toArray] <;> omega)

/-! ### the call of a builtin's method: o.m(..) -/
/-- the value is of that builtin type -/
def tyV (K : PySem.W.Frag) (T : String) (x : V) (H : Hp) : Prop := match x with
  | .str _ => T = "str"
  | .int _ => T = "int"
  | .ref p => (T = "list" ∧ ∃ xs, SqL K H p xs) ∨ (T = "tuple" ∧ ∃ o, K.lookup p = some o ∧ o.cls = .type "tuple" ∧ o.dict = none) ∨
      (T = "dict" ∧ ((∃ kvs, H p = some (.dK kvs)) ∨ ∃ kvs, H p = some (.dT kvs))) ∨ (T = "set" ∧ ∃ S n, H p = some (.set S n))
  | _ => False
theorem tyV_is {pins : List (Addr × Obj)} {σ : St} {H : Hp} {s : Shared} {T : String} {x : V} {v : Value} (I : Inv X pins σ H s) (r : RelV x v) (ty : tyV X.K T x H) :
    s.TypeIs v T ∧ ∀ a, v = .ref a → ∃ ob, s.heap.get? a = some ob ∧ ob.dict = none := by
  cases x with
  | str z =>
    obtain ⟨t, rfl⟩ := r
    cases (show T = "str" from ty)
    exact ⟨typeIs_str s z t, fun _ e => nomatch e⟩
  | int i =>
    obtain ⟨t, rfl⟩ := r
    cases (show T = "int" from ty)
    exact ⟨typeIs_int s i t, fun _ e => nomatch e⟩
  | ref p =>
    cases r
    rcases ty with ⟨rfl, xs, hq⟩ | ⟨rfl, o, hk, hc, hd⟩ | ⟨rfl, hk⟩ | ⟨rfl, S, n, hk⟩
    · obtain ⟨its, _, pl, _⟩ := I.list hq
      refine ⟨pl.isList.typeIs, fun a e => ?_⟩
      cases e
      obtain ⟨o, n, e, c, hd, _⟩ := pl
      exact ⟨o, e, hd⟩
    · refine ⟨⟨o, I.kIn p o hk, hc⟩, fun a e => ?_⟩
      cases e
      exact ⟨o, I.kIn _ o hk, hd⟩
    · have z : ∃ o, s.heap.get? p = some o ∧ o.ExactDict := by
        rcases hk with ⟨kvs, hk⟩ | ⟨kvs, hk⟩
        · obtain ⟨_, _, _, _, o, _, _, e, ex, _⟩ := I.hok p _ hk
          exact ⟨o, e, ex⟩
        · obtain ⟨_, _, _, _, o, _, _, e, ex, _⟩ := I.hok p _ hk
          exact ⟨o, e, ex⟩
      obtain ⟨o, e, ex⟩ := z
      refine ⟨⟨o, e, ex.1⟩, fun a e2 => ?_⟩
      cases e2
      exact ⟨o, e, ex.2.1⟩
    · obtain ⟨o, _, _, _, e, ex, _⟩ := I.hok p _ hk
      refine ⟨⟨o, e, ex.1⟩, fun a e2 => ?_⟩
      cases e2
      exact ⟨o, e, ex.2.1⟩
  | _ => exact False.elim ty
def tBM0 (K : PySem.W.Frag) (T : String) (r : V → List V → Hp → VK → Prop) (to : TE) : TE := fun σ H Q => to σ H fun x H1 => tyV K T x H1 ∧ r x [] H1 Q
def tBM (K : PySem.W.Frag) (T : String) (r : V → List V → Hp → VK → Prop) (to : TE) (t : TA) : TE := fun σ H Q => to σ H fun x H1 => tyV K T x H1 ∧ t σ H1 fun xs H2 => r x xs H2 Q
variable {o e : Expr} {es : List Expr} {to : TE} {t : TA} {name : Str} {apos cpos : Pos} {T id : String} {r : V → List V → Hp → VK → Prop}
theorem pe_bm0 (pa : PlainAttrs T) (slot : Slot T name id) (hty : typeOf (.builtin id) = pure (.type "method_descriptor")) (hm : MtR X id r) (ho : PE X o to)
    (hbase : attributeBase o name X.env (eval o X.env) = eval o X.env := by rfl) (hline : (apos.endLine == cpos.line) = true := by rfl) : PE X (.Call (.Attribute o name apos) [] [] cpos) (tBM0 X.K T r to) := by
  intro pins s σ H Q I h
  refine wpAny_Call_method0_late hbase hline (thn (ho pins s σ H _ I h) fun v s1 ⟨x, H1, I1, r1, ty, q1⟩ => ?_)
  obtain ⟨h1, h2⟩ := tyV_is I1 r1 ty
  exact ⟨T, id, pa, slot, hty, h1, h2, Calls.callWith_builtin rfl (PySem.evalArgs_none (hm pins s1 σ H1 x [] v [] Q I1 r1 .nil q1))⟩
theorem pe_bm (pa : PlainAttrs T) (slot : Slot T name id) (hty : typeOf (.builtin id) = pure (.type "method_descriptor")) (hm : MtR X id r) (ho : PE X o to) (ha : PA X (e :: es) t)
    (hbase : attributeBase o name X.env (eval o X.env) = eval o X.env := by rfl)
    (hfew : ((backTo cpos (starEach (e :: es) X.env)).all (fun x => !x.1) && (backToKw cpos (keywordEach [] X.env)).all (fun x => x.1.isSome)
      && decide ((e :: es).length + ([] : List Keyword).length + (if ([] : List Keyword).isEmpty then 0 else 1) < 30)) = true := by rfl)
    (hline : (apos.endLine == cpos.line) = true := by rfl) (hs : starEach (e :: es) X.env = (false, eval e X.env) :: starEach es X.env := by rfl) (hplain : (backTo cpos (starEach es X.env)).any (·.1) = false := by rfl) :
    PE X (.Call (.Attribute o name apos) (e :: es) [] cpos) (tBM X.K T r to t) := by
  intro pins s σ H Q I h
  refine wpAny_Call_method_late hbase hfew hline rfl (thn (ho pins s σ H _ I h) fun v s1 ⟨x, H1, I1, r1, ty, q1⟩ => ?_)
  obtain ⟨h1, h2⟩ := tyV_is I1 r1 ty
  refine ⟨T, id, pa, slot, hty, h1, h2, ?_⟩
  have hA := ha cpos pins s1 σ H1 _ I1 q1
  rw [hs] at hA ⊢
  refine Calls.callWith_builtin (by show (false || (backTo cpos (starEach es X.env)).any (·.1)) = false; rw [hplain] <;> rfl) (Calls.evalArgs_plain ?_)
  exact thn hA fun us s2 ⟨vs, H2, I2, r2, q2⟩ => hm pins s2 σ H2 x vs v us Q I2 r1 r2 q2
/- xs.append(e), list.index on a module's tuple .. are MtR facts of 06m -/
end
end L2

namespace L2
open PySem PySem.Spec PyProof.Rows

def MtM (X : Cx) (id : String) (r : V → List V → Hp → VK → Prop) : Prop :=
  ∀ (pins : List (Addr × Obj)) (s : Shared) (σ : St) (H : Hp) (x : V) (xs : List V) (v : Value) (us : List Value) (Q : VK), Inv X pins σ H s → RelV x v → Vals xs us → r x xs H Q →
    wpAny (model X.prog X.w) X.A (call (.builtin id) (v :: us)) (EP X pins σ Q) X.xe s

/-! ### lists of values -/
theorem Vals.one : ∀ {x : V} {us : List Value}, Vals [x] us → ∃ u, us = [u] ∧ RelV x u
  | _, _, .cons r .nil => ⟨_, rfl, r⟩
theorem Vals.zero : ∀ {us : List Value}, Vals [] us → us = []
  | _, .nil => rfl
theorem Vals.dropLast {xs : List V} {us : List Value} (h : Vals xs us) : Vals xs.dropLast us.dropLast := by
  induction h with
  | nil => exact .nil
  | cons r t ih =>
    cases t with
    | nil => exact .nil
    | cons q t' => exact .cons r ih
theorem Vals.rep {xs : List V} {us : List Value} (h : Vals xs us) : ∀ k : Nat, Vals (List.replicate k xs).flatten (List.replicate k us).flatten
  | 0 => .nil
  | k + 1 => by
    rw [List.replicate_succ, List.replicate_succ, List.flatten_cons, List.flatten_cons]
    exact Vals.append h (Vals.rep h k)
theorem erase_last {α : Type} (l : List α) : l.eraseIdx (l.length - 1) = l.dropLast := by
  induction l with
  | nil => rfl
  | cons a r ih =>
    cases r with
    | nil => rfl
    | cons b r =>
      have e : (a :: b :: r).length - 1 = ((b :: r).length - 1) + 1 := by
        have h1 : (a :: b :: r).length = r.length + 2 := rfl
        have h2 : (b :: r).length = r.length + 1 := rfl
        omega
      rw [e, List.eraseIdx_cons_succ, ih]
      all_goals rfl
theorem foldl_rep (its : List Value) : ∀ (k : Nat) (acc : List Value),
    List.foldl (fun x1 x2 => x1 ++ x2) acc.toArray (List.replicate k its.toArray) = (acc ++ (List.replicate k its).flatten).toArray
  | 0, acc => by simp
  | k + 1, acc => by
    have e : acc.toArray ++ its.toArray = (acc ++ its).toArray := by simp
    have e2 : (acc ++ its) ++ (List.replicate k its).flatten = acc ++ (List.replicate (k + 1) its).flatten := by
      rw [List.replicate_succ, List.flatten_cons, List.append_assoc]
    rw [← e2, ← foldl_rep its k (acc ++ its), ← e, List.replicate_succ, List.foldl_cons]

section
variable {X : Cx} {pins : List (Addr × Obj)} {σ : St} {H : Hp} {s : Shared} {l b : Addr} {xs ys zs : List V}

/-! ### the two steps: a tracked list is rewritten, a new list is laid -/
theorem Inv.lset {its its' : List Value} {n : Nat} {f : Array Value → Array Value} {t' : Nat} (I : Inv X pins σ H s) (hH : H l = some (.lst xs))
    (e : s.heap.get? l = some { cls := .type "list", data := .seq its.toArray n }) (hf : f its.toArray = its'.toArray) (hv : Vals ys its') (hz : ys.length ≤ sizeLine) :
    Inv X pins σ (upd H l (.lst ys)) { s with heap := s.heap.update l (Obj.mapSeq f), toks := t' } := by
  have q := PySem.IsL.update e f
  rw [hf] at q
  refine I.write (x := l) (e := l) (by rw [hH]; exact trivial) (.inl rfl) (fun b' u hb hu => (Heap.get?_update_other s.heap (Obj.mapSeq f) (Ne.symm hb)).trans hu) ⟨_, q⟩ ?_
  exact ⟨hz, its', _, hv, q⟩
theorem Inv.lnew {its : List Value} {t' : Nat} (I : Inv X pins σ H s) (hv : Vals ys its) (hz : ys.length ≤ sizeLine) :
    Inv X pins σ (upd H s.heap.objs.size (.lst ys)) { s with heap := s.heap.push { cls := .type "list", data := .seq its.toArray }, toks := t' } :=
  I.laid (fun _ _ q => Heap.get?_push_of_some _ q) (Nat.le_refl _) ⟨hz, its, 0, hv, Heap.get?_push_size _ rfl⟩
theorem Inv.fresh (I : Inv X pins σ H s) : H s.heap.objs.size = none := I.hok.fresh (Nat.le_refl _)
theorem Inv.lstM (I : Inv X pins σ H s) (hH : H l = some (.lst xs)) : xs.length ≤ sizeLine ∧ ∃ (its : List Value) (n : Nat), Vals xs its ∧ xs.length = its.length ∧ s.heap.get? l = some { cls := .type "list", data := .seq its.toArray n } := by
  obtain ⟨z, its, n, r, e⟩ := I.hok l _ hH
  exact ⟨z, its, n, r, r.length, e⟩

theorem notLongL {n : Nat} (h : n ≤ sizeLine) : Builtin.List.listTooLong n = false := by
  unfold Builtin.List.listTooLong
  exact decide_eq_false (by omega)
end

section
variable {X : Cx}

/-! ### methods -/
def rAppend : V → List V → Hp → VK → Prop := fun x vs H Q => ∃ l xs y, x = .ref l ∧ vs = [y] ∧ H l = some (.lst xs) ∧ xs.length < sizeLine ∧ Q .non (upd H l (.lst (xs ++ [y])))
theorem mt_append : MtM X "list.append" rAppend := by
  intro pins s σ H x vs v us Q I rx rv h
  obtain ⟨l, xs, y, rfl, rfl, hH, hz, q⟩ := h
  cases rx
  obtain ⟨u, rfl, ru⟩ := rv.one
  obtain ⟨z, its, n, r, hl, e⟩ := I.lstM hH
  refine call_meets F.slot_list_append ⟨_, e, rfl⟩ F.entry_list_append (F.args_list_append_2 _ _) (PySem.list_append l its.toArray n u (by rw [List.size_toArray]; omega)) ⟨e, ?_⟩
  refine ⟨.non, _, I.lset (its' := its ++ [u]) hH e (by simp) (r.append (.cons ru .nil)) ?_, rfl, q⟩
  rw [List.length_append, List.length_singleton]
  omega

def rExtend : V → List V → Hp → VK → Prop := fun x vs H Q => ∃ l b xs zs, x = .ref l ∧ vs = [.ref b] ∧ H l = some (.lst xs) ∧ H b = some (.lst zs) ∧ xs.length + zs.length ≤ sizeLine ∧ Q .non (upd H l (.lst (xs ++ zs)))

def rPop : V → List V → Hp → VK → Prop := fun x vs H Q => ∃ l xs y, x = .ref l ∧ vs = [] ∧ H l = some (.lst xs) ∧ xs[xs.length - 1]? = some y ∧ Q y (upd H l (.lst xs.dropLast))
theorem mt_pop : MtM X "list.pop" rPop := by
  intro pins s σ H x vs v us Q I rx rv h
  obtain ⟨l, xs, y, rfl, rfl, hH, hy, q⟩ := h
  cases rx
  have hus := rv.zero
  subst hus
  obtain ⟨z, its, n, r, hl, e⟩ := I.lstM hH
  obtain ⟨u, hu, ru⟩ := r.get hy
  have hy' : its.toArray[its.toArray.size - 1]? = some u := by
    show its.toArray[its.length - 1]? = some u
    rw [← Array.getElem?_toList, ← hl]
    exact hu
  refine call_meets F.slot_list_pop ⟨_, e, rfl⟩ F.entry_list_pop (F.args_list_pop_1 _) (MeetsSeq.list_pop_last l its.toArray n u hy' (by rw [List.size_toArray]; omega)) ⟨e, ?_⟩
  refine ⟨y, _, I.lset (its' := its.dropLast) hH e ?_ r.dropLast ?_, ru, q⟩
  · show its.toArray.eraseIdxIfInBounds (its.toArray.size - 1) = its.dropLast.toArray
    rw [List.size_toArray, List.eraseIdxIfInBounds_toArray, erase_last]
  · rw [List.length_dropLast]
    omega

def rPopAt : V → List V → Hp → VK → Prop := fun x vs H Q => ∃ l xs i k y, x = .ref l ∧ vs = [.int i] ∧ H l = some (.lst xs) ∧ -(2 ^ 63) ≤ i ∧ i < 2 ^ 63 ∧ seqIndex? i xs.length = some k ∧ xs[k]? = some y ∧ Q y (upd H l (.lst (xs.eraseIdx k)))

def rReverse : V → List V → Hp → VK → Prop := fun x vs H Q => ∃ l xs, x = .ref l ∧ vs = [] ∧ H l = some (.lst xs) ∧ Q .non (upd H l (.lst xs.reverse))

def rClear : V → List V → Hp → VK → Prop := fun x vs H Q => ∃ l xs, x = .ref l ∧ vs = [] ∧ H l = some (.lst xs) ∧ Q .non (upd H l (.lst []))

/-! ### list + list, list += list, list * int -/
def rCat : R2 := fun x y H Q => ∃ l b xs zs, x = .ref l ∧ y = .ref b ∧ H l = some (.lst xs) ∧ H b = some (.lst zs) ∧ xs.length + zs.length ≤ sizeLine ∧ ∀ p, H p = none → Q (.ref p) (upd H p (.lst (xs ++ zs)))
theorem op_cat : OpR X (binaryOp .Add) rCat := by
  intro pins s σ H x y v u Q I rx ry h
  obtain ⟨l, b, xs, zs, rfl, rfl, hH, hB, hz, q⟩ := h
  cases rx
  cases ry
  obtain ⟨z, its, n, r, hl, e⟩ := I.lstM hH
  obtain ⟨z2, its2, n2, r2, hl2, e2⟩ := I.lstM hB
  refine PySem.P.add_list e e2 ?_ (by rw [List.size_toArray, List.size_toArray]; omega)
  have ea : its.toArray ++ its2.toArray = (its ++ its2).toArray := by simp
  rw [ea]
  exact ⟨.ref _, _, I.lnew (t' := s.toks) (r.append r2) (by rw [List.length_append]; omega), rfl, q _ I.fresh⟩
/-- a list times an int (a negative one is nothing) -/
def rRep : R2 := fun x y H Q => ∃ l k xs, x = .ref l ∧ y = .int k ∧ H l = some (.lst xs) ∧ -(2 ^ 63) ≤ k ∧ k < 2 ^ 63 ∧ xs.length * k.toNat ≤ sizeLine ∧
  ∀ p, H p = none → Q (.ref p) (upd H p (.lst (List.replicate k.toNat xs).flatten))
theorem len_rep {α : Type} (xs : List α) (k : Nat) : (List.replicate k xs).flatten.length = k * xs.length := by
  induction k with
  | zero => simp
  | succ k ih => rw [List.replicate_succ, List.flatten_cons, List.length_append, ih, Nat.succ_mul, Nat.add_comm]
theorem op_rep : OpR X (binaryOp .Mult) rRep := by
  intro pins s σ H x y v u Q I rx ry h
  obtain ⟨l, k, xs, rfl, rfl, hH, h1, h2, hz, q⟩ := h
  cases rx
  obtain ⟨t, rfl⟩ := ry
  obtain ⟨z, its, n, r, hl, e⟩ := I.lstM hH
  have hlen : its.toArray.size * k.toNat ≤ sizeLine := by rw [List.size_toArray, ← hl]; exact hz
  have hcap : ¬ its.toArray.size * k.toNat > (2 ^ 63 - 1) / 8 := by
    have : (sizeLine : Nat) ≤ (2 ^ 63 - 1) / 8 := by decide
    omega
  have hfit : ¬ (!Builtin.List.listFitsIndex k) = true := by
    rw [fitsIndex_both h1 h2]
    exact Bool.false_ne_true
  have hlong : ¬ Builtin.List.listTooLong (its.toArray.size * k.toNat) = true := by
    rw [notLongL hlen]
    exact Bool.false_ne_true
  have hnew : List.foldl (fun x1 x2 => x1 ++ x2) #[] (List.replicate (if its.toArray.isEmpty = true then 0 else k.toNat) its.toArray) = (List.replicate k.toNat its).flatten.toArray := by
    have f0 : ∀ m : Nat, List.foldl (fun x1 x2 => x1 ++ x2) #[] (List.replicate m its.toArray) = (List.replicate m its).flatten.toArray := fun m => by
      have := foldl_rep its m []
      rw [List.nil_append] at this
      exact this
    rw [f0]
    cases its with
    | nil => simp
    | cons a r' => rw [if_neg (by simp)]
  refine wpAny_binaryOp_repeat_ref (T := "list") (U := "int") (by decide) ⟨_, e, rfl⟩ (fun s' => typeIs_int s' k t) noFill_list_mul F.fills_int_mul F.slot_int_rmul repeat_list F.slot_int_index.lookup
    (call_meets F.slot_int_rmul (typeIs_int s k t) F.entry_int_rmul (F.args_int_rmul_2 _ _) (int___rmul___int_list k t l its.toArray n)
      ⟨e, rfl, ⟨_, e, rfl⟩, call_meets F.slot_list_mul ⟨_, e, rfl⟩ F.entry_list_mul (F.args_list_mul_2 _ _) (AutoListH.list___mul___list_int_3 l its.toArray n k t hfit hcap hlong) ⟨e, ?_⟩⟩)
  rw [hnew]
  exact ⟨.ref _, _, I.lnew (t' := s.toks) (r.rep k.toNat) (by rw [len_rep, Nat.mul_comm]; exact hz), rfl, q _ I.fresh⟩

/-! ### del xs[i] -/
end

/-! ### xs[a:b] = ys -/
section
variable {prog : Program} {w : World} {A : Around} {E : Value → Shared → Prop} {s : Shared}
end

section
variable {X : Cx}
end
end L2

namespace L2
open PySem PySem.Spec PyProof.Rows

/-! ### lists of pairs as tables -/
section
variable {κ : Type} [DecidableEq κ]
def valV (kvs : List (κ × V)) (k : κ) : Option V := (kvs.find? fun kv => decide (kv.1 = k)).map (·.2)
/-- in its place, or at the end -/
def putK (kvs : List (κ × V)) (k : κ) (v : V) : List (κ × V) :=
  if (kvs.any fun kv => decide (kv.1 = k)) = true then kvs.map (fun kv => if kv.1 = k then (kv.1, v) else kv) else kvs ++ [(k, v)]
def dropK (kvs : List (κ × V)) (k : κ) : List (κ × V) := kvs.filter fun kv => decide (kv.1 ≠ k)

theorem valV_pos {p : κ × V} {r : List (κ × V)} {k : κ} (e : p.1 = k) : valV (p :: r) k = some p.2 := by simp [valV, List.find?_cons, e]
theorem valV_neg {p : κ × V} {r : List (κ × V)} {k : κ} (e : ¬ p.1 = k) : valV (p :: r) k = valV r k := by simp [valV, List.find?_cons, e]
theorem valV_any (k : κ) : ∀ kvs : List (κ × V), (kvs.any fun kv => decide (kv.1 = k)) = (valV kvs k).isSome
  | [] => rfl
  | p :: r => by
    rw [List.any_cons]
    by_cases e : p.1 = k
    · simp only [valV_pos e, decide_eq_true e, Bool.true_or, Option.isSome_some]
    · rw [valV_neg e, decide_eq_false e, Bool.false_or]; exact valV_any k r
theorem length_putK (kvs : List (κ × V)) (k : κ) (v : V) : (putK kvs k v).length ≤ kvs.length + 1 := by
  unfold putK
  split
  · rw [List.length_map]; omega
  · rw [List.length_append, List.length_cons, List.length_nil]; omega

theorem RelO.isSome_eq {o : Option V} {u : Option Value} (r : RelO o u) : o.isSome = u.isSome := by
  cases o with
  | none => cases u with
    | none => rfl
    | some _ => exact (show False from r).elim
  | some _ => cases u with
    | none => exact (show False from r).elim
    | some _ => rfl
theorem RelO.getD {o : Option V} {u : Option Value} {d : V} {d' : Value} (r : RelO o u) (rd : RelV d d') : RelV (o.getD d) (u.getD d') := by
  cases o with
  | none => cases u with
    | none => exact rd
    | some _ => exact (show False from r).elim
  | some _ => cases u with
    | none => exact (show False from r).elim
    | some _ => exact r

/-- raw tables of the same keys -/
theorem KV.val {kvs : List (κ × V)} {vs : List (κ × Value)} (r : KV kvs vs) (k : κ) : RelO (valV kvs k) (valueAt vs k) := by
  unfold KV at r
  induction r with
  | nil => exact True.intro
  | @cons p q ps qs h t ih =>
    obtain ⟨h1, h2⟩ := h
    by_cases e : p.1 = k
    · have e' : q.1 = k := h1.symm.trans e
      have b : valueAt (q :: qs) k = some q.2 := by simp [valueAt, List.find?_cons, e']
      rw [valV_pos e, b]; exact h2
    · have e' : ¬ q.1 = k := fun z => e (h1.trans z)
      have b : valueAt (q :: qs) k = valueAt qs k := by simp [valueAt, List.find?_cons, e']
      rw [valV_neg e, b]; exact ih
theorem KV.any {kvs : List (κ × V)} {vs : List (κ × Value)} (r : KV kvs vs) (k : κ) : (kvs.any fun kv => decide (kv.1 = k)) = vs.any fun kv => decide (kv.1 = k) := by
  unfold KV at r
  induction r with
  | nil => rfl
  | cons h t ih => rw [List.any_cons, List.any_cons, ih, h.1]
theorem KV.repl {kvs : List (κ × V)} {vs : List (κ × Value)} (r : KV kvs vs) (k : κ) {y : V} {u : Value} (ry : RelV y u) :
    KV (kvs.map fun kv => if kv.1 = k then (kv.1, y) else kv) (vs.map fun kv => if kv.1 = k then (kv.1, u) else kv) := by
  unfold KV at r ⊢
  induction r with
  | nil => exact .nil
  | @cons p q ps qs h t ih =>
    rw [List.map_cons, List.map_cons]
    refine .cons ?_ ih
    obtain ⟨h1, h2⟩ := h
    by_cases e : p.1 = k
    · rw [if_pos e, if_pos (h1.symm.trans e)]; exact ⟨h1, ry⟩
    · rw [if_neg e, if_neg (fun z => e (h1.trans z))]; exact ⟨h1, h2⟩
theorem KV.put {kvs : List (κ × V)} {vs : List (κ × Value)} (r : KV kvs vs) (k : κ) {y : V} {u : Value} (ry : RelV y u) : KV (putK kvs k y) (stored vs k u) := by
  unfold putK stored
  rw [r.any k]
  by_cases e : (vs.any fun kv => decide (kv.1 = k)) = true
  · rw [if_pos e, if_pos e]; exact r.repl k ry
  · rw [if_neg e, if_neg e]; exact Paired.snoc r ⟨rfl, ry⟩
theorem KV.drop {kvs : List (κ × V)} {vs : List (κ × Value)} (r : KV kvs vs) (k : κ) : KV (dropK kvs k) (without vs k) := by
  unfold KV at r ⊢
  unfold dropK without
  induction r with
  | nil => exact .nil
  | @cons p q ps qs h t ih =>
    obtain ⟨h1, h2⟩ := h
    rw [List.filter_cons, List.filter_cons]
    by_cases e : p.1 = k
    · have a : ¬ decide (p.1 ≠ k) = true := by simp [e]
      have b : ¬ decide (q.1 ≠ k) = true := by simp [h1.symm.trans e]
      rw [if_neg a, if_neg b]; exact ih
    · have e' : ¬ q.1 = k := fun z => e (h1.trans z)
      have a : decide (p.1 ≠ k) = true := by simp [e]
      have b : decide (q.1 ≠ k) = true := by simp [e']
      rw [if_pos a, if_pos b]; exact .cons ⟨h1, h2⟩ ih
theorem KV.keys {kvs : List (κ × V)} {vs : List (κ × Value)} (r : KV kvs vs) : kvs.map (·.1) = vs.map (·.1) := by
  unfold KV at r
  induction r with
  | nil => rfl
  | cons h t ih => rw [List.map_cons, List.map_cons, ih, h.1]
theorem KV.length {kvs : List (κ × V)} {vs : List (κ × Value)} (r : KV kvs vs) : kvs.length = vs.length := Paired.length r
theorem dropK_le (kvs : List (κ × V)) (k : κ) : (dropK kvs k).length ≤ kvs.length := List.length_filter_le _ _
end


/-! ### a tracked dict, its keys ints and texts or tuples of these -/
theorem kV_is {P : Program} {w : World} {k : Key} {u : Value} (r : RelV (kV k) u) : (mixKind P w).is k u = true := by
  cases k with
  | inl i => obtain ⟨t, e⟩ := (show ∃ t, u = Value.int i t from r); subst e; exact mixKind_int P w i t
  | inr x => obtain ⟨t, e⟩ := (show ∃ t, u = Value.str x t from r); subst e; exact mixKind_str P w x t
theorem items_are {P : Program} {w : World} : ∀ {ks : List Key} {us : List Value}, Vals (ks.map kV) us → ItemsAre (mixKind P w) ks us
  | [], _, r => by rw [List.map_nil] at r; cases r; exact .nil
  | k :: ks, _, r => by
    rw [List.map_cons] at r
    cases r with
    | cons h t => exact .cons (kV_is h) (items_are t)

/-- raw entries of a dict with tuple keys -/
abbrev KT (H : Hp) : List (List Key × V) → List (List Key × Addr × Value) → Prop := Paired fun p q => p.1 = q.1 ∧ H q.2.1 = some (.tup (p.1.map kV)) ∧ RelV p.2 q.2.2
theorem KT.val {H : Hp} {kvs : List (List Key × V)} {xs : List (List Key × Addr × Value)} (r : KT H kvs xs) (k : List Key) : RelO (valV kvs k) ((atKey xs k).map (·.2)) := by
  induction r with
  | nil => exact True.intro
  | @cons p q ps qs h t ih =>
    obtain ⟨h1, _, h2⟩ := h
    by_cases e : p.1 = k
    · have e' : q.1 = k := h1.symm.trans e
      have b : atKey (q :: qs) k = some q.2 := by simp [atKey, List.find?_cons, e']
      rw [valV_pos e, b]; exact h2
    · have e' : ¬ q.1 = k := fun z => e (h1.trans z)
      have b : atKey (q :: qs) k = atKey qs k := by simp [atKey, List.find?_cons, e']
      rw [valV_neg e, b]; exact ih
theorem KT.repl {H : Hp} {kvs : List (List Key × V)} {xs : List (List Key × Addr × Value)} (r : KT H kvs xs) (k : List Key) {y : V} {u : Value} (ry : RelV y u) :
    KT H (kvs.map fun kv => if kv.1 = k then (kv.1, y) else kv) (xs.map (putAt k u)) := by
  induction r with
  | nil => exact .nil
  | @cons p q ps qs h t ih =>
    rw [List.map_cons, List.map_cons]
    refine .cons ?_ ih
    obtain ⟨h1, h2, h3⟩ := h
    unfold putAt
    by_cases e : p.1 = k
    · rw [if_pos e, if_pos (h1.symm.trans e)]; exact ⟨h1, h2, ry⟩
    · rw [if_neg e, if_neg (fun z => e (h1.trans z))]; exact ⟨h1, h2, h3⟩
theorem KT.put {H : Hp} {kvs : List (List Key × V)} {xs : List (List Key × Addr × Value)} (r : KT H kvs xs) (k : List Key) {b : Addr} {y : V} {u : Value} (hb : H b = some (.tup (k.map kV))) (ry : RelV y u) :
    KT H (putK kvs k y) (storedH xs k b u) := by
  have e : (kvs.any fun kv => decide (kv.1 = k)) = (atKey xs k).isSome := by
    rw [valV_any, (r.val k).isSome_eq, Option.isSome_map]
  unfold putK storedH
  rw [e]
  by_cases q : (atKey xs k).isSome = true
  · rw [if_pos q, if_pos q]; exact r.repl k ry
  · rw [if_neg q, if_neg q]; exact Paired.snoc r ⟨rfl, hb, ry⟩
theorem KT.keeps {H H' : Hp} {kvs : List (List Key × V)} {xs : List (List Key × Addr × Value)} (r : KT H kvs xs) (ht : ∀ b ys, H b = some (.tup ys) → H' b = some (.tup ys)) : KT H' kvs xs :=
  Paired.mapP r fun _ _ z => ⟨z.1, ht _ _ z.2.1, z.2.2⟩

section
variable {P : Program} {w : World} {H : Hp} {h : Heap} {a : Addr}
theorem rd_of {u : HO} (ok : HOk P w H h) (e : Rd H a u) : ObjOk P w H h a u := e.ok ok
theorem dk_rd {kvs : List (Key × V)} (ok : HOk P w H h) (e : Rd H a (.dK kvs)) : kvs.length ≤ sizeLine ∧ (a == sysModules) = false ∧ ∃ vs, KV kvs vs ∧ h.DictOf (mixKind P w) a vs :=
  show ObjOk P w H h a (.dK kvs) from rd_of ok e
theorem dk_of {kvs : List (Key × V)} (ok : HOk P w H h) (e : H a = some (.dK kvs)) : kvs.length ≤ sizeLine ∧ (a == sysModules) = false ∧ ∃ vs, KV kvs vs ∧ h.DictOf (mixKind P w) a vs := dk_rd ok (.inl e)
/-- a tracked tuple of ints and texts is a key -/
theorem key_of {ks : List Key} (ok : HOk P w H h) (e : H a = some (.tup (ks.map kV))) : (tupleKind (mixKind P w)).is h ks a := by
  obtain ⟨_, its, r, o, h1, h2, n, h3⟩ := (show ObjOk P w H h a (.tup (ks.map kV)) from ok a _ e)
  exact ⟨o, its.toArray, n, h1, h2, h3, by simpa using items_are r⟩
theorem dt_rd {kvs : List (List Key × V)} (ok : HOk P w H h) (e : Rd H a (.dT kvs)) : kvs.length ≤ sizeLine ∧ (a == sysModules) = false ∧
    ∃ xs, KT H kvs xs ∧ h.DictOfH (tupleKind (mixKind P w)) a xs := by
  obtain ⟨z, y, xs, r, o, es, ep, h1, h2, h3, h4, h5⟩ := (show ObjOk P w H h a (.dT kvs) from rd_of ok e)
  refine ⟨z, y, xs, r, o, es, ep, h1, h2, h3, h4, fun x hx => ?_, h5⟩
  have all : ∀ {l : List (List Key × V)} {m : List (List Key × Addr × Value)}, KT H l m → ∀ x ∈ m, (tupleKind (mixKind P w)).is h x.1 x.2.1 := by
    intro l m q
    induction q with
    | nil => intro x hx; exact nomatch hx
    | @cons p q ps qs hq t ih =>
      intro x hx
      rcases List.mem_cons.mp hx with e | hx
      · subst e
        exact key_of ok (by rw [← hq.1]; exact hq.2.1)
      · exact ih x hx
  exact all r x hx
theorem dt_of {kvs : List (List Key × V)} (ok : HOk P w H h) (e : H a = some (.dT kvs)) : kvs.length ≤ sizeLine ∧ (a == sysModules) = false ∧
    ∃ xs, KT H kvs xs ∧ h.DictOfH (tupleKind (mixKind P w)) a xs := dt_rd ok (.inl e)
end

/-- what the dict at a holds at the key y -/
def DGet (H : Hp) (a : Addr) (y : V) (r : Option V) : Prop :=
  (∃ kvs k, Rd H a (.dK kvs) ∧ y = kV k ∧ r = valV kvs k) ∨ ∃ kvs k b, Rd H a (.dT kvs) ∧ y = .ref b ∧ H b = some (.tup (k.map kV)) ∧ r = valV kvs k
/-- the heap behind a[y] = v -/
def DPut (H : Hp) (a : Addr) (y v : V) (H' : Hp) : Prop :=
  (∃ kvs k, H a = some (.dK kvs) ∧ y = kV k ∧ kvs.length < sizeLine ∧ H' = upd H a (.dK (putK kvs k v))) ∨
  ∃ kvs k b, H a = some (.dT kvs) ∧ y = .ref b ∧ H b = some (.tup (k.map kV)) ∧ kvs.length < sizeLine ∧ H' = upd H a (.dT (putK kvs k v))
theorem DGet.k {H : Hp} {a : Addr} {kvs : List (Key × V)} {k : Key} (e : H a = some (.dK kvs)) : DGet H a (kV k) (valV kvs k) := .inl ⟨kvs, k, .inl e, rfl, rfl⟩
theorem DPut.k {H : Hp} {a : Addr} {kvs : List (Key × V)} {k : Key} {v : V} (e : H a = some (.dK kvs)) (hl : kvs.length < sizeLine) : DPut H a (kV k) v (upd H a (.dK (putK kvs k v))) := .inl ⟨kvs, k, e, rfl, hl, rfl⟩


section
variable {X : Cx} {pins : List (Addr × Obj)} {σ : St} {H : Hp} {s : Shared} {a : Addr} {y v : V} {u r : Value} {o : Option V} {A : Around} {E : Value → Shared → Prop}

theorem Inv.big (I : Inv X pins σ H s) : sysModules < s.heap.objs.size := by
  have h : mainGlobals < s.heap.objs.size := (I.mod.glob.keeps I.bk).lt
  exact Nat.lt_trans (by decide) h

/-- d[y], there -/
theorem d_getItem {Q : Value → Shared → Prop} (hu : A.units + 1 < cLine) (I : Inv X pins σ H s) (g : DGet H a y (some v)) (ry : RelV y u) (h : ∀ w' s', Inv X pins σ H s' → RelV v w' → Q w' s') :
    wpAny (model X.prog X.w) A (getItem (.ref a) u) Q E s := by
  rcases g with ⟨kvs, k, e, ey, l⟩ | ⟨kvs, k, b, e, ey, eb, l⟩
  · subst ey
    obtain ⟨z, hd, vs, rel, dd⟩ := dk_rd I.hok e
    obtain ⟨w', hw, rw'⟩ := RelO.some_of (v := v) (o := valueAt vs k) (by rw [l]; exact rel.val k)
    exact wpAny_getItem_of (kV_is ry) dd.mapOf hw (h w' _ (I.tok _) rw')
  · subst ey
    cases (show u = Value.ref b from ry)
    obtain ⟨z, hd, xs, rel, dd⟩ := dt_rd I.hok e
    obtain ⟨w', hw, rw'⟩ := RelO.some_of (v := v) (o := (atKey xs k).map (·.2)) (by rw [l]; exact rel.val k)
    obtain ⟨p, hp, hp2⟩ := Option.map_eq_some_iff.mp hw
    refine wpAny_getItem_heap (tupleKind_room_in1 hu) (key_of I.hok eb) dd hp ?_
    rw [hp2]
    exact h w' _ (I.tok _) rw'
/-- y in d -/
theorem d_in {Q : Value → Shared → Prop} (hu : A.units + 1 < cLine) (I : Inv X pins σ H s) (g : DGet H a y o) (ry : RelV y u) (h : ∀ s', Inv X pins σ H s' → Q (.bool o.isSome) s') :
    wpAny (model X.prog X.w) A (compareOp .In u (.ref a)) Q E s := by
  rcases g with ⟨kvs, k, e, ey, l⟩ | ⟨kvs, k, b, e, ey, eb, l⟩
  · subst ey
    obtain ⟨z, hd, vs, rel, dd⟩ := dk_rd I.hok e
    refine wpAny_in_of (kV_is ry) hd dd.mapOf ?_
    rw [← (rel.val k).isSome_eq, ← l]
    exact h _ (I.tok _)
  · subst ey
    cases (show u = Value.ref b from ry)
    obtain ⟨z, hd, xs, rel, dd⟩ := dt_rd I.hok e
    refine wpAny_in_heap (tupleKind_room_in1 hu) (key_of I.hok eb) hd dd ?_
    have q := (rel.val k).isSome_eq
    rw [Option.isSome_map] at q
    rw [← q, ← l]
    exact h _ (I.tok _)
theorem d_notIn {Q : Value → Shared → Prop} (hu : A.units + 1 < cLine) (I : Inv X pins σ H s) (g : DGet H a y o) (ry : RelV y u) (h : ∀ s', Inv X pins σ H s' → Q (.bool (!o.isSome)) s') :
    wpAny (model X.prog X.w) A (compareOp .NotIn u (.ref a)) Q E s := by
  rcases g with ⟨kvs, k, e, ey, l⟩ | ⟨kvs, k, b, e, ey, eb, l⟩
  · subst ey
    obtain ⟨z, hd, vs, rel, dd⟩ := dk_rd I.hok e
    refine wpAny_notIn_of (kV_is ry) hd dd.mapOf ?_
    rw [← (rel.val k).isSome_eq, ← l]
    exact h _ (I.tok _)
  · subst ey
    cases (show u = Value.ref b from ry)
    obtain ⟨z, hd, xs, rel, dd⟩ := dt_rd I.hok e
    refine wpAny_notIn_heap (tupleKind_room_in1 hu) (key_of I.hok eb) hd dd ?_
    have q := (rel.val k).isSome_eq
    rw [Option.isSome_map] at q
    rw [← q, ← l]
    exact h _ (I.tok _)
/-- a dict's object is replaced -/
theorem d_write {h' : Heap} {t' : Nat} {ob : HO} (I : Inv X pins σ H s) (mu : Mut (H a)) (hs : Heap.SameBut a s.heap h') (he : ∃ q, h'.get? a = some q) (new : ObjOk X.prog X.w (upd H a ob) h' a ob) :
    Inv X pins σ (upd H a ob) { s with heap := h', toks := t' } :=
  I.write (x := a) (e := a) mu (.inl rfl) (fun b q hb z => (hs.2 b hb).trans z) he new
theorem dk_new {P : Program} {w : World} {H' : Hp} {h' : Heap} {kvs : List (Key × V)} {vs : List (Key × Value)} (z : kvs.length ≤ sizeLine) (hd : (a == sysModules) = false) (rel : KV kvs vs) (dd : h'.DictOf (mixKind P w) a vs) :
    ObjOk P w H' h' a (.dK kvs) := ⟨z, hd, vs, rel, dd⟩
/-- d[y] = v -/
theorem d_setItem {H' : Hp} {Q : Unit → Shared → Prop} (hu : A.units + 1 < cLine) (I : Inv X pins σ H s) (g : DPut H a y v H') (ry : RelV y u) (rv : RelV v r) (h : ∀ s', Inv X pins σ H' s' → Q () s') :
    wpAny (model X.prog X.w) A (setItem (.ref a) u r) Q E s := by
  rcases g with ⟨kvs, k, e, ey, l, eH⟩ | ⟨kvs, k, b, e, ey, eb, l, eH⟩
  · subst ey eH
    obtain ⟨z, hd, vs, rel, dd⟩ := dk_of I.hok e
    have hz : vs.length ≤ sizeLine := by rw [← rel.length]; exact z
    have hl : (putK kvs k v).length ≤ sizeLine := by have := length_putK kvs k v; omega
    refine wpAny_setItem_pairs (hsz := hz) (kV_is ry) dd fun h' dd' hs => h _ ?_
    have he : ∃ q, h'.get? a = some q := let ⟨q, _, _, hq, _⟩ := dd'; ⟨q, hq⟩
    exact d_write I (by rw [e]; exact True.intro) hs he (dk_new hl hd (rel.put k rv) dd')
  · subst ey eH
    cases (show u = Value.ref b from ry)
    obtain ⟨z, hd, xs, rel, dd⟩ := dt_of I.hok e
    have hz : xs.length ≤ sizeLine := by rw [← Paired.length rel]; exact z
    have hl : (putK kvs k v).length ≤ sizeLine := by have := length_putK kvs k v; omega
    refine wpAny_setItem_heap (hsz := hz) (tupleKind_room_in1 hu) (key_of I.hok eb) dd fun h' dd' hs => h _ ?_
    obtain ⟨q, es, ep, hq, h2, h3, h4, _, h5⟩ := dd'
    refine d_write I (by rw [e]; exact True.intro) hs ⟨q, hq⟩ ⟨hl, hd, _, (rel.put k eb rv).keeps fun c ys ec => ?_, q, es, ep, hq, h2, h3, h4, h5⟩
    rw [upd_ne (ne_of ec e (fun z => nomatch z))]
    exact ec
end

section
variable {X : Cx} {pins : List (Addr × Obj)} {σ : St} {H : Hp} {s : Shared} {a : Addr} {kvs : List (Key × V)} {k : Key} {u : Value} {A : Around} {E : Value → Shared → Prop}
/-- d.pop(k[, x]), there -/
theorem d_pop {v : V} {more : List Value} {Q : Value → Shared → Prop} (I : Inv X pins σ H s) (e : H a = some (.dK kvs)) (ry : RelV (kV k) u) (l : valV kvs k = some v) (hm : more = [] ∨ ∃ x, more = [x])
    (h : ∀ w' s', Inv X pins σ (upd H a (.dK (dropK kvs k))) s' → RelV v w' → Q w' s') : wpAny (model X.prog X.w) A (call (.builtin "dict.pop") (.ref a :: u :: more)) Q E s := by
  obtain ⟨z, hd, vs, rel, dd⟩ := dk_of I.hok e
  obtain ⟨w', hw, rw'⟩ := RelO.some_of (v := v) (o := valueAt vs k) (by rw [← l]; exact rel.val k)
  have hp : (keyPart u).isSome = true := by
    cases k with
    | inl i => obtain ⟨t, q⟩ := (show ∃ t, u = Value.int i t from ry); subst q; rfl
    | inr x => obtain ⟨t, q⟩ := (show ∃ t, u = Value.str x t from ry); subst q; rfl
  have ha : argsOk "dict.pop" ⟨.ref a :: u :: more, []⟩ := by
    rcases hm with q | ⟨x, q⟩
    · subst q; exact PySem.F.args_dict_pop_2 _ _
    · subst q; exact PySem.F.args_dict_pop_3 _ _ _
  refine call_meetsIn PySem.F.slot_dict_pop dd.typeIs PySem.F.entry_dict_pop ha (meets_dict_pop_there (mixKind X.prog X.w) a (kV_is ry) more hm hp)
    ⟨vs, w', dd, by rw [← rel.length]; exact z, hw, fun h' dd' hs => h w' _ ?_ rw'⟩
  have he : ∃ q, h'.get? a = some q := let ⟨q, _, _, hq, _⟩ := dd'; ⟨q, hq⟩
  exact d_write I (by rw [e]; exact True.intro) hs he (dk_new (Nat.le_trans (dropK_le kvs k) z) hd (rel.drop k) dd')
end


/-! ### readings and rules -/
/-- the element of a subscription, not a slice -/
def NoSl (i : Expr) : Prop := ∀ ov iv, subscripted i false ov iv = operate [ov, iv] (getItem ov iv)
theorem subD_of {prog : Program} {w : World} {A : Around} {E : Value → Shared → Prop} {s : Shared} {env : Env} {value slice : Expr} {pos : Pos} {T id : String} {Q : Value → Shared → Prop}
    (hl : typeLookup (.type T) "__getitem__" = pure (some (.builtin id))) (hs : NoSl slice)
    (h : wpAny (model prog w) A (eval value env) (fun o s₁ => wpAny (model prog w) A (eval slice env) (fun i s₂ => s₂.TypeIs o T ∧ wpAny (model prog w) A (getItem o i) Q E s₂) E s₁) E s) :
    wpAny (model prog w) A (eval (.Subscript value slice pos) env) Q E s := by
  refine Subscript_ (wpAny_mono h (fun o s₁ h₁ => wpAny_mono h₁ (fun i s₂ h₂ => ?_) fun _ _ x => x) fun _ _ x => x)
  obtain ⟨hT, h₂⟩ := h₂
  unfold subscriptTail
  refine wpAny_bind ?_
  rw [getitemInPython_of_ne hT.not_modules]
  refine wpAny_bind (wpAny_specialOf hT hl ?_)
  have fin : wpAny (model prog w) A (subscripted slice false o i) (fun r s₃ => wpAny (model prog w) A (letTemporaryGo value o r >>= fun _ => pure r) Q E s₃) E s₂ := by
    rw [hs o i]
    exact wpAny_operating (wpAny_mono h₂ (fun r s₃ h₃ => wpAny_bind (wpAny_letTemporaryGo (wpAny_pure h₃))) fun _ _ x => x)
  first
    | exact wpAny_pure (wpAny_bind fin)
    | exact wpAny_bind (wpAny_pure (wpAny_bind fin))
    | exact wpAny_bind fin

theorem dict_typeIs {X : Cx} {pins : List (Addr × Obj)} {σ : St} {H : Hp} {s : Shared} {a : Addr} {y : V} {o : Option V} (I : Inv X pins σ H s) (g : DGet H a y o) : s.TypeIs (.ref a) "dict" := by
  rcases g with ⟨kvs, k, e, _, _⟩ | ⟨kvs, k, b, e, _, _, _⟩
  · obtain ⟨_, _, vs, _, dd⟩ := dk_rd I.hok e
    exact dd.typeIs
  · obtain ⟨_, _, xs, _, dd⟩ := dt_rd I.hok e
    exact dd.typeIs

/-- d[y] -/
def tDGet (td ty : TE) : TE := fun σ H Q => td σ H fun x H1 => ty σ H1 fun y H2 => ∃ a v, x = .ref a ∧ DGet H2 a y (some v) ∧ Q v H2
/-- y in d, y not in d -/
def tDIn (ty td : TE) : TE := fun σ H Q => ty σ H fun y H1 => td σ H1 fun x H2 => ∃ a o, x = .ref a ∧ DGet H2 a y o ∧ Q (.bl o.isSome) H2
def tDNotIn (ty td : TE) : TE := fun σ H Q => ty σ H fun y H1 => td σ H1 fun x H2 => ∃ a o, x = .ref a ∧ DGet H2 a y o ∧ Q (.bl (!o.isSome)) H2
/-- d[y] = v -/
def sDPut (td ty tv : TE) : TS := fun D σ H => tv σ H fun v H1 => td σ H1 fun x H2 => ty σ H2 fun y H3 => ∃ a H4, x = .ref a ∧ DPut H3 a y v H4 ∧ D.nx σ H4
/-- d[y] op= v -/
def sDAug (td ty tv : TE) (rd : V → V → Hp → VK → Prop) : TS := fun D σ H => td σ H fun x H1 => ty σ H1 fun y H2 => ∃ a v, x = .ref a ∧ DGet H2 a y (some v) ∧
  tv σ H2 fun y2 H3 => rd v y2 H3 fun z H4 => ∃ H5, DPut H4 a y z H5 ∧ D.nx σ H5
/-- del d[y] -/
def sDDel (td ty : TE) : TS := fun D σ H => td σ H fun x H1 => ty σ H1 fun y H2 => ∃ a kvs k, x = .ref a ∧ H2 a = some (.dK kvs) ∧ y = kV k ∧ (valV kvs k).isSome = true ∧ D.nx σ (upd H2 a (.dK (dropK kvs k)))

section
variable {X : Cx} {o i e value : Expr} {pos pos' tpos : Pos} {td ty tv : TE}
theorem pe_dget (hu : X.A.units + 1 < cLine) (ho : PE X o td) (hi : PE X i ty) (hs : NoSl i) : PE X (.Subscript o i pos) (tDGet td ty) := by
  intro pins s σ H Q I h
  refine subD_of PySem.F.slot_dict_getitem.lookup hs (thn (ho pins s σ H _ I h) fun u s1 ⟨x, H1, I1, rx, q1⟩ => thn (hi pins s1 σ H1 _ I1 q1) fun iv s2 ⟨y, H2, I2, ry, a, v, ex, g, q2⟩ => ?_)
  subst ex
  obtain rfl : u = Value.ref a := rx
  exact ⟨dict_typeIs I2 g, d_getItem hu I2 g ry fun w' s3 I3 rw' => ⟨v, H2, I3, rw', q2⟩⟩
theorem pc_din (hu : X.A.units + 1 < cLine) (hi : PE X i ty) (ho : PE X o td) : PC X .In i o (tDIn ty td) := by
  intro pins s σ H Q I h
  refine thn (hi pins s σ H _ I h) fun iv s1 ⟨y, H1, I1, ry, q1⟩ => thn (ho pins s1 σ H1 _ I1 q1) fun u s2 ⟨x, H2, I2, rx, a, ov, ex, g, q2⟩ => ?_
  subst ex
  obtain rfl : u = Value.ref a := rx
  exact d_in hu I2 g ry fun s3 I3 => ⟨.bl ov.isSome, H2, I3, rfl, q2⟩
theorem pc_dnotin (hu : X.A.units + 1 < cLine) (hi : PE X i ty) (ho : PE X o td) : PC X .NotIn i o (tDNotIn ty td) := by
  intro pins s σ H Q I h
  refine thn (hi pins s σ H _ I h) fun iv s1 ⟨y, H1, I1, ry, q1⟩ => thn (ho pins s1 σ H1 _ I1 q1) fun u s2 ⟨x, H2, I2, rx, a, ov, ex, g, q2⟩ => ?_
  subst ex
  obtain rfl : u = Value.ref a := rx
  exact d_notIn hu I2 g ry fun s3 I3 => ⟨.bl (!ov.isSome), H2, I3, rfl, q2⟩
theorem ps_dput (hu : X.A.units + 1 < cLine) (ho : PE X o td) (hi : PE X i ty) (hv : PE X value tv) (hs : swapsWith value (some (.Subscript o i pos')) pos.line X.env = pure false) :
    PS X (.Assign [.Subscript o i pos'] value pos) (sDPut td ty tv) := by
  intro pins s σ H D I h
  refine wpAny_Assign_Subscript (thn (hv pins s σ H _ I h) fun r s1 ⟨v, H1, I1, rv, q1⟩ => thn (ho pins s1 σ H1 _ I1 q1) fun u s2 ⟨x, H2, I2, rx, q2⟩ => thn (hi pins s2 σ H2 _ I2 q2) fun iv s3 ⟨y, H3, I3, ry, a, H4, ex, g, q3⟩ => ?_) hs
  subst ex
  obtain rfl : u = Value.ref a := rx
  exact d_setItem hu I3 g ry rv fun s4 I4 => ⟨σ, H4, I4, q3⟩
end


/-! ### displays -/
theorem dk_empty {P : Program} {w : World} {H : Hp} (h : Heap) (hb : sysModules < h.objs.size) : ObjOk P w H (h.push { cls := .type "dict", data := .dict #[] }) h.objs.size (.dK []) :=
  ⟨Nat.zero_le _, beq_eq_false_iff_ne.mpr (Ne.symm (Nat.ne_of_lt hb)), [], .nil, Heap.DictOf.new h⟩
/-- {}, to be a dict of the kind that is wanted -/
def tDNewK : TE := fun _ H Q => ∀ p, H p = none → Q (.ref p) (upd H p (.dK []))
def tDNewT : TE := fun _ H Q => ∀ p, H p = none → Q (.ref p) (upd H p (.dT []))
section
variable {X : Cx} {pos : Pos}
theorem pe_dnewK : PE X (.Dict [] [] pos) tDNewK := fun pins s σ H Q I h =>
  wpAny_Dict_empty ⟨.ref s.heap.objs.size, _, I.laid (a := s.heap.objs.size) (o := .dK []) (t' := s.toks) (fun _ _ q => Heap.get?_push_of_some _ q) (Nat.le_refl _) (dk_empty s.heap I.big), rfl, h _ (I.hok.fresh (Nat.le_refl _))⟩
end

/-- the pairs of a display, from the left -/
def tPairs : List (TE × TE) → St → Hp → (List (V × V) → Hp → Prop) → Prop
  | [], _, H, Q => Q [] H
  | (tk, tv) :: r, σ, H, Q => tk σ H fun x H1 => tv σ H1 fun y H2 => tPairs r σ H2 fun ps H3 => Q ((x, y) :: ps) H3
abbrev VV : List (V × V) → List (Value × Value) → Prop := Paired fun p q => RelV p.1 q.1 ∧ RelV p.2 q.2
def PPs (X : Cx) (pos : Pos) (keys : List (Option Expr)) (values : List Expr) (trs : List (TE × TE)) : Prop :=
  ∀ (pins : List (Addr × Obj)) (s : Shared) (σ : St) (H : Hp) (Q : List (V × V) → Hp → Prop), Inv X pins σ H s → tPairs trs σ H Q →
    wpAny (model X.prog X.w) X.A (evalPairs (pairTrees keys values X.env pos)) (fun vs s' => ∃ ps H', Inv X pins σ H' s' ∧ VV ps vs ∧ Q ps H') X.xe s

def mergeK (kvs more : List (Key × V)) : List (Key × V) := more.foldl (fun acc kv => putK acc kv.1 kv.2) kvs
theorem KV.merge : ∀ {more : List (Key × V)} {rs : List (Key × Value)} {kvs : List (Key × V)} {vs : List (Key × Value)}, KV more rs → KV kvs vs → KV (mergeK kvs more) (merged vs rs) := by
  intro more rs kvs vs r
  unfold KV at r
  induction r generalizing kvs vs with
  | nil => intro q; exact q
  | @cons p q ps qs h t ih =>
    intro r0
    have e : KV (putK kvs p.1 p.2) (stored vs q.1 q.2) := by
      have := r0.put p.1 h.2
      rw [← h.1]; exact this
    exact ih e
theorem length_mergeK : ∀ (more kvs : List (Key × V)), (mergeK kvs more).length ≤ kvs.length + more.length
  | [], kvs => by show kvs.length ≤ kvs.length + 0; omega
  | p :: r, kvs => by
    have h1 := length_mergeK r (putK kvs p.1 p.2)
    have h2 := length_putK kvs p.1 p.2
    show (mergeK (putK kvs p.1 p.2) r).length ≤ _
    rw [List.length_cons]; omega
/-- {k: v, ..} with keys ints and texts; the new dict stands empty while the pairs are made -/
def tDisp (trs : List (TE × TE)) : TE := fun σ H Q => ∀ p, H p = none → tPairs trs σ (upd H p (.dK [])) fun ps H2 => H2 p = some (.dK []) ∧ ∃ kvs : List (Key × V), ps = kvs.map (fun kv => (kV kv.1, kv.2)) ∧ kvs.length ≤ 15 ∧ Q (.ref p) (upd H2 p (.dK (mergeK [] kvs)))


/-! ### methods -/
/-- a method call o.m(e) of a built-in, with one argument: what must be seen of the text -/
structure M1 (X : Cx) (o : Expr) (m : Str) (apos : Pos) (e : Expr) (cpos : Pos) : Prop where
  base : attributeBase o m X.env (eval o X.env) = eval o X.env
  few : ((backTo cpos (starEach [e] X.env)).all (fun x => !x.1) && (backToKw cpos (keywordEach [] X.env)).all (fun x => x.1.isSome)
    && decide (([e] : List Expr).length + ([] : List Keyword).length + (if ([] : List Keyword).isEmpty then 0 else 1) < 30)) = true
  line : (apos.endLine == cpos.line) = true
  trees : backTo cpos (starEach [e] X.env) = [(false, eval e X.env)]
structure M2 (X : Cx) (o : Expr) (m : Str) (apos : Pos) (e f : Expr) (cpos : Pos) : Prop where
  base : attributeBase o m X.env (eval o X.env) = eval o X.env
  few : ((backTo cpos (starEach [e, f] X.env)).all (fun x => !x.1) && (backToKw cpos (keywordEach [] X.env)).all (fun x => x.1.isSome)
    && decide (([e, f] : List Expr).length + ([] : List Keyword).length + (if ([] : List Keyword).isEmpty then 0 else 1) < 30)) = true
  line : (apos.endLine == cpos.line) = true
  trees : backTo cpos (starEach [e, f] X.env) = [(false, eval e X.env), (false, eval f X.env)]

/-- a is a dict, whatever its keys -/
def IsD (H : Hp) (a : Addr) : Prop := (∃ kvs, Rd H a (.dK kvs)) ∨ ∃ kvs, Rd H a (.dT kvs)
theorem isD_at {X : Cx} {pins : List (Addr × Obj)} {σ : St} {H : Hp} {s : Shared} {a : Addr} (I : Inv X pins σ H s) (d : IsD H a) :
    s.TypeIs (.ref a) "dict" ∧ (∀ b, Value.ref a = .ref b → ∃ ob, s.heap.get? b = some ob ∧ ob.dict = none) ∧ (a == sysModules) = false := by
  rcases d with ⟨kvs, e⟩ | ⟨kvs, e⟩
  · obtain ⟨_, hd, vs, _, dd⟩ := dk_rd I.hok e
    refine ⟨dd.typeIs, fun b q => ?_, hd⟩
    cases q
    obtain ⟨ob, _, _, h1, h2, _⟩ := dd
    exact ⟨ob, h1, h2.2.1⟩
  · obtain ⟨_, hd, xs, _, dd⟩ := dt_rd I.hok e
    refine ⟨dd.typeIs, fun b q => ?_, hd⟩
    cases q
    obtain ⟨ob, _, _, h1, h2, _⟩ := dd
    exact ⟨ob, h1, h2.2.1⟩

section
variable {X : Cx} {pins : List (Addr × Obj)} {σ : St} {H : Hp} {s : Shared} {a : Addr} {y d : V} {u r : Value} {o : Option V} {A : Around} {E : Value → Shared → Prop}
/-- d.get(y) -/
theorem d_get1 {Q : Value → Shared → Prop} (hu : A.units + 1 < cLine) (I : Inv X pins σ H s) (g : DGet H a y o) (ry : RelV y u) (h : ∀ w' s', Inv X pins σ H s' → RelV (o.getD .non) w' → Q w' s') :
    wpAny (model X.prog X.w) A (call (.builtin "dict.get") [.ref a, u]) Q E s := by
  rcases g with ⟨kvs, k, e, ey, l⟩ | ⟨kvs, k, b, e, ey, eb, l⟩
  · subst ey
    obtain ⟨z, hd, vs, rel, dd⟩ := dk_rd I.hok e
    refine call_meetsIn PySem.F.slot_dict_get dd.typeIs PySem.F.entry_dict_get (PySem.F.args_dict_get_2 _ _) (meets_dict_get (mixKind X.prog X.w) a (kV_is ry) hd) ⟨_, dd.mapOf, h _ _ (I.tok _) ?_⟩
    rw [l]
    exact (rel.val k).getD rfl
  · subst ey
    cases (show u = Value.ref b from ry)
    obtain ⟨z, hd, xs, rel, dd⟩ := dt_rd I.hok e
    refine call_meetsIn PySem.F.slot_dict_get dd.typeIs PySem.F.entry_dict_get (PySem.F.args_dict_get_2 _ _) (meetsH_dict_get (tupleKind (mixKind X.prog X.w)) a b hd) ⟨tupleKind_room_in1 hu, k, xs, key_of I.hok eb, dd, h _ _ (I.tok _) ?_⟩
    rw [l]
    exact (rel.val k).getD rfl
end

def tDGet1 (td ty : TE) : TE := fun σ H Q => td σ H fun x H1 => ∃ a, x = .ref a ∧ IsD H1 a ∧ ty σ H1 fun y H2 => ∃ o, DGet H2 a y o ∧ Q (o.getD .non) H2
def tDGet2 (td ty tx : TE) : TE := fun σ H Q => td σ H fun x H1 => ∃ a, x = .ref a ∧ IsD H1 a ∧ ty σ H1 fun y H2 => tx σ H2 fun z H3 => ∃ o, DGet H3 a y o ∧ Q (o.getD z) H3
/-- d.pop(k): there; d.pop(k, x): there or not -/
def tDPop1 (td ty : TE) : TE := fun σ H Q => td σ H fun x H1 => ∃ a, x = .ref a ∧ IsD H1 a ∧ ty σ H1 fun y H2 => ∃ kvs k v, H2 a = some (.dK kvs) ∧ y = kV k ∧ valV kvs k = some v ∧ Q v (upd H2 a (.dK (dropK kvs k)))
def tDPop2 (td ty tx : TE) : TE := fun σ H Q => td σ H fun x H1 => ∃ a, x = .ref a ∧ IsD H1 a ∧ ty σ H1 fun y H2 => tx σ H2 fun z H3 => ∃ kvs k, H3 a = some (.dK kvs) ∧ y = kV k ∧
  (∀ v, valV kvs k = some v → Q v (upd H3 a (.dK (dropK kvs k)))) ∧ (valV kvs k = none → Q z H3)
section
variable {X : Cx} {o e f : Expr} {apos cpos : Pos} {td ty tx : TE}
theorem pe_dget1 (hu : X.A.units + 1 < cLine) (ho : PE X o td) (he : PE X e ty) (m : M1 X o "get" apos e cpos) : PE X (.Call (.Attribute o "get" apos) [e] [] cpos) (tDGet1 td ty) := by
  intro pins s σ H Q I h
  refine wpAny_Call_method m.base m.few m.line PySem.F.plainAttrs_dict PySem.F.slot_dict_get PySem.F.type_dict_get (thn (ho pins s σ H _ I h) fun u s1 ⟨x, H1, I1, rx, a, ex, d, q1⟩ => ?_)
  subst ex
  obtain rfl : u = Value.ref a := rx
  obtain ⟨t1, t2, _⟩ := isD_at I1 d
  refine ⟨t1, t2, ?_⟩
  rw [m.trees]
  refine Calls.callWith_builtin rfl (Calls.evalArgs_plain (Calls.spliced_cons (thn (he pins s1 σ H1 _ I1 q1) fun iv s2 ⟨y, H2, I2, ry, ov, g, q2⟩ => Calls.spliced_nil ?_)))
  exact d_get1 hu I2 g ry fun w' s3 I3 rw' => ⟨_, H2, I3, rw', q2⟩
theorem pe_dpop1 (ho : PE X o td) (he : PE X e ty) (m : M1 X o "pop" apos e cpos) : PE X (.Call (.Attribute o "pop" apos) [e] [] cpos) (tDPop1 td ty) := by
  intro pins s σ H Q I h
  refine wpAny_Call_method m.base m.few m.line PySem.F.plainAttrs_dict PySem.F.slot_dict_pop PySem.F.type_dict_pop (thn (ho pins s σ H _ I h) fun u s1 ⟨x, H1, I1, rx, a, ex, d, q1⟩ => ?_)
  subst ex
  obtain rfl : u = Value.ref a := rx
  obtain ⟨t1, t2, _⟩ := isD_at I1 d
  refine ⟨t1, t2, ?_⟩
  rw [m.trees]
  refine Calls.callWith_builtin rfl (Calls.evalArgs_plain (Calls.spliced_cons (thn (he pins s1 σ H1 _ I1 q1) fun iv s2 ⟨y, H2, I2, ry, kvs, k, v, ea, ey, l, q2⟩ => Calls.spliced_nil ?_)))
  subst ey
  exact d_pop I2 ea ry l (.inl rfl) fun w' s3 I3 rw' => ⟨v, _, I3, rw', q2⟩
end

/-! ### dict(d): a copy -/
section
variable {X : Cx} {pins : List (Addr × Obj)} {σ : St} {H : Hp} {s : Shared} {a : Addr} {kvs : List (Key × V)} {A : Around} {E : Value → Shared → Prop}
theorem d_copyOf {Q : Value → Shared → Prop} (I : Inv X pins σ H s) (e : Rd H a (.dK kvs)) (h : ∀ p s', H p = none → Inv X pins σ (upd H p (.dK kvs)) s' → Q (.ref p) s') : wpAny (model X.prog X.w) A (call (.type "dict") [.ref a]) Q E s := by
  obtain ⟨z, hd, vs, rel, dd⟩ := dk_rd I.hok e
  refine kt_call_dict hd dd (by rw [← rel.length]; exact z) fun h' dd' hs => ?_
  refine h _ _ (I.hok.fresh (Nat.le_refl _)) (I.laid (a := s.heap.objs.size) (o := .dK kvs) (t' := s.toks) (fun b q hq => ?_) (Nat.le_refl _) (dk_new z (beq_eq_false_iff_ne.mpr (Ne.symm (Nat.ne_of_lt I.big))) rel dd'))
  exact (hs.2 b (Nat.ne_of_lt (Heap.lt_size hq))).trans (Heap.get?_push_of_some _ hq)
end


section
variable {X : Cx} {pins : List (Addr × Obj)} {σ : St} {H : Hp} {s : Shared} {a : Addr} {y : V} {u : Value} {A : Around} {E : Value → Shared → Prop}
end
end L2

namespace Att
open PySem PySem.W PySem.Calls PyProof.Rows

/-! ### the script -/
theorem ints_of_wellAll {P : Params} {h : Heap} : ∀ (ns : List Int) (vs : List Value), WellAll P h vs (ns.map WData.int) → IntsAre vs ns := by
  intro ns
  induction ns with
  | nil =>
    intro vs w
    rw [List.map_nil] at w
    cases w
    exact .nil
  | cons n ns ih =>
    intro vs w
    rw [List.map_cons] at w
    cases w with
    | cons a b =>
      cases a
      exact .cons _ _ (ih _ b)

theorem script_of {l : OpenLaw} {n : Nat} (hn : l.most = some n) {P : Params} {h : Heap} {args : List WData} {vals : List Value}
    (hpre : l.row.toRowW.claim.pre args = true) (hwl : WellAll P h vals args) :
    ∃ a vs ns, vals = [Value.ref a] ∧ args = [WData.list (ns.map WData.int)] ∧ h.get? a = some { cls := .type "list", data := .seq vs.toArray } ∧ IntsAre vs ns ∧ ns.length ≤ n := by
  have hsh : WShape.hasAll [] args [.list .int] = true := (pre_splitW hpre).1
  have hc : l.pre.holds [] { args := args } = true := (pre_splitW hpre).2
  obtain ⟨d, r, rfl, h1, h2⟩ := hasAllW_cons hsh
  obtain rfl := hasAllW_nil h2
  obtain ⟨xs, rfl, h3⟩ := hasW_list h1
  obtain ⟨ns, rfl⟩ := items_int h3
  have hlen : ns.length ≤ n := by
    unfold OpenLaw.pre at hc
    have h4 : (WTm.not (.lt (.lit (.int (n : Int))) (.len (.arg 0)))).holds [] { args := [.list (ns.map .int)] } = true := by
      have h4 := (holds_andW hc).1
      rw [hn] at h4
      exact h4
    have h5 := condW_of h4 (w_not (w_lt w_lit (w_len_list (w_arg rfl))))
    rw [List.length_map] at h5
    refine Nat.le_of_not_lt fun q => ?_
    have q' : (n : Int) < ((ns.length : Nat) : Int) := by omega
    first
      | (rw [decide_eq_true q'] at h5; exact absurd h5 (by decide))
      | (simp at h5; omega)
  cases hwl with
  | cons w1 w2 =>
    cases w2
    cases w1 with
    | list ho hall => exact ⟨_, _, ns, rfl, rfl, ho, ints_of_wellAll ns _ hall, hlen⟩

theorem post_true (l : OpenLaw) (args : List WData) : l.row.toRowW.claim.post args (.bool true) args = true :=
  postW_of (r := l.row.toRowW) (X := (true == true))
    (show WShape.has [] (.bool true) .bool = true by first | rfl | decide | simp [WShape.has, WShape.arms, WShape.armsAll])
    (show (WTm.eq .res (.lit (.bool true))).value [] { args := args, res := some (.bool true), after := args } = some (.bool (true == true)) from w_eq_bool (w_res rfl) w_lit) rfl

/-! ### the attachment: holds_open's last premise (the goal 'hc' behind k_head) from a wpAny of the law's body -/

/-- the same from a codeAny of the CALL (for a layer whose function contracts speak of calls) -/
theorem attach_call {l : OpenLaw} {n : Nat} {q : Program} {loose : List Str} {XP : (Str → Option Value) → Heap → Prop} {YP : World → Heap → Prop} {d : DefRec}
    (hn : l.most = some n) (hdf : d.params.defaults = [])
    (call : ∀ (w : World) (s₀ s₁ : Shared) (mg mb : Str → Option Value) (fa : Addr) (o : Obj) (pm cd doc : Value) (a : Addr) (vs : List Value) (ns : List Int),
      Ground q loose [] XP w s₀ mg mb s₁.heap → YP w s₁.heap →
      s₁.heap.get? fa = some o → o.data = .func (docDef d.name d.params d.body d.scope pm cd doc) → s₁.heap.CodeRec cd d.name → mg d.name = some (.ref fa) →
      s₁.heap.get? a = some { cls := .type "list", data := .seq vs.toArray } → IntsAre vs ns → ns.length ≤ n → s₁.gens = #[] →
      codeAny (model l.prog w) callerA (.call (.ref fa) ⟨[.ref a], []⟩) (fun r s' => r = .ok (.ret (.bool true)) ∧ OldK s₁.heap s'.heap ∧ s'.os = s₁.os ∧ AllBare s'.gens) s₁) :
    WalkO q loose XP YP l.row.toRowW d [] (fun f vs => PySem.call f vs) := by
  intro w s₀ s₁ mg mb G Y fa o pm cd doc dV kV ho hd hcd hD hmg hg args vals as hpre hlay hrd hwl hlo
  obtain rfl : dV = .none := Dflts.none hD hdf
  obtain rfl : kV = .none := Dflts.noKw hD
  obtain ⟨a, vs, ns, rfl, rfl, hobj, hints, hlen⟩ := script_of hn hpre hwl
  refine enter_call (codeAny_mono (call w s₀ s₁ mg mb fa o pm cd doc a vs ns G Y ho (fd_plain hd) hcd hmg hobj hints hlen hg) fun r s' hq => ?_)
  obtain ⟨rfl, h2, h3, h4⟩ := hq
  exact ⟨.inl ⟨.bool true, .bool true, [], rfl, fun _ => rfl, .bool true, post_true l _, fun _ => ⟨List.Pairwise.nil, fun _ hm => (nomatch hm)⟩⟩, h2, h3, h4⟩


/-! ### rules over ANY heap (no ledger) from facts about the written part K: the library's own take a ledger (News) for what they write -/
section
variable {prog : Program} {w : World} {A : Around} {E : Value → Shared → Prop} {s : Shared} {K : Frag}





/-! the whole heap as the ledger: makes every rule that writes through a ledger a rule over any heap -/
def noObjs (h : Heap) : Heap := { h with objs := #[] }
def ledger (h : Heap) (L d : Addr) : List (Addr × Obj) := (List.range h.objs.size).filterMap fun a => if a = L ∨ a = d then none else (h.get? a).map fun o => (a, o)

end
end Att

namespace L2
open PySem PySem.Spec PyProof.Rows

theorem vals_ints : ∀ {vs : List Value} {ns : List Int}, IntsAre vs ns → Vals (ns.map V.int) vs
  | _, _, .nil => .nil
  | _, _, .cons n t h => .cons ⟨t, rfl⟩ (vals_ints h)

/-- nothing is tracked but the script, known to the object (or it is an object of the module) -/
def Only (H : Hp) : Prop := ∀ b, H b = none ∨ ∃ o xs, H b = some (.frz o (.lst xs))

/-- THE HEAD: the law's promise, at the heap behind the top. F, the promise of the law's def, may use that base is part of the heap (so K.In base, base.Ns mainGlobals mg stand in Mod) -/
theorem law_call {P : Program} {w : World} {K : PySem.W.Frag} {mg mb : Str → Option Value} {CX : CXT} {k : Nat} {fa a : Addr} {fd : FuncData} {x : Str} {sp : Sp} {s₁ : Shared} {vs : List Value} {ns : List Int}
    (KX : K.In s₁.heap) (hns : s₁.heap.Ns mainGlobals mg) (hb : s₁.heap.Ns builtinsNs mb) (hbb : ∀ x : Str, x ≠ "__name__" → mb x = bootBuiltins x) (hlim : s₁.heap.NoLimit) (hg : s₁.gens = #[])
    (ha : s₁.heap.get? a = some { cls := .type "list", data := .seq vs.toArray }) (hi : IntsAre vs ns) (hl : ns.length ≤ sizeLine) (hr : Room k callerA)
    (F : ∀ base : Heap, K.In base → base.Ns mainGlobals mg → FnOk P w K mg base CX k fa fd [x] sp) (hbind : ∀ (s : Shared) (u : Value), BindsTo s fd ⟨[u], []⟩ [(x, u)])
    (hsp : ∀ H : Hp, Only H → SqL K H a (ns.map V.int) → sp [.ref a] H (fun v _ => v = .bl true) fun _ _ _ => False)
    (hCX : ∀ H e s', CX [] H s₁ (fun _ _ _ => False) e s' → False) :
    codeAny (model P w) callerA (.call (.ref fa) ⟨[.ref a], []⟩) (fun r s' => r = .ok (.ret (.bool true)) ∧ OldK s₁.heap s'.heap ∧ s'.os = s₁.os ∧ AllBare s'.gens) s₁ := by
  have rv := vals_ints hi
  have lenV := hi.length
  -- from an abstract heap in which nothing but the script may be tracked
  have core : ∀ H : Hp, Only H → SqL K H a (ns.map V.int) → HOk P w H s₁.heap → (∀ b, H b ≠ none → b = a) → (H a ≠ none → K.lookup a = none) →
      codeAny (model P w) callerA (.call (.ref fa) ⟨[.ref a], []⟩) (fun r s' => r = .ok (.ret (.bool true)) ∧ OldK s₁.heap s'.heap ∧ s'.os = s₁.os ∧ AllBare s'.gens) s₁ := by
    intro H hO hS hok hA hK
    have base_of : ∀ {b : Addr} {o : Obj}, s₁.heap.get? b = some o → H b = none → (hidT s₁.heap H).get? b = some o := fun e n => hidT_get e n
    have noA : ∀ {b : Addr} {o : Obj} {es : Array DictEntry} {ep : Nat}, s₁.heap.get? b = some o → o.data = .dict es ep → H b = none := fun {b o es ep} e d => by
      cases q : H b with
      | none => rfl
      | some u =>
        have e' : b = a := hA b (by rw [q]; simp)
        subst e'
        rw [ha] at e; cases e
        have d' : Data.seq vs.toArray _ = Data.dict es ep := d
        cases d'
    have nsK : ∀ {b : Addr} {m : Str → Option Value}, s₁.heap.Ns b m → (hidT s₁.heap H).Ns b m := fun {b m} ⟨o, es, ep, e, d, r⟩ => ⟨o, es, ep, base_of e (noA e d), d, r⟩
    have hKb : K.In (hidT s₁.heap H) := fun b o e => base_of (KX b o e) (by
      cases q : H b with
      | none => rfl
      | some u =>
        have e' : b = a := hA b (by rw [q]; simp)
        subst e'
        rw [hK (by rw [q]; simp)] at e; cases e)
    have hM : Mod K mg (hidT s₁.heap H) := ⟨hKb, nsK hns, ⟨mb, nsK hb, hbb⟩, let ⟨mc, h1, h2⟩ := hlim; ⟨mc, nsK h1, h2⟩⟩
    have e0 : Env0 P w K mg (hidT s₁.heap H) callerA [] s₁ H := ⟨rfl, hM, fun b o e => of_hidT e, Nat.le_of_eq (hidT_size _ _), trivial, fun b hb => absurd (show b ∈ ([] : List Addr) from hb) (by simp), hok, .of_eq hg⟩
    refine codeAny_mono ((F _ hKb (nsK hns)).run callerA [] s₁ H ⟨[.ref a], []⟩ [.ref a] [.ref a] _ _ hr e0 (hbind s₁ (.ref a)) (.cons rfl .nil) (hsp H hO hS)) fun r s' h => ?_
    cases r with
    | error e => exact (hCX H e s' h).elim
    | ok fl =>
      cases fl with
      | next => exact False.elim h
      | brk => exact False.elim h
      | cont => exact False.elim h
      | ret u =>
        obtain ⟨v, H', os, bare, un, hok', r', q⟩ := h
        have q' : v = .bl true := q
        subst q'
        obtain rfl : u = Value.bool true := r'
        refine ⟨rfl, OldK.of_keep fun b o e => ?_, os, bare⟩
        cases q : H b with
        | none => exact un.keep b o e q (by intro z; exact absurd (show b ∈ ([] : List Addr) from z) (by simp)) (by simp)
        | some u =>
          rcases hO b with z | ⟨ob, xs, z⟩
          · rw [q] at z; cases z
          · have z2 := un.frzs b ob _ z
            obtain ⟨e1, _⟩ := hok b _ z
            obtain ⟨e2, _⟩ := hok' b _ z2
            rw [e] at e1; cases e1
            exact e2
  cases hk : K.lookup a with
  | some o =>
    -- the script is one of the module's own objects
    have e := KX a o hk
    rw [ha] at e
    cases e
    refine core (fun _ => none) (fun _ => .inl rfl) (.inr ⟨_, vs.toArray, _, hk, rfl, rfl, rfl, by rw [List.size_toArray, lenV]; exact hl, by simpa using rv⟩) (fun b u z => by have z' : (none : Option HO) = some u := z; cases z') (fun b z => absurd rfl z) fun z => absurd rfl z
  | none =>
    refine core (fun b => if b = a then some (.frz { cls := .type "list", data := .seq vs.toArray } (.lst (ns.map V.int))) else none) (fun b => ?_) (.inl (.inr ⟨{ cls := .type "list", data := .seq vs.toArray }, if_pos rfl⟩)) (fun b u z => ?_) (fun b z => ?_) fun _ => hk
    · by_cases hb : b = a
      · exact .inr ⟨_, _, if_pos hb⟩
      · exact .inl (if_neg hb)
    · by_cases hb : b = a
      · have z' := (if_pos hb).symm.trans z
        cases z'
        subst hb
        exact ⟨ha, by rw [List.length_map]; exact hl, vs, _, rv, ha⟩
      · have z' := (if_neg hb).symm.trans z
        cases z'
    · by_cases hb : b = a
      · exact hb
      · exact absurd (if_neg hb) z
end L2

namespace L2
open PySem PySem.Spec PyProof.Rows

abbrev KOf {K : PySem.W.Frag} {h : Heap} (_ : K.In h) : PySem.W.Frag := K

/-- the goal that k_head leaves (case hc), from the law's promise. F gives the function object fd (K's own) once, then the promise over every base -/
theorem walk_of {l : PySem.W.OpenLaw} {n k : Nat} {q : Program} {loose : List Str} {XP : (Str → Option Value) → Heap → Prop} {YP : World → Heap → Prop} {d : DefRec} {K : Params → PySem.W.Frag} {CX : World → CXT} {sp : World → Sp} {x : Str}
    (hn : l.most = some n) (hn2 : n ≤ sizeLine) (hdf : d.params.defaults = []) (hr : Room k callerA)
    (hY : ∀ (w : World) (h : Heap), YP w h → (K w.params).In h)
    (F : ∀ (w : World) (mg : Str → Option Value) (fa : Addr) (h : Heap), (K w.params).In h → h.Ns mainGlobals mg → mg d.name = some (.ref fa) →
      ∃ fd : FuncData, (∀ (s : Shared) (u : Value), BindsTo s fd ⟨[u], []⟩ [(x, u)]) ∧
        ∀ base : Heap, (K w.params).In base → base.Ns mainGlobals mg → FnOk l.prog w (K w.params) mg base (CX w) k fa fd [x] (sp w))
    (hsp : ∀ (w : World) (H : Hp) (a : Addr) (ns : List Int), ns.length ≤ n → Only H → SqL (K w.params) H a (ns.map V.int) → sp w [.ref a] H (fun v _ => v = .bl true) fun _ _ _ => False)
    (hCX : ∀ (w : World) (H : Hp) (s : Shared) (e : Value) (s' : Shared), CX w [] H s (fun _ _ _ => False) e s' → False) :
    PySem.W.WalkO q loose XP YP l.row.toRowW d [] (fun f vs => PySem.call f vs) := by
  refine Att.attach_call hn hdf fun w s₀ s₁ mg mb fa o pm cd doc a vs ns G Y ho hd hcd hmg hobj hints hlen hg => ?_
  have KX := hY w _ Y
  obtain ⟨fd, hb, hF⟩ := F w mg fa _ KX G.T.g hmg
  exact law_call KX G.T.g G.T.b G.T.builtins G.T.nolimit hg hobj hints (Nat.le_trans hlen hn2) hr hF hb (fun H hO hS => hsp w H a ns hlen hO hS) fun H e s' => hCX w H s₁ e s'
end L2



/-! SHORT WORDS over the layer: a def of the text, its body, what a loop and a test want. -/
namespace L2
open PySem PySem.Spec PyProof.Rows

/-! ### the text by places -/
/-- the j-th statement of a class's body -/
def inClass (s : Stmt) (j : Nat) : Stmt := match s with
  | .ClassDef _ _ _ body _ _ _ _ _ _ _ => body.getD j (.Pass ⟨0, 0, 0, 0⟩)
  | _ => .Pass ⟨0, 0, 0, 0⟩
def defArgs (s : Stmt) : Arguments := match s with
  | .FunctionDef _ a _ _ _ _ _ _ _ _ => a
  | _ => { posonlyargs := [], args := [], vararg := none, kwonlyargs := [], kw_defaults := [], kwarg := none, defaults := [] }
def defBody (s : Stmt) : List Stmt := match s with
  | .FunctionDef _ _ b _ _ _ _ _ _ _ => b
  | _ => []
def defScope (s : Stmt) : Scope := match s with
  | .FunctionDef _ _ _ _ _ _ sc _ _ _ => sc
  | _ => { kind := .function, names := [], isGenerator := false, isCoroutine := false }

/-! ### no exception leaves a def -/
abbrev CX0 : CXT := fun _ _ _ _ _ _ => False
abbrev E0 : XK := fun _ _ _ => False
theorem pass0 {X : Cx} : Passes CX0 X E0 := fun _ _ _ _ _ _ _ h => h.elim

/-! ### a def (or method) of the text as it stands behind the top -/
structure Fun (K : PySem.W.Frag) (x qual : Str) (st : Stmt) (f : Addr) (fd : FuncData) : Prop where
  ex : ∃ (oc : Value) (od : Option Addr) (kV doc pm : Value) (an : Option Addr) (cdv ct : Value) (osl : Array (Option Value)),
    fd = PySem.W.fnOf x qual (defArgs st) (defBody st) (defScope st) .none kV doc pm an cdv ct ∧ K.lookup f = some ⟨oc, od, .func fd, osl⟩ ∧ PySem.W.codeIn K cdv qual = true
  kp : PySem.W.keepIn K (.ref f) = true
section
variable {P : Program} {w : World} {K : PySem.W.Frag} {mg : Str → Option Value} {base : Heap}
/-- THE RULE for a def: its body as a term of rules, and the reading of that term -/
theorem Fun.ok {x qual : Str} {st : Stmt} {f : Addr} {fd : FuncData} {N ps : List Str} {k : Nat} {sp : Sp} (F : Fun K x qual st f fd) (S : FnScope N ps (defScope st)) (len : ∀ vs H Q E, sp vs H Q E → vs.length = ps.length)
    (hbody : ∀ (cdv : Value) (A : Around) (outer : List Env) (s : Shared) (H : Hp) (vs : List V) (Q : VK) (E : XK), Room k (A.deeper (envOfC qual (defScope st) s.heap.objs.size f cdv)) → sp vs H Q E →
      ∃ t, PSs (cxOf CX0 P w K mg base N qual (defScope st) f cdv A outer s H E).nox (defBody st) t ∧ t { nx := fun _ H' => Q .non H', rt := Q } (start N vs) H) : FnOk P w K mg base CX0 (k + 1) f fd ps sp := by
  obtain ⟨oc, od, kV, doc, pm, an, cdv, ct, osl, rfl, lk, hcd⟩ := F.ex
  refine fn_of lk hcd S len fun A outer s H vs Q E hr hsp => ?_
  obtain ⟨t, h, q⟩ := hbody cdv A outer s H vs Q E hr hsp
  exact ⟨t, h.nox, q⟩
/-- how its arguments bind (no defaults): h is «fun _ _ _ _ _ _ us hl => match us, hl with | [_, _], _ => rfl», one _ a parameter -/
theorem Fun.binds {x qual : Str} {st : Stmt} {f : Addr} {fd : FuncData} {ps : List Str} (F : Fun K x qual st f fd)
    (h : ∀ (kV doc pm : Value) (an : Option Addr) (cdv ct : Value) (us : List Value), us.length = ps.length → bindArgs (PySem.W.fnOf x qual (defArgs st) (defBody st) (defScope st) .none kV doc pm an cdv ct) ⟨us, []⟩ = pure (ps.zip us)) : Binds K fd ps [] := by
  obtain ⟨oc, od, kV, doc, pm, an, cdv, ct, osl, rfl, lk, hcd⟩ := F.ex
  exact .all (h kV doc pm an cdv ct)
theorem fun_mk {x qual : Str} {st : Stmt} {f : Addr} {oc : Value} {od an : Option Addr} {osl : Array (Option Value)} {kV doc pm cdv ct : Value} (l : K.lookup f = some ⟨oc, od, .func (PySem.W.fnOf x qual (defArgs st) (defBody st) (defScope st) .none kV doc pm an cdv ct), osl⟩)
    (c : PySem.W.codeIn K cdv qual = true) (k : PySem.W.keepIn K (.ref f) = true) : Fun K x qual st f (PySem.W.fnOf x qual (defArgs st) (defBody st) (defScope st) .none kV doc pm an cdv ct) := ⟨⟨oc, od, kV, doc, pm, an, cdv, ct, osl, rfl, l, c⟩, k⟩
end
theorem hu_of {A : Around} {k : Nat} (hr : Room k A) : A.units + 1 < cLine := Nat.lt_of_le_of_lt (Nat.add_le_add_left (by decide : 1 ≤ 64) _) hr.units
theorem small1000 {n : Nat} (h : n ≤ 1000) : n < sizeLine := Nat.lt_of_le_of_lt h (by decide)

/-! ### expressions in short: the name that stands in the i-th slot -/
section
variable {X : Cx}
theorem pv (i : Nat) {x : Str} {pos : Pos} (hN : X.N[i]? = some x := by rfl) (hv : Vis X.env.scope x := by first | exact Or.inl rfl | exact Or.inr (Or.inl rfl) | exact Or.inr (Or.inr rfl)) (hd : (x == ("__debug__" : Str)) = false := by decide)
    (hcd : (x == ("__classdict__" : Str)) = false := by decide) : PE X (.Name x pos) (tVar i) := pe_var hN hv hd hcd
end

/-! ### tests -/
theorem iteF {A B : Prop} (h : B) : if false = true then A else B := by
  rw [if_neg Bool.false_ne_true]
  exact h
theorem iteT {A B : Prop} (h : A) : if true = true then A else B := by
  rw [if_pos rfl]
  exact h
theorem ite2 {c A B : Prop} [Decidable c] (h1 : c → A) (h2 : ¬ c → B) : if c then A else B := by
  by_cases h : c
  · rw [if_pos h]
    exact h1 h
  · rw [if_neg h]
    exact h2 h

/-! ### heaps -/
/-- all that was tracked is as it was -/
def Same (H H' : Hp) : Prop := ∀ b o, H b = some o → H' b = some o
theorem Same.refl (H : Hp) : Same H H := fun _ _ h => h
theorem Same.trans {H H1 H2 : Hp} (a : Same H H1) (b : Same H1 H2) : Same H H2 := fun c o h => b c o (a c o h)
theorem Same.free {H H' : Hp} (e : Same H H') {l : Addr} (h : H' l = Option.none) : H l = Option.none := by
  cases q : H l with
  | none => rfl
  | some o =>
    rw [e l o q] at h
    cases h
theorem Same.seq {K : PySem.W.Frag} {H H' : Hp} {a : Addr} {xs : List V} (e : Same H H') (h : SqL K H a xs) : SqL K H' a xs := by
  rcases h with (h | ⟨o, h⟩) | h
  · exact .inl (.inl (e _ _ h))
  · exact .inl (.inr ⟨o, e _ _ h⟩)
  · exact .inr h

section
variable {X : Cx}
end

/-! ### a dict's pairs: keys that differ -/
section
variable {κ : Type} [DecidableEq κ]
theorem nd_snoc : ∀ {l : List κ} {k : κ}, l.Nodup → ¬ k ∈ l → (l ++ [k]).Nodup
  | [], k, _, _ => by simp
  | a :: r, k, h, hk => by
    obtain ⟨h1, h2⟩ := List.nodup_cons.mp h
    show (a :: (r ++ [k])).Nodup
    refine List.nodup_cons.mpr ⟨fun m => ?_, nd_snoc h2 fun m => hk (List.mem_cons.mpr (Or.inr m))⟩
    rcases List.mem_append.mp m with q | q
    · exact h1 q
    · exact hk (List.mem_cons.mpr (Or.inl (List.mem_singleton.mp q).symm))
theorem dropK_mem {kvs : List (κ × V)} {k : κ} {p : κ × V} (h : p ∈ dropK kvs k) : p ∈ kvs := (List.mem_filter.mp h).1
end
end L2
set_option Elab.async false
set_option linter.all false
set_option maxRecDepth 100000
set_option maxHeartbeats 4000000
namespace L2
open PySem PySem.Spec PyProof.Rows

/-! ### a block cut in two: what holds between -/
section
variable {X : Cx} {st : Stmt} {rest : List Stmt} {t u : TS}
def tSeqM (t u : TS) : TS := fun D σ H => ∃ M : St → Hp → Prop, t { D with nx := M } σ H ∧ ∀ σ' H', M σ' H' → u D σ' H'
theorem pss_cut (h1 : PS X st t) (h2 : PSs X rest u) : PSs X (st :: rest) (tSeqM t u) := by
  intro pins s σ H D I h
  obtain ⟨M, h, hM⟩ := h
  refine wpAny_execs_cons (thn (h1 pins s σ H { D with nx := M } I h) fun f s1 q => ?_)
  cases f with
  | next =>
    obtain ⟨σ', H', I', q⟩ := q
    exact h2 pins s1 σ' H' D I' (hM _ _ q)
  | ret v => exact q
  | brk => exact q
  | cont => exact q
end

/-! ### a comprehension's block -/
def capCl (cells : List (Str × Addr)) : List (Str × NameKind) → List (Str × Addr) → List (Str × Addr)
  | [], acc => acc
  | (n, k) :: r, acc => if (k == NameKind.free) = true then capCl cells r ((n, (cells.lookup n).getD 0) :: acc) else capCl cells r acc
theorem closureFor_cap {scope : Scope} {env : Env} (h : ∀ x ∈ scope.names, x.2 = .free → ∃ c, env.cells.lookup x.1 = some c) : closureFor scope env = pure (capCl env.cells scope.names []) := by
  have key : ∀ (l : List (Str × NameKind)) (acc : List (Str × Addr)), (∀ x ∈ l, x.2 = .free → ∃ c, env.cells.lookup x.1 = some c) →
      (forIn l acc fun (x : Str × NameKind) (r : List (Str × Addr)) => (if (x.2 == NameKind.free) = true then (do let a ← cellOf env x.1; pure (ForInStep.yield ((x.1, a) :: r))) else pure (ForInStep.yield r) : Sem (ForInStep (List (Str × Addr))))) = pure (capCl env.cells l acc) := by
    intro l
    induction l with
    | nil => intro acc _; rfl
    | cons x l ih =>
      intro acc hl
      obtain ⟨n, k⟩ := x
      rw [List.forIn_cons]
      by_cases hk : (k == NameKind.free) = true
      · obtain ⟨c, hc⟩ := hl (n, k) List.mem_cons_self (by simpa using hk)
        have hc' : cellOf env n = pure c := by
          have hc : env.cells.lookup n = some c := hc
          unfold cellOf; rw [hc]
        have e1 : capCl env.cells ((n, k) :: l) acc = capCl env.cells l ((n, c) :: acc) := by
          have hc : env.cells.lookup n = some c := hc
          simp only [capCl, hk, if_true, hc, Option.getD_some]
        rw [e1]
        simp only [hk, if_true, hc', pure_bind]
        exact ih _ fun y hy => hl y (List.mem_cons_of_mem _ hy)
      · have e1 : capCl env.cells ((n, k) :: l) acc = capCl env.cells l acc := by simp only [capCl, hk, if_false]; rfl
        rw [e1]
        simp only [hk, if_false, pure_bind]
        exact ih _ fun y hy => hl y (List.mem_cons_of_mem _ hy)
  have := key scope.names [] h
  unfold closureFor
  simp only [bind_pure]
  exact this
theorem capCl_sub {cells : List (Str × Addr)} : ∀ (l : List (Str × NameKind)) (acc : List (Str × Addr)) (y : Str) (c : Addr), (∀ x ∈ l, x.2 = .free → ∃ c, cells.lookup x.1 = some c) →
    (∀ y c, acc.lookup y = some c → cells.lookup y = some c) → (capCl cells l acc).lookup y = some c → cells.lookup y = some c
  | [], acc, y, c, _, ha, h => ha y c h
  | (n, k) :: r, acc, y, c, hl, ha, h => by
    unfold capCl at h
    split at h
    · rename_i hk
      refine capCl_sub r _ y c (fun x hx => hl x (List.mem_cons_of_mem _ hx)) (fun y' c' e => ?_) h
      obtain ⟨c0, hc0⟩ := hl (n, k) List.mem_cons_self (by simpa using hk)
      have hc0 : cells.lookup n = some c0 := hc0
      rw [hc0, Option.getD_some, List.lookup_cons] at e
      cases hy : (y' == n) with
      | true =>
        rw [hy] at e
        have e' : c0 = c' := Option.some.inj e
        have hy' : y' = n := by simpa using hy
        rw [hy', hc0, e']
      | false =>
        rw [hy] at e
        exact ha y' c' e
    · exact capCl_sub r acc y c (fun x hx => hl x (List.mem_cons_of_mem _ hx)) ha h
theorem capCl_has {cells : List (Str × Addr)} : ∀ (l : List (Str × NameKind)) (acc : List (Str × Addr)) (y : Str), ((y, NameKind.free) ∈ l ∨ ∃ c, acc.lookup y = some c) → ∃ c, (capCl cells l acc).lookup y = some c
  | [], acc, y, h => by
    rcases h with h | h
    · cases h
    · exact h
  | (n, k) :: r, acc, y, h => by
    unfold capCl
    split
    · rename_i hk
      refine capCl_has r _ y ?_
      rcases h with h | ⟨c, h⟩
      · rcases List.mem_cons.mp h with e | h
        · have e1 : y = n := congrArg (·.1) e
          subst e1
          exact .inr ⟨(cells.lookup y).getD 0, by simp [List.lookup_cons]⟩
        · exact .inl h
      · right
        rw [List.lookup_cons]
        cases hy : (y == n) with
        | true => exact ⟨_, rfl⟩
        | false => exact ⟨c, h⟩
    · rename_i hk
      refine capCl_has r _ y ?_
      rcases h with h | h
      · rcases List.mem_cons.mp h with e | h
        · have e2 : NameKind.free = k := congrArg (·.2) e
          subst e2
          exact absurd (by rfl) hk
        · exact .inl h
      · exact .inr h

theorem relabel_free {env : Env} : ∀ {names : List (Str × NameKind)} {x : Str}, names.lookup x = some .free → env.scope.kind = .function → env.kindOf x = some .cell →
    (names.map fun (n, k) => if (k == NameKind.free && env.scope.kind == .function && env.kindOf n == some .cell) then (n, NameKind.cell) else (n, k)).lookup x = some .cell
  | [], _, h, _, _ => by simp at h
  | (n, k) :: r, x, h, hf, hc => by
    have ih := @relabel_free env r x
    show List.lookup x ((if (k == NameKind.free && env.scope.kind == .function && env.kindOf n == some .cell) = true then (n, NameKind.cell) else (n, k)) :: _) = _
    cases hx : x == n with
    | true =>
      simp only [List.lookup_cons, hx] at h
      cases h
      have e : x = n := by simpa using hx
      subst e
      simp [List.lookup_cons, hf, hc]
    | false =>
      simp only [List.lookup_cons, hx] at h
      by_cases hcc : (k == NameKind.free && env.scope.kind == .function && env.kindOf n == some .cell) = true
      · rw [if_pos hcc]; simp only [List.lookup_cons, hx]; exact ih h hf hc
      · rw [if_neg hcc]; simp only [List.lookup_cons, hx]; exact ih h hf hc
theorem relabel_back {env : Env} : ∀ {names : List (Str × NameKind)} {x : Str} {k : NameKind}, (∀ y ∈ names, y.2 ≠ .cell) → (k = .cell ∨ k = .free) →
    (names.map fun (n, k) => if (k == NameKind.free && env.scope.kind == .function && env.kindOf n == some .cell) then (n, NameKind.cell) else (n, k)).lookup x = some k → (x, NameKind.free) ∈ names
  | [], _, _, _, _, h => by simp at h
  | (n, k0) :: r, x, k, hn, hk, h => by
    have ih := @relabel_back env r x k (fun y hy => hn y (List.mem_cons_of_mem _ hy)) hk
    have h' : List.lookup x ((if (k0 == NameKind.free && env.scope.kind == .function && env.kindOf n == some .cell) = true then (n, NameKind.cell) else (n, k0)) :: r.map (fun (n, k) => if (k == NameKind.free && env.scope.kind == .function && env.kindOf n == some .cell) then (n, NameKind.cell) else (n, k))) = some k := h
    clear h
    by_cases hcc : (k0 == NameKind.free && env.scope.kind == .function && env.kindOf n == some .cell) = true
    · rw [if_pos hcc, List.lookup_cons] at h'
      cases hx : (x == n) with
      | true =>
        have e : x = n := by simpa using hx
        subst e
        simp only [Bool.and_eq_true, beq_iff_eq] at hcc
        rw [← hcc.1.1]
        exact List.mem_cons_self
      | false =>
        rw [hx] at h'
        exact List.mem_cons_of_mem _ (ih h')
    · rw [if_neg hcc, List.lookup_cons] at h'
      cases hx : (x == n) with
      | true =>
        rw [hx] at h'
        have e : x = n := by simpa using hx
        subst e
        have e2 : k0 = k := Option.some.inj h'
        subst e2
        rcases hk with rfl | rfl
        · exact absurd rfl (hn _ List.mem_cons_self)
        · exact List.mem_cons_self
      | false =>
        rw [hx] at h'
        exact List.mem_cons_of_mem _ (ih h')

/-- a comprehension's scope within the context: x its variable, fr the names that it takes from outside, cap their slots there -/
structure CompSc (X : Cx) (scope : Scope) (x : Str) (fr : List Str) (cap : List Nat) : Prop where
  kind : scope.kind = .function
  nocell : ∀ y ∈ scope.names, y.2 ≠ .cell
  loc : ∀ y ∈ scope.names, y.2 = .local → scope.names.lookup y.1 = some .local
  tgt : scope.names.lookup x = some .local
  fre : ∀ y ∈ scope.names, y.2 = .free → X.env.scope.names.lookup y.1 = some .cell
  nd : (x :: fr).Nodup
  caps : Paired (fun (y : Str) (i : Nat) => X.N[i]? = some y ∧ scope.names.lookup y = some .free) fr cap

structure CompScE (esc scope : Scope) (N : List Str) (x : Str) (fr : List Str) (cap : List Nat) : Prop where
  kind : scope.kind = .function
  nocell : ∀ y ∈ scope.names, y.2 ≠ .cell
  loc : ∀ y ∈ scope.names, y.2 = .local → scope.names.lookup y.1 = some .local
  tgt : scope.names.lookup x = some .local
  fre : ∀ y ∈ scope.names, y.2 = .free → esc.names.lookup y.1 = some .cell
  nd : (x :: fr).Nodup
  caps : Paired (fun (y : Str) (i : Nat) => N[i]? = some y ∧ scope.names.lookup y = some .free) fr cap
theorem CompSc.of {X : Cx} {esc scope : Scope} {N : List Str} {x : Str} {fr : List Str} {cap : List Nat} (h1 : X.env.scope = esc) (h2 : X.N = N) (h : CompScE esc scope N x fr cap) : CompSc X scope x fr cap := by
  subst h1 h2
  exact ⟨h.kind, h.nocell, h.loc, h.tgt, h.fre, h.nd, h.caps⟩
def compSt (σ : St) (cap : List Nat) (v : Option V) : St := v :: cap.map fun i => σ.getD i none
def cxComp (X : Cx) (scope : Scope) (x : Str) (fr : List Str) (C : Addr) (s₀ : Shared) (H₀ : Hp) (ex : List Addr) (pn : List (Addr × Obj)) : Cx :=
  { X with N := x :: fr, s₀ := s₀, H₀ := H₀, env := compEnvC scope (capCl X.env.cells scope.names []) C X.env, outer := X.stack, ex := ex, fn := fun _ => false, pn := pn, xe := fun _ _ => False }

theorem Paired.getL {α β : Type} {F : α → β → Prop} : ∀ {l : List α} {r : List β} {j : Nat} {a : α}, Paired F l r → l[j]? = some a → ∃ b, r[j]? = some b ∧ F a b
  | _, _, _, _, .nil, e => by simp at e
  | _, _, 0, _, .cons h _, e => by simp at e; subst e; exact ⟨_, rfl, h⟩
  | _, _, j + 1, a, .cons _ t, e => by
    obtain ⟨b, h1, h2⟩ := Paired.getL (j := j) (a := a) t (by simpa using e)
    exact ⟨b, by simpa using h1, h2⟩

section
variable {X : Cx} {scope : Scope} {x : Str} {fr : List Str} {cap : List Nat} {pins : List (Addr × Obj)} {σ : St} {H : Hp} {s : Shared} {ex : List Addr}
theorem CompSc.cells (S : CompSc X scope x fr cap) (I : Inv X pins σ H s) : ∀ y ∈ scope.names, y.2 = .free → ∃ c, X.env.cells.lookup y.1 = some c := fun y hy e => I.ok.has y.1 (.inl (S.fre y hy e))
theorem CompSc.sub (S : CompSc X scope x fr cap) (I : Inv X pins σ H s) {y : Str} {c : Addr} (h : (capCl X.env.cells scope.names []).lookup y = some c) : X.env.cells.lookup y = some c :=
  capCl_sub _ _ y c (S.cells I) (fun _ _ e => by simp at e) h
theorem comp_ok (hc : X.calm = true) (S : CompSc X scope x fr cap) (I : Inv X pins σ H s) (hf : ∀ b ∈ ex, FpOk X pins H b) (hlt : ∀ b ∈ ex, b < s.heap.objs.size) {pn : List (Addr × Obj)} : (cxComp X scope x fr s.heap.objs.size s H ex pn).Ok where
  mod := I.ok.mod
  kind := S.kind
  glob := I.ok.glob
  blt := I.ok.blt
  above := Nat.le_refl _
  inj := fun y z c h1 h2 => I.ok.inj y z c (S.sub I h1) (S.sub I h2)
  has := fun y hy => capCl_has _ _ y (.inl (hy.elim (fun h => relabel_back S.nocell (.inl rfl) h) fun h => relabel_back S.nocell (.inr rfl) h))
  cab := fun _ _ h => absurd h (by simp [cxComp])
  hd := fun h => I.ok.hd hc
  frames := I.ok.frames
  stk := .inl rfl
  exf := fun b hb => ⟨Nat.ne_of_lt (hlt b hb), fun y c e => (hf b hb).2.2.2.2.1 y c (S.sub I e)⟩
  bs := I.bs
  bsz := Nat.le_trans I.ok.bsz I.sz
  noex := fun b o e hb => by
    rcases (hf b hb).2.2.2.1 with h | h
    · exact I.ok.noex b o e h
    · exact absurd (Nat.lt_of_lt_of_le (Heap.lt_size e) (Nat.le_trans I.ok.bsz h)) (Nat.lt_irrefl _)
  exfs := fun b hb z => (List.mem_cons.mp (I.stkSub b z)).elim (hf b hb).2.1 (hf b hb).2.2.1
  funs := I.stack
  frf := I.stkFree

theorem comp_start (hc : X.calm = true) (S : CompSc X scope x fr cap) (I : Inv X pins σ H s) (hf : ∀ b ∈ ex, FpOk X pins H b) (hlt : ∀ b ∈ ex, b < s.heap.objs.size) {h₁ : Heap} {tk : Nat} {m : Str → Option Value}
    (hn : h₁.Ns s.heap.objs.size m) (hk : ∀ b o, s.heap.get? b = some o → h₁.get? b = some o) : Inv (cxComp X scope x fr s.heap.objs.size s H ex (X.pn ++ pins)) [] (compSt σ cap none) H { s with heap := h₁, toks := tk } := by
  refine ⟨comp_ok hc S I hf hlt, rfl, I.bare, Un.kept hk, ⟨m, hn, fun i y v e1 e2 e3 => ?_⟩, fun y c e => ?_, I.hok.fresh (Nat.le_refl _), fun y c e => I.freeC y c (S.sub I e), fun p hp => ?_, I.hok.kept hk, ?_⟩
  · cases i with
    | zero => simp [compSt] at e2
    | succ j =>
      have e1 : fr[j]? = some y := by simpa [cxComp] using e1
      obtain ⟨i, hi, hN, hfr⟩ := Paired.getL S.caps e1
      have e2' : σ.getD i none = some v := by
        have : (cap.map fun i => σ.getD i none)[j]? = some (some v) := by simpa [compSt] using e2
        rw [List.getElem?_map, hi] at this
        exact Option.some.inj this
      have hσ : σ[i]? = some (some v) := by
        rw [List.getD_eq_getElem?_getD] at e2'
        cases q : σ[i]? with
        | none => rw [q] at e2'; cases e2'
        | some z => rw [q] at e2'; rw [show z = some v from e2']
      have hmem : (y, NameKind.free) ∈ scope.names := PySem.mem_of_lookup hfr
      have hcell : X.env.scope.names.lookup y = some .cell := S.fre _ hmem rfl
      obtain ⟨m', hn', hl'⟩ := I.loc
      obtain ⟨u, ru, lk⟩ := hl' i y v hN hσ (.inr (.inl hcell))
      refine ⟨u, ru, .inr ⟨.inl (relabel_free hfr I.ok.kind hcell), ?_⟩⟩
      rcases lk with ⟨q, _⟩ | ⟨_, c, hcc, hic⟩
      · have q' : X.env.scope.names.lookup y = some .local := q
        rw [hcell] at q'; cases q'
      · obtain ⟨c', hc'⟩ := capCl_has (cells := X.env.cells) scope.names [] y (.inl hmem)
        have := S.sub I hc'
        rw [hcc] at this
        cases this
        obtain ⟨o, ho, hd⟩ := hic
        exact ⟨c, hc', o, hk _ _ ho, hd⟩
  · obtain ⟨v, o, ho, hd⟩ := I.cell y c (S.sub I e)
    exact ⟨v, o, hk _ _ ho, hd⟩
  · have hp : p ∈ X.pn ++ pins := by simpa [cxComp] using hp
    obtain ⟨e, n, ne, nf, d⟩ := I.pin p hp
    exact ⟨hk _ _ e, n, Nat.ne_of_lt (Heap.lt_size e), fun z => (List.mem_cons.mp (I.stkSub p.1 z)).elim ne nf, d⟩
  · have := S.caps.length
    simp [compSt, cxComp, this]

/-- behind the block -/
theorem comp_back {H' : Hp} {s' : Shared} {σ' : St} {pn : List (Addr × Obj)} (I : Inv X pins σ H s) (hf : ∀ b ∈ ex, FpOk X pins H b) (J : Inv (cxComp X scope x fr s.heap.objs.size s H ex pn) [] σ' H' s') :
    Inv X pins σ H' s' ∧ FpOk X pins H' s.heap.objs.size ∧ ∃ m, s'.heap.Ns s.heap.objs.size m := by
  refine ⟨I.call' (ch := ex) J.os J.base J.hok J.bare fun b hb => ?_, I.fpOk (Nat.le_refl _) J.free, ?_⟩
  · obtain ⟨f0, f1, f2, f3, f4, f5⟩ := hf b hb
    exact ⟨f3, f1, f4, f5⟩
  · obtain ⟨m, hn, _⟩ := J.loc
    exact ⟨m, hn⟩
theorem Inv.sameC {C : Addr} {h' : Heap} (I : Inv X pins σ H s) (hf : FpOk X pins H C) (sb : Heap.SameBut C s.heap h') : Inv X pins σ H { s with heap := h' } := by
  obtain ⟨f0, f1, f2, f3, f4, f5⟩ := hf
  exact I.turned (t' := s.toks) (fun b o hb e => (sb.2 b hb).trans e) f0 f1 f3 f4 f5
end

section
variable {prog : Program} {w : World} {A : Around} {R : Result → Shared → Prop} {s : Shared}
theorem compLoop_go {elt target iter : Expr} {ifs : List Expr} {scope : Scope} {pos : Pos} {it acc : Value} {env : Env} (I : Nat → Shared → Prop)
    (turn : ∀ n s, I n s → wpAny (model prog w) A (pyNext it) (fun r s₁ => match r with
      | none => R (.ok .next) s₁
      | some v => wpAny (model prog w) A (letOwnedTupleGo target it v) (fun _ s₀ => wpAny (model prog w) A (assign target env v) (fun _ s₂ =>
          wpAny (model prog w) A (forIn ifs true fun c r => if r = true then do let ok ← isTrue c env (eval c env); pure (ForInStep.yield ok) else pure (ForInStep.yield r)) (fun ok s₃ =>
            if ok = true then wpAny (model prog w) A (eval elt env) (fun x s₄ =>
              wpAny (model prog w) A (call (.builtin "list.append") [acc, x]) (fun _ s₅ => ∃ m, m < n ∧ I m s₅) (fun _ _ => False) s₄) (fun _ _ => False) s₃
            else ∃ m, m < n ∧ I m s₃) (fun _ _ => False) s₂) (fun _ _ => False) s₀) (fun _ _ => False) s₁) (fun _ _ => False) s)
    (n : Nat) (h : I n s) :
    codeAny (model prog w) A (.compLoop (.ListComp elt [⟨target, iter, ifs, 0⟩] scope pos) 0 it acc env) R s := by
  have no : ∀ (E : Value → Shared → Prop) x s', (fun (_ : Value) (_ : Shared) => False) x s' → E x s' := fun _ _ _ z => z.elim
  refine codeAny_loop rfl I (fun n s hI => ?_) n h
  show wpAny _ A ((compTurn (.ListComp elt [⟨target, iter, ifs, 0⟩] scope pos) 0 it acc env).onRaise (fun x => do noteFrame x env; theTreesLotGoes x)) _ _ s
  refine wpAny_noted ?_
  rw [compTurn_list]
  refine wpAny_bind (wpAny_standAt (wpAny_bind (wpAny_mono (turn n s hI) (fun r s₁ h₁ => ?_) (no _))))
  cases r with
  | none => exact wpAny_pure h₁
  | some v =>
    refine wpAny_bind (wpAny_mono h₁ (fun _ s₀ h₀ => ?_) (no _))
    refine wpAny_bind (wpAny_mono h₀ (fun _ s₂ h₂ => wpAny_bind (wpAny_mono h₂ (fun ok s₃ h₃ => ?_) (no _))) (no _))
    cases ok with
    | false => exact wpAny_pure ⟨rfl, h₃⟩
    | true =>
      exact wpAny_bind (wpAny_bind (wpAny_mono h₃ (fun x s₄ h₄ => wpAny_bind (wpAny_mono h₄ (fun _ s₅ h₅ => wpAny_pure (wpAny_pure ⟨rfl, h₅⟩)) (no _))) (no _)))
end

/-- the tests of a comprehension -/
def PTs (X : Cx) (ifs : List Expr) (t : TT) : Prop :=
  ∀ (pins : List (Addr × Obj)) (s : Shared) (σ : St) (H : Hp) (Q : Bool → Hp → Prop), Inv X pins σ H s → t σ H Q →
    wpAny (model X.prog X.w) X.A (forIn ifs true fun c r => if r = true then do let ok ← isTrue c X.env (eval c X.env); pure (ForInStep.yield ok) else pure (ForInStep.yield r)) (TP X pins σ Q) X.xe s
def tYes : TT := fun _ H Q => Q true H
theorem pts_nil {X : Cx} : PTs X [] tYes := fun _ _ _ H _ I h => wpAny_tests_nil ⟨H, I, h⟩

/-- the turns of a comprehension: W is the invariant by the turn, a measure, the items so far, the heap; D the list that is made -/
def CompW (J : It) (D : Addr) (ts : Option V → St) (tc : TT) (te : TE) (Qc : Hp → Prop) (W : Nat → Nat → List V → Hp → Prop) : Prop :=
  ∀ i m ys H2, W i m ys H2 → H2 D = some (.lst ys) ∧ ((J.stop i H2 ∧ Qc H2) ∨ (J.go i H2 ∧ ys.length < sizeLine ∧ ∃ N : List V → Hp → Prop, (∀ zs H', N zs H' → ∃ m', m' < m ∧ W (i + 1) m' zs H') ∧ ∀ v H3, J.yld i H2 v H3 →
    tc (ts (some v)) H3 fun b H4 => if b = true then te (ts (some v)) H4 fun y H5 => H5 D = some (.lst ys) ∧ N (ys ++ [y]) (upd H5 D (.lst (ys ++ [y]))) else N ys H4))
def tComp (wi : TI) (cap : List Nat) (tc : TT) (te : TE) : TE := fun σ H Q => wi σ H fun J H1 => ∀ D, H1 D = none → ∃ W, (∃ m, W 0 m [] (upd H1 D (.lst []))) ∧ CompW J D (compSt σ cap) tc te (fun H2 => Q (.ref D) H2) W

section
variable {X : Cx} {elt iter : Expr} {x : Str} {px : Pos} {ifs : List Expr} {scope : Scope} {pos : Pos} {fr : List Str} {cap : List Nat} {wi : TI} {tc : TT} {te : TE}
theorem comp_block (hc : X.calm = true) (S : CompSc X scope x fr cap) (hif : ∀ C s₀ H₀ ex pn, PTs (cxComp X scope x fr C s₀ H₀ ex pn) ifs tc) (he : ∀ C s₀ H₀ ex pn, PE (cxComp X scope x fr C s₀ H₀ ex pn) elt te)
    {pins : List (Addr × Obj)} {s : Shared} {σ : St} {H : Hp} {it : Addr} {fp : List Addr} {tn : Nat → Heap → Prop} {J : It} (I : Inv X pins σ H s) (T : Turn X.prog X.w X.K (.Name x px) J fp it tn) (st : tn 0 s.heap) (hf : ∀ b ∈ fp, FpOk X pins H b)
    {Qc : Addr → Hp → Prop} (h : ∀ D, H D = none → ∃ W, (∃ m, W 0 m [] (upd H D (.lst []))) ∧ CompW J D (compSt σ cap) tc te (Qc D) W) {RR : Value → Addr → Result → Shared → Prop} {E : Value → Shared → Prop}
    (fin : ∀ D C H' s', Inv X pins σ H' s' → FpOk X pins H' C → (∃ m, s'.heap.Ns C m) → Qc D H' → RR (.ref D) C (.ok .next) s') :
    wpAny (model X.prog X.w) X.A (newList []) (fun acc s₃ => wpAny (model X.prog X.w) X.A (newFunctionEnv scope X.env.globals (capCl X.env.cells scope.names []) [] X.env.qual none .none (some X.env)) (fun cenv s₄ =>
      codeAny (model X.prog X.w) X.A (.compStart (.ListComp elt [⟨.Name x px, iter, ifs, 0⟩] scope pos) 0 (.ref it) acc { cenv with scope := relabel scope X.env }) (RR acc cenv.locals) s₄) E s₃) E s := by
  refine wpAny_newObj_type (wpAny_newFunctionEnv S.nocell (by intro y hy; simp at hy) (fun h₁ hns₁ hsb₁ => ?_) S.kind)
  have hDf : H s.heap.objs.size = none := I.fresh
  obtain ⟨W, ⟨m0, w0⟩, turn⟩ := h _ hDf
  have I3 : Inv X pins σ (upd H s.heap.objs.size (.lst [])) { s with heap := s.heap.push { cls := .type "list", data := .seq ([] : List Value).toArray } } := I.lnew (t' := s.toks) (its := []) .nil (Nat.zero_le _)
  have hlt0 : ∀ b ∈ fp, b < s.heap.objs.size := fun b hb => by
    obtain ⟨o, e, _⟩ := T.obj _ _ st b hb
    exact Heap.lt_size e
  have hf3 : ∀ b ∈ fp, FpOk X pins (upd H s.heap.objs.size (.lst [])) b := fun b hb => ⟨by rw [upd_ne (Nat.ne_of_lt (hlt0 b hb))]; exact (hf b hb).1, (hf b hb).2⟩
  have hsz : (s.heap.push { cls := .type "list", data := .seq ([] : List Value).toArray }).objs.size = s.heap.objs.size + 1 := Heap.size_push ..
  dsimp only at hns₁ hsb₁ ⊢
  generalize hs3 : ({ s with heap := s.heap.push { cls := .type "list", data := .seq ([] : List Value).toArray } } : Shared) = s3 at I3
  have hh3 : s.heap.push { cls := .type "list", dict := none, data := .seq ([] : List Value).toArray } = s3.heap := by rw [← hs3]
  have hk3 : ∀ b o, s.heap.get? b = some o → s3.heap.get? b = some o := fun b o e => by rw [← hh3]; exact Heap.get?_push_of_some _ e
  rw [hh3] at hns₁ hsb₁ hsz ⊢
  have hlt3 : ∀ b ∈ fp, b < s3.heap.objs.size := fun b hb => by rw [hsz]; exact Nat.lt_succ_of_lt (hlt0 b hb)
  have keep : ∀ b o, s3.heap.get? b = some o → h₁.get? b = some o := fun b o e => hsb₁.extBut b o (Nat.ne_of_lt (Heap.lt_size e)) (Heap.get?_push_of_some _ e)
  have I' := comp_start (tk := s3.toks) hc S I3 hf3 hlt3 hns₁ keep
  have st1 : tn 0 h₁ := T.keep _ _ _ st fun b hb o e => keep b o (hk3 b o e)
  have stat : ∀ {H' : Hp} , (∀ b ∈ fp, H' b = none) → ∀ b ∈ fp, FpOk (cxComp X scope x fr s3.heap.objs.size s3 (upd H s.heap.objs.size (.lst [])) fp (X.pn ++ pins)) [] H' b := fun hn b hb => by
    obtain ⟨f0, f1, f2, f3, f4, f5⟩ := hf3 b hb
    exact ⟨hn b hb, Nat.ne_of_lt (hlt3 b hb), fun z => (List.mem_cons.mp (I3.stkSub b z)).elim f1 f2, .inl hb, fun y c e => f4 y c (S.sub I3 e), fun p hp => f5 p (by simpa [cxComp] using hp)⟩
  have loop : ∀ s₃ : Shared, s₃ = { s3 with heap := h₁, toks := s3.toks } → codeAny (model X.prog X.w) X.A (.compLoop (.ListComp elt [⟨.Name x px, iter, ifs, 0⟩] scope pos) 0 (.ref it) (.ref s.heap.objs.size) (compEnvC scope (capCl X.env.cells scope.names []) s3.heap.objs.size X.env))
      (RR (.ref s.heap.objs.size) s3.heap.objs.size) s₃ := by
    rintro s₃ rfl
    refine compLoop_go (fun n s' => ∃ i v ys H', Inv (cxComp X scope x fr s3.heap.objs.size s3 (upd H s.heap.objs.size (.lst [])) fp (X.pn ++ pins)) [] (compSt σ cap v) H' s' ∧ tn i s'.heap ∧ (∀ b ∈ fp, H' b = none) ∧ W i n ys H') ?_ m0
      ⟨0, none, [], _, I', st1, fun b hb => (hf3 b hb).1, w0⟩
    rintro n s4 ⟨i, v, ys, H4, I4, st4, fr4, w4⟩
    obtain ⟨hD4, stop | ⟨go, hlen, N, hN, step⟩⟩ := turn i n ys H4 w4
    · refine thn (T.done (cxComp X scope x fr s3.heap.objs.size s3 (upd H s.heap.objs.size (.lst [])) fp (X.pn ++ pins)) rfl rfl rfl hc i [] s4 _ H4 (fun _ _ => False) I4 (stat fr4) st4 stop.1) fun r s5 ⟨hr, I5⟩ => ?_
      subst hr
      obtain ⟨J1, J2, J3⟩ := comp_back I3 hf3 I5
      exact fin _ _ H4 s5 J1 J2 J3 stop.2
    · refine thn (T.item (cxComp X scope x fr s3.heap.objs.size s3 (upd H s.heap.objs.size (.lst [])) fp (X.pn ++ pins)) rfl rfl rfl hc i [] s4 _ H4 (fun _ _ => False) I4 (stat fr4) st4 go) fun r s5 ⟨u, hr, h5⟩ => ?_
      subst hr
      refine thn h5 fun _ s6 ⟨x6, H6, I6, r6, y6, st6, fr6⟩ => ?_
      have I6' := I6.pinned (stat fr6) (T.obj _ _ st6)
      have hx : (cxComp X scope x fr s3.heap.objs.size s3 (upd H s.heap.objs.size (.lst [])) fp (X.pn ++ pins)).env.scope.names.lookup x = some .local := lookup_relabel_local S.tgt
      refine thn (pg_name (i := 0) S.nd rfl (Or.inl hx) (Or.inr hx) _ s6 _ H6 x6 u (fun σ' H' => σ' = compSt σ cap (some x6) ∧ H' = H6) I6' r6 ⟨rfl, rfl⟩) fun _ s7 h7 => ?_
      obtain ⟨σ7, H7, I7, rfl, rfl⟩ := h7
      have again : ∀ {s8 : Shared} {H8 : Hp} {m' : Nat} {zs : List V}, Inv (cxComp X scope x fr s3.heap.objs.size s3 (upd H s.heap.objs.size (.lst [])) fp (X.pn ++ pins)) ([] ++ pinsAt fp s6.heap) (compSt σ cap (some x6)) H8 s8 → m' < n → W (i + 1) m' zs H8 →
          ∃ m', m' < n ∧ ∃ i v ys H', Inv (cxComp X scope x fr s3.heap.objs.size s3 (upd H s.heap.objs.size (.lst [])) fp (X.pn ++ pins)) [] (compSt σ cap v) H' s8 ∧ tn i s8.heap ∧ (∀ b ∈ fp, H' b = none) ∧ W i m' ys H' := fun {s8 H8 m' zs} I8 hm w8 => by
        refine ⟨m', hm, i + 1, some x6, zs, H8, I8.unpinned, T.keep _ _ _ st6 fun b hb o e => (I8.pin (b, o) (List.mem_append_right _ (List.mem_append_right _ (mem_pinsAt hb e)))).1, fun b hb => ?_, w8⟩
        obtain ⟨o, e, _⟩ := T.obj _ _ st6 b hb
        exact (I8.pin (b, o) (List.mem_append_right _ (List.mem_append_right _ (mem_pinsAt hb e)))).2.1
      refine thn (hif _ _ _ _ _ _ s7 _ _ _ I7 (step x6 _ y6)) fun b s8 ⟨H8, I8, q8⟩ => ?_
      cases b with
      | false =>
        obtain ⟨m', hm, w8⟩ := hN _ _ q8
        exact again I8 hm w8
      | true =>
        refine thn (he _ _ _ _ _ _ s8 _ _ _ I8 q8) fun uy s9 ⟨y9, H9, I9, r9, hD9, n9⟩ => ?_
        refine thn (mt_append _ s9 _ H9 (.ref s.heap.objs.size) [y9] (.ref s.heap.objs.size) [uy] (fun v H => v = .non ∧ H = upd H9 s.heap.objs.size (.lst (ys ++ [y9]))) I9 rfl (.cons r9 .nil) ⟨_, ys, y9, rfl, rfl, hD9, hlen, rfl, rfl⟩) fun _ s10 h10 => ?_
        obtain ⟨v10, H10, I10, r10, rfl, rfl⟩ := h10
        obtain ⟨m', hm, w9⟩ := hN _ _ n9
        exact again I10 hm w9
  have es : ({ s with heap := h₁, toks := s.toks + ([] : List (Str × Value)).length } : Shared) = { s3 with heap := h₁, toks := s3.toks } := by rw [← hs3]; rfl
  exact codeAny_compStart_list (loop _ es) (thn (T.self X.A 0 _ (fun it' s' => it' = .ref it ∧ s' = { s3 with heap := h₁, toks := s3.toks }) _ st1 ⟨rfl, es⟩) fun it' s' ⟨e1, e2⟩ => by subst e1; exact loop _ e2)

theorem pe_comp (hc : X.calm = true) (S : CompSc X scope x fr cap) (hi : PI X (.Name x px) iter wi) (hif : ∀ C s₀ H₀ ex pn, PTs (cxComp X scope x fr C s₀ H₀ ex pn) ifs tc) (he : ∀ C s₀ H₀ ex pn, PE (cxComp X scope x fr C s₀ H₀ ex pn) elt te)
    (hs : ∀ x, foldedSetIterable iter X.env x = pure x := by intro _; rfl) : PE X (.ListComp elt [⟨.Name x px, iter, ifs, 0⟩] scope pos) (tComp wi cap tc te) := by
  intro pins s σ H Q I h
  rw [eval_ListComp]
  refine wpAny_comprehension_free (use := none) rfl hs (closureFor_cap (S.cells I)) S.kind S.loc (thn (hi pins s σ H _ I h) fun v s1 h1 => thn h1 fun itv s2 h2 => ?_)
  obtain ⟨it, fp, tn, J, H2, e, I2, T, st2, f2, w2⟩ := h2
  subst e
  refine comp_block (RR := fun acc C => compPost (model X.prog X.w) X.A X.xe none (EP X pins σ Q) acc C) hc S hif he I2 T st2 f2 w2 ?_
  intro D C H' s' I' fC hns q
  obtain ⟨m, hn⟩ := hns
  exact ⟨m, hn, fun h' sb => ⟨.ref D, H', I'.sameC fC sb, rfl, q⟩⟩

/-- y = [.. for x in ..]: the store comes ahead of the block's end -/
theorem ps_comp {i : Nat} {y : Str} {py spos : Pos} (hc : X.calm = true) (S : CompSc X scope x fr cap) (hi : PI X (.Name x px) iter wi) (hif : ∀ C s₀ H₀ ex pn, PTs (cxComp X scope x fr C s₀ H₀ ex pn) ifs tc) (he : ∀ C s₀ H₀ ex pn, PE (cxComp X scope x fr C s₀ H₀ ex pn) elt te)
    (hN : X.N.Nodup) (hy : X.N[i]? = some y) (hl : X.env.scope.names.lookup y = some .local)
    (hsw : swapsWith (.ListComp elt [⟨.Name x px, iter, ifs, 0⟩] scope pos) (some (.Name y py)) spos.line X.env = pure true)
    (hs : ∀ x, foldedSetIterable iter X.env x = pure x := by intro _; rfl) : PS X (.Assign [.Name y py] (.ListComp elt [⟨.Name x px, iter, ifs, 0⟩] scope pos) spos) (tAsg (tComp wi cap tc te) (gName i)) := by
  intro pins s σ H Dn I h
  rw [exec_Assign_Name_used _ _ _ _ hsw]
  refine wpAny_bind (wpAny_standAt (wpAny_bind ?_))
  show wpAny _ X.A (do let _ ← comprehension (.ListComp elt [⟨.Name x px, iter, ifs, 0⟩] scope pos) scope X.env _ (newList []) false (eval iter X.env) (some (assign (.Name y py) X.env))) _ _ s
  refine wpAny_bind (wpAny_mono (wpAny_comprehension_free (use := some (assign (.Name y py) X.env)) (Q := fun _ s' => SP X pins Dn .next s') rfl hs (closureFor_cap (S.cells I)) S.kind S.loc
    (thn (hi pins s σ H _ I h) fun v s1 h1 => thn h1 fun itv s2 h2 => ?_)) (fun _ s' hq => wpAny_pure (wpAny_pure hq)) fun _ _ e => e)
  obtain ⟨it, fp, tn, J, H2, e, I2, T, st2, f2, w2⟩ := h2
  subst e
  refine comp_block (RR := fun acc C => compPost (model X.prog X.w) X.A X.xe (some (assign (.Name y py) X.env)) (fun _ s' => SP X pins Dn .next s') acc C) hc S hif he I2 T st2 f2 w2 ?_
  intro D C H' s' I' fC hns q
  obtain ⟨m, hn⟩ := hns
  show wpAny _ X.A (assign (.Name y py) X.env (.ref D)) _ _ _
  refine wpAny_assign_Name (store_ok2 I' hN hy (Or.inl hl) (v := .ref D) rfl (fun s'' I'' sb => ?_) (Or.inr hl))
  obtain ⟨a, sb, ha⟩ := sb
  have hCa : C ≠ a := by
    rcases ha with rfl | ha
    · exact fC.2.1
    · exact fun z => fC.2.2.2.2.1 y a ha z.symm
  exact ⟨m, hn.sameBut sb hCa, fun h' sb' => ⟨_, H', I''.sameC fC sb', q⟩⟩
end
end L2
set_option Elab.async false
set_option linter.all false
set_option maxRecDepth 100000
set_option maxHeartbeats 4000000
namespace L2
open PySem PySem.Spec PyProof.Rows

/-! ### for i, x in enumerate(xs) -/
def Ite (K : PySem.W.Frag) (a : Addr) : It :=
  ⟨fun i H => ∃ xs x, SqL K H a xs ∧ xs[i]? = some x, fun i H x H' => ∃ p y, x = .ref p ∧ H p = none ∧ (∀ xs, SqL K H a xs → xs[i]? = some y) ∧ H' = upd H p (.tup [.int i, y]), fun i H => ∃ xs, SqL K H a xs ∧ xs.length ≤ i⟩
theorem turn_enum {P : Program} {w : World} {K : PySem.W.Frag} {es : List Expr} {k : Nat} {pos : Pos} (a e it : Addr) (hne : e ≠ it) :
    Turn P w K (.Tuple es k pos) (Ite K a) [e, it] e (fun i h => (∃ old, IsEnum h e it (i : Nat) old) ∧ h.IsListIter it a i) where
  mem := by simp
  obj := fun i h st b hb => by
    obtain ⟨⟨old, he⟩, o, e1, c, d⟩ := st
    rcases List.mem_cons.mp hb with rfl | hb
    · exact ⟨_, he, fun v z => by
        have z' : Data.fields _ = Data.cell v := z
        cases z'⟩
    · have eb : b = it := by simpa using hb
      subst eb
      exact ⟨o, e1, fun v z => by rw [d] at z; cases z⟩
  keep := fun i h h' st k => ⟨let ⟨old, he⟩ := st.1; ⟨old, k e (by simp) _ he⟩, st.2.at fun o e1 => k it (by simp) o e1⟩
  item := by
    intro X hP hw hK hc i pins s σ H E I hf st hg
    subst hP hw hK
    obtain ⟨xs, x, hq, hx⟩ := hg
    obtain ⟨its, rv, p, hz⟩ := I.list hq
    obtain ⟨u, hu, ru⟩ := rv.get hx
    obtain ⟨⟨old, he⟩, hit⟩ := st
    have fe := hf e (by simp)
    have fi := hf it (by simp)
    refine wpAny_pyNext_enum_item he hit p.isList (x := u) (by simpa using hu) hne fun h' heo hit' hT hsz hk => ?_
    have hfree : H s.heap.objs.size = none := I.fresh
    have ht : ∀ c u, H c = some u → c ≠ e ∧ c ≠ it := fun c u q => ⟨ne_of_none q fe.1, ne_of_none q fi.1⟩
    have I1 : Inv X pins σ (upd H s.heap.objs.size (.tup [.int i, x])) { s with heap := h', toks := s.toks + 1 } := by
      refine I.step (g' := s.gens) (d' := s.drawn) (ch := [e, it]) (fun b hb => ?_) (fun b o _ _ hb q _ => hk b o (fun z => hb (by simp [z])) (fun z => hb (by simp [z])) q)
        (fun b o _ _ hb q _ => ⟨o.slots, hk b o (fun z => hb (by simp [z])) (fun z => hb (by simp [z])) q⟩) (fun b o _ q n => by rw [upd_ne (Nat.ne_of_lt (Heap.lt_size q))]; exact n)
        (fun b o hb q => ⟨o, hk b o (fun z => hb (by simp [z])) (fun z => hb (by simp [z])) q⟩) (fun b ys q => by rw [upd_ne (ne_of_none q hfree)]; exact q) (fun b o u q => by rw [upd_ne (ne_of_none q hfree)]; exact q)
        (fun b ps q => ⟨#[], by rw [upd_ne (ne_of_none q hfree), q]; simp⟩) (fun m hm => hm.at' fun o q => hk _ o (Ne.symm fe.2.1) (Ne.symm fi.2.1) q) (fun b o q => ?_) I.bare
      · rcases List.mem_cons.mp hb with rfl | hb
        · exact ⟨fe.2.2.2.1, fe.2.1, fe.2.2.2.2.1, fe.2.2.2.2.2⟩
        · have eb : b = it := by simpa using hb
          subst eb
          exact ⟨fi.2.2.2.1, fi.2.1, fi.2.2.2.2.1, fi.2.2.2.2.2⟩
      · by_cases hb : b = s.heap.objs.size
        · subst hb
          rw [upd_same] at q
          cases q
          refine ⟨Nat.le_trans (show 2 ≤ 1000 by decide) (Nat.le_of_lt (small1000 (Nat.le_refl 1000))), [.int i s.toks, u], .cons ⟨_, rfl⟩ (.cons ru .nil), ⟨_, hT, rfl, _, rfl⟩⟩
        · rw [upd_ne hb] at q
          exact (I.hok b o q).stay (fun c v hc' q' => hk c v (hc'.elim (fun z => z ▸ (ht b o q).1) fun z => (ht c _ z).1) (hc'.elim (fun z => z ▸ (ht b o q).2) fun z => (ht c _ z).2) q')
            (fun c q' => by rw [upd_ne (ne_of_none q' hfree)]; exact q') fun c ys q' => by rw [upd_ne (ne_of_none q' hfree)]; exact q'
    refine ⟨_, rfl, wpAny_letOwnedTupleGo_enum heo fun h2 he2 hs2 => ?_⟩
    have hpe : s.heap.objs.size ≠ e := Nat.ne_of_gt (Heap.lt_size he)
    have hpi : s.heap.objs.size ≠ it := by obtain ⟨o, e1, _⟩ := hit; exact Nat.ne_of_gt (Heap.lt_size e1)
    have fe1 : FpOk X pins (upd H s.heap.objs.size (.tup [.int i, x])) e := ⟨by rw [upd_ne (Ne.symm hpe)]; exact fe.1, fe.2⟩
    refine ⟨.ref s.heap.objs.size, _, I1.sameC fe1 hs2, rfl, ⟨_, x, rfl, hfree, fun ys hy => by rw [I.list_inj hy hq]; exact hx, rfl⟩, ⟨⟨_, by simpa using he2⟩, hit'.at fun o q => (hs2.2 it (Ne.symm hne)).trans q⟩, fun b hb => ?_⟩
    rcases List.mem_cons.mp hb with rfl | hb
    · rw [upd_ne (Ne.symm hpe)]; exact fe.1
    · have eb : b = it := by simpa using hb
      subst eb
      rw [upd_ne (Ne.symm hpi)]; exact fi.1
  done := by
    intro X hP hw hK hc i pins s σ H E I hf st hg
    subst hP hw hK
    obtain ⟨xs, hq, hx⟩ := hg
    obtain ⟨its, rv, p, hz⟩ := I.list hq
    obtain ⟨⟨old, he⟩, hit⟩ := st
    obtain ⟨f0, f1, f2, f3, f4, f5⟩ := hf it (by simp)
    have hl := rv.length
    exact wpAny_pyNext_enum_end (I.ok.hd hc) he hit p.isList (by simp; omega) fun h' eb => ⟨rfl, I.turned (t' := s.toks) (fun b o hb e => eb b o hb e) f0 f1 f3 f4 f5⟩
  self := fun _ _ _ _ _ st h => let ⟨_, he⟩ := st.1; wpAny_pyIter_enum he h
section
variable {X : Cx}
def iEnum (K : PySem.W.Frag) (ta : TA) : TI := fun σ H R => ta σ H fun vs H1 => ∃ a, vs = [.ref a] ∧ (∃ xs, SqL K H1 a xs) ∧ R (Ite K a) H1
theorem pi_enum {a : Expr} {ta : TA} {es : List Expr} {k : Nat} {p pos tpos : Pos} (hg : Gl X "enumerate") (hm : X.mg "enumerate" = none) (ha : PA X [a] ta) (hs : starEach [a] X.env = [(false, eval a X.env)] := by rfl) :
    PI X (.Tuple es k tpos) (.Call (.Name "enumerate" p) [a] [] pos) (iEnum X.K ta) := by
  intro pins s σ H R I h
  refine Call_ (ld_blt I hg hm boot_enumerate (PyProof.Rows.callWith_type1 (thn (ha pos pins s σ H _ I h) fun us s1 ⟨vs, H1, I1, r1, q1⟩ => ?_) hs rfl))
  obtain ⟨l, e, ⟨xs, hq⟩, q⟩ := q1
  subst e
  cases r1 with
  | cons r rr =>
    cases rr
    cases r
    obtain ⟨its, rv, pl, hz⟩ := I1.list hq
    refine call_enumerate_list pl.isList fun h' he hit hsz hk => ?_
    refine wpAny_pyIter_enum he ?_
    refine ⟨s1.heap.objs.size + 1, [s1.heap.objs.size + 1, s1.heap.objs.size], _, _, H1, rfl, I1.kept (t' := s1.toks) hk, turn_enum l _ _ (Nat.succ_ne_self _), ⟨⟨_, he⟩, hit⟩, fun b hb => ?_, q⟩
    rcases List.mem_cons.mp hb with rfl | hb
    · exact I1.fpOk (Nat.le_succ _) (I1.hok.fresh (Nat.le_succ _))
    · have e : b = s1.heap.objs.size := by simpa using hb
      subst e
      exact I1.fpOk (Nat.le_refl _) (I1.hok.fresh (Nat.le_refl _))
end
theorem for_enum {K : PySem.W.Frag} {a : Addr} {xs : List V} {g : TG} {tb : TS} {D : Ends} {σ : St} {H : Hp} (Pv : Nat → St → Hp → Prop) (h0 : Pv 0 σ H) (hl : ∀ i σ H, i ≤ xs.length → Pv i σ H → SqL K H a xs)
    (hs : ∀ i x σ H p, xs[i]? = some x → Pv i σ H → H p = none → g (.ref p) σ (upd H p (.tup [.int i, x])) fun σ2 H2 => tb { D with nx := Pv (i + 1), ct := Pv (i + 1), bk := D.nx } σ2 H2) (hd : ∀ σ H, Pv xs.length σ H → D.nx σ H) :
    ∃ W : Nat → Nat → St → Hp → Prop, (∃ m, W 0 m σ H) ∧ ∀ i m σ H, W i m σ H →
      ((Ite K a).stop i H ∧ D.nx σ H) ∨ ((Ite K a).go i H ∧ ∃ N : St → Hp → Prop, (∀ σ' H', N σ' H' → ∃ m', m' < m ∧ W (i + 1) m' σ' H') ∧ ∀ x H', (Ite K a).yld i H x H' → g x σ H' fun σ2 H2 => tb { D with nx := N, ct := N, bk := D.nx } σ2 H2) := by
  refine ⟨fun i m σ H => m = xs.length - i ∧ i ≤ xs.length ∧ Pv i σ H, ⟨xs.length, by simp, Nat.zero_le _, h0⟩, ?_⟩
  rintro i m σ H ⟨rfl, hi, p⟩
  have q := hl i σ H hi p
  by_cases hlt : i < xs.length
  · refine .inr ⟨⟨xs, xs[i], q, by simp [hlt]⟩, Pv (i + 1), fun σ' H' p' => ⟨xs.length - (i + 1), by omega, rfl, hlt, p'⟩, fun x H' y => ?_⟩
    obtain ⟨p1, y1, rfl, hp, hy, rfl⟩ := y
    exact hs i y1 σ H p1 (hy xs q) p hp
  · have e : i = xs.length := by omega
    subst e
    exact .inl ⟨⟨xs, q, Nat.le_refl _⟩, hd σ H p⟩

/-! ### the forms of a comprehension -/
/-- over a list -/
theorem comp_list {K : PySem.W.Frag} {a : Addr} {xs : List V} {D : Addr} {ts : Option V → St} {tc : TT} {te : TE} {Qc : Hp → Prop} {H : Hp} (Pv : Nat → List V → Hp → Prop) (h0 : Pv 0 [] (upd H D (.lst [])))
    (hl : ∀ i ys H, i ≤ xs.length → Pv i ys H → SqL K H a xs ∧ H D = some (.lst ys) ∧ ys.length < sizeLine)
    (hs : ∀ i x ys H, xs[i]? = some x → Pv i ys H → tc (ts (some x)) H fun b H4 => if b = true then te (ts (some x)) H4 fun y H5 => H5 D = some (.lst ys) ∧ Pv (i + 1) (ys ++ [y]) (upd H5 D (.lst (ys ++ [y]))) else Pv (i + 1) ys H4)
    (hd : ∀ ys H, Pv xs.length ys H → Qc H) :
    ∃ W, (∃ m, W 0 m [] (upd H D (.lst []))) ∧ CompW (Itl K a) D ts tc te Qc W := by
  refine ⟨fun i m ys H => m = xs.length - i ∧ i ≤ xs.length ∧ Pv i ys H, ⟨xs.length, by simp, Nat.zero_le _, h0⟩, ?_⟩
  rintro i m ys H2 ⟨rfl, hi, p⟩
  obtain ⟨q, hD, hz⟩ := hl i ys H2 hi p
  refine ⟨hD, ?_⟩
  by_cases hlt : i < xs.length
  · refine .inr ⟨⟨xs, xs[i], q, by simp [hlt]⟩, hz, Pv (i + 1), fun zs H' p' => ⟨xs.length - (i + 1), by omega, rfl, hlt, p'⟩, fun v H3 y => ?_⟩
    obtain ⟨e, y⟩ := y
    subst e
    exact hs i v ys _ (y xs q) p
  · have e : i = xs.length := by omega
    subst e
    exact .inl ⟨⟨xs, q, Nat.le_refl _⟩, hd ys H2 p⟩
/-- over a range -/
theorem comp_range {lo : Int} {n : Nat} {D : Addr} {ts : Option V → St} {tc : TT} {te : TE} {Qc : Hp → Prop} {H : Hp} (Pv : Nat → List V → Hp → Prop) (h0 : Pv 0 [] (upd H D (.lst [])))
    (hl : ∀ i ys H, i ≤ n → Pv i ys H → H D = some (.lst ys) ∧ ys.length < sizeLine)
    (hs : ∀ i ys H, i < n → Pv i ys H → tc (ts (some (.int (lo + i)))) H fun b H4 => if b = true then te (ts (some (.int (lo + i)))) H4 fun y H5 => H5 D = some (.lst ys) ∧ Pv (i + 1) (ys ++ [y]) (upd H5 D (.lst (ys ++ [y]))) else Pv (i + 1) ys H4)
    (hd : ∀ ys H, Pv n ys H → Qc H) :
    ∃ W, (∃ m, W 0 m [] (upd H D (.lst []))) ∧ CompW (Itr lo n) D ts tc te Qc W := by
  refine ⟨fun i m ys H => m = n - i ∧ i ≤ n ∧ Pv i ys H, ⟨n, by simp, Nat.zero_le _, h0⟩, ?_⟩
  rintro i m ys H2 ⟨rfl, hi, p⟩
  obtain ⟨hD, hz⟩ := hl i ys H2 hi p
  refine ⟨hD, ?_⟩
  by_cases hlt : i < n
  · refine .inr ⟨hlt, hz, Pv (i + 1), fun zs H' p' => ⟨n - (i + 1), by omega, rfl, hlt, p'⟩, fun v H3 y => ?_⟩
    obtain ⟨rfl, rfl⟩ := y
    exact hs i ys _ hlt p
  · have e : i = n := by omega
    subst e
    exact .inl ⟨Nat.le_refl _, hd ys H2 p⟩

/-! ### isinstance -/
section
variable {X : Cx}
theorem kitx_ty {pins : List (Addr × Obj)} {σ : St} {H : Hp} {s : Shared} {x : V} {u t : Value} (I : Inv X pins σ H s) (rx : RelV x u) (ty : TyOf X.K H x t) :
    ∃ Hh, PySem.W.KitX X.K u t Hh ∧ Hh s.heap ∧ u ≠ .builtin "__main__.__loader__#opaque" := by
  cases ty with
  | non => cases (show u = Value.none from rx); exact ⟨_, PySem.W.kitx_none, True.intro, fun z => nomatch z⟩
  | bl y => cases (show u = Value.bool y from rx); exact ⟨_, PySem.W.kitx_bool, True.intro, fun z => nomatch z⟩
  | int i => obtain ⟨t, q⟩ := (show ∃ t, u = Value.int i t from rx); cases q; exact ⟨_, PySem.W.kitx_int, True.intro, fun z => nomatch z⟩
  | str y => obtain ⟨t, q⟩ := (show ∃ t, u = Value.str y t from rx); cases q; exact ⟨_, PySem.W.kitx_str, True.intro, fun z => nomatch z⟩
  | flt y => obtain ⟨t, q⟩ := (show ∃ t, u = Value.float y t from rx); cases q; exact ⟨_, PySem.W.kitx_float, True.intro, fun z => nomatch z⟩
  | @lst a xs ea =>
    cases (show u = Value.ref a from rx)
    obtain ⟨_, _, n, _, h1⟩ := (show ObjOk X.prog X.w H s.heap a (.lst xs) from I.hok a _ ea)
    exact ⟨_, PySem.W.kitx_list, ⟨_, h1, rfl⟩, fun z => nomatch z⟩
  | @frz a ob xs ea =>
    cases (show u = Value.ref a from rx)
    obtain ⟨_, _, _, n, _, h1⟩ := (show ObjOk X.prog X.w H s.heap a (.frz ob (.lst xs)) from I.hok a _ ea)
    exact ⟨_, PySem.W.kitx_list, ⟨_, h1, rfl⟩, fun z => nomatch z⟩
  | @tup a xs ea =>
    cases (show u = Value.ref a from rx)
    obtain ⟨_, _, _, p⟩ := (show ObjOk X.prog X.w H s.heap a (.tup xs) from I.hok a _ ea)
    obtain ⟨o, h1, h2, _⟩ := p
    exact ⟨_, PySem.W.kitx_tuple, ⟨o, h1, h2⟩, fun z => nomatch z⟩
  | @dK a kvs ea =>
    cases (show u = Value.ref a from rx)
    obtain ⟨_, _, vs, _, p⟩ := (show ObjOk X.prog X.w H s.heap a (.dK kvs) from I.hok a _ ea)
    obtain ⟨o, es, ep, h1, h2, _⟩ := p
    exact ⟨_, PySem.W.kitx_dict, ⟨o, h1, h2.1⟩, fun z => nomatch z⟩
  | @dT a kvs ea =>
    cases (show u = Value.ref a from rx)
    obtain ⟨_, _, xs, _, o, es, ep, h1, h2, _⟩ := (show ObjOk X.prog X.w H s.heap a (.dT kvs) from I.hok a _ ea)
    exact ⟨_, PySem.W.kitx_dict, ⟨o, h1, h2.1⟩, fun z => nomatch z⟩
  | @ins a C dx fs ea cl ha hn htk hm =>
    cases (show u = Value.ref a from rx)
    obtain ⟨mA, O, _⟩ := ins_get I.hok ea
    obtain ⟨od, J, _⟩ := O.look
    exact ⟨_, PySem.W.kitx_own (cl.get _) cl.hd ha hn htk hm, J, fun z => nomatch z⟩
/-- the builtin types that are asked for -/
inductive TyN (H : Hp) : V → String → Prop where
  | non : TyN H .non "NoneType"
  | bl (x : Bool) : TyN H (.bl x) "bool"
  | int (i : Int) : TyN H (.int i) "int"
  | str (x : Str) : TyN H (.str x) "str"
  | lst {a : Addr} {xs : List V} (e : H a = some (.lst xs)) : TyN H (.ref a) "list"
  | tup {a : Addr} {xs : List V} (e : H a = some (.tup xs)) : TyN H (.ref a) "tuple"
theorem TyN.ty {K : PySem.W.Frag} {H : Hp} {x : V} {T : String} (h : TyN H x T) : TyOf K H x (.type T) := by
  cases h with
  | non => exact .non
  | bl x => exact .bl x
  | int i => exact .int i
  | str x => exact .str x
  | lst e => exact .lst e
  | tup e => exact .tup e
theorem kit_one (T c : String) (b : Bool) (hm : PySem.W.kitMeta c = true := by decide +kernel) (hs : (fastBuiltinMro T).map (·.contains (Value.type c)) = some b := by decide +kernel) (hne : (Value.type T == Value.type c) = false ∨ b = true) (K : PySem.W.Frag) : PySem.W.kitOne K (.type T) (.type c) = some b := by
  unfold PySem.W.kitOne
  split
  · rename_i h
    rcases hne with q | rfl
    · rw [q] at h; cases h
    · rfl
  · show (if PySem.W.kitMeta c = true then PySem.W.subIn K (.type T) (.type c) else none) = some b
    rw [if_pos hm]
    exact hs
/-- isinstance(x, c) -/
theorem call_isT : CallR X (.builtin "isinstance") (fun xs H Q => ∃ x c T b, xs = [x, .ty c] ∧ TyN H x T ∧ PySem.W.kitOne X.K (.type T) (.type c) = some b ∧ Q (.bl b) H) := by
  intro pins s σ H xs us Q I r h
  obtain ⟨x, c, T, b, rfl, ty, e, q⟩ := h
  obtain ⟨u, w', rfl, rx, rc⟩ := vals2 r
  cases (show w' = Value.type c from rc)
  exact isinst_ok I rx ty.ty e fun tk => ⟨.bl b, H, I.tok tk, rfl, q⟩
/-- isinstance(x, (c, d)) -/
theorem call_isTs : CallR X (.builtin "isinstance") (fun xs H Q => ∃ x p c d T b b', xs = [x, .ref p] ∧ H p = some (.tup [.ty c, .ty d]) ∧ TyN H x T ∧ PySem.W.kitOne X.K (.type T) (.type c) = some b ∧ PySem.W.kitOne X.K (.type T) (.type d) = some b' ∧ Q (.bl (b || b')) H) := by
  intro pins s σ H xs us Q I r h
  obtain ⟨x, p, c, d, T, b, b', rfl, hp, ty, e1, e2, q⟩ := h
  obtain ⟨u, w', rfl, rx, rc⟩ := vals2 r
  cases (show w' = Value.ref p from rc)
  obtain ⟨z, its, rv, o, ho, hc, n, hd⟩ := (show ObjOk X.prog X.w H s.heap p (.tup _) from I.hok p _ hp)
  obtain ⟨u1, u2, rfl, r1, r2⟩ := vals2 rv
  cases (show u1 = Value.type c from r1)
  cases (show u2 = Value.type d from r2)
  obtain ⟨Hh, Z, hh, hx⟩ := kitx_ty I rx ty.ty
  obtain ⟨c0, dd, data, sl⟩ := o
  simp only at hc hd
  subst hc hd
  refine PySem.W.kia_tup Z I.kIn hh (its := [.type c, .type d]) (n := n) ho ?_ hx fun tk => ⟨.bl (b || b'), H, I.tok tk, rfl, q⟩
  simp only [PySem.W.kitAny, e1, e2]
  cases b <;> cases b' <;> rfl

/-! ### sum of ints -/
theorem call_sum (hc : X.calm = true) : CallR X (.builtin "sum") (fun xs H Q => ∃ (a : Addr) (ns : List Int), xs = [.ref a] ∧ SqL X.K H a (ns.map V.int) ∧ Q (.int ns.sum) H) := by
  intro pins s σ H xs us Q I r h
  obtain ⟨a, ns, rfl, hq, q⟩ := h
  obtain ⟨u, rfl, ru⟩ := vals1 r
  cases ru
  obtain ⟨its, rv, p, hz⟩ := I.list hq
  have hi := intsAre_of rv
  obtain ⟨xs, hxs⟩ := (show AllInts its.toArray from hi.allInts).items
  have hn : (numsOf its.toArray.toList) = ns := by rw [show its.toArray.toList = its from rfl, hi.numsOf]
  refine sum_intListG (I.ok.hd hc) (l := a) (xs := xs) (hxs ▸ p.isList) fun h' tk t' hk => ⟨.int ns.sum, H, I.kept hk, ⟨t', ?_⟩, q⟩
  have e : preSum (numAt xs) xs.size = ns.sum := by
    rw [hxs, nums_intItems] at hn
    rw [preSum_eq, List.take_of_length_le (by simp), hn]
  rw [e]

/-! ### a product of any two ints of moderate size -/
theorem op_mulB : OpR X (binaryOp .Mult) (rI IntMulOk fun i j => .int (i * j)) := opI fun _ _ _ _ _ _ _ hc q => mul_int q hc

/-! ### d.copy() -/
theorem mt_dcopy : MtR X "dict.copy" (fun x xs H Q => ∃ a kvs, x = .ref a ∧ xs = [] ∧ H a = some (.dK kvs) ∧ ∀ p, H p = none → Q (.ref p) (upd H p (.dK kvs))) := by
  intro pins s σ H x xs v us Q I rx rv h
  obtain ⟨a, kvs, rfl, rfl, e, q⟩ := h
  cases rx
  cases rv
  obtain ⟨z, hd, vs, rel, dd⟩ := dk_of I.hok e
  refine call_meetsIn PySem.F.slot_dict_copy dd.typeIs PySem.F.entry_dict_copy (PySem.F.args_dict_copy_1 _) (meets_dict_copy (mixKind X.prog X.w) a hd) ⟨vs, dd, by rw [← rel.length]; exact z, fun h' dd' _ hk => ?_⟩
  exact ⟨.ref s.heap.objs.size, _, I.laid (a := s.heap.objs.size) (o := .dK kvs) (t' := s.toks) hk (Nat.le_refl _) (dk_new z (beq_eq_false_iff_ne.mpr (Ne.symm (Nat.ne_of_lt I.big))) rel dd'), rfl, q _ I.fresh⟩
theorem pe_dcopy {o : Expr} {to : TE} {apos cpos : Pos} (ho : PE X o to) (hbase : attributeBase o "copy" X.env (eval o X.env) = eval o X.env := by rfl) (hline : (apos.endLine == cpos.line) = true := by rfl) :
    PE X (.Call (.Attribute o "copy" apos) [] [] cpos) (tBM0 X.K "dict" (fun x xs H Q => ∃ a kvs, x = .ref a ∧ xs = [] ∧ H a = some (.dK kvs) ∧ ∀ p, H p = none → Q (.ref p) (upd H p (.dK kvs))) to) :=
  pe_bm0 PySem.F.plainAttrs_dict PySem.F.slot_dict_copy PySem.F.type_dict_copy mt_dcopy ho hbase hline
/-- dict(d) -/
theorem call_dict : CallR X (.type "dict") (fun xs H Q => ∃ a kvs, xs = [.ref a] ∧ H a = some (.dK kvs) ∧ ∀ p, H p = none → Q (.ref p) (upd H p (.dK kvs))) := by
  intro pins s σ H xs us Q I r h
  obtain ⟨a, kvs, rfl, e, q⟩ := h
  obtain ⟨u, rfl, ru⟩ := vals1 r
  cases ru
  exact d_copyOf I (.inl e) fun p s' hp I' => ⟨.ref p, _, I', rfl, q p hp⟩

/-! ### a list against [] -/
theorem op_eq_nil (hu : X.A.units < cLine) : OpR X (compareOp .Eq) (fun x y H Q => ∃ a b xs, x = .ref a ∧ y = .ref b ∧ SqL X.K H a xs ∧ SqL X.K H b [] ∧ Q (.bl xs.isEmpty) H) := by
  intro pins s σ H x y v u Q I rx ry h
  obtain ⟨a, b, xs, rfl, rfl, ha, hb, q⟩ := h
  cases rx
  cases ry
  obtain ⟨its, r1, p1, _⟩ := I.list ha
  obtain ⟨its2, r2, p2, _⟩ := I.list hb
  cases r2
  cases xs with
  | nil =>
    cases r1
    refine SeqAt.eq_listAt (e := fun _ => true) p1.isList p2.isList rfl hu (fun j h1 _ => absurd h1 (by simp)) ?_
    exact ⟨.bl true, H, I, rfl, q⟩
  | cons y ys =>
    cases r1
    refine SeqAt.eq_list_lengthsAt p1.isList p2.isList (by simp) hu ?_
    exact ⟨.bl false, H, I, rfl, q⟩
theorem op_ne_nil (hu : X.A.units < cLine) : OpR X (compareOp .NotEq) (fun x y H Q => ∃ a b xs, x = .ref a ∧ y = .ref b ∧ SqL X.K H a xs ∧ SqL X.K H b [] ∧ Q (.bl (!xs.isEmpty)) H) := by
  intro pins s σ H x y v u Q I rx ry h
  obtain ⟨a, b, xs, rfl, rfl, ha, hb, q⟩ := h
  cases rx
  cases ry
  obtain ⟨its, r1, p1, _⟩ := I.list ha
  obtain ⟨its2, r2, p2, _⟩ := I.list hb
  cases r2
  cases xs with
  | nil =>
    cases r1
    refine SeqAt.RcNeAt.lists (e := fun _ => true) p1.isList p2.isList rfl hu (fun j h1 _ => absurd h1 (by simp)) _ _ _ _ ?_
    exact ⟨.bl false, H, I, rfl, q⟩
  | cons y ys =>
    cases r1
    refine SeqAt.RcNeAt.lists_lengths p1.isList p2.isList (by simp) hu _ _ _ _ ?_
    exact ⟨.bl true, H, I, rfl, q⟩
end
theorem k_NoneType_list (K : PySem.W.Frag) : PySem.W.kitOne K (.type "NoneType") (.type "list") = some false := kit_one "NoneType" "list" false (hne := .inl (by decide)) (K := K)
theorem k_NoneType_tuple (K : PySem.W.Frag) : PySem.W.kitOne K (.type "NoneType") (.type "tuple") = some false := kit_one "NoneType" "tuple" false (hne := .inl (by decide)) (K := K)
theorem k_bool_list (K : PySem.W.Frag) : PySem.W.kitOne K (.type "bool") (.type "list") = some false := kit_one "bool" "list" false (hne := .inl (by decide)) (K := K)
theorem k_bool_tuple (K : PySem.W.Frag) : PySem.W.kitOne K (.type "bool") (.type "tuple") = some false := kit_one "bool" "tuple" false (hne := .inl (by decide)) (K := K)
theorem k_bool_bool (K : PySem.W.Frag) : PySem.W.kitOne K (.type "bool") (.type "bool") = some true := kit_one "bool" "bool" true (hne := .inr rfl) (K := K)
theorem k_bool_str (K : PySem.W.Frag) : PySem.W.kitOne K (.type "bool") (.type "str") = some false := kit_one "bool" "str" false (hne := .inl (by decide)) (K := K)
theorem k_bool_int (K : PySem.W.Frag) : PySem.W.kitOne K (.type "bool") (.type "int") = some true := kit_one "bool" "int" true (hne := .inr rfl) (K := K)
theorem k_int_list (K : PySem.W.Frag) : PySem.W.kitOne K (.type "int") (.type "list") = some false := kit_one "int" "list" false (hne := .inl (by decide)) (K := K)
theorem k_int_tuple (K : PySem.W.Frag) : PySem.W.kitOne K (.type "int") (.type "tuple") = some false := kit_one "int" "tuple" false (hne := .inl (by decide)) (K := K)
theorem k_int_bool (K : PySem.W.Frag) : PySem.W.kitOne K (.type "int") (.type "bool") = some false := kit_one "int" "bool" false (hne := .inl (by decide)) (K := K)
theorem k_int_str (K : PySem.W.Frag) : PySem.W.kitOne K (.type "int") (.type "str") = some false := kit_one "int" "str" false (hne := .inl (by decide)) (K := K)
theorem k_int_int (K : PySem.W.Frag) : PySem.W.kitOne K (.type "int") (.type "int") = some true := kit_one "int" "int" true (hne := .inr rfl) (K := K)
theorem k_str_list (K : PySem.W.Frag) : PySem.W.kitOne K (.type "str") (.type "list") = some false := kit_one "str" "list" false (hne := .inl (by decide)) (K := K)
theorem k_str_tuple (K : PySem.W.Frag) : PySem.W.kitOne K (.type "str") (.type "tuple") = some false := kit_one "str" "tuple" false (hne := .inl (by decide)) (K := K)
theorem k_str_bool (K : PySem.W.Frag) : PySem.W.kitOne K (.type "str") (.type "bool") = some false := kit_one "str" "bool" false (hne := .inl (by decide)) (K := K)
theorem k_str_str (K : PySem.W.Frag) : PySem.W.kitOne K (.type "str") (.type "str") = some true := kit_one "str" "str" true (hne := .inr rfl) (K := K)
theorem k_str_int (K : PySem.W.Frag) : PySem.W.kitOne K (.type "str") (.type "int") = some false := kit_one "str" "int" false (hne := .inl (by decide)) (K := K)
theorem k_list_list (K : PySem.W.Frag) : PySem.W.kitOne K (.type "list") (.type "list") = some true := kit_one "list" "list" true (hne := .inr rfl) (K := K)
theorem k_list_tuple (K : PySem.W.Frag) : PySem.W.kitOne K (.type "list") (.type "tuple") = some false := kit_one "list" "tuple" false (hne := .inl (by decide)) (K := K)
theorem k_tuple_list (K : PySem.W.Frag) : PySem.W.kitOne K (.type "tuple") (.type "list") = some false := kit_one "tuple" "list" false (hne := .inl (by decide)) (K := K)
theorem k_tuple_tuple (K : PySem.W.Frag) : PySem.W.kitOne K (.type "tuple") (.type "tuple") = some true := kit_one "tuple" "tuple" true (hne := .inr rfl) (K := K)
end L2
set_option Elab.async false
set_option linter.all false
set_option maxRecDepth 100000
set_option maxHeartbeats 4000000
namespace L2
open PySem PySem.Spec PyProof.Rows

/-! ### a def, a method, a class, with all that a call wants -/
section
variable (P : Program) (w : World) (K : PySem.W.Frag) (mg : Str → Option Value) (base : Heap)
def Fn (k : Nat) (x : Str) (ps : List Str) (sp : Sp) : Prop := ∃ f fd, FnOk P w K mg base CX0 k f fd ps sp ∧ mg x = some (.ref f) ∧ PySem.W.keepIn K (.ref f) = true ∧ Binds K fd ps []
def Mt (k : Nat) (C : Addr) (m : Str) (ps : List Str) (sp : Sp) : Prop := ∃ f fd, FnOk P w K mg base CX0 k f fd ps sp ∧ Meth K C m f ∧ Binds K fd ps []
def Mc (k : Nat) (C : Addr) (x : Str) (ps : List Str) (sp : Sp) : Prop := ∃ f fd, FnOk P w K mg base CX0 k f fd ps sp ∧ Mk K C f ∧ mg x = some (.ref C) ∧ Binds K fd ps []
end
def tCallF (sp : Sp) (t : TA) : TE := fun σ H Q => t σ H fun vs H1 => sp vs H1 Q E0
def tMethF (C : Addr) (m : Str) (sp : Sp) (ta : TE) (t : TA) : TE := fun σ H Q => ta σ H fun x H1 => ∃ a dx fs, x = .ref a ∧ H1 a = some (.ins C dx fs) ∧ fs.lookup m = none ∧ t σ H1 fun vs H2 => sp (x :: vs) H2 Q E0
def tMakeF (C : Addr) (sp : Sp) (t : TA) : TE := fun σ H Q => t σ H fun vs H1 => ∀ x dx, H1 x = none → H1 dx = none → dx ≠ x →
  sp (.ref x :: vs) (upd (upd H1 dx (.own x)) x (.ins C dx [])) (fun v H2 => v = .non ∧ Q (.ref x) H2) E0
section
variable {X : Cx} {k : Nat} {C : Addr} {ps : List Str} {sp : Sp} {x m : Str} {p pos apos : Pos} {e o : Expr} {es : List Expr} {ta : TE} {t : TA}
theorem pe_callF (F : Fn X.prog X.w X.K X.mg X.base k x ps sp) (hr : Room k X.A) (hg : Gl X x) (ha : PA X (e :: es) t) (hdb : (x == ("__debug__" : Str)) = false := by decide)
    (he : starEach (e :: es) X.env = (false, eval e X.env) :: starEach es X.env := by rfl) (hpl : (backTo pos (starEach es X.env)).any (·.1) = false := by rfl) :
    PE X (.Call (.Name x p) (e :: es) [] pos) (tCallF sp t) := by
  obtain ⟨f, fd, G, h1, h2, h3⟩ := F
  intro pins s σ H Q I h
  refine wpAny_Call_Name_kw (ld_glob I hg h1 ?_ hdb)
  refine PySem.W.callWith_K (h₀ := X.base) I.ok.mod.kin h2 (thn (ha pos pins s σ H _ I h) fun us s1 ⟨vs, H1, I1, r, q⟩ => ⟨I1.kIn, ?_⟩) he hpl
  exact run_fn (E := E0) (dvs := []) G hr h3 .nil pass0 I1 r (by rw [List.append_nil]; exact q)
theorem pe_methF {pl : Sem Bool} (M : Mt X.prog X.w X.K X.mg X.base k C m ps sp) (c : Cls X.K C) (hr : Room k X.A) (he : PE X o ta) (ha : PA X (e :: es) t)
    (hst : starEach (e :: es) X.env = (false, eval e X.env) :: starEach es X.env := by rfl) (hpl : (backTo pos (starEach es X.env)).any (·.1) = false := by rfl)
    (ht : eval (.Call (.Attribute o m apos) (e :: es) [] pos) X.env = (do
      let ov ← eval o X.env
      standAt apos.atName
      let (f, first) ← holding [ov] (getMethod ov m pl)
      callWith pos f first (backTo pos (starEach (e :: es) X.env)) (backToKw pos (keywordEach [] X.env))) := by rfl) :
    PE X (.Call (.Attribute o m apos) (e :: es) [] pos) (tMethF C m sp ta t) := by
  obtain ⟨f, fd, G, hm, hb⟩ := M
  intro pins s σ H Q I h
  refine PySem.W.methodCall_KW (pl := pl) (thn (he pins s σ H _ I h) fun u s1 ⟨x, H1, I1, rx, a, dx, fs, ex, ea, l, q⟩ => ?_) ht
  subst ex
  obtain rfl : u = Value.ref a := rx
  refine getmeth_ok I1 ea c hm l ?_
  refine PySem.W.callWith_K (first := [.ref a]) (h₀ := X.base) I.ok.mod.kin hm.kp (thn (ha pos pins s1 σ H1 _ I1 q) fun us s2 ⟨vs, H2, I2, r, q2⟩ => ⟨I2.kIn, ?_⟩) hst hpl
  exact run_fn (E := E0) (dvs := []) (us := .ref a :: us) (vs := .ref a :: vs) G hr hb .nil pass0 I2 (.cons rfl r) (by rw [List.append_nil]; exact q2)
theorem pe_methF0 {pl : Sem Bool} (M : Mt X.prog X.w X.K X.mg X.base k C m ps sp) (c : Cls X.K C) (hr : Room k X.A) (he : PE X o ta)
    (ht : eval (.Call (.Attribute o m apos) [] [] pos) X.env = (do
      let ov ← eval o X.env
      standAt apos.atName
      let (f, first) ← holding [ov] (getMethod ov m pl)
      callWith pos f first (backTo pos (starEach [] X.env)) (backToKw pos (keywordEach [] X.env))) := by rfl) :
    PE X (.Call (.Attribute o m apos) [] [] pos) (tMethF C m sp ta tNil) := by
  obtain ⟨f, fd, G, hm, hb⟩ := M
  intro pins s σ H Q I h
  refine PySem.W.methodCall_KW (pl := pl) (thn (he pins s σ H _ I h) fun u s1 ⟨x, H1, I1, rx, a, dx, fs, ex, ea, l, q⟩ => ?_) ht
  subst ex
  obtain rfl : u = Value.ref a := rx
  refine getmeth_ok I1 ea c hm l ?_
  exact PySem.W.callWith_K0 (first := [.ref a]) I1.kIn hm.kp (run_fn (E := E0) (dvs := []) (us := [.ref a]) (vs := [.ref a]) G hr hb .nil pass0 I1 (.cons rfl .nil) (by rw [List.append_nil]; exact q))
theorem pe_makeF (M : Mc X.prog X.w X.K X.mg X.base k C x ps sp) (hr : Room (k + 1) X.A) (hg : Gl X x) (ha : PA X (e :: es) t) (hdb : (x == ("__debug__" : Str)) = false := by decide)
    (he : starEach (e :: es) X.env = (false, eval e X.env) :: starEach es X.env := by rfl) (hpl : (backTo pos (starEach es X.env)).any (·.1) = false := by rfl) :
    PE X (.Call (.Name x p) (e :: es) [] pos) (tMakeF C sp t) := by
  obtain ⟨f, fd, G, mk, h1, hb⟩ := M
  intro pins s σ H Q I h
  refine wpAny_Call_Name_kw (ld_glob I hg h1 ?_ hdb)
  refine PySem.W.callWith_K (h₀ := X.base) I.ok.mod.kin mk.kp (thn (ha pos pins s σ H _ I h) fun us s1 ⟨vs, H1, I1, r, q⟩ => ⟨I1.kIn, ?_⟩) he hpl
  exact run_make (E := E0) (dvs := []) mk G hr hb .nil pass0 I1 r fun x dx a b c => by rw [List.append_nil]; exact q x dx a b c
end

/-! ### the same rules with the fragment named (within a comprehension's block) -/
section
variable {X : Cx}
theorem ix_listK (K : PySem.W.Frag) (h : X.K = K) : IxR X (rIxL K) := by subst h; exact ix_list
theorem pe_fldK {e : Expr} {f : Str} {pos : Pos} {ta : TE} (K : PySem.W.Frag) (h : X.K = K) (he : PE X e ta) (hb : attributeBase e f X.env (eval e X.env) = eval e X.env) : PE X (.Attribute e f pos) (tFld K ta f) := by subst h; exact pe_fld he hb
theorem pe_dcopyK {o : Expr} {to : TE} {apos cpos : Pos} (K : PySem.W.Frag) (h : X.K = K) (ho : PE X o to) (hbase : attributeBase o "copy" X.env (eval o X.env) = eval o X.env := by rfl) (hline : (apos.endLine == cpos.line) = true := by rfl) :
    PE X (.Call (.Attribute o "copy" apos) [] [] cpos) (tBM0 K "dict" (fun x xs H Q => ∃ a kvs, x = .ref a ∧ xs = [] ∧ H a = some (.dK kvs) ∧ ∀ p, H p = none → Q (.ref p) (upd H p (.dK kvs))) to) := by subst h; exact pe_dcopy ho hbase hline
end
/-! ### heaps -/
theorem Same.new {H : Hp} {a : Addr} {o : HO} (h : H a = none) : Same H (upd H a o) := fun b u e => by rw [upd_ne (ne_of_none e h)]; exact e
theorem Same.upd {H H' : Hp} {a : Addr} {o : HO} (s : Same H H') (h : H a = none) : Same H (upd H' a o) := fun b u e => by rw [upd_ne (ne_of_none e h)]; exact s b u e
theorem size1 : (1 : Nat) ≤ sizeLine := by decide
theorem size2 : (2 : Nat) ≤ sizeLine := by decide
theorem small {n : Nat} (h : n ≤ 100000) : n ≤ sizeLine := Nat.le_trans h (by decide)
theorem small' {n : Nat} (h : n ≤ 100000) : n < sizeLine := Nat.lt_of_le_of_lt h (by decide)
end L2
set_option Elab.async false
set_option linter.all false
set_option maxRecDepth 100000
set_option maxHeartbeats 4000000
namespace L2
open PySem PySem.Spec PyProof.Rows

/-! ### a call that is told less: some lists of the caller's are kept from it, and stand as they stood behind it -/
def cut (A : Addr → Bool) (H : Hp) : Hp := fun b => if A b = true then none else H b
def glue (A : Addr → Bool) (H H2 : Hp) : Hp := fun b => if A b = true then H b else H2 b
section
variable {A : Addr → Bool} {H H2 : Hp} {b : Addr} {o : HO}
theorem cut_none (h : H b = none) : cut A H b = none := by unfold cut; split; rfl; exact h
theorem cut_get (h : H b = some o) (n : A b = false) : cut A H b = some o := by unfold cut; rw [n]; exact h
theorem of_cut (h : cut A H b = some o) : H b = some o ∧ A b = false := by
  unfold cut at h
  split at h
  · cases h
  · rename_i z
    exact ⟨h, by simpa using z⟩
theorem glue_in (n : A b = true) : glue A H H2 b = H b := by unfold glue; rw [if_pos n]
theorem glue_out (n : A b = false) : glue A H H2 b = H2 b := by unfold glue; rw [n]; rfl
end
theorem cut_ok {P : Program} {w : World} {A : Addr → Bool} {H : Hp} {h : Heap} (hA : ∀ b, A b = true → ∃ xs, H b = some (.lst xs)) (x : HOk P w H h) : HOk P w (cut A H) h := fun a o e => by
  obtain ⟨e, n⟩ := of_cut e
  have no : ∀ c u, H c = some u → (∀ xs, u ≠ .lst xs) → A c = false := fun c u q hu => by
    cases z : A c with
    | false => rfl
    | true =>
      obtain ⟨xs, hx⟩ := hA c z
      rw [q] at hx
      exact absurd (Option.some.inj hx) (hu xs)
  exact (x a o e).stay (fun _ _ _ q => q) (fun c q => cut_get q (no c _ q (fun _ z => by cases z))) fun c ys q => cut_get q (no c _ q (fun _ z => by cases z))
section
variable {X : Cx} {k : Nat} {f : Addr} {fd : FuncData} {ps : List Str} {sp : Sp} {A : Addr → Bool}
theorem CE.glue {outer : List Env} {P : Program} {w : World} {H : Hp} {s s' : Shared} {Q : VK} {u : Value} (hA : ∀ b, A b = true → ∃ xs, H b = some (.lst xs)) (x : HOk P w H s.heap) (hf : ∀ b ∈ frs outer, H b = none)
    (h : CE outer P w (cut A H) s (fun v H2 => (∀ b, A b = true → H2 b = none) → Q v (L2.glue A H H2)) u s') : CE outer P w H s Q u s' := by
  obtain ⟨v, H', os, bare, un, hok, r, q⟩ := h
  have there : ∀ b, A b = true → ∃ xs o, H b = some (.lst xs) ∧ s.heap.get? b = some o := fun b hb => by
    obtain ⟨xs, hx⟩ := hA b hb
    obtain ⟨_, its, n, _, e⟩ := x b _ hx
    exact ⟨xs, _, hx, e⟩
  have cn : ∀ b, A b = true → cut A H b = none := fun b hb => by unfold cut; rw [if_pos hb]
  have gone : ∀ b, A b = true → H' b = none := fun b hb => by
    obtain ⟨xs, o, hx, e⟩ := there b hb
    exact un.free b o e (cn b hb) (by simp)
  have nA : ∀ b, H b = none → A b = false := fun b hb => by
    cases z : A b with
    | false => rfl
    | true =>
      obtain ⟨xs, hx⟩ := hA b z
      rw [hb] at hx
      cases hx
  have nA' : ∀ b o, H' b = some o → A b = false := fun b o hb => by
    cases z : A b with
    | false => rfl
    | true => rw [gone b z] at hb; cases hb
  have no : ∀ c u, H c = some u → (∀ xs, u ≠ .lst xs) → A c = false := fun c u q hu => by
    cases z : A c with
    | false => rfl
    | true =>
      obtain ⟨xs, hx⟩ := hA c z
      rw [q] at hx
      exact absurd (Option.some.inj hx) (hu xs)
  refine ⟨v, L2.glue A H H', os, bare, ⟨fun b o e n hb hx => un.keep b o e (cut_none n) hb hx, fun b o e n hb hx => un.slot b o e (cut_none n) hb hx, fun b o e n hx => ?_, un.there, fun b xs e => ?_, fun b o u e => ?_, fun b ps e => ?_⟩, fun b o e => ?_, r, q gone⟩
  · rw [glue_out (nA b n)]
    exact un.free b o e (cut_none n) hx
  · have z := no b _ e (fun _ z => by cases z)
    rw [glue_out z]
    exact un.tups b xs (cut_get e z)
  · have z := no b _ e (fun _ z => by cases z)
    rw [glue_out z]
    exact un.frzs b o u (cut_get e z)
  · have z := no b _ e (fun _ z => by cases z)
    rw [glue_out z]
    exact un.tbls b ps (cut_get e z)
  · cases z : A b with
    | true =>
      rw [glue_in z] at e
      obtain ⟨xs, o', hx, e'⟩ := there b z
      rw [hx] at e
      cases e
      obtain ⟨zl, its, n, rv, e2⟩ := x b _ hx
      exact ⟨zl, its, n, rv, un.keep b _ e2 (cn b z) (fun hb => by rw [hf b hb] at hx; cases hx) (by simp)⟩
    | false =>
      rw [glue_out z] at e
      exact (hok b o e).stay (fun _ _ _ q => q) (fun c q => by rw [glue_out (nA' c _ q)]; exact q) fun c xs q => by rw [glue_out (nA' c _ q)]; exact q
theorem run_fn_fr {pins : List (Addr × Obj)} {σ : L2.St} {H : Hp} {s : Shared} {Q : VK} {us : List Value} {vs : List V} (F : FnOk X.prog X.w X.K X.mg X.base CX0 k f fd ps sp) (hr : Room k X.A) (hb : Binds X.K fd ps [])
    (I : Inv X pins σ H s) (r : Vals vs us) (hA : ∀ b, A b = true → ∃ xs, H b = some (.lst xs)) (h : sp vs (cut A H) (fun v H2 => (∀ b, A b = true → H2 b = none) → Q v (glue A H H2)) E0) : wpAny (model X.prog X.w) X.A (call (.ref f) us) (EP X pins σ Q) X.xe s := by
  have hl : (us ++ []).length = ps.length := by rw [List.append_nil, ← r.length]; exact F.len _ _ _ _ h
  have e0 := I.env0
  have e1 : Env0 X.prog X.w X.K X.mg X.base X.A X.stack s (cut A H) := ⟨e0.frames, e0.mod, fun b o e => ⟨(e0.bs b o e).1, cut_none (e0.bs b o e).2⟩, e0.bsz, e0.funs, fun b hb => cut_none (e0.frf b hb), cut_ok hA e0.hok, e0.bare⟩
  have hb' := hb s us I.kIn hl
  rw [List.append_nil] at hb'
  refine wpAny_call (codeAny_mono (F.run X.A X.stack s (cut A H) ⟨us, []⟩ us vs _ E0 hr e1 hb' r h) fun r s' hq => ?_)
  cases r with
  | error e => exact False.elim hq
  | ok fl =>
    cases fl with
    | ret u => exact I.after (CE.glue hA e0.hok e0.frf hq)
    | next => exact False.elim hq
    | brk => exact False.elim hq
    | cont => exact False.elim hq
variable {x : Str} {p pos : Pos} {e : Expr} {es : List Expr} {t : TA}
/-- a call from which some lists are kept -/
def tCallFr (sp : Sp) (t : TA) : TE := fun σ H Q => t σ H fun vs H1 => ∃ A : Addr → Bool, (∀ b, A b = true → ∃ xs, H1 b = some (.lst xs)) ∧ sp vs (cut A H1) (fun v H2 => (∀ b, A b = true → H2 b = none) → Q v (glue A H1 H2)) E0
theorem pe_callFr (F : Fn X.prog X.w X.K X.mg X.base k x ps sp) (hr : Room k X.A) (hg : Gl X x) (ha : PA X (e :: es) t) (hdb : (x == ("__debug__" : Str)) = false := by decide)
    (he : starEach (e :: es) X.env = (false, eval e X.env) :: starEach es X.env := by rfl) (hpl : (backTo pos (starEach es X.env)).any (·.1) = false := by rfl) :
    PE X (.Call (.Name x p) (e :: es) [] pos) (tCallFr sp t) := by
  obtain ⟨f, fd, G, h1, h2, h3⟩ := F
  intro pins s σ H Q I h
  refine wpAny_Call_Name_kw (ld_glob I hg h1 ?_ hdb)
  refine PySem.W.callWith_K (h₀ := X.base) I.ok.mod.kin h2 (thn (ha pos pins s σ H _ I h) fun us s1 ⟨vs, H1, I1, r, A, hA, q⟩ => ⟨I1.kIn, ?_⟩) he hpl
  exact run_fn_fr G hr h3 I1 r hA q
end
/-- one list is kept -/
def one (t : Addr) : Addr → Bool := fun b => decide (b = t)
theorem one_iff {t b : Addr} : one t b = true ↔ b = t := decide_eq_true_iff
theorem one_ne {t b : Addr} (h : b ≠ t) : one t b = false := decide_eq_false h
theorem same_cut {G H : Hp} {t : Addr} (s : Same G H) (h : G t = none) : Same G (cut (one t) H) := fun b o e => cut_get (s _ _ e) (one_ne (ne_of_none e h))
theorem glue_same {H H2 : Hp} {t : Addr} (h : H2 t = none) : Same H2 (glue (one t) H H2) := fun b o e => by rw [glue_out (one_ne (ne_of_none e h))]; exact e
theorem glue_at {H H2 : Hp} {t : Addr} : glue (one t) H H2 t = H t := glue_in (one_iff.mpr rfl)
end L2
set_option Elab.async false
set_option linter.all false
set_option maxRecDepth 100000
set_option maxHeartbeats 4000000
namespace L2
open PySem PySem.Spec PyProof.Rows

/-! ### small words -/
theorem iteT' {A B : Prop} {b : Bool} (h : b = true) (a : A) : if b = true then A else B := by rw [if_pos h]; exact a
theorem iteF' {A B : Prop} {b : Bool} (h : b = false) (a : B) : if b = true then A else B := by rw [h]; exact iteF a
/-- tuples stay -/
def Tk (H H' : Hp) : Prop := ∀ p xs, H p = some (.tup xs) → H' p = some (.tup xs)
theorem Tk.trans {H H1 H2 : Hp} (a : Tk H H1) (b : Tk H1 H2) : Tk H H2 := fun p xs h => b p xs (a p xs h)
theorem Same.tk {H H' : Hp} (s : Same H H') : Tk H H' := fun p xs h => s p _ h
theorem Tk.new {H : Hp} {a : Addr} {o : HO} (h : H a = none) : Tk H (L2.upd H a o) := (Same.new h).tk
theorem Tk.lst {H : Hp} {a : Addr} {o : HO} {xs : List V} (h : H a = some (.lst xs)) : Tk H (L2.upd H a o) := fun p ys e => by
  rw [upd_ne (ne_of e h (by intro z; cases z))]
  exact e
def TupsAt (H : Hp) (vs : List V) (xss : List (List V)) : Prop := Paired (fun v xs => ∃ p, v = .ref p ∧ H p = some (.tup xs)) vs xss
theorem TupsAt.tk {H H' : Hp} {vs : List V} {xss : List (List V)} (h : TupsAt H vs xss) (s : Tk H H') : TupsAt H' vs xss := Paired.mapP h fun v xs ⟨p, e, hp⟩ => ⟨p, e, s _ _ hp⟩
theorem Paired.snoc' {α β : Type} {F : α → β → Prop} {a : α} {b : β} {l : List α} {r : List β} (h : Paired F l r) (q : F a b) : Paired F (l ++ [a]) (r ++ [b]) := PySem.Paired.snoc h q
theorem Paired.getR {α β : Type} {F : α → β → Prop} : ∀ {l : List α} {r : List β} {j : Nat} {b : β}, Paired F l r → r[j]? = some b → ∃ a, l[j]? = some a ∧ F a b
  | _, _, _, _, .nil, e => by simp at e
  | _, _, 0, _, .cons h _, e => by simp at e; subst e; exact ⟨_, rfl, h⟩
  | _, _, j + 1, b, .cons _ t, e => by
    obtain ⟨a, h1, h2⟩ := Paired.getR (j := j) (b := b) t (by simpa using e)
    exact ⟨a, by simpa using h1, h2⟩

/-! ### which layer decides: the mirror -/
def ov : Option Int → V
  | none => .non
  | some i => .int i
def rowE (row : List (Option Int × Bool)) : List (List V) := row.map fun r => [ov r.1, .bl r.2]
def nexH (k : Nat) (h : Option (Int × Nat)) (v : Option Int) : Option (Int × Nat) := match v with
  | none => h
  | some x => some (x, k)
def decM : Nat → Option (Int × Nat) → List (Option Int × Bool) → Option (Int × Nat)
  | _, h, [] => h
  | k, h, (v, l) :: r => if l = true then nexH k h v else decM (k + 1) (nexH k h v) r
def HoldV (H : Hp) (r : V) : Option (Int × Nat) → Prop
  | none => r = .non
  | some (x, k) => ∃ p, r = .ref p ∧ H p = some (.tup [.int x, .int k])
theorem HoldV.tk {H H' : Hp} {r : V} {h : Option (Int × Nat)} (q : HoldV H r h) (s : Tk H H') : HoldV H' r h := by
  cases h with
  | none => exact q
  | some z => obtain ⟨p, e, hp⟩ := q; exact ⟨p, e, s _ _ hp⟩
theorem drop_cons {α : Type} {l : List α} {i : Nat} {a : α} (h : l[i]? = some a) : l.drop i = a :: l.drop (i + 1) := by
  obtain ⟨hi, e⟩ := List.getElem?_eq_some_iff.mp h
  rw [List.drop_eq_getElem_cons hi, e]
/-- decided's promise -/
def spDec : Sp := fun vs H Q _ => ∃ (a : Addr) (rs : List V) (row : List (Option Int × Bool)), vs = [.ref a] ∧ H a = some (.lst rs) ∧ TupsAt H rs (rowE row) ∧
  ∀ r H', Same H H' → HoldV H' r (decM 0 none row) → Q r H'

/-! ### the law's small helpers -/
def spAt (K : PySem.W.Frag) : Sp := fun vs H Q _ => ∃ (a : Addr) (ns : List Int) (k : Int), vs = [.ref a, .int k] ∧ SqL K H a (ns.map V.int) ∧ 0 ≤ k ∧ Q (.int (ns.getD k.toNat 0)) H
theorem atI_ints {ns : List Int} {k : Int} (h0 : 0 ≤ k) (h1 : k < (ns.length : Int)) : atI (ns.map V.int) k = some (.int (ns.getD k.toNat 0)) := by
  have hk : ((k.toNat : Nat) : Int) = k := Int.toNat_of_nonneg h0
  have hl : k.toNat < ns.length := by omega
  have := atI_nat (xs := ns.map V.int) (j := k.toNat) (v := .int (ns.getD k.toNat 0)) (by
    rw [List.getElem?_map, List.getD_eq_getElem?_getD, List.getElem?_eq_getElem hl]
    rfl)
  rw [hk] at this
  exact this
theorem getD_out {ns : List Int} {k : Int} (h0 : 0 ≤ k) (h1 : ¬ k < (ns.length : Int)) : ns.getD k.toNat 0 = 0 := by
  have hl : ns.length ≤ k.toNat := by omega
  rw [List.getD_eq_getElem?_getD, List.getElem?_eq_none hl]
  rfl
def spWho : Sp := fun vs H Q _ => ∃ i : Int, vs = [.int i] ∧ Q (.bl true) H

/-- two values alike, with their weight -/
inductive EqW (H : Hp) : V → V → Nat → Prop
  | flat (x : V) (h : flatV x = true) : EqW H x x 1
  | tup (a b : Addr) (xs : List V) (ha : H a = some (.tup xs)) (hb : H b = some (.tup xs)) (hf : xs.all flatV = true) : EqW H (.ref a) (.ref b) (1 + xs.length)
  | lst (a b : Addr) (xs ys : List V) (cs : List Nat) (ha : H a = some (.lst xs)) (hb : H b = some (.lst ys)) (hl : xs.length = ys.length) (hc : cs.length = xs.length)
      (h : ∀ (i : Nat) x y c, xs[i]? = some x → ys[i]? = some y → cs[i]? = some c → EqW H x y c) : EqW H (.ref a) (.ref b) (1 + cs.sum)
theorem EqW.pos {H : Hp} {x y : V} {n : Nat} (h : EqW H x y n) : 1 ≤ n := by cases h <;> omega
/-- a list of tuples handed twice -/
theorem EqW.tups {H : Hp} {a b : Addr} {rs : List V} {xss : List (List V)} (ha : H a = some (.lst rs)) (hb : H b = some (.lst rs)) (h : TupsAt H rs xss) (hf : ∀ xs ∈ xss, xs.all flatV = true) :
    EqW H (.ref a) (.ref b) (1 + (xss.map fun xs => 1 + xs.length).sum) := by
  refine .lst a b rs rs _ ha hb rfl (by rw [List.length_map]; exact h.length.symm) fun i x y c e1 e2 e3 => ?_
  rw [e1] at e2
  cases e2
  obtain ⟨xs, hx, p, rfl, hp⟩ := Paired.getL h e1
  rw [List.getElem?_map, hx] at e3
  cases e3
  exact .tup p p xs hp hp (hf xs (List.mem_of_getElem? hx))
def spUnt : Sp := fun vs H Q _ => ∃ (x y : V) (n : Nat), vs = [x, y] ∧ EqW H x y n ∧ n ≤ 50000 ∧ ∀ H', Same H H' → Q (.bl true) H'
def Todo (H0 H : Hp) (ts : List V) (ws : List Nat) : Prop := Paired (fun v n => ∃ p x y, v = .ref p ∧ H p = some (.tup [x, y]) ∧ EqW H0 x y n) ts ws
theorem Todo.tk {H0 H H' : Hp} {ts : List V} {ws : List Nat} (h : Todo H0 H ts ws) (s : Tk H H') : Todo H0 H' ts ws := Paired.mapP h fun v n ⟨p, x, y, e, hp, q⟩ => ⟨p, x, y, e, s _ _ hp, q⟩
theorem Todo.len {H0 H : Hp} : ∀ {ts : List V} {ws : List Nat}, Todo H0 H ts ws → ts.length ≤ ws.sum
  | _, _, .nil => Nat.le_refl _
  | _, _, .cons ⟨p, x, y, _, _, q⟩ t => by
    have := Todo.len (H0 := H0) (H := H) t
    have := q.pos
    simp only [List.length_cons, List.sum_cons]
    omega
theorem Paired.last {α β : Type} {F : α → β → Prop} {l : List α} {r : List β} (h : Paired F l r) (hn : l ≠ []) : ∃ l' a r' b, l = l' ++ [a] ∧ r = r' ++ [b] ∧ Paired F l' r' ∧ F a b := by
  induction h with
  | nil => exact absurd rfl hn
  | @cons a b l r hab t ih =>
    cases t with
    | nil => exact ⟨[], a, [], b, rfl, rfl, .nil, hab⟩
    | cons h2 t2 =>
      obtain ⟨l', a', r', b', e1, e2, p, q⟩ := ih (by simp)
      exact ⟨a :: l', a', b :: r', b', by rw [e1]; rfl, by rw [e2]; rfl, .cons hab p, q⟩
end L2
namespace L2
open PySem PySem.Spec PyProof.Rows
/-- two values alike: flat, or two of one kind with their items -/
theorem EqW.kind {H0 : Hp} {x y : V} {n : Nat} (K : PySem.W.Frag) (h : EqW H0 x y n) : (x = y ∧ flatV x = true ∧ n = 1) ∨ ∃ (T : String) (b1 b2 : Bool) (a b : Addr) (xs ys : List V) (cs : List Nat), x = .ref a ∧ y = .ref b ∧
    PySem.W.kitOne K (.type T) (.type "list") = some b1 ∧ PySem.W.kitOne K (.type T) (.type "tuple") = some b2 ∧ (b1 || b2) = true ∧
    (∀ H', Same H0 H' → TyN H' (.ref a) T ∧ TyN H' (.ref b) T ∧ (SqL K H' a xs ∨ SqT K H' a xs) ∧ (SqL K H' b ys ∨ SqT K H' b ys)) ∧ xs.length = ys.length ∧ cs.length = xs.length ∧
    (∀ (i : Nat) x y c, xs[i]? = some x → ys[i]? = some y → cs[i]? = some c → EqW H0 x y c) ∧ n = 1 + cs.sum := by
  cases h with
  | flat _ h => exact .inl ⟨rfl, h, rfl⟩
  | tup a b xs ha hb hf =>
    refine .inr ⟨"tuple", false, true, a, b, xs, xs, List.replicate xs.length 1, rfl, rfl, k_tuple_list _, k_tuple_tuple _, rfl, fun H' s => ⟨.tup (s _ _ ha), .tup (s _ _ hb), .inr (.of (s _ _ ha)), .inr (.of (s _ _ hb))⟩, rfl, by simp, fun i x y c e1 e2 e3 => ?_, by simp⟩
    rw [e1] at e2
    cases e2
    rw [List.getElem?_replicate] at e3
    split at e3
    · cases e3
      exact .flat x (List.all_eq_true.mp hf x (List.mem_of_getElem? e1))
    · cases e3
  | lst a b xs ys cs ha hb hl hc h =>
    exact .inr ⟨"list", true, false, a, b, xs, ys, cs, rfl, rfl, k_list_list _, k_list_tuple _, rfl, fun H' s => ⟨.lst (s _ _ ha), .lst (s _ _ hb), .inl (.of (s _ _ ha)), .inl (.of (s _ _ hb))⟩, hl, hc, h, rfl⟩
end L2
set_option Elab.async false
set_option linter.all false
namespace L2
open PySem PySem.Spec PyProof.Rows
/-! ### where the deciding layers end -/
def lastV : Nat → Option (Int × Nat) → List (Option Int × Bool) → Option (Int × Nat)
  | _, h, [] => h
  | k, h, (v, _) :: r => lastV (k + 1) (nexH k h v) r
def lockAt (row : List (Option Int × Bool)) (j : Nat) : Bool := (row.getD j (none, false)).2
theorem atI0 {α : Type} {x : α} {xs : List α} : atI (x :: xs) 0 = some x := atI_nat (j := 0) rfl
theorem lt2 : (0 : Int) < 2 := by decide
theorem lt3 : (0 : Int) < 3 := by decide
theorem lt5 : (0 : Int) < 5 := by decide
theorem lt7 : (0 : Int) < 7 := by decide
theorem pm_at (k : Int) : ∃ z : Int, atI [V.int 1, V.int (-1)] (k % 2) = some (.int z) ∧ (z = 1 ∨ z = -1) := by
  have h1 := Int.emod_nonneg k (show (2 : Int) ≠ 0 by decide)
  have h2 := Int.emod_lt_of_pos k (show (0 : Int) < 2 by decide)
  have : k % 2 = 0 ∨ k % 2 = 1 := by omega
  rcases this with e | e
  · exact ⟨1, by rw [e]; rfl, .inl rfl⟩
  · exact ⟨-1, by rw [e]; rfl, .inr rfl⟩
theorem pm_mul {i z : Int} (h : z = 1 ∨ z = -1) : CMul i z := .inr (by rcases h with rfl | rfl <;> decide)
theorem big_mul : IntMulOk (10 ^ (50 : Int).toNat) (10 ^ (50 : Int).toNat) := IntMulOk.of_bits (by decide +kernel) (by decide +kernel)
theorem cpow50 : CPow 10 50 := ⟨by decide, by decide, by decide⟩
theorem big_pos : (0 : Int) < 10 ^ (50 : Int).toNat * 10 ^ (50 : Int).toNat - 1 := by decide +kernel
end L2
set_option Elab.async false
set_option linter.all false
set_option maxRecDepth 100000
set_option maxHeartbeats 4000000
namespace L2
open PySem PySem.Spec PyProof.Rows

/-! ### deeds and days: the mirror -/
inductive Deed where
  | set (l : Int) (n : Str) (v : Int) | unset (l : Int) (n : Str) | lock (l : Int) (n : Str) | unlock (l : Int) (n : Str) | copy (a b : Int) | undo | holds (n : Str)
def Deed.enc : Deed → List V
  | .set l n v => [.str "set", .int l, .str n, .int v]
  | .unset l n => [.str "unset", .int l, .str n]
  | .lock l n => [.str "lock", .int l, .str n]
  | .unlock l n => [.str "unlock", .int l, .str n]
  | .copy a b => [.str "copy", .int a, .int b]
  | .undo => [.str "undo"]
  | .holds n => [.str "holds", .str n]
abbrev DD := List (Key × V)
abbrev LS := List (DD × DD)
def inR (st : LS) (i : Int) : Bool := decide (0 ≤ i) && decide (i < (st.length : Int))
def lay (st : LS) (i : Int) : DD × DD := st.getD i.toNat ([], [])
def has (d : DD) (n : Str) : Bool := (valV d (Sum.inr n)).isSome
def stepM (st : LS) : Deed → Option LS
  | .set l n v => if inR st l = true then some (st.set l.toNat (putK (lay st l).1 (Sum.inr n) (.int v), (lay st l).2)) else none
  | .unset l n => if inR st l = true ∧ has (lay st l).1 n = true then some (st.set l.toNat (dropK (lay st l).1 (Sum.inr n), (lay st l).2)) else none
  | .lock l n => if inR st l = true ∧ has (lay st l).2 n = false then some (st.set l.toNat ((lay st l).1, putK (lay st l).2 (Sum.inr n) (.bl true))) else none
  | .unlock l n => if inR st l = true ∧ has (lay st l).2 n = true then some (st.set l.toNat ((lay st l).1, dropK (lay st l).2 (Sum.inr n))) else none
  | .copy a b => if inR st a = true ∧ inR st b = true ∧ a ≠ b then some (st.set b.toNat ((lay st a).1, (lay st b).2)) else none
  | _ => none
abbrev DS := LS × List LS
inductive Ans where
  | b (x : Bool) | h (o : Option (Int × Nat))
def valI (d : DD) (n : Str) : Option Int := match valV d (Sum.inr n) with
  | some (.int i) => some i
  | _ => none
def rowM (st : LS) (n : Str) : List (Option Int × Bool) := st.map fun e => (valI e.1 n, has e.2 n)
def didM (s : DS) (o : Option LS) : DS × Ans := match o with
  | none => (s, .b false)
  | some q => ((q, s.2 ++ [s.1]), .b true)
def undoM (s : DS) : DS × Ans := match s.2.getLast? with
  | none => (s, .b false)
  | some q => ((q, s.2.dropLast), .b true)
def nextM (s : DS) : Deed → DS × Ans
  | .undo => undoM s
  | .holds n => (s, .h (decM 0 none (rowM s.1 n)))
  | d => didM s (stepM s.1 d)
def dayM : DS → List Deed → DS × List Ans
  | s, [] => (s, [])
  | s, d :: r => ((dayM (nextM s d).1 r).1, (nextM s d).2 :: (dayM (nextM s d).1 r).2)
theorem dayM_snoc (d : Deed) : ∀ (r : List Deed) (s : DS), dayM s (r ++ [d]) = ((nextM (dayM s r).1 d).1, (dayM s r).2 ++ [(nextM (dayM s r).1 d).2])
  | [], s => rfl
  | e :: r, s => by
    have ih := dayM_snoc d r (nextM s e).1
    simp only [List.cons_append, dayM, ih]
def zeroM (n : Nat) : DS := (List.replicate n ([], []), [])

/-! ### sizes and kinds -/
def OkS (n : Nat) (st : LS) : Prop := ∀ e ∈ st, (e.1.length ≤ n ∧ ∀ p ∈ e.1, ∃ i, p.2 = V.int i) ∧ e.2.length ≤ n
def OkDay (n : Nat) (s : DS) : Prop := OkS n s.1 ∧ (∀ q ∈ s.2, OkS n q) ∧ s.2.length ≤ n
theorem OkS.mono {n m : Nat} {st : LS} (h : OkS n st) (hm : n ≤ m) : OkS m st := fun e he => ⟨⟨Nat.le_trans (h e he).1.1 hm, (h e he).1.2⟩, Nat.le_trans (h e he).2 hm⟩
theorem OkDay.mono {n m : Nat} {s : DS} (h : OkDay n s) (hm : n ≤ m) : OkDay m s := ⟨h.1.mono hm, fun q hq => (h.2.1 q hq).mono hm, Nat.le_trans h.2.2 hm⟩
theorem OkS.lay {n : Nat} {st : LS} (h : OkS n st) (i : Int) : ((lay st i).1.length ≤ n ∧ ∀ p ∈ (lay st i).1, ∃ i, p.2 = V.int i) ∧ (lay st i).2.length ≤ n := by
  unfold L2.lay
  rw [List.getD_eq_getElem?_getD]
  cases e : st[i.toNat]? with
  | none => exact ⟨⟨Nat.zero_le _, fun p hp => by cases hp⟩, Nat.zero_le _⟩
  | some x => exact h x (List.mem_of_getElem? e)
theorem OkS.set {n : Nat} {st : LS} {i : Nat} {e : DD × DD} (h : OkS n st) (he : (e.1.length ≤ n ∧ ∀ p ∈ e.1, ∃ i, p.2 = V.int i) ∧ e.2.length ≤ n) : OkS n (st.set i e) := fun x hx => by
  rcases List.mem_or_eq_of_mem_set hx with hx | rfl
  · exact h x hx
  · exact he
theorem putK_mem {κ : Type} [DecidableEq κ] {d : List (κ × V)} {k : κ} {v : V} {p : κ × V} (h : p ∈ putK d k v) : p ∈ d ∨ p.2 = v := by
  unfold putK at h
  split at h
  · obtain ⟨q, hq, rfl⟩ := List.mem_map.mp h
    split
    · exact .inr rfl
    · exact .inl hq
  · rcases List.mem_append.mp h with h | h
    · exact .inl h
    · right
      rw [List.mem_singleton] at h
      rw [h]
theorem OkS.step {n : Nat} {st q : LS} {d : Deed} (h : OkS n st) (e : stepM st d = some q) : OkS (n + 1) q := by
  have h' : OkS (n + 1) st := h.mono (Nat.le_succ _)
  cases d with
  | set l m v =>
    simp only [stepM] at e
    split at e
    · cases e
      have := h.lay l
      refine h'.set ⟨⟨Nat.le_trans (length_putK _ _ _) (Nat.succ_le_succ this.1.1), fun p hp => ?_⟩, Nat.le_succ_of_le this.2⟩
      rcases putK_mem hp with hp | hp
      · exact this.1.2 p hp
      · exact ⟨v, hp⟩
    · cases e
  | unset l m =>
    simp only [stepM] at e
    split at e
    · cases e
      have := h.lay l
      exact h'.set ⟨⟨Nat.le_trans (dropK_le _ _) (Nat.le_succ_of_le this.1.1), fun p hp => this.1.2 p (dropK_mem hp)⟩, Nat.le_succ_of_le this.2⟩
    · cases e
  | lock l m =>
    simp only [stepM] at e
    split at e
    · cases e
      have := h.lay l
      exact h'.set ⟨⟨Nat.le_succ_of_le this.1.1, this.1.2⟩, Nat.le_trans (length_putK _ _ _) (Nat.succ_le_succ this.2)⟩
    · cases e
  | unlock l m =>
    simp only [stepM] at e
    split at e
    · cases e
      have := h.lay l
      exact h'.set ⟨⟨Nat.le_succ_of_le this.1.1, this.1.2⟩, Nat.le_trans (dropK_le _ _) (Nat.le_succ_of_le this.2)⟩
    · cases e
  | copy a b =>
    simp only [stepM] at e
    split at e
    · cases e
      have h1 := h.lay a
      have h2 := h.lay b
      exact h'.set ⟨⟨Nat.le_succ_of_le h1.1.1, h1.1.2⟩, Nat.le_succ_of_le h2.2⟩
    · cases e
  | undo => cases e
  | holds m => cases e
theorem OkDay.did {n : Nat} {s : DS} {o : Option LS} (h : OkDay n s) (ho : ∀ q, o = some q → OkS (n + 1) q) : OkDay (n + 1) (didM s o).1 := by
  cases o with
  | none => exact h.mono (Nat.le_succ _)
  | some q =>
    refine ⟨ho q rfl, fun x hx => ?_, ?_⟩
    · rcases List.mem_append.mp hx with hx | hx
      · exact (h.2.1 x hx).mono (Nat.le_succ _)
      · rw [List.mem_singleton] at hx
        rw [hx]
        exact h.1.mono (Nat.le_succ _)
    · show (s.2 ++ [s.1]).length ≤ n + 1
      rw [List.length_append]
      exact Nat.succ_le_succ h.2.2
theorem OkDay.undo {n : Nat} {s : DS} (h : OkDay n s) : OkDay (n + 1) (undoM s).1 := by
  unfold undoM
  cases e : s.2.getLast? with
  | none => exact h.mono (Nat.le_succ _)
  | some q =>
    have hq : q ∈ s.2 := List.mem_of_getLast? e
    refine ⟨(h.2.1 q hq).mono (Nat.le_succ _), fun x hx => (h.2.1 x ((List.dropLast_sublist s.2).subset hx)).mono (Nat.le_succ _), ?_⟩
    show s.2.dropLast.length ≤ n + 1
    rw [List.length_dropLast]
    have := h.2.2
    omega
theorem OkDay.next {n : Nat} {s : DS} (h : OkDay n s) (d : Deed) : OkDay (n + 1) (nextM s d).1 := by
  cases d with
  | undo => exact h.undo
  | holds m => exact h.mono (Nat.le_succ _)
  | _ => exact h.did fun q e => h.1.step e
theorem OkDay.zero (k : Nat) : OkDay 0 (zeroM k) := by
  refine ⟨fun e he => ?_, fun q hq => ?_, Nat.le_refl _⟩
  · have := List.eq_of_mem_replicate he
    subst this
    exact ⟨⟨Nat.le_refl _, fun p hp => by cases hp⟩, Nat.le_refl _⟩
  · cases hq
theorem OkDay.day : ∀ {r : List Deed} {n : Nat} {s : DS}, OkDay n s → OkDay (n + r.length) (dayM s r).1
  | [], _, _, h => h
  | d :: r, n, s, h => by
    have := OkDay.day (r := r) (h.next d)
    rw [List.length_cons, show n + (r.length + 1) = n + 1 + r.length by omega]
    exact this

/-! ### the number of layers stays -/
def LenD (L : Nat) (s : DS) : Prop := s.1.length = L ∧ ∀ q ∈ s.2, q.length = L
theorem stepM_len {st q : LS} {d : Deed} (e : stepM st d = some q) : q.length = st.length := by
  cases d <;> simp only [stepM] at e <;> first | cases e; done | (split at e <;> first | (cases e; rw [List.length_set]; done) | cases e; done)
theorem LenD.next {L : Nat} {s : DS} (h : LenD L s) (d : Deed) : LenD L (nextM s d).1 := by
  have did : ∀ o : Option LS, (∀ q, o = some q → q.length = L) → LenD L (didM s o).1 := fun o ho => by
    cases o with
    | none => exact h
    | some q =>
      refine ⟨ho q rfl, fun x hx => ?_⟩
      rcases List.mem_append.mp hx with hx | hx
      · exact h.2 x hx
      · rw [List.mem_singleton] at hx
        rw [hx]
        exact h.1
  cases d with
  | undo =>
    show LenD L (undoM s).1
    unfold undoM
    cases e : s.2.getLast? with
    | none => exact h
    | some q => exact ⟨h.2 q (List.mem_of_getLast? e), fun x hx => h.2 x ((List.dropLast_sublist s.2).subset hx)⟩
  | holds m => exact h
  | set a b c => exact did _ fun q e => (stepM_len e).trans h.1
  | unset a b => exact did _ fun q e => (stepM_len e).trans h.1
  | lock a b => exact did _ fun q e => (stepM_len e).trans h.1
  | unlock a b => exact did _ fun q e => (stepM_len e).trans h.1
  | copy a b => exact did _ fun q e => (stepM_len e).trans h.1
theorem LenD.day {L : Nat} : ∀ {r : List Deed} {s : DS}, LenD L s → LenD L (dayM s r).1
  | [], _, h => h
  | d :: r, _, h => LenD.day (r := r) (h.next d)
theorem LenD.zero (n : Nat) : LenD n (zeroM n) := ⟨List.length_replicate, fun q hq => by cases hq⟩

/-! ### a heap but for two objects -/
def hid (p q : Addr) (H : Hp) : Hp := fun b => if b = p ∨ b = q then none else H b
section
variable {p q a b : Addr} {H H' : Hp} {o : HO}
theorem hid_get (h : H b = some o) (h1 : b ≠ p) (h2 : b ≠ q) : hid p q H b = some o := by unfold hid; rw [if_neg (by rintro (z | z); exact h1 z; exact h2 z)]; exact h
theorem of_hid (h : hid p q H b = some o) : H b = some o ∧ b ≠ p ∧ b ≠ q := by
  unfold hid at h
  split at h
  · cases h
  · rename_i z
    exact ⟨h, fun y => z (.inl y), fun y => z (.inr y)⟩
theorem hid_sub : Same (hid p q H) H := fun b o h => (of_hid h).1
theorem hid_new (h : H a = none) : Same (hid p q H) (hid p q (upd H a o)) := fun b u e => by
  obtain ⟨e, h1, h2⟩ := of_hid e
  exact hid_get (Same.new h _ _ e) h1 h2
theorem hid_same (s : Same H H') : Same (hid p q H) (hid p q H') := fun b u e => by
  obtain ⟨e, h1, h2⟩ := of_hid e
  exact hid_get (s _ _ e) h1 h2
theorem hid_p : hid p q (upd H p o) = hid p q H := by
  funext b
  unfold hid
  split
  · rfl
  · rename_i z
    rw [upd_ne fun y => z (.inl y)]
theorem hid_q : hid p q (upd H q o) = hid p q H := by
  funext b
  unfold hid
  split
  · rfl
  · rename_i z
    rw [upd_ne fun y => z (.inr y)]
theorem same_hid {G : Hp} (s : Same G H) (h1 : G p = none) (h2 : G q = none) : Same G (hid p q H) := fun b o e => hid_get (s _ _ e) (ne_of_none e h1) (ne_of_none e h2)
end

/-! ### the program's objects -/
abbrev lfs (v1 v2 : V) : List (Str × V) := [("valued", v1), ("locked", v2)]
abbrev dfs (v1 v2 : V) : List (Str × V) := [("layers", v1), ("past", v2)]
def LayAt (C : Addr) (G : Hp) (v : V) (e : DD × DD) : Prop := ∃ p dx d1 d2, v = .ref p ∧ G p = some (.ins C dx (lfs (.ref d1) (.ref d2))) ∧ G d1 = some (.dK e.1) ∧ G d2 = some (.dK e.2)
def LaysAt (C : Addr) (G : Hp) (l : Addr) (st : LS) : Prop := ∃ vs, G l = some (.lst vs) ∧ Paired (LayAt C G) vs st
def DialAt (D C : Addr) (H : Hp) (p q : Addr) (s : DS) : Prop := ∃ dx l ls, H p = some (.ins D dx (dfs (.ref l) (.ref q))) ∧ H q = some (.lst (ls.map V.ref)) ∧ LaysAt C (hid p q H) l s.1 ∧ Paired (LaysAt C (hid p q H)) ls s.2
theorem LayAt.same {C : Addr} {G G' : Hp} {v : V} {e : DD × DD} (h : LayAt C G v e) (s : Same G G') : LayAt C G' v e := by
  obtain ⟨p, dx, d1, d2, e1, e2, e3, e4⟩ := h
  exact ⟨p, dx, d1, d2, e1, s _ _ e2, s _ _ e3, s _ _ e4⟩
theorem LaysAt.same {C : Addr} {G G' : Hp} {l : Addr} {st : LS} (h : LaysAt C G l st) (s : Same G G') : LaysAt C G' l st := by
  obtain ⟨vs, e, hp⟩ := h
  exact ⟨vs, s _ _ e, Paired.mapP hp fun v e h => h.same s⟩
theorem DialAt.same {D C : Addr} {H H' : Hp} {p q : Addr} {s : DS} (h : DialAt D C H p q s) (k : Same H H') : DialAt D C H' p q s := by
  obtain ⟨dx, l, ls, e1, e2, e3, e4⟩ := h
  exact ⟨dx, l, ls, k _ _ e1, k _ _ e2, e3.same (hid_same k), Paired.mapP e4 fun l st h => h.same (hid_same k)⟩
def AnsV (H : Hp) (r : V) : Ans → Prop
  | .b x => r = .bl x
  | .h o => HoldV H r o
theorem AnsV.tk {H H' : Hp} {r : V} {a : Ans} (h : AnsV H r a) (s : Tk H H') : AnsV H' r a := by
  cases a with
  | b x => exact h
  | h o => exact HoldV.tk h s
end L2
set_option Elab.async false
set_option linter.all false
set_option maxRecDepth 100000
set_option maxHeartbeats 4000000
namespace L2
open PySem PySem.Spec PyProof.Rows
theorem ne_vl : ¬ (("valued" : Str) = "locked") := by decide +kernel
theorem ne_lp : ¬ (("layers" : Str) = "past") := by decide +kernel
theorem lfs_eq (v1 v2 : V) : putF "locked" v2 (putF "valued" v1 []) = lfs v1 v2 := by
  show (if ("valued" : Str) = "locked" then _ else (("valued" : Str), v1) :: putF "locked" v2 []) = lfs v1 v2
  rw [if_neg ne_vl]
  rfl
theorem dfs_eq (v1 v2 : V) : putF "past" v2 (putF "layers" v1 []) = dfs v1 v2 := by
  show (if ("layers" : Str) = "past" then _ else (("layers" : Str), v1) :: putF "past" v2 []) = dfs v1 v2
  rw [if_neg ne_lp]
  rfl
theorem dfs_put (v1 v2 v : V) : putF "layers" v (dfs v1 v2) = dfs v v2 := by
  show (if ("layers" : Str) = "layers" then (("layers" : Str), v) :: [(("past" : Str), v2)] else _) = dfs v v2
  rw [if_pos rfl]
theorem lfs_ne {a b c d : V} (h : lfs a b = dfs c d) : False := absurd (congrArg Prod.fst (List.cons.inj h).1) (show ¬ ("valued" : Str) = "layers" by decide +kernel)
theorem lk_dl (v1 v2 : V) : (dfs v1 v2).lookup ("layers" : Str) = some v1 := by rfl
theorem lk_dp (v1 v2 : V) : (dfs v1 v2).lookup ("past" : Str) = some v2 := by
  unfold dfs
  rw [List.lookup_cons, show (("past" : Str) == "layers") = false by decide +kernel, List.lookup_cons]
  simp
theorem lk_lv (v1 v2 : V) : (lfs v1 v2).lookup ("valued" : Str) = some v1 := by
  unfold lfs
  rw [List.lookup_cons]
  simp
theorem lk_ll (v1 v2 : V) : (lfs v1 v2).lookup ("locked" : Str) = some v2 := by
  unfold lfs
  rw [List.lookup_cons, show (("locked" : Str) == "valued") = false by decide +kernel, List.lookup_cons]
  simp
theorem lk_no (v1 v2 : V) {m : Str} (h1 : (m == ("layers" : Str)) = false) (h2 : (m == ("past" : Str)) = false) : (dfs v1 v2).lookup m = none := by
  unfold dfs
  rw [List.lookup_cons, h1, List.lookup_cons, h2]
  rfl

/-! ### promises of the program's defs -/
def spWith : Sp := fun vs H Q _ => ∃ (e : Addr) (n : Str) (v : V) (kvs : DD), vs = [.ref e, .str n, v] ∧ H e = some (.dK kvs) ∧ kvs.length ≤ 10000 ∧ ∀ d, H d = none → Q (.ref d) (upd H d (.dK (putK kvs (Sum.inr n) v)))
def spWithout : Sp := fun vs H Q _ => ∃ (e : Addr) (n : Str) (v : V) (kvs : DD), vs = [.ref e, .str n] ∧ H e = some (.dK kvs) ∧ valV kvs (Sum.inr n) = some v ∧ ∀ d, H d = none → Q (.ref d) (upd H d (.dK (dropK kvs (Sum.inr n))))
def spLinit (C : Addr) : Sp := fun vs H Q _ => ∃ (x dx : Addr) (v1 v2 : V), vs = [.ref x, v1, v2] ∧ H x = some (.ins C dx []) ∧ Q .non (upd H x (.ins C dx (lfs v1 v2)))
def spDinit (D C : Addr) : Sp := fun vs H Q _ => ∃ (x dx : Addr) (n : Int), vs = [.ref x, .int n] ∧ H x = some (.ins D dx []) ∧ 0 ≤ n ∧ n ≤ 1000 ∧
  ∀ q H', H q = none → DialAt D C H' x q (zeroM n.toNat) → (∀ b o, H b = some o → b ≠ x → H' b = some o) → Q .non H'
def spThere (D C : Addr) : Sp := fun vs H Q _ => ∃ (p q : Addr) (s : DS) (i : Int), vs = [.ref p, .int i] ∧ DialAt D C H p q s ∧ Q (.bl (inR s.1 i)) H
def spHasV (D C : Addr) : Sp := fun vs H Q _ => ∃ (p q : Addr) (s : DS) (i : Int) (n : Str), vs = [.ref p, .int i, .str n] ∧ DialAt D C H p q s ∧ Q (.bl (inR s.1 i && has (lay s.1 i).1 n)) H
def spHasL (D C : Addr) : Sp := fun vs H Q _ => ∃ (p q : Addr) (s : DS) (i : Int) (n : Str), vs = [.ref p, .int i, .str n] ∧ DialAt D C H p q s ∧ Q (.bl (inR s.1 i && has (lay s.1 i).2 n)) H
def spPut (D C : Addr) : Sp := fun vs H Q _ => ∃ (p q : Addr) (s : DS) (i : Int) (d1 d2 : Addr) (kv kl : DD), vs = [.ref p, .int i, .ref d1, .ref d2] ∧ DialAt D C H p q s ∧ inR s.1 i = true ∧ hid p q H d1 = some (.dK kv) ∧ hid p q H d2 = some (.dK kl) ∧
  s.1.length ≤ 1000 ∧ s.2.length ≤ 10000 ∧ ∀ H', DialAt D C H' p q (s.1.set i.toNat (kv, kl), s.2 ++ [s.1]) → Same (hid p q H) (hid p q H') → Q (.bl true) H'
/-- the dial does the deed -/
def Does (D C : Addr) (H : Hp) (p q : Addr) (s : DS) (d : Deed) (Q : VK) : Prop := ∃ m, OkDay m s ∧ m ≤ 5000 ∧ s.1.length ≤ 1000 ∧ DialAt D C H p q s ∧
  ∀ r H', DialAt D C H' p q (nextM s d).1 → Same (hid p q H) (hid p q H') → AnsV H' r (nextM s d).2 → Q r H'
def spSet (D C : Addr) : Sp := fun vs H Q _ => ∃ p q s i n v, vs = [.ref p, .int i, .str n, .int v] ∧ Does D C H p q s (.set i n v) Q
def spUnset (D C : Addr) : Sp := fun vs H Q _ => ∃ p q s i n, vs = [.ref p, .int i, .str n] ∧ Does D C H p q s (.unset i n) Q
def spLock (D C : Addr) : Sp := fun vs H Q _ => ∃ p q s i n, vs = [.ref p, .int i, .str n] ∧ Does D C H p q s (.lock i n) Q
def spUnlock (D C : Addr) : Sp := fun vs H Q _ => ∃ p q s i n, vs = [.ref p, .int i, .str n] ∧ Does D C H p q s (.unlock i n) Q
def spCopy (D C : Addr) : Sp := fun vs H Q _ => ∃ p q s a b, vs = [.ref p, .int a, .int b] ∧ Does D C H p q s (.copy a b) Q
def spUndo (D C : Addr) : Sp := fun vs H Q _ => ∃ p q s, vs = [.ref p] ∧ Does D C H p q s .undo Q
def spHolds (D C : Addr) : Sp := fun vs H Q _ => ∃ p q s n, vs = [.ref p, .str n] ∧ Does D C H p q s (.holds n) Q
def spAnswer (D C : Addr) : Sp := fun vs H Q _ => ∃ p q s t d, vs = [.ref p, .ref t] ∧ H t = some (.tup (Deed.enc d)) ∧ Does D C H p q s d Q
def spDone (D C : Addr) : Sp := fun vs H Q _ => ∃ (p q : Addr) (s : DS) (dl : Addr) (rs : List V) (ds : List Deed) (m : Nat), vs = [.ref p, .ref dl] ∧ hid p q H dl = some (.lst rs) ∧ TupsAt H rs (ds.map Deed.enc) ∧ OkDay m s ∧ m + ds.length ≤ 5000 ∧ (∃ L, LenD L s ∧ L ≤ 1000) ∧ DialAt D C H p q s ∧
  ∀ t ts H', DialAt D C H' p q (dayM s ds).1 → Same (hid p q H) (hid p q H') → hid p q H' t = some (.lst ts) → Paired (AnsV H') ts (dayM s ds).2 → Q (.ref t) H'
def spAnswers : Sp := fun vs H Q _ => ∃ (n : Int) (dl : Addr) (rs : List V) (ds : List Deed), vs = [.int n, .ref dl] ∧ 0 ≤ n ∧ n ≤ 1000 ∧ H dl = some (.lst rs) ∧ TupsAt H rs (ds.map Deed.enc) ∧ ds.length ≤ 5000 ∧
  ∀ t ts H', Same H H' → H' t = some (.lst ts) → Paired (AnsV H') ts (dayM (zeroM n.toNat) ds).2 → Q (.ref t) H'

theorem comp_yes {σ : L2.St} {H : Hp} {A B : Hp → Prop} (h : A H) : tYes σ H (fun b H4 => if b = true then A H4 else B H4) := by
  unfold tYes
  exact iteT h

/-! ### what a dial gives -/
theorem inR_iff {st : LS} {i : Int} : inR st i = true ↔ 0 ≤ i ∧ i < (st.length : Int) := by
  unfold inR
  rw [Bool.and_eq_true, decide_eq_true_iff, decide_eq_true_iff]
theorem inR_lt {st : LS} {i : Int} (h : inR st i = true) : i.toNat < st.length := by
  have := inR_iff.mp h
  omega
theorem lay_get {st : LS} {i : Int} (h : inR st i = true) : st[i.toNat]? = some (lay st i) := by
  unfold lay
  rw [List.getD_eq_getElem?_getD, List.getElem?_eq_getElem (inR_lt h)]
  rfl
theorem DialAt.list {D C : Addr} {H : Hp} {p q : Addr} {s : DS} (h : DialAt D C H p q s) : ∃ dx l ls vs, H p = some (.ins D dx (dfs (.ref l) (.ref q))) ∧ H q = some (.lst (ls.map V.ref)) ∧ hid p q H l = some (.lst vs) ∧ Paired (LayAt C (hid p q H)) vs s.1 ∧ Paired (LaysAt C (hid p q H)) ls s.2 := by
  obtain ⟨dx, l, ls, e1, e2, ⟨vs, e3, e4⟩, e5⟩ := h
  exact ⟨dx, l, ls, vs, e1, e2, e3, e4, e5⟩
theorem lays_at {C : Addr} {G : Hp} {vs : List V} {st : LS} {i : Int} (h : Paired (LayAt C G) vs st) (hi : inR st i = true) : ∃ lp dx d1 d2, atI vs i = some (.ref lp) ∧ G lp = some (.ins C dx (lfs (.ref d1) (.ref d2))) ∧ G d1 = some (.dK (lay st i).1) ∧ G d2 = some (.dK (lay st i).2) := by
  obtain ⟨v, hv, lp, dx, d1, d2, rfl, e1, e2, e3⟩ := Paired.getR h (lay_get hi)
  refine ⟨lp, dx, d1, d2, ?_, e1, e2, e3⟩
  have := atI_nat hv
  rw [Int.toNat_of_nonneg (inR_iff.mp hi).1] at this
  exact this
theorem Paired.set {α β : Type} {F : α → β → Prop} {a : α} {b : β} (q : F a b) : ∀ {l : List α} {r : List β} (i : Nat), Paired F l r → Paired F (l.set i a) (r.set i b)
  | _, _, _, .nil => .nil
  | _, _, 0, .cons _ t => .cons q t
  | _, _, i + 1, .cons h t => .cons h (Paired.set q i t)
theorem set_cut {xs : List V} {i : Int} (h0 : 0 ≤ i) (h1 : i < (xs.length : Int)) (v : V) : cutV xs none (some i) ++ [v] ++ cutV xs (some (i + 1)) none = xs.set i.toNat v := by
  unfold cutV
  have hi : ((i.toNat : Nat) : Int) = i := Int.toNat_of_nonneg h0
  have e1 : HT.sIx xs.length xs.length (some i) = i.toNat := by rw [← hi, HT.sIx_nat, Nat.min_eq_left (by omega)]; omega
  have e2 : HT.sIx xs.length 0 (some (i + 1)) = i.toNat + 1 := by rw [show i + 1 = ((i.toNat + 1 : Nat) : Int) by omega, HT.sIx_nat, Nat.min_eq_left (by omega)]
  rw [HT.sIx_none, HT.sIx_none, e1, e2, List.drop_zero, Nat.sub_zero, List.set_eq_take_append_cons_drop, if_pos (by omega), List.take_of_length_le (l := xs.drop (i.toNat + 1)) (by rw [List.length_drop]; omega)]
  simp
theorem has_some {d : DD} {n : Str} (h : has d n = true) : ∃ v, valV d (Sum.inr n) = some v := Option.isSome_iff_exists.mp h
theorem valI_ov {d : DD} {n : Str} (h : ∀ p ∈ d, ∃ i, p.2 = V.int i) : (valV d (Sum.inr n)).getD .non = ov (valI d n) := by
  unfold valI
  cases e : valV d (Sum.inr n : Key) with
  | none => rfl
  | some v =>
    have hm : ∃ p ∈ d, p.2 = v := by
      unfold valV at e
      cases f : d.find? (fun kv => decide (kv.1 = (Sum.inr n : Key))) with
      | none => rw [f] at e; cases e
      | some kv =>
        rw [f] at e
        exact ⟨kv, List.mem_of_find?_eq_some f, Option.some.inj e⟩
    obtain ⟨p, hp, rfl⟩ := hm
    obtain ⟨i, hi⟩ := h p hp
    rw [hi]
    rfl
end L2
set_option Elab.async false
set_option linter.all false
set_option maxRecDepth 100000
set_option maxHeartbeats 4000000
namespace L2
open PySem PySem.Spec PyProof.Rows
/-! ### a text many times -/
theorem op_rep_str {X : Cx} : OpR X (binaryOp .Mult) (fun x y H Q => ∃ z k, x = .str z ∧ y = .int k ∧ PySem.MulOk z k ∧ Q (.str (Txt.mul z k)) H) := by
  intro pins s σ H x y v u Q I rx ry h
  obtain ⟨z, k, rfl, rfl, hm, q⟩ := h
  obtain ⟨t, rfl⟩ := rx
  obtain ⟨t', rfl⟩ := ry
  exact SB.mul hm fun t2 tk => ⟨.str (Txt.mul z k), H, I.tok tk, ⟨t2, rfl⟩, q⟩
theorem s40 : PySem.MulOk "s" 40 := by
  refine ⟨by decide, fun _ _ => ?_, fun _ _ => ?_⟩
  · decide +kernel
  · decide +kernel
theorem cut_map (ns : List Int) (lo hi : Option Int) : ∃ ms : List Int, cutV (ns.map V.int) lo hi = ms.map V.int ∧ ms.length ≤ ns.length := by
  refine ⟨(ns.drop (HT.sIx ns.length 0 lo)).take (HT.sIx ns.length ns.length hi - HT.sIx ns.length 0 lo), ?_, ?_⟩
  · unfold cutV
    rw [List.length_map, List.map_take, List.map_drop]
  · rw [List.length_take, List.length_drop]
    omega
def spWide (K : PySem.W.Frag) : Sp := fun vs H Q _ => ∃ (a : Addr) (ns : List Int) (f b : Int), vs = [.ref a, .int f, .int b] ∧ SqL K H a (ns.map V.int) ∧ ns.length ≤ 63 ∧ (1 ≤ f ∧ f ≤ 900) ∧ (1 ≤ b ∧ b ≤ 900) ∧ ∀ m H', Same H H' → 1 ≤ m → m ≤ 999 → Q (.int m) H'
def spName : Sp := fun vs H Q _ => ∃ (s z : Int), vs = [.int s, .int z] ∧ (1 ≤ z ∧ z ≤ 12) ∧ ∀ n H', Same H H' → Q (.str n) H'
theorem lt12 : (0 : Int) < 12 := by decide
theorem lt13 : (0 : Int) < 13 := by decide
theorem lt16 : (0 : Int) < 16 := by decide
theorem lt23 : (0 : Int) < 23 := by decide
theorem lt29 : (0 : Int) < 29 := by decide
theorem mod12 (s : Int) : (s % 12).natAbs.log2 < 1920 ∧ (Str.ofString "name ").length + (Str.ofString (toString (s % 12))).length ≤ sizeLine := by
  have h1 := Int.emod_nonneg s (show (12 : Int) ≠ 0 by decide)
  have h2 := Int.emod_lt_of_pos s (show (0 : Int) < 12 by decide)
  have : s % 12 = 0 ∨ s % 12 = 1 ∨ s % 12 = 2 ∨ s % 12 = 3 ∨ s % 12 = 4 ∨ s % 12 = 5 ∨ s % 12 = 6 ∨ s % 12 = 7 ∨ s % 12 = 8 ∨ s % 12 = 9 ∨ s % 12 = 10 ∨ s % 12 = 11 := by omega
  rcases this with e | e | e | e | e | e | e | e | e | e | e | e <;> rw [e] <;> exact ⟨by decide +kernel, by decide +kernel⟩
theorem atI_all {P : V → Prop} {L : List V} {i : Int} (h0 : 0 ≤ i) (h1 : i < (L.length : Int)) (h : ∀ x ∈ L, P x) : ∃ x, atI L i = some x ∧ P x := by
  have hi : ((i.toNat : Nat) : Int) = i := Int.toNat_of_nonneg h0
  have hl : i.toNat < L.length := by omega
  have := atI_nat (xs := L) (j := i.toNat) (v := L[i.toNat]) (by simp)
  rw [hi] at this
  exact ⟨_, this, h _ (List.getElem_mem hl)⟩
/-! ### the law's deeds -/
def spDeeds (K : PySem.W.Frag) : Sp := fun vs H Q _ => ∃ (a : Addr) (ns : List Int) (n : Int), vs = [.ref a, .int n] ∧ SqL K H a (ns.map V.int) ∧ ns.length ≤ 63 ∧ (1 ≤ n ∧ n ≤ 1000) ∧
  ∀ r rs (ds : List Deed) H', Same H H' → H r = none → H' r = some (.lst rs) → TupsAt H' rs (ds.map Deed.enc) → ds.length = ns.length → Q (.ref r) H'
theorem push_deed {H H1 : Hp} {r q : Addr} {rs : List V} {ds : List Deed} {i : Nat} (d : Deed) (s : Same H H1) (hr : H r = none) (h1 : H1 r = some (.lst rs)) (hT : TupsAt H1 rs (ds.map Deed.enc)) (hl : ds.length = i) (hq : H1 q = none) :
    Same H (upd (upd H1 q (.tup (Deed.enc d))) r (.lst (rs ++ [.ref q]))) ∧ (upd (upd H1 q (.tup (Deed.enc d))) r (.lst (rs ++ [.ref q]))) r = some (.lst (rs ++ [.ref q])) ∧
      TupsAt (upd (upd H1 q (.tup (Deed.enc d))) r (.lst (rs ++ [.ref q]))) (rs ++ [.ref q]) ((ds ++ [d]).map Deed.enc) ∧ (ds ++ [d]).length = i + 1 := by
  have nrq : r ≠ q := ne_of_none h1 hq
  refine ⟨(s.trans (Same.new hq)).upd hr, upd_same, ?_, by rw [List.length_append, hl]; rfl⟩
  rw [List.map_append]
  exact Paired.snoc' (hT.tk ((Tk.new hq).trans (Tk.lst (xs := rs) (by rw [upd_ne nrq]; exact h1)))) ⟨q, rfl, by rw [upd_ne (Ne.symm nrq), upd_same]⟩
theorem pow60 : CPow 10 60 := ⟨by decide, by decide, by decide⟩
theorem pow9 : CPow 10 9 := ⟨by decide, by decide, by decide⟩
theorem pow15 : CPow 10 15 := ⟨by decide, by decide, by decide⟩
theorem p60 : (0 : Int) < 10 ^ (60 : Int).toNat := by decide +kernel
theorem mul5 (k : Int) : CMul 5 k := .inl (by decide)
end L2
set_option Elab.async false
set_option linter.all false
set_option maxRecDepth 100000
set_option maxHeartbeats 4000000
namespace L2
open PySem PySem.Spec PyProof.Rows
/-! ### the law's layers kept beside -/
def RowL (G : Hp) (v : V) (e : DD × DD) : Prop := ∃ p d1 d2, v = .ref p ∧ G p = some (.lst [.ref d1, .ref d2]) ∧ G d1 = some (.dK e.1) ∧ G d2 = some (.dK e.2)
def LawAt (G : Hp) (l : Addr) (st : LS) : Prop := ∃ vs, G l = some (.lst vs) ∧ Paired (RowL G) vs st
def LawD (H : Hp) (l q : Addr) (s : DS) : Prop := ∃ ls, H q = some (.lst (ls.map V.ref)) ∧ LawAt (hid q q H) l s.1 ∧ Paired (LawAt (hid q q H)) ls s.2
theorem RowL.same {G G' : Hp} {v : V} {e : DD × DD} (h : RowL G v e) (s : Same G G') : RowL G' v e := by
  obtain ⟨p, d1, d2, e1, e2, e3, e4⟩ := h
  exact ⟨p, d1, d2, e1, s _ _ e2, s _ _ e3, s _ _ e4⟩
theorem LawAt.same {G G' : Hp} {l : Addr} {st : LS} (h : LawAt G l st) (s : Same G G') : LawAt G' l st := by
  obtain ⟨vs, e, hp⟩ := h
  exact ⟨vs, s _ _ e, Paired.mapP hp fun v e h => h.same s⟩
theorem LawD.same {H H' : Hp} {l q : Addr} {s : DS} (h : LawD H l q s) (k : Same H H') : LawD H' l q s := by
  obtain ⟨ls, e2, e3, e4⟩ := h
  exact ⟨ls, k _ _ e2, e3.same (hid_same k), Paired.mapP e4 fun l st h => h.same (hid_same k)⟩
abbrev T3 := Addr × Addr × Addr
def rowAs (e : T3) : List Addr := [e.1, e.2.1, e.2.2]
def OwnRow (H : Hp) (e : T3) (s : DD × DD) : Prop := H e.1 = some (.lst [.ref e.2.1, .ref e.2.2]) ∧ H e.2.1 = some (.dK s.1) ∧ H e.2.2 = some (.dK s.2)
/-- fresh layers: nobody else has a part of them -/
structure OwnEs (H0 H : Hp) (l : Addr) (es : List T3) (st : LS) : Prop where
  lst : H l = some (.lst (es.map fun e => V.ref e.1))
  fl : H0 l = none
  rows : Paired (OwnRow H) es st
  fresh : ∀ e ∈ es, ∀ x ∈ rowAs e, H0 x = none ∧ x ≠ l
  apart : es.Pairwise fun e e' => ∀ x ∈ rowAs e, ∀ y ∈ rowAs e', x ≠ y
  two : ∀ e ∈ es, e.2.1 ≠ e.2.2
def newH (H0 H : Hp) : Hp := fun b => if (H0 b).isSome = true then none else H b
theorem newH_get {H0 H : Hp} {b : Addr} {o : HO} (h : H b = some o) (n : H0 b = none) : newH H0 H b = some o := by unfold newH; rw [n]; exact h
theorem of_newH {H0 H : Hp} {b : Addr} {o : HO} (h : newH H0 H b = some o) : H b = some o ∧ H0 b = none := by
  unfold newH at h
  split at h
  · cases h
  · rename_i z
    refine ⟨h, ?_⟩
    cases q : H0 b with
    | none => rfl
    | some u => rw [q] at z; exact absurd rfl z
theorem Paired.mapL {α β γ : Type} {F : γ → β → Prop} {f : α → γ} : ∀ {l : List α} {r : List β}, Paired (fun a b => F (f a) b) l r → Paired F (l.map f) r
  | _, _, .nil => .nil
  | _, _, .cons h t => .cons h (Paired.mapL t)
theorem Paired.setR {α β : Type} {F F' : α → β → Prop} {b' : β} : ∀ {l : List α} {r : List β} (i : Nat), Paired F l r → (∀ j a b, j ≠ i → l[j]? = some a → F a b → F' a b) → (∀ a, l[i]? = some a → F' a b') → Paired F' l (r.set i b')
  | _, _, _, .nil, _, _ => .nil
  | _, _, 0, .cons h t, g, g' => .cons (g' _ rfl) (by
      have : ∀ {l : List α} {r : List β}, Paired F l r → (∀ (j : Nat) a b, l[j]? = some a → F a b → F' a b) → Paired F' l r := by
        intro l r h
        induction h with
        | nil => intro _; exact .nil
        | cons h t ih => intro g; exact .cons (g 0 _ _ rfl h) (ih fun j a b e q => g (j + 1) a b (by simpa using e) q)
      exact this t fun j a b e q => g (j + 1) a b (by omega) (by simpa using e) q)
  | _, _, i + 1, .cons h t, g, g' => .cons (g 0 _ _ (by omega) rfl h) (Paired.setR i t (fun j a b n e q => g (j + 1) a b (by omega) (by simpa using e) q) fun a e => g' a (by simpa using e))
theorem pw_ne {α : Type} {R : α → α → Prop} {l : List α} (h : l.Pairwise R) (hs : ∀ a b, R a b → R b a) {i j : Nat} {a b : α} (hi : l[i]? = some a) (hj : l[j]? = some b) (n : i ≠ j) : R a b := by
  obtain ⟨h1, rfl⟩ := List.getElem?_eq_some_iff.mp hi
  obtain ⟨h2, rfl⟩ := List.getElem?_eq_some_iff.mp hj
  have hp := List.pairwise_iff_getElem.mp h
  rcases Nat.lt_or_gt_of_ne n with q | q
  · exact hp i j h1 h2 q
  · exact hs _ _ (hp j i h2 h1 q)
/-- one row is turned: at m, one of its three objects -/
theorem OwnEs.turn {H0 H H' : Hp} {l : Addr} {es : List T3} {st : LS} (o : OwnEs H0 H l es st) {i : Nat} {e : T3} {s' : DD × DD} {m : Addr} (he : es[i]? = some e) (hm : m ∈ rowAs e) (k : ∀ b u, b ≠ m → H b = some u → H' b = some u)
    (hr : RowL (newH H0 H') (V.ref e.1) s') : LawAt (newH H0 H') l (st.set i s') := by
  have hel : e ∈ es := List.mem_of_getElem? he
  refine ⟨_, newH_get (k _ _ (Ne.symm (o.fresh e hel m hm).2) o.lst) o.fl, Paired.mapL (Paired.setR i o.rows (fun j a b n ha h => ?_) fun a ha => ?_)⟩
  · have ap : ∀ x ∈ rowAs a, x ≠ m := fun x hx => pw_ne (R := fun e e' => ∀ x ∈ rowAs e, ∀ y ∈ rowAs e', x ≠ y) o.apart (fun a b h x hx y hy => Ne.symm (h y hy x hx)) ha he n x hx m hm
    have f := o.fresh a (List.mem_of_getElem? ha)
    exact ⟨a.1, a.2.1, a.2.2, rfl, newH_get (k _ _ (ap _ (by simp [rowAs])) h.1) (f _ (by simp [rowAs])).1, newH_get (k _ _ (ap _ (by simp [rowAs])) h.2.1) (f _ (by simp [rowAs])).1, newH_get (k _ _ (ap _ (by simp [rowAs])) h.2.2) (f _ (by simp [rowAs])).1⟩
  · rw [he] at ha
    cases ha
    exact hr
def spCop : Sp := fun vs H Q _ => ∃ (l : Addr) (st : LS), vs = [.ref l] ∧ LawAt H l st ∧ st.length ≤ 1000 ∧ ∀ l' es H', Same H H' → OwnEs H H' l' es st → Q (.ref l') H'
def Deed.ch : Deed → Prop
  | .undo => False
  | .holds _ => False
  | _ => True
def spCha : Sp := fun vs H Q _ => ∃ (H0 : Hp) (l t : Addr) (es : List T3) (st : LS) (d : Deed), vs = [.ref l, .ref t] ∧ Same H0 H ∧ OwnEs H0 H l es st ∧ H t = some (.tup (Deed.enc d)) ∧ d.ch ∧ OkS 5000 st ∧
  (∀ H' st', Same H0 H' → stepM st d = some st' → LawAt (newH H0 H') l st' → Q (.bl true) H') ∧ (∀ H', Same H0 H' → stepM st d = none → Q (.bl false) H')
def NextV (H : Hp) (r : V) (l q : Addr) (s : DS) (d : Deed) : Prop := (r = .non ∧ (nextM s d).2 = .b false ∧ LawD H l q s) ∨ ∃ l', r = .ref l' ∧ (nextM s d).2 ≠ .b false ∧ LawD H l' q (nextM s d).1
def spNext : Sp := fun vs H Q _ => ∃ (l q t : Addr) (s : DS) (d : Deed) (m : Nat), vs = [.ref l, .ref q, .ref t] ∧ H t = some (.tup (Deed.enc d)) ∧ LawD H l q s ∧ OkDay m s ∧ m ≤ 5000 ∧ s.1.length ≤ 1000 ∧
  ∀ r H', Same (hid q q H) (hid q q H') → NextV H' r l q s d → Q r H'
theorem next_ch {s : DS} {d : Deed} (h : d.ch) : nextM s d = didM s (stepM s.1 d) := by
  cases d <;> first | rfl | exact h.elim
theorem did_false {s : DS} {o : Option LS} (h : o = none) : didM s o = (s, .b false) := by rw [h]; rfl
theorem did_true {s : DS} {o : Option LS} {q : LS} (h : o = some q) : didM s o = ((q, s.2 ++ [s.1]), .b true) := by rw [h]; rfl
end L2
set_option Elab.async false
set_option linter.all false
set_option maxRecDepth 100000
set_option maxHeartbeats 4000000
namespace L2
open PySem PySem.Spec PyProof.Rows
theorem dayM_take {ds : List Deed} {s : DS} {i : Nat} {d : Deed} (h : ds[i]? = some d) : (dayM s (ds.take (i + 1))).1 = (nextM (dayM s (ds.take i)).1 d).1 := by
  have e : ds.take (i + 1) = ds.take i ++ [d] := by rw [List.take_add_one, h]; rfl
  rw [e, dayM_snoc]
theorem enc_flat (d : Deed) : (Deed.enc d).all flatV = true := by cases d <;> rfl
theorem enc_len (d : Deed) : (Deed.enc d).length ≤ 4 := by cases d <;> simp [Deed.enc]
theorem enc_sum (ds : List Deed) : ((ds.map Deed.enc).map fun xs => 1 + xs.length).sum ≤ 5 * ds.length := by
  induction ds with
  | nil => exact Nat.le_refl _
  | cons d r ih =>
    have := enc_len d
    simp only [List.map_cons, List.sum_cons, List.length_cons]
    omega
theorem EqW.deeds {H : Hp} {a b : Addr} {rs : List V} {ds : List Deed} (ha : H a = some (.lst rs)) (hb : H b = some (.lst rs)) (h : TupsAt H rs (ds.map Deed.enc)) : ∃ n, EqW H (.ref a) (.ref b) n ∧ n ≤ 1 + 5 * ds.length :=
  ⟨_, EqW.tups ha hb h (fun xs hx => by obtain ⟨d, _, rfl⟩ := List.mem_map.mp hx; exact enc_flat d), by have := enc_sum ds; omega⟩
def notHolds : Deed → Bool
  | .holds _ => false
  | _ => true
theorem did_same {s : DS} {o : Option LS} (h : (didM s o).2 = .b false) : (didM s o).1 = s := by
  cases o with
  | none => rfl
  | some q => cases h
theorem nextM_same {s : DS} {d : Deed} (h : (nextM s d).2 = .b false) : (nextM s d).1 = s := by
  cases d with
  | holds n => cases h
  | undo =>
    have h : (undoM s).2 = .b false := h
    show (undoM s).1 = s
    unfold undoM at h ⊢
    cases e : s.2.getLast? with
    | none => rfl
    | some q => rw [e] at h; cases h
  | set a b c => exact did_same h
  | unset a b => exact did_same h
  | lock a b => exact did_same h
  | unlock a b => exact did_same h
  | copy a b => exact did_same h
/-- fresh layers of nothing, row by row -/
def RowsZ (D : Addr) (H H' : Hp) (i : Nat) (ys : List V) : Prop := Same H H' ∧ H' D = some (.lst ys) ∧ Paired (RowL (hid D D H')) ys (List.replicate i ([], []))
theorem RowsZ.more {D : Addr} {H H1 : Hp} {i : Nat} {ys : List V} (hD : H D = none) (h : RowsZ D H H1 i ys) {d1 d2 p : Addr} (hd1 : H1 d1 = none) (hd2 : upd H1 d1 (.dK []) d2 = none) (hp : upd (upd H1 d1 (.dK [])) d2 (.dK []) p = none) :
    (upd (upd (upd H1 d1 (.dK [])) d2 (.dK [])) p (.lst [.ref d1, .ref d2])) D = some (.lst ys) ∧ RowsZ D H (upd (upd (upd (upd H1 d1 (.dK [])) d2 (.dK [])) p (.lst [.ref d1, .ref d2])) D (.lst (ys ++ [.ref p]))) (i + 1) (ys ++ [.ref p]) := by
  obtain ⟨s1, e, hr⟩ := h
  have t1 := Same.new (o := .dK []) hd1
  have t2 := Same.new (o := .dK []) hd2
  have t3 := Same.new (o := .lst [.ref d1, .ref d2]) hp
  have t := (t1.trans t2).trans t3
  have b1 := t3 _ _ (t2 _ _ (upd_same (H := H1) (a := d1) (o := .dK [])))
  have b2 := t3 _ _ (upd_same (H := upd H1 d1 (.dK [])) (a := d2) (o := .dK []))
  have b3 := upd_same (H := upd (upd H1 d1 (.dK [])) d2 (.dK [])) (a := p) (o := .lst [.ref d1, .ref d2])
  have np : p ≠ D := Ne.symm (ne_of_none e ((t1.trans t2).free hp))
  generalize upd (upd (upd H1 d1 (.dK [])) d2 (.dK [])) p (.lst [.ref d1, .ref d2]) = H2 at t b1 b2 b3
  have e2 := t _ _ e
  refine ⟨e2, (s1.trans t).upd hD, upd_same, ?_⟩
  rw [List.replicate_succ', hid_q]
  exact Paired.snoc' (Paired.mapP hr fun v z hz => hz.same (hid_same t)) ⟨p, d1, d2, rfl, hid_get b3 np np, hid_get b1 (ne_of b1 e2 (by intro z; cases z)) (ne_of b1 e2 (by intro z; cases z)), hid_get b2 (ne_of b2 e2 (by intro z; cases z)) (ne_of b2 e2 (by intro z; cases z))⟩
end L2
set_option Elab.async false
set_option linter.all false
set_option maxRecDepth 100000
set_option maxHeartbeats 4000000
namespace L2
open PySem PySem.Spec PyProof.Rows
theorem eqV_self {x : V} (h : flatV x = true) : eqV x x = true := by
  cases x <;> first | rfl | cases h; done | simp [eqV]
theorem op_ne_tup {X : Cx} (hu : X.A.units < cLine) : OpR X (compareOp .NotEq) (fun x y H Q => ∃ a b xs, x = .ref a ∧ y = .ref b ∧ H a = some (.tup xs) ∧ H b = some (.tup xs) ∧ xs.all flatV = true ∧ Q (.bl false) H) := by
  intro pins s σ H x y v u Q I rx ry h
  obtain ⟨a, b, xs, rfl, rfl, ha, hb, hf, q⟩ := h
  cases rx
  cases ry
  obtain ⟨its, r1, p1, _⟩ := I.tuple (SqT.of ha)
  obtain ⟨its2, r2, p2, _⟩ := I.tuple (SqT.of hb)
  have l1 := r1.length
  have l2 := r2.length
  refine SeqAt.RcNeAt.tuples (e := fun _ => true) p1 p2 hu (fun j h1 h2 => ?_) _ _ _ _ ?_
  · have hj : j < xs.length := by simp at h1; omega
    have ex : xs[j]? = some xs[j] := by simp [hj]
    obtain ⟨u1, e1, q1⟩ := r1.get ex
    obtain ⟨u2, e2, q2⟩ := r2.get ex
    have f := List.all_eq_true.mp hf _ (List.getElem_mem hj)
    have z := eqAt_V (A := X.A.in1) (s := s) q1 q2 f f
    rw [eqV_self f] at z
    have d1 : its.toArray[j] = u1 := by simpa using (List.getElem?_eq_some_iff.mp e1).2
    have d2 : its2.toArray[j] = u2 := by simpa using (List.getElem?_eq_some_iff.mp e2).2
    rw [d1, d2]
    exact z
  · have e : (!((List.range (min its.toArray.size its2.toArray.size)).all (fun _ => true) && its.toArray.size == its2.toArray.size)) = false := by
      rw [List.size_toArray, List.size_toArray, ← l1, ← l2]
      simp
    rw [e]
    exact ⟨.bl false, H, I, rfl, q⟩
def spHolding : Sp := fun vs H Q _ => ∃ (l : Addr) (n : Str) (st : LS) (m : Nat), vs = [.ref l, .str n] ∧ LawAt H l st ∧ OkS m st ∧ st.length ≤ 1000 ∧ ∀ r H', Same H H' → HoldV H' r (decM 0 none (rowM st n)) → Q r H'
def spPair : Sp := fun vs H Q _ => ∃ (x y : V) (o : Option (Int × Nat)), vs = [x, y] ∧ HoldV H x o ∧ HoldV H y o ∧ Q (.bl true) H
theorem valI_of {d : DD} {n : Str} (h : ∀ p ∈ d, ∃ i, p.2 = V.int i) (hh : has d n = true) : ∃ i, valV d (Sum.inr n) = some (.int i) ∧ valI d n = some i := by
  obtain ⟨v, hv⟩ := has_some hh
  have := valI_ov (n := n) h
  rw [hv] at this
  unfold valI
  rw [hv]
  have hm : ∃ p ∈ d, p.2 = v := by
    unfold valV at hv
    cases f : d.find? (fun kv => decide (kv.1 = (Sum.inr n : Key))) with
    | none => rw [f] at hv; cases hv
    | some kv =>
      rw [f] at hv
      exact ⟨kv, List.mem_of_find?_eq_some f, Option.some.inj hv⟩
  obtain ⟨p, hp, rfl⟩ := hm
  obtain ⟨i, hi⟩ := h p hp
  rw [hi]
  exact ⟨i, rfl, rfl⟩
theorem valI_no {d : DD} {n : Str} (hh : has d n = false) : valI d n = none := by
  have : valV d (Sum.inr n) = none := by
    unfold has at hh
    exact Option.isNone_iff_eq_none.mp (by rw [← Option.not_isSome, hh]; rfl)
  unfold valI
  rw [this]
end L2
set_option Elab.async false
set_option linter.all false
set_option maxRecDepth 100000
set_option maxHeartbeats 4000000
namespace L2
open PySem PySem.Spec PyProof.Rows
/-! ### a range by steps -/
/-- lo, lo + c, .. (n of them) -/
def ItrS (lo : Int) (n : Nat) (c : Int) : It := ⟨fun i _ => i < n, fun i H x H' => H' = H ∧ x = .int (lo + i * c), fun i _ => n ≤ i⟩
section
variable {X : Cx} {tg : Expr}
def iRng3 (ta : TA) : TI := fun σ H R => ta σ H fun vs H1 => ∃ i j : Int, vs = [.int i, .int j, .int 2] ∧ (0 ≤ i ∧ i < 2 ^ 40 ∧ 0 ≤ j ∧ j < 2 ^ 40) ∧ R (ItrS i ((j - i + 1) / 2).toNat 2) H1
end
end L2
set_option Elab.async false
set_option linter.all false
set_option maxRecDepth 100000
set_option maxHeartbeats 4000000
namespace L2
open PySem PySem.Spec PyProof.Rows
/-! ### a lock against nearer layers -/
def near (L : Nat) : Deed → Prop
  | .set l _ _ => (L : Int) < l
  | .unset l _ => (L : Int) < l
  | .lock l _ => (L : Int) < l
  | .unlock l _ => (L : Int) < l
  | .copy _ b => (L : Int) < b
  | .undo => False
  | .holds _ => True
theorem dayM_app : ∀ (r q : List Deed) (s : DS), (dayM s (r ++ q)).1 = (dayM (dayM s r).1 q).1
  | [], q, s => rfl
  | d :: r, q, s => dayM_app r q (nextM s d).1
/-- asks among nearer deeds -/
structure Asks (L : Nat) (n : Str) (fs : List Deed) : Prop where
  near : ∀ d ∈ fs, L2.near L d
  odd : ∃ i, fs.length = 2 * i + 1
  ask : ∀ j, 2 * j < fs.length → fs[2 * j]? = some (.holds n)
def spRoom (K : PySem.W.Frag) : Sp := fun vs H Q _ => ∃ (a : Addr) (ns : List Int) (f b : Int), vs = [.ref a, .int f, .int b] ∧ SqL K H a (ns.map V.int) ∧ ns.length ≤ 63 ∧ Q (.int f) H
end L2
set_option Elab.async false
set_option linter.all false
set_option maxRecDepth 100000
set_option maxHeartbeats 4000000
namespace L2
open PySem PySem.Spec PyProof.Rows
/-! ### keys of a dict as a list; texts in order -/
theorem keyRel {P : Program} {w : World} {k : Key} {u : Value} (h : (mixKind P w).is k u = true) : RelV (kV k) u := by
  rcases keyIs_shape h with ⟨i, t, rfl, rfl⟩ | ⟨x, t, rfl, rfl⟩
  · exact ⟨t, rfl⟩
  · exact ⟨t, rfl⟩
theorem paired_at {α β : Type} {F : α → β → Prop} : ∀ {l : List α} {r : List β}, l.length = r.length → (∀ (i : Nat) a b, l[i]? = some a → r[i]? = some b → F a b) → Paired F l r
  | [], [], _, _ => .nil
  | [], _ :: _, h, _ => by simp at h
  | _ :: _, [], h, _ => by simp at h
  | a :: l, b :: r, h, g => .cons (g 0 a b rfl rfl) (paired_at (by simpa using h) fun i x y e1 e2 => g (i + 1) x y (by simpa using e1) (by simpa using e2))
def keysV (kvs : DD) : List V := kvs.map fun kv => kV kv.1
theorem keys_rel {P : Program} {w : World} {kvs : DD} {vs : List (Key × Value)} {acc : Array Value} (rel : KV kvs vs) (h : ItemsOf (fun i v => ∃ k x, vs[i]? = some (k, x) ∧ (mixKind P w).is k v = true) acc vs.length) : Vals (keysV kvs) acc.toList := by
  have hl := rel.length
  refine paired_at (by unfold keysV; rw [List.length_map, hl, ← h.1, Array.length_toList]) fun i a b e1 e2 => ?_
  obtain ⟨k, x, hx, hk⟩ := h.2 i b (by rw [← Array.getElem?_toList]; exact e2)
  unfold keysV at e1
  rw [List.getElem?_map] at e1
  cases q : kvs[i]? with
  | none => rw [q] at e1; cases e1
  | some kv =>
    rw [q] at e1
    have e1 : some (kV kv.1) = some a := e1
    cases e1
    have hk1 : (kvs.map (·.1))[i]? = some kv.1 := by rw [List.getElem?_map, q]; rfl
    rw [rel.keys, List.getElem?_map, hx] at hk1
    have hk1 : some k = some kv.1 := hk1
    cases hk1
    exact keyRel hk
section
variable {X : Cx}
theorem call_list_dict (hc : X.calm = true) : CallR X (.type "list") (fun xs H Q => ∃ a kvs, xs = [.ref a] ∧ H a = some (.dK kvs) ∧ ∀ l, H l = none → Q (.ref l) (upd H l (.lst (keysV kvs)))) := by
  intro pins s σ H xs us Q I r h
  obtain ⟨a, kvs, rfl, ha, q⟩ := h
  obtain ⟨u, rfl, rx⟩ := vals1 r
  cases rx
  obtain ⟨z, hd, vs, rel, dd⟩ := dk_of I.hok ha
  obtain ⟨ep, da⟩ := dd.dictAt
  have hl := rel.length
  refine PySem.W.kdl_call (PySem.W.kdl_dict (knd := mixKind X.prog X.w) (kvs := vs) (ep := ep) hd) (I.ok.hd hc) da (by omega) fun h' tk acc c hk hS hacc => ?_
  exact ⟨.ref s.heap.objs.size, _, I.laid (t' := tk) hk (Nat.le_refl _) (show ObjOk X.prog X.w _ h' _ (.lst (keysV kvs)) from ⟨by unfold keysV; rw [List.length_map]; exact z, acc.toList, c, keys_rel rel hacc, by rw [Array.toArray_toList]; exact hS⟩), rfl, q _ I.fresh⟩
end

/-- all objects stay -/
structure Mv (s s' : Shared) : Prop where
  os : s'.os = s.os
  gens : s'.gens = s.gens
  keep : ∀ b o, s.heap.get? b = some o → s'.heap.get? b = some o
theorem Inv.mv {X : Cx} {pins : List (Addr × Obj)} {σ : St} {H : Hp} {s s' : Shared} (I : Inv X pins σ H s) (m : Mv s s') : Inv X pins σ H s' := by
  obtain ⟨h, g, d, t, o⟩ := s'
  obtain ⟨e1, e2, k⟩ := m
  have e1 : o = s.os := e1
  have e2 : g = s.gens := e2
  subst e1 e2
  have J := I.kept (t' := t) k
  exact ⟨J.ok, J.os, J.bare, J.base, J.loc, J.cell, J.free, J.freeC, J.pin, J.hok, J.len⟩
theorem Inv.mvLaid {X : Cx} {pins : List (Addr × Obj)} {σ : St} {H : Hp} {s s' : Shared} {a : Addr} {o : HO} (I : Inv X pins σ H s) (m : Mv s s') (hp : s.heap.objs.size ≤ a) (new : ObjOk X.prog X.w (upd H a o) s'.heap a o) : Inv X pins σ (upd H a o) s' := by
  obtain ⟨h, g, d, t, os'⟩ := s'
  obtain ⟨e1, e2, k⟩ := m
  have e1 : os' = s.os := e1
  have e2 : g = s.gens := e2
  subst e1 e2
  have J := I.laid (t' := t) k hp new
  exact ⟨J.ok, J.os, J.bare, J.base, J.loc, J.cell, J.free, J.freeC, J.pin, J.hok, J.len⟩
section
variable {prog : Program} {w : World} {A : Around} {E : Value → Shared → Prop} {s : Shared}
/-- whatever can be gathered to a list of few texts is sorted -/
theorem sorted_texts {r : Value} {ss : List Str} {Q : Value → Shared → Prop} (h64 : ss.length < 64)
    (col : ∀ (R : List Value → Shared → Prop) (E' : Value → Shared → Prop), (∀ s' vs ss', Mv s s' → StrsAre vs ss' → ss'.Perm ss → R vs s') → wpAny (model prog w) A.in1 (collect r) R E' s)
    (h : ∀ s1 s' a its c ss', Mv s s1 → Mv s1 s' → s1.heap.objs.size ≤ a → s'.heap.get? a = some { cls := .type "list", data := .seq its c } → StrsAre its.toList ss' → ss'.Perm ss → sortedS ss' = true → Q (.ref a) s') :
    wpAny (model prog w) A (call (.builtin "sorted") [r]) Q E s := by
  refine Calls.call_function_entry kind_sorted plain_sorted entry_sorted (args_sorted1 _) ?_
  unfold Builtin.«sorted»
  refine wpAny_bind (m := checkCount "sorted" 1 1 _) (wpAny_pure (wpAny_bind (col _ _ fun s1 vs ss1 m1 hS hp => ?_)))
  have hl : vs.length < 64 := by rw [hS.length, hp.length_eq]; exact h64
  refine wpAny_bind (wpAny_newList ?_ (by rw [sizeLine_eq]; omega))
  have hoL : (s1.heap.push { cls := .type "list", data := .seq vs.toArray }).get? s1.heap.objs.size = some (seqObj "list" vs.toArray 0) := Heap.get?_push_size _ rfl
  refine wpAny_bind (wpAny_holding (wpAny_call_entry slot_list_sort ⟨_, hoL, rfl⟩ entry_list_sort
    (list_sort_treeK (s := { s1 with heap := s1.heap.push { cls := .type "list", data := .seq vs.toArray } }) strKind_oneLt hoL hS.keysOf (fun v₁ v₂ rest e => keyKind_strs (by rw [← e]; exact hS)) hl fun st' a1 a2 => ⟨_, rfl, ?_⟩) (args_list_sort _)))
  obtain ⟨ss', b1, b2, b3⟩ := sorted_out_str hS a1 a2
  obtain ⟨e, he⟩ := sortedHeap_at (out := (arrOf st').map (·.2)) hoL
  refine wpAny_pure ⟨_, rfl, h s1 _ s1.heap.objs.size _ e ss' m1 ⟨rfl, rfl, fun b o q => ?_⟩ (Nat.le_refl _) he b1 (b2.trans hp) b3⟩
  have hlt := Heap.lt_size q
  show (sortedHeap _ _ _ _).get? b = some o
  rw [sortedHeap_old (Nat.ne_of_lt hlt) (by rw [size_push']; exact Nat.lt_succ_of_lt hlt), Heap.get?_push_of_some _ q]
end
theorem strs_of : ∀ {ss : List Str} {its : List Value}, Vals (ss.map V.str) its → StrsAre its ss
  | [], _, .nil => .nil
  | x :: r, _, .cons ⟨t, e⟩ q => by
    subst e
    exact .cons x t (strs_of q)
theorem of_strs : ∀ {ss : List Str} {its : List Value}, StrsAre its ss → Vals (ss.map V.str) its
  | _, _, .nil => .nil
  | _, _, .cons x t q => .cons ⟨t, rfl⟩ (of_strs q)
theorem Inv.sorted {X : Cx} {pins : List (Addr × Obj)} {σ : St} {H : Hp} {s s1 s' : Shared} {a : Addr} {its : Array Value} {c : Nat} {ss : List Str} {Q : VK} (I : Inv X pins σ H s) (m1 : Mv s s1) (m2 : Mv s1 s') (ha : s1.heap.objs.size ≤ a)
    (e : s'.heap.get? a = some { cls := .type "list", data := .seq its c }) (hS : StrsAre its.toList ss) (hz : ss.length < 64) (q : ∀ l, H l = none → Q (.ref l) (upd H l (.lst (ss.map V.str)))) : EP X pins σ Q (.ref a) s' := by
  have I1 := I.mv m1
  refine ⟨.ref a, _, I1.mvLaid m2 ha (show ObjOk X.prog X.w _ s'.heap _ (.lst (ss.map V.str)) from ⟨by rw [List.length_map, sizeLine_eq]; omega, its.toList, c, of_strs hS, by rw [Array.toArray_toList]; exact e⟩), rfl, q a (I1.hok.fresh ha)⟩
section
variable {X : Cx}
theorem call_sorted_dict (hc : X.calm = true) : CallR X (.builtin "sorted") (fun xs H Q => ∃ a kvs ss, xs = [.ref a] ∧ H a = some (.dK kvs) ∧ kvs.map (·.1) = ss.map Sum.inr ∧ ss.length < 64 ∧ ∀ ss' l, ss'.Perm ss → sortedS ss' = true → H l = none → Q (.ref l) (upd H l (.lst (ss'.map V.str)))) := by
  intro pins s σ H xs us Q I r h
  obtain ⟨a, kvs, ss, rfl, ha, hks, hz, q⟩ := h
  obtain ⟨u, rfl, rx⟩ := vals1 r
  cases rx
  obtain ⟨z, hd, vs, rel, dd⟩ := dk_of I.hok ha
  obtain ⟨ep, da⟩ := dd.dictAt
  have hl := rel.length
  refine sorted_texts hz (fun R E' k => ?_) fun s1 s' b out c ss' m1 m2 hb e hS' hp ho => I.sorted m1 m2 hb e hS' (by rw [hp.length_eq]; exact hz) fun l hl => q ss' l hp ho hl
  refine PySem.W.kdu_collect (PySem.W.kdl_dict (knd := mixKind X.prog X.w) (kvs := vs) (ep := ep) hd) (by simp [I.ok.hd hc]) da (by omega) fun h' tk acc hk hacc => ?_
  have hv := keys_rel rel hacc
  have e : keysV kvs = ss.map V.str := by
    have := congrArg (List.map kV) hks
    rw [List.map_map, List.map_map] at this
    exact this
  rw [e] at hv
  exact k _ _ ss ⟨rfl, rfl, hk⟩ (strs_of hv) (.refl _)
end
end L2
set_option Elab.async false
set_option linter.all false
set_option maxRecDepth 100000
set_option maxHeartbeats 4000000
namespace L2
open PySem PySem.Spec PyProof.Rows PySem.W
/-! ### the sort of the model, asked with distinct keys -/
inductive Ev (lt : Nat → Nat → Bool) (n : Nat) {α : Type} : KasT α → α → Prop
  | ret (a : α) : Ev lt n (.ret a) a
  | ask {i j : Nat} {k : Bool → KasT α} {a : α} : i < n → j < n → i ≠ j → Ev lt n (k (lt i j)) a → Ev lt n (.ask i j k) a
structure Lin (lt : Nat → Nat → Bool) (n : Nat) : Prop where
  asym : ∀ i j, lt i j = true → lt j i = false
  trans : ∀ i j k, lt i j = true → lt j k = true → lt i k = true
  tot : ∀ i j, i < n → j < n → i ≠ j → lt i j = false → lt j i = true
abbrev at0 (p : Array Nat) (k : Nat) : Nat := p.getD k 0
structure Goo (n : Nat) (p : Array Nat) : Prop where
  size : p.size = n
  lt : ∀ k, k < n → at0 p k < n
  inj : ∀ k l, k < n → l < n → at0 p k = at0 p l → k = l
def Up (lt : Nat → Nat → Bool) (p : Array Nat) (m : Nat) : Prop := ∀ i j, i < j → j < m → lt (at0 p i) (at0 p j) = true
def Down (lt : Nat → Nat → Bool) (p : Array Nat) (m : Nat) : Prop := ∀ i j, i < j → j < m → lt (at0 p j) (at0 p i) = true
section
variable {lt : Nat → Nat → Bool} {n : Nat}
end
end L2
set_option Elab.async false
set_option linter.all false
set_option maxRecDepth 100000
set_option maxHeartbeats 4000000
namespace L2
open PySem PySem.Spec PyProof.Rows PySem.W
/-! ### pairs of a text and anything, sorted: no two texts alike -/
section
variable {prog : Program} {w : World} {A : Around} {E : Value → Shared → Prop} {s : Shared}
end
/-! ### many objects laid at once -/
def layT (H : Hp) : List (Addr × List V) → Hp
  | [] => H
  | (a, xs) :: r => upd (layT H r) a (.tup xs)

/-! ### the order of texts -/
def ltS (a b : Str) : Bool := ltCps a.cps.toList b.cps.toList
theorem ltS_iff {a b : Str} : ltS a b = true ↔ a.cps.toList < b.cps.toList := by
  unfold ltS
  rw [ltCps_eq, decide_eq_true_iff]
theorem ltS_no {a b : Str} : ltS a b = false ↔ ¬ a.cps.toList < b.cps.toList := by
  unfold ltS
  rw [ltCps_eq, decide_eq_false_iff_not]
theorem str_ext {a b : Str} (h : a.cps.toList = b.cps.toList) : a = b := by
  obtain ⟨x⟩ := a
  obtain ⟨y⟩ := b
  congr
  exact Array.toList_inj.mp h
theorem ltS_trans {a b c : Str} (h : ltS a b = true) (g : ltS b c = true) : ltS a c = true := ltS_iff.mpr (List.lt_trans (ltS_iff.mp h) (ltS_iff.mp g))
theorem ltS_tot {a b : Str} (n : a ≠ b) (h : ltS a b = false) : ltS b a = true := by
  cases q : ltS b a with
  | true => rfl
  | false => exact absurd (str_ext (List.le_antisymm (List.not_lt.mp (ltS_no.mp q)) (List.not_lt.mp (ltS_no.mp h)))) n
/-! ### sorted(d.items()) -/
def ItemsV (v d : Addr) : HO := .ext fun h => h.IsItemsView v d
section
variable {X : Cx}
end
abbrev PV := Str × V
def pdd (ps : List PV) : DD := ps.map fun p => (Sum.inr p.1, p.2)
def pxs (ps : List PV) : List (List V) := ps.map fun p => [.str p.1, p.2]
def kAt (ps : List PV) (i : Nat) : Str := (ps.getD i ("", .non)).1
section
variable {X : Cx}
end
end L2
set_option Elab.async false
set_option linter.all false
set_option maxRecDepth 100000
set_option maxHeartbeats 4000000
namespace L2
open PySem PySem.Spec PyProof.Rows
/-! ### names are texts -/
def StrD (d : DD) : Prop := ∀ p ∈ d, ∃ x : Str, p.1 = Sum.inr x
def StrS (st : LS) : Prop := ∀ e ∈ st, StrD e.1 ∧ StrD e.2
def StrDay (s : DS) : Prop := StrS s.1 ∧ ∀ q ∈ s.2, StrS q
theorem StrD.put {d : DD} {n : Str} {v : V} (h : StrD d) : StrD (putK d (Sum.inr n) v) := fun p hp => by
  unfold putK at hp
  split at hp
  · obtain ⟨q, hq, rfl⟩ := List.mem_map.mp hp
    split
    · exact h q hq
    · exact h q hq
  · rcases List.mem_append.mp hp with hp | hp
    · exact h p hp
    · rw [List.mem_singleton] at hp
      exact ⟨n, by rw [hp]⟩
theorem StrD.drop {d : DD} {k : Key} (h : StrD d) : StrD (dropK d k) := fun p hp => h p (dropK_mem hp)
theorem StrS.lay {st : LS} (h : StrS st) (i : Int) : StrD (lay st i).1 ∧ StrD (lay st i).2 := by
  unfold L2.lay
  rw [List.getD_eq_getElem?_getD]
  cases e : st[i.toNat]? with
  | none => exact ⟨(fun p hp => by cases hp), fun p hp => by cases hp⟩
  | some x => exact h x (List.mem_of_getElem? e)
theorem StrS.set {st : LS} {i : Nat} {e : DD × DD} (h : StrS st) (he : StrD e.1 ∧ StrD e.2) : StrS (st.set i e) := fun x hx => by
  rcases List.mem_or_eq_of_mem_set hx with hx | rfl
  · exact h x hx
  · exact he
theorem StrS.step {st q : LS} {d : Deed} (h : StrS st) (e : stepM st d = some q) : StrS q := by
  cases d with
  | undo => cases e
  | holds n => cases e
  | set l m v =>
    simp only [stepM] at e
    split at e
    · cases e
      exact h.set ⟨(h.lay l).1.put, (h.lay l).2⟩
    · cases e
  | unset l m =>
    simp only [stepM] at e
    split at e
    · cases e
      exact h.set ⟨(h.lay l).1.drop, (h.lay l).2⟩
    · cases e
  | lock l m =>
    simp only [stepM] at e
    split at e
    · cases e
      exact h.set ⟨(h.lay l).1, (h.lay l).2.put⟩
    · cases e
  | unlock l m =>
    simp only [stepM] at e
    split at e
    · cases e
      exact h.set ⟨(h.lay l).1, (h.lay l).2.drop⟩
    · cases e
  | copy a b =>
    simp only [stepM] at e
    split at e
    · cases e
      exact h.set ⟨(h.lay a).1, (h.lay b).2⟩
    · cases e
theorem undo_cases (s : DS) : (s.2 = [] ∧ undoM s = (s, .b false)) ∨ ∃ r q, s.2 = r ++ [q] ∧ undoM s = ((q, r), .b true) := by
  obtain ⟨st, ps⟩ := s
  rcases List.eq_nil_or_concat ps with e | ⟨r, q, e⟩
  · subst e
    exact .inl ⟨rfl, rfl⟩
  · rw [List.concat_eq_append] at e
    subst e
    refine .inr ⟨r, q, rfl, ?_⟩
    unfold undoM
    simp
theorem StrDay.next {s : DS} (h : StrDay s) (d : Deed) : StrDay (nextM s d).1 := by
  have did : ∀ o : Option LS, (∀ q, o = some q → StrS q) → StrDay (didM s o).1 := fun o ho => by
    cases o with
    | none => exact h
    | some q =>
      refine ⟨ho q rfl, fun x hx => ?_⟩
      rcases List.mem_append.mp hx with hx | hx
      · exact h.2 x hx
      · rw [List.mem_singleton] at hx
        rw [hx]
        exact h.1
  cases d with
  | undo =>
    show StrDay (undoM s).1
    rcases undo_cases s with ⟨_, e⟩ | ⟨r, q, e1, e⟩
    · rw [e]; exact h
    · rw [e]
      exact ⟨h.2 q (by rw [e1]; simp), fun x hx => h.2 x (by rw [e1]; simp [hx])⟩
  | holds m => exact h
  | set a b c => exact did _ fun q e => h.1.step e
  | unset a b => exact did _ fun q e => h.1.step e
  | lock a b => exact did _ fun q e => h.1.step e
  | unlock a b => exact did _ fun q e => h.1.step e
  | copy a b => exact did _ fun q e => h.1.step e
theorem StrDay.day : ∀ {r : List Deed} {s : DS}, StrDay s → StrDay (dayM s r).1
  | [], _, h => h
  | d :: r, _, h => StrDay.day (r := r) (h.next d)
theorem StrDay.zero (n : Nat) : StrDay (zeroM n) := ⟨fun e he => by
  have := List.eq_of_mem_replicate he
  subst this
  exact ⟨(fun p hp => by cases hp), fun p hp => by cases hp⟩, fun q hq => by cases hq⟩
/-- few names, all of them texts, whole numbers as values -/
def Few (st : LS) : Prop := StrS st ∧ OkS 63 st

/-! ### undoing -/
def tower (s : DS) : List LS := s.2 ++ [s.1]
theorem OkDay.undos {n : Nat} : ∀ {m : Nat} {s : DS}, OkDay n s → OkDay n (dayM s (List.replicate m .undo)).1
  | 0, _, h => h
  | m + 1, s, h => by
    rw [List.replicate_succ]
    show OkDay n (dayM (undoM s).1 (List.replicate m .undo)).1
    refine OkDay.undos (m := m) ?_
    rcases undo_cases s with ⟨_, e⟩ | ⟨r, q, e1, e⟩
    · rw [e]; exact h
    · rw [e]
      refine ⟨h.2.1 q (by rw [e1]; simp), fun x hx => h.2.1 x (by rw [e1]; simp [hx]), ?_⟩
      have := h.2.2
      rw [e1, List.length_append] at this
      show r.length ≤ n
      omega

/-! ### texts in order: there is one order -/
theorem sorted_pw : ∀ {l : List Str}, sortedS l = true → l.Pairwise fun a b => ltS b a = false
  | [], _ => .nil
  | x :: r, h => by
    have : ∀ (r : List Str) (p : Str), risingS p r = true → (p :: r).Pairwise fun a b => ltS b a = false := by
      intro r
      induction r with
      | nil => intro p _; exact List.pairwise_singleton _ _
      | cons y r ih =>
        intro p h
        have h : (!ltCps y.cps.toList p.cps.toList && risingS y r) = true := h
        rw [Bool.and_eq_true, Bool.not_eq_true'] at h
        have h1 : ltS y p = false := h.1
        have h2 := ih y h.2
        refine List.pairwise_cons.mpr ⟨fun z hz => ?_, h2⟩
        rcases List.mem_cons.mp hz with rfl | hz
        · exact h1
        · have h3 := List.rel_of_pairwise_cons h2 hz
          cases q : ltS z p with
          | false => rfl
          | true =>
            by_cases e : p = y
            · rw [e] at q; rw [q] at h3; exact h3
            · have := ltS_trans q (ltS_tot (fun e' => e e'.symm) h1)
              rw [this] at h3
              exact h3
    exact this r x h
theorem sorted_one {a b : List Str} (h : a.Perm b) (ha : sortedS a = true) (hb : sortedS b = true) : a = b :=
  h.eq_of_pairwise (fun x y _ _ h1 h2 => by
    by_cases e : x = y
    · exact e
    · have := ltS_tot e h2
      rw [this] at h1
      cases h1) (sorted_pw ha) (sorted_pw hb)

/-! ### what layers_behind tells -/
def keyS (d : DD) (ss : List Str) : Prop := d.map (·.1) = ss.map Sum.inr
def LayV (H : Hp) (v : V) (e : DD × DD) : Prop := ∃ (p l1 l2 : Addr) (rs : List V) (ps qs : List PV) (ss ks : List Str), v = .ref p ∧ H p = some (.tup [.ref l1, .ref l2]) ∧ H l1 = some (.lst rs) ∧ TupsAt H rs (pxs ps) ∧ e.1 = pdd qs ∧ ps.Perm qs ∧ sortedS (ps.map (·.1)) = true ∧ (ps.map (·.1)).Nodup ∧
  H l2 = some (.lst (ss.map V.str)) ∧ keyS e.2 ks ∧ ss.Perm ks ∧ sortedS ss = true
def spBehind (D C : Addr) : Sp := fun vs H Q _ => ∃ (n : Int) (dl : Addr) (rs : List V) (ds : List Deed), vs = [.int n, .ref dl] ∧ 0 ≤ n ∧ n ≤ 1000 ∧ H dl = some (.lst rs) ∧ TupsAt H rs (ds.map Deed.enc) ∧ ds.length ≤ 5000 ∧
  ∀ p q H', Same H H' → DialAt D C H' p q (dayM (zeroM n.toNat) ds).1 → Q (.ref p) H'
def spLayers : Sp := fun vs H Q _ => ∃ (n : Int) (dl : Addr) (rs : List V) (ds : List Deed), vs = [.int n, .ref dl] ∧ 0 ≤ n ∧ n ≤ 1000 ∧ H dl = some (.lst rs) ∧ TupsAt H rs (ds.map Deed.enc) ∧ ds.length ≤ 5000 ∧ Few (dayM (zeroM n.toNat) ds).1.1 ∧
  ∀ t ts H', Same H H' → H' t = some (.lst ts) → Paired (LayV H') ts (dayM (zeroM n.toNat) ds).1.1 → Q (.ref t) H'
def spStands : Sp := fun vs H Q _ => ∃ (t l : Addr) (ts : List V) (st : LS), vs = [.ref t, .ref l] ∧ H t = some (.lst ts) ∧ Paired (LayV H) ts st ∧ LawAt H l st ∧ Few st ∧ st.length ≤ 1000 ∧ ∀ H', Same H H' → Q (.bl true) H'
end L2
set_option Elab.async false
set_option linter.all false
set_option maxRecDepth 100000
set_option maxHeartbeats 4000000
namespace L2
open PySem PySem.Spec PyProof.Rows
theorem keysV_of {d : DD} {ks : List Str} (h : keyS d ks) : keysV d = ks.map V.str := by
  have := congrArg (List.map kV) h
  rw [List.map_map, List.map_map] at this
  exact this
theorem few_day {n : Nat} {ds : List Deed} (h : ds.length ≤ 63) (m : Nat) : Few (dayM (zeroM n) (ds ++ List.replicate m Deed.undo)).1.1 := by
  refine ⟨(StrDay.zero n).day.1, ?_⟩
  rw [dayM_app]
  have h1 : OkDay (0 + ds.length) (dayM (zeroM n) ds).1 := (OkDay.zero _).day
  exact (h1.undos (m := m)).1.mono (by omega)
end L2
set_option Elab.async false
set_option linter.all false
set_option maxRecDepth 100000
set_option maxHeartbeats 4000000
namespace L2
open PySem PySem.Spec PyProof.Rows
/-! ### d.update(e) -/
section
variable {X : Cx}
theorem mt_update : MtR X "dict.update" (fun x xs H Q => ∃ a b kvs more, x = .ref a ∧ xs = [.ref b] ∧ a ≠ b ∧ H a = some (.dK kvs) ∧ H b = some (.dK more) ∧ kvs.length + more.length ≤ sizeLine ∧ Q .non (upd H a (.dK (mergeK kvs more)))) := by
  intro pins s σ H x xs v us Q I rx rv h
  obtain ⟨a, b, kvs, more, rfl, rfl, hne, ha, hb, hz, q⟩ := h
  cases rx
  obtain ⟨u, rfl, ru⟩ := vals1 rv
  cases ru
  obtain ⟨z1, hd1, vs, rel1, dd1⟩ := dk_of I.hok ha
  obtain ⟨z2, hd2, ws, rel2, dd2⟩ := dk_of I.hok hb
  have l1 := rel1.length
  have l2 := rel2.length
  refine call_meetsIn PySem.F.slot_dict_update dd1.typeIs PySem.F.entry_dict_update (PySem.F.args_dict_update_2 _ _) (meets_dict_update (mixKind X.prog X.w) a b hne hd2) ⟨vs, ws, dd1, dd2, by omega, fun h' dd' _ hs => ?_⟩
  obtain ⟨o, es, ep, ho, _⟩ := id dd'
  refine ⟨.non, _, d_write (t' := s.toks) I (by rw [ha]; trivial) hs ⟨o, ho⟩ (dk_new (Nat.le_trans (length_mergeK _ _) hz) hd1 (rel2.merge rel1) dd'), rfl, q⟩
theorem pe_dupdate {o e : Expr} {to : TE} {t : TA} {apos cpos : Pos} (ho : PE X o to) (ha : PA X [e] t) (hbase : attributeBase o "update" X.env (eval o X.env) = eval o X.env := by rfl)
    (hfew : ((backTo cpos (starEach [e] X.env)).all (fun x => !x.1) && (backToKw cpos (keywordEach [] X.env)).all (fun x => x.1.isSome) && decide (([e] : List Expr).length + ([] : List Keyword).length + (if ([] : List Keyword).isEmpty then 0 else 1) < 30)) = true := by rfl)
    (hline : (apos.endLine == cpos.line) = true := by rfl) (hs : starEach [e] X.env = (false, eval e X.env) :: starEach [] X.env := by rfl) (hplain : (backTo cpos (starEach [] X.env)).any (·.1) = false := by rfl) :
    PE X (.Call (.Attribute o "update" apos) [e] [] cpos) (tBM X.K "dict" (fun x xs H Q => ∃ a b kvs more, x = .ref a ∧ xs = [.ref b] ∧ a ≠ b ∧ H a = some (.dK kvs) ∧ H b = some (.dK more) ∧ kvs.length + more.length ≤ sizeLine ∧ Q .non (upd H a (.dK (mergeK kvs more)))) to t) :=
  pe_bm PySem.F.plainAttrs_dict PySem.F.slot_dict_update PySem.F.type_dict_update mt_update ho ha hbase hfew hline hs hplain
end

/-! ### a set of texts -/
def byT (w : World) : Bool := w.params.followText "set-order"
theorem led_or (t : SetTable) (n : Nat) : (t.orStandIn n).led = t.led := by
  unfold SetTable.orStandIn SetTable.standIn
  split <;> rfl
theorem layNew_led (t : SetTable) (es : Array (Int × Value)) (h : Int) (x : Value) : (layNew t es h x).2.1.led = t.led := by
  unfold layNew
  split
  · exact led_or _ _
  · rfl
theorem relayAll_led (t : SetTable) (es : Array (Int × Value)) (n : Nat) : (relayAll t es n).2.1.led = t.led ∧ (t.plain = false → (relayAll t es n).2.1.plain = false) := by
  unfold relayAll
  split
  · rename_i t' order e
    have ht : t'.led = t.led ∧ t'.plain = t.plain := by
      unfold SetTable.relaid SetTable.laid at e
      cases q : SetTable.layClean (SetTable.sizeAbove n - 1) (es.map (·.1)) with
      | none => rw [q] at e; cases e
      | some owner =>
        rw [q] at e
        have e := (Prod.mk.inj (Option.some.inj e)).1
        subst e
        exact ⟨rfl, rfl⟩
    dsimp only
    split
    · exact ⟨ht.1, fun h => ht.2.trans h⟩
    · exact ⟨rfl, fun _ => rfl⟩
  · exact ⟨rfl, fun _ => rfl⟩
/-- a set of texts, with what its walk wants to know -/
structure SetAtS (prog : Program) (w : World) (h : Heap) (a : Addr) (es : Array (Int × Value)) (ep : Nat) (t : SetTable) (ss : List Str) : Prop where
  obj : h.get? a = some { cls := .type "set", dict := none, data := .set es ep t, slots := #[] }
  els : ElemsOf (PySem.strKind prog w) es.toList
  txt : StrsAre (es.toList.map (·.2)) ss
  fits : t.fits es.size = true
  led : t.led = !byT w
  plain : es.size = 0 ∨ t.plain = false
  nodup : ss.Nodup
theorem strsAre_perm {vs vs' : List Value} {ss : List Str} (h : StrsAre vs ss) (p : vs'.Perm vs) : ∃ ss', StrsAre vs' ss' ∧ ss'.Perm ss := by
  refine ⟨vs'.map strOf, strsAre_map _ fun v hv => h.all v (p.mem_iff.mp hv), ?_⟩
  have := p.map strOf
  rwa [h.strs] at this
theorem strsAre_snoc {vs : List Value} {ss : List Str} {x : Str} {t : Tok} (h : StrsAre vs ss) : StrsAre (vs ++ [.str x t]) (ss ++ [x]) := by
  induction h with
  | nil => exact .cons x t .nil
  | cons y u _ ih => exact .cons y u ih
section
variable {prog : Program} {w : World} {A : Around} {E : Value → Shared → Prop} {s : Shared}
theorem store_set {a : Addr} {es es' : Array (Int × Value)} {ep : Nat} {t t' : SetTable} {Q : Unit → Shared → Prop} (ho : s.heap.get? a = some { cls := .type "set", dict := none, data := .set es ep t, slots := #[] }) (hz : es'.size < scanBound)
    (h : ∀ h', Heap.SameBut a s.heap h' → h'.get? a = some { cls := .type "set", dict := none, data := .set es' (ep + 1) t', slots := #[] } → Q () { s with heap := h' }) : wpAny (model prog w) A (storeSet a es' t') Q E s := by
  refine wpAny_storeSet_of ho rfl (h _ (Heap.SameBut.update s.heap a (Obj.putSet es' t')) ?_) (fits_of_scanBound hz)
  have := Heap.get?_update_self (Obj.putSet es' t') ho (by rw [putSet_of es' t' rfl]; rfl)
  rw [putSet_of es' t' rfl] at this
  exact this
theorem set_add_str {a : Addr} {es : Array (Int × Value)} {ep : Nat} {t : SetTable} {ss : List Str} {x : Str} {tx : Tok} {Q : Bool → Shared → Prop} (S : SetAtS prog w s.heap a es ep t ss) (hz : ss.length + 1 < scanBound)
    (h : ∀ h' es' ep' t' ss' b, Heap.SameBut a s.heap h' → SetAtS prog w h' a es' ep' t' ss' → (∀ y, y ∈ ss' ↔ y ∈ ss ∨ y = x) → ss'.length ≤ ss.length + 1 → Q b { s with heap := h' }) :
    wpAny (model prog w) A (setAddHashed a (.str x tx) ((PySem.strKind prog w).hash x)) Q E s := by
  have hkey : (PySem.strKind prog w).is x (.str x tx) = true := strKind_is prog w x tx
  have hsz : es.size = ss.length := by rw [← S.txt.length, List.length_map, Array.length_toList]
  have hb : es.size + 1 < scanBound := by rw [hsz]; exact hz
  unfold setAddHashed setAddHashedIn
  refine wpAny_holding (wpAny_bind (wpAny_setState_of S.obj rfl S.fits ?_))
  dsimp only
  rw [byScan_of (knd := PySem.strKind prog w) rfl (by omega) S.els]
  simp only [↓reduceIte]
  unfold setAddByScan
  refine wpAny_bind (wpAny_bind (wpAny_rule (wpAny_bind (wpAny_setScan_of hkey S.obj rfl S.fits S.els ?_))))
  have mem : ∀ y, y ∈ ss ↔ ∃ e ∈ es.toList, (PySem.strKind prog w).is y e.2 = true := fun y => by
    have hs := S.txt.strs
    constructor
    · intro hy
      rw [← hs] at hy
      obtain ⟨v, hv, rfl⟩ := List.mem_map.mp hy
      obtain ⟨e, he, rfl⟩ := List.mem_map.mp hv
      obtain ⟨z, u, ez⟩ := S.txt.all _ hv
      exact ⟨e, he, by rw [ez]; exact strKind_is prog w z u⟩
    · rintro ⟨e, he, hk⟩
      rw [← hs]
      have hv : e.2 ∈ es.toList.map (·.2) := List.mem_map.mpr ⟨e, he, rfl⟩
      obtain ⟨z, u, ez⟩ := S.txt.all _ hv
      refine List.mem_map.mpr ⟨e.2, hv, ?_⟩
      rw [ez] at hk ⊢
      exact (PySem.strKind prog w).inj _ _ _ (strKind_is prog w z u) hk
  cases hr : es.toList.findIdx? (fun e => (PySem.strKind prog w).is x e.2) with
  | some j =>
    obtain ⟨hj, hpj, _⟩ := List.findIdx?_eq_some_iff_getElem.mp hr
    have hx : x ∈ ss := (mem x).mpr ⟨_, List.getElem_mem hj, hpj⟩
    dsimp only
    exact wpAny_pure (wpAny_pure (h s.heap es ep t ss _ (Heap.SameBut.refl _ _) S (fun y => ⟨.inl, fun q => q.elim id fun e => e ▸ hx⟩) (by omega)))
  | none =>
    have hx : x ∉ ss := fun hm => by
      obtain ⟨e, he, hp⟩ := (mem x).mp hm
      have := List.findIdx?_eq_none_iff.mp hr e he
      rw [hp] at this
      cases this
    dsimp only
    have hgw : ∀ (b : Bool) {s₁ : Shared} {Q' : Unit → Shared → Prop}, Q' () s₁ → wpAny (model prog w) A (match b with | true => rule "set.scan.the-table-gave-way" | false => pure ()) Q' E s₁ :=
      fun b s₁ Q' hq => by cases b <;> first | exact wpAny_pure hq | exact wpAny_rule hq
    have hperm := layNew_perm t es ((PySem.strKind prog w).hash x) (.str x tx)
    have hfits := layNew_fits t es ((PySem.strKind prog w).hash x) (.str x tx)
    have hled := layNew_led t es ((PySem.strKind prog w).hash x) (.str x tx)
    generalize layNew t es ((PySem.strKind prog w).hash x) (.str x tx) = L at hperm hfits hled ⊢
    obtain ⟨es1, t1, wasDummy, gave⟩ := L
    dsimp only at hperm hfits hled ⊢
    rw [Array.toList_push] at hperm
    have el1 : ElemsOf (PySem.strKind prog w) es1.toList := (S.els.push hkey rfl).perm hperm
    have sz1 : es1.size = es.size + 1 := by rw [← Array.length_toList, hperm.length_eq, List.length_append, Array.length_toList]; rfl
    obtain ⟨ss1, st1, sp1⟩ : ∃ ss1, StrsAre (es1.toList.map (·.2)) ss1 ∧ ss1.Perm (ss ++ [x]) := by
      have hp := hperm.map (·.2)
      rw [List.map_append] at hp
      exact strsAre_perm (strsAre_snoc S.txt) hp
    have nd1 : ss1.Nodup := sp1.nodup_iff.mpr (nd_snoc S.nodup hx)
    have mem1 : ∀ y, y ∈ ss1 ↔ y ∈ ss ∨ y = x := fun y => by rw [sp1.mem_iff, List.mem_append, List.mem_singleton]
    have len1 : ss1.length = ss.length + 1 := by rw [sp1.length_eq, List.length_append]; rfl
    have tail : ∀ t2 : SetTable, t2.fits es1.size = true → t2.led = t.led → t2.plain = false → wpAny (model prog w) A (do
        storeSet a es1 t2
        if (!wasDummy && t2.tooFull) = true then do
            (match (relayAll t2 es1 (SetTable.grown es1.size)).2.2 with | true => rule "set.scan.the-table-gave-way" | false => pure ())
            storeSet a (relayAll t2 es1 (SetTable.grown es1.size)).1 (relayAll t2 es1 (SetTable.grown es1.size)).2.1
            pure (some true)
          else pure (some true)) (fun r s' => wpAny (model prog w) A (match r with | some added => pure added | none => setAddHashedIn a (.str x tx) ((PySem.strKind prog w).hash x) 99999) Q E s') E s := fun t2 f2 l2 p2 => by
      refine wpAny_bind (store_set S.obj (by omega) fun h1 sb1 o1 => ?_)
      split
      · have hp := relayAll_perm t2 es1 (SetTable.grown es1.size)
        have hf := relayAll_fits t2 es1 (SetTable.grown es1.size)
        obtain ⟨hl, hpl⟩ := relayAll_led t2 es1 (SetTable.grown es1.size)
        generalize relayAll t2 es1 (SetTable.grown es1.size) = R at hp hf hl hpl ⊢
        obtain ⟨es2, t3, gave2⟩ := R
        dsimp only at hp hf hl hpl ⊢
        have sz2 : es2.size = es1.size := by rw [← Array.length_toList, hp.length_eq, Array.length_toList]
        obtain ⟨ss2, st2, sp2⟩ := strsAre_perm st1 (hp.map (·.2))
        refine wpAny_bind (hgw _ (wpAny_bind (store_set o1 (by omega) fun h2 sb2 o2 => wpAny_pure (wpAny_pure ?_))))
        exact h h2 es2 _ t3 ss2 _ (sb1.trans sb2) ⟨o2, el1.perm hp, st2, hf, by rw [hl, l2]; exact S.led, .inr (hpl p2), sp2.nodup_iff.mpr nd1⟩ (fun y => by rw [sp2.mem_iff]; exact mem1 y) (by rw [sp2.length_eq, len1]; exact Nat.le_refl _)
      · exact wpAny_pure (wpAny_pure (h h1 es1 _ t2 ss1 _ sb1 ⟨o1, el1, st1, f2, by rw [l2]; exact S.led, .inr p2, nd1⟩ mem1 (by omega)))
    refine wpAny_bind (hgw _ ?_)
    by_cases hp : t1.plain = true
    · rw [if_pos hp, hashByValue_scannable 8 (x := .str x tx) rfl]
      refine wpAny_bind (wpAny_pure ?_)
      exact tail { t1 with plain := false } (SetTable.fits_plain_off hfits) hled rfl
    · rw [if_neg hp]
      refine wpAny_bind (wpAny_pure ?_)
      exact tail t1 hfits hled (by simpa using hp)
end
theorem nodup_le {l U : List Str} : l.Nodup → (∀ y ∈ l, y ∈ U) → l.length ≤ U.length := by
  induction l generalizing U with
  | nil => intro _ _; exact Nat.zero_le _
  | cons x r ih =>
    intro nd h
    rw [List.nodup_cons] at nd
    have hx : x ∈ U := h x List.mem_cons_self
    have := ih (U := U.erase x) nd.2 fun y hy => (List.mem_erase_of_ne fun e => nd.1 (by rw [← e]; exact hy)).mpr (h y (List.mem_cons_of_mem _ hy))
    rw [List.length_erase_of_mem hx] at this
    have : 0 < U.length := List.length_pos_of_mem hx
    rw [List.length_cons]
    omega
theorem SetAtS.moved {prog : Program} {w : World} {h h' : Heap} {a : Addr} {es : Array (Int × Value)} {ep : Nat} {t : SetTable} {ss : List Str} (S : SetAtS prog w h a es ep t ss) (k : ∀ o, h.get? a = some o → h'.get? a = some o) : SetAtS prog w h' a es ep t ss := ⟨k _ S.obj, S.els, S.txt, S.fits, S.led, S.plain, S.nodup⟩
section
variable {prog : Program} {w : World} {A : Around} {E : Value → Shared → Prop} {s : Shared} {R : Result → Shared → Prop} {I : Addr} {fp wr : List Addr} {G : Array GenState → Array GenState → Prop} {n : Nat} {P : Nat → Value → Prop} {St : Nat → Shared → Prop}
theorem code_set_loop (W : WalksS prog w A.in1 I fp wr G n P St) (S : Addr) (hSf : S ∉ fp) (val : Nat → Str) (hval : ∀ i v, P i v → ∃ t, v = .str (val i) t) (U : List Str) (hU : ∀ i, i < n → val i ∈ U) (hUl : U.length + 1 < scanBound) :
    ∀ (k i : Nat) (s : Shared) (es : Array (Int × Value)) (ep : Nat) (t : SetTable) (ss : List Str), n - i = k → i ≤ n → St i s → SetAtS prog w s.heap S es ep t ss → (∀ y, y ∈ ss ↔ ∃ j, j < i ∧ val j = y) →
      (∀ s' es' ep' t' ss', Moved (S :: wr) G s s' → SetAtS prog w s'.heap S es' ep' t' ss' → (∀ y, y ∈ ss' ↔ ∃ j, j < n ∧ val j = y) → R (.ok (.ret .none)) s') →
      codeAny (model prog w) A (.builtin "set.update.loop" ⟨[.ref S, .ref I], []⟩) R s := by
  have hSw : S ∉ wr := fun h => hSf (W.sub _ h)
  have hsub : ∀ b ∈ wr, b ∈ S :: wr := fun b hb => List.mem_cons_of_mem _ hb
  intro k
  induction k with
  | zero =>
    intro i s es ep t ss hk hi hst hS hm hR
    have hin : i = n := by omega
    subst hin
    refine codeAny_builtin PyProof.Rows.F.entry_set_update_loop ?_
    rw [Around.under_plainId PyProof.Rows.F.plain_set_update_loop _]
    show wpAny _ A.in1 (pyNext (.ref I) >>= _) _ _ s
    refine wpAny_bind (W.done s _ _ hst fun s' mv => ?_)
    exact wpAny_pure (hR s' es ep t ss (mv.mono hsub) (hS.moved fun o e => mv.heap S _ hSw e) hm)
  | succ k ih =>
    intro i s es ep t ss hk hi hst hS hm hR
    have hlt : i < n := by omega
    refine codeAny_builtin PyProof.Rows.F.entry_set_update_loop ?_
    rw [Around.under_plainId PyProof.Rows.F.plain_set_update_loop _]
    show wpAny _ A.in1 (pyNext (.ref I) >>= _) _ _ s
    refine wpAny_bind (W.item i s _ _ hlt hst fun v s' hP hst' mv => ?_)
    obtain ⟨tv, rfl⟩ := hval i v hP
    have hS1 := hS.moved fun o e => mv.heap S _ hSw e
    have hle := nodup_le hS.nodup fun y hy => by
      obtain ⟨j, hj, rfl⟩ := (hm y).mp hy
      exact hU j (by omega)
    show wpAny _ A.in1 (holding [Value.str (val i) tv] (setAdd S (.str (val i) tv)) >>= _) _ _ s'
    unfold setAdd
    refine wpAny_bind (wpAny_holding (wpAny_holding (wpAny_bind ((PySem.strKind prog w).pyHash (k := val i) (strKind_is _ _ _ _) ?_))))
    refine set_add_str (s := { s' with toks := s'.toks + 1 }) hS1 (by omega) fun h' es' ep' t' ss' b hsb hS2 hm2 _ => ?_
    refine wpAny_pure ⟨plainId_quiet PyProof.Rows.F.plain_set_update_loop _, ih (i + 1) _ es' ep' t' ss' (by omega) hlt (W.frame _ s' _ _ hst' (Nat.le_succ _) fun b hb o e => ?_) hS2 (fun y => ?_) fun s'' es'' ep'' t'' ss'' m2 hS3 hm3 => ?_⟩
    · rw [hsb.2 b (fun h : b = S => hSf (by rw [← h]; exact hb))]
      exact e
    · rw [hm2, hm]
      constructor
      · rintro (⟨j, hj, e⟩ | e)
        · exact ⟨j, by omega, e⟩
        · exact ⟨i, by omega, e.symm⟩
      · rintro ⟨j, hj, e⟩
        by_cases q : j = i
        · exact .inr (by rw [← e, q])
        · exact .inl ⟨j, by omega, e⟩
    · refine hR s'' es'' ep'' t'' ss'' (Moved.trans W.gtrans ((mv.mono hsub).then_heap (Nat.le_succ _) fun b o hb e => ?_) m2) hS3 hm3
      rw [hsb.2 b (fun h : b = S => hb (by rw [h]; exact List.mem_cons_self))]
      exact e
/-- a set just made -/
def newSet0 (w : World) : Obj := { cls := .type "set", dict := none, data := .set #[] 0 (.fresh 0 0 (!byT w)) }
theorem new_set_code (a : Value) {Q₁ : Value → Shared → Prop} (h : Q₁ (.ref s.heap.objs.size) { s with heap := s.heap.push (newSet0 w) }) : codeAny (model prog w) A (.call (.builtin "set.__new__") ⟨[.type "set", a], []⟩) (wants Q₁ E) s := by
  refine codeAny_of_tree ?_
  show wpAny _ A.in1 (checkBuiltinCall "set.__new__" ⟨[.type "set", a], []⟩ >>= fun _ => again (.builtin "set.__new__" ⟨[.type "set", a], []⟩)) _ _ s
  refine wpAny_bind (wpAny_of_eq (PySem.F.newCall_set_1 a) (wpAny_pure ⟨plainId_quiet PySem.F.plain_set_new _, codeAny_builtin PySem.F.entry_set_new ?_⟩))
  rw [Around.under_plainId PySem.F.plain_set_new _]
  unfold Builtin.«set.__new__» Builtin.Frozenset.newClass
  have hsub := sub_set_self
  obtain ⟨hp, g, d, tk, os⟩ := s
  dsimp only
  wp_walk
  refine wpAny_askSetting (wpAny_pure ?_)
  dsimp only
  simp only [newObj]
  refine wpAny_bind (wpAny_alloc (wpAny_pure (wpAny_pure ?_)))
  exact h
end
theorem strs_get : ∀ {vs : List Value} {ss : List Str}, StrsAre vs ss → ∀ (i : Nat) (v : Value), vs[i]? = some v → ∃ t, v = .str (ss.getD i "") t
  | _, _, .nil, i, v, h => by simp at h
  | _, _, .cons x t _, 0, v, h => by simp at h; exact ⟨t, by rw [← h]; rfl⟩
  | _, _, .cons x t r, i + 1, v, h => by
    obtain ⟨u, e⟩ := strs_get r i v (by simpa using h)
    exact ⟨u, by rw [e]; rfl⟩
section
variable {prog : Program} {w : World} {A : Around} {E : Value → Shared → Prop} {s : Shared}
theorem set_of_list {l : Addr} {items : Array Value} {ns U : List Str} {Q : Value → Shared → Prop} (hh : A.handled = none) (hl : s.heap.IsList l items) (hi : StrsAre items.toList ns) (hU : ∀ y ∈ ns, y ∈ U) (hUl : U.length + 1 < scanBound)
    (h : ∀ (h' : Heap) (tk : Nat) (es : Array (Int × Value)) (ep : Nat) (t : SetTable) (ss : List Str), SetAtS prog w h' s.heap.objs.size es ep t ss → (∀ y, y ∈ ss ↔ y ∈ ns) → (∀ b o, s.heap.get? b = some o → h'.get? b = some o) → Q (.ref s.heap.objs.size) { s with heap := h', toks := tk }) :
    wpAny (model prog w) A (call (.type "set") [.ref l]) Q E s := by
  obtain ⟨c, tl, hmro⟩ := PySem.F.called_set.mro
  have hmade := PySem.F.called_set.made
  have hsub := PySem.F.called_set.sub
  refine wpAny_call (codeAny_of_tree ?_)
  show wpAny _ _ (callAny (.type "set") _) _ _ _
  refine wpAny_pure ⟨Code.quiet_builtin _ (by decide +kernel), codeAny_builtin PySem.F.entry_type_call ?_⟩
  rw [Around.under_plain (weight_type_call_type "set" [.ref l] []) rfl]
  have h1 := PySem.F.called_set.notType
  have h2 := PySem.F.called_set.canCreate
  have hct := PySem.F.typeCall_set_1 (.ref l)
  repeat (any_goals (first | assumption | wp_step))
  refine codeAny_mono (new_set_code (.ref l) (E := E) (Q₁ := fun obj s₁ => obj = .ref s.heap.objs.size ∧ s₁ = { s with heap := s.heap.push (newSet0 w) }) ⟨rfl, rfl⟩) fun r s₁ hr => ?_
  cases r with
  | error e => exact hr
  | ok fl =>
    cases fl with
    | ret obj =>
      obtain ⟨rfl, rfl⟩ := hr
      have hS : (s.heap.push (newSet0 w)).get? s.heap.objs.size = some (newSet0 w) := Heap.get?_push_size _ rfl
      have hT : Shared.TypeIs { s with heap := s.heap.push (newSet0 w) } (.ref s.heap.objs.size) "set" := ⟨_, hS, rfl⟩
      have hli := PySem.F.called_set.init.lookup
      have hbi := PySem.F.called_set.init.bind (.ref s.heap.objs.size)
      repeat (any_goals (first | assumption | wp_step))
      refine codeAny_mono (codeAny_call_builtin (R := wants (fun r s₂ => r = .none ∧ ∃ h' tk es ep t ss, s₂ = { s with heap := h', toks := tk } ∧ SetAtS prog w h' s.heap.objs.size es ep t ss ∧ (∀ y, y ∈ ss ↔ y ∈ ns) ∧
          (∀ b o, s.heap.get? b = some o → h'.get? b = some o)) E) PySem.F.called_set.init.plain PySem.F.entry_set_init (check_set_init_1 hT ?_)) fun r₂ s₂ hr₂ => ?_
      · obtain ⟨ol, hol, hcl, nl, hdl⟩ := hl
        obtain ⟨ocls, odict, odata, oslots⟩ := ol
        simp only at hcl hdl
        subst hcl; subst hdl
        have hol' : (s.heap.push (newSet0 w)).get? l = some { cls := .type "list", dict := odict, data := .seq items nl, slots := oslots } := Heap.get?_push_of_some _ hol
        have hsls := PySem.F.sub_list_set
        have hslf := PySem.F.sub_list_frozenset
        have hne : (Value.type "list" == Value.type "dict") = false := by decide
        have hl1 : (s.heap.push (newSet0 w)).IsList l items := ⟨_, hol', rfl, nl, rfl⟩
        unfold newSet0 at hol' hl1 hS ⊢
        unfold Builtin.«set.__init__» noKeywords Builtin.Frozenset.updateFrom
        generalize hPI : pyIter = PI
        wp_walk
        subst hPI
        refine wpAny_pyIter_list hl1 (wpAny_bind (wpAny_runValue ?_))
        have hlS : l < s.heap.objs.size := Heap.lt_size hol
        have hh3 : A.in1.in1.in1.handled = none := by simp [hh]
        have szp : ∀ o : Obj, (s.heap.push o).objs.size = s.heap.objs.size + 1 := fun o => Heap.size_push ..
        refine code_set_loop ((Walks.list hh3 _ l (by rw [szp]; exact Nat.ne_of_lt (Nat.lt_succ_of_lt hlS)) items).toS) s.heap.objs.size (by rw [szp]; simp only [List.mem_cons, List.not_mem_nil, or_false, not_or]; exact ⟨Nat.ne_of_lt (Nat.lt_succ_self _), Nat.ne_of_gt hlS⟩)
          (fun i => ns.getD i "") (fun i v hv => strs_get hi i v (by rw [Array.getElem?_toList]; exact hv)) U (fun i hi' => hU _ ?mem) hUl (items.size - 0) 0 _ #[] 0 (.fresh 0 0 (!byT w)) [] (by omega) (Nat.zero_le _)
          ⟨⟨_, Heap.get?_push_size _ rfl, rfl, rfl⟩, (hl1.push _)⟩ ⟨Heap.get?_push_of_some _ hS, fun e he => by simp at he, .nil, rfl, rfl, .inl rfl, List.nodup_nil⟩ (fun y => ⟨fun q => (by cases q), fun ⟨j, hj, _⟩ => absurd hj (Nat.not_lt_zero _)⟩) ?hR
        case mem =>
          have hle : i < ns.length := by rw [← hi.length, Array.length_toList]; exact hi'
          rw [List.getD_eq_getElem?_getD, List.getElem?_eq_getElem hle]
          exact List.getElem_mem hle
        case hR =>
          intro s' es' ep' t' ss' hm hS' hmem
          obtain ⟨h', g', d', tk', os'⟩ := s'
          have eg : g' = s.gens := hm.gens
          have ed : d' = s.drawn := hm.drawn
          have eo : os' = s.os := hm.os
          subst eg ed eo
          show wpAny _ _ _ _ _ _
          refine wpAny_pure ?_
          show wpAny _ _ (ret Value.none) _ _ _
          have hnl : ns.length = items.size := by rw [← hi.length, Array.length_toList]
          refine wpAny_pure ⟨rfl, h', tk', es', ep', t', ss', rfl, hS', fun y => ?_, fun b o e => ?_⟩
          · rw [hmem]
            constructor
            · rintro ⟨j, hj, rfl⟩
              rw [List.getD_eq_getElem?_getD, List.getElem?_eq_getElem (by omega)]
              exact List.getElem_mem (by omega)
            · intro hy
              obtain ⟨j, hj, e⟩ := List.mem_iff_getElem.mp hy
              exact ⟨j, by omega, by rw [List.getD_eq_getElem?_getD, List.getElem?_eq_getElem hj, e]; rfl⟩
          · have hb := Heap.lt_size e
            exact hm.heap b o (by rw [szp]; simp only [List.mem_cons, List.not_mem_nil, or_false, not_or]; exact ⟨Nat.ne_of_lt hb, Nat.ne_of_lt (Nat.lt_succ_of_lt hb)⟩) (Heap.get?_push_of_some _ (Heap.get?_push_of_some _ e))
      · cases r₂ with
        | error e => exact hr₂
        | ok fl₂ =>
          cases fl₂ with
          | ret r =>
            obtain ⟨rfl, h', tk, es', ep', t', ss', rfl, hS', hm', hk'⟩ := hr₂
            repeat (any_goals (first | assumption | wp_step))
            exact h _ _ _ _ _ _ hS' hm' hk'
          | _ => exact hr₂.elim
    | _ => exact hr.elim
end
end L2
set_option Elab.async false
set_option linter.all false
set_option maxRecDepth 100000
set_option maxHeartbeats 4000000
namespace L2
open PySem PySem.Spec PyProof.Rows
/-! ### a walk over a set of texts -/
theorem entry_set_iter : entryFor table "set.__iter__" = some Builtin.«frozenset.__iter__» := entryFor_alias (id' := "frozenset.__iter__") (by kernel_rfl) rfl (by decide +kernel) (by kernel_rfl)
theorem slot_it_next : Slot "set_iterator" "__next__" "set_iterator.__next__" := .of (owner := "set_iterator") (n := "__next__") (by rw [typeLookup_type, builtinLookup_eq_fast]; kernel_rfl) (by decide +kernel) (by decide +kernel) (by decide +kernel) (by first | exact .inl (by decide +kernel) | exact .inr (by decide +kernel)) (by rw [isSubtype_type]; kernel_rfl)
theorem entry_it_next : entryFor table "set_iterator.__next__" = some Builtin.«set_iterator.__next__» := entryFor_of_tree (by kernel_rfl)
theorem owner_it : Manifest.owners.lookup (String.ofList ['r', 'o', 't', 'a', 'r', 'e', 't', 'i', '_', 't', 'e', 's'].reverse) = some Manifest.sig_set_iterator := by kernel_rfl
theorem args_it_next (a : Value) : argsOk "set_iterator.__next__" ⟨[a], []⟩ := by
  unfold argsOk; rw [signature?_of (id := "set_iterator.__next__") (n := ['_', '_', 't', 'x', 'e', 'n', '_', '_']) (o := ['r', 'o', 't', 'a', 'r', 'e', 't', 'i', '_', 't', 'e', 's']) (by kernel_rfl) owner_it]; kernel_rfl
theorem slot_it_iter : Slot "set_iterator" "__iter__" "set_iterator.__iter__" := .of (owner := "set_iterator") (n := "__iter__") (by rw [typeLookup_type, builtinLookup_eq_fast]; kernel_rfl) (by decide +kernel) (by decide +kernel) (by decide +kernel) (by first | exact .inl (by decide +kernel) | exact .inr (by decide +kernel)) (by rw [isSubtype_type]; kernel_rfl)
theorem entry_it_iter : entryFor table "set_iterator.__iter__" = some Builtin.«dict_keyiterator.__iter__» := entryFor_alias (id' := "dict_keyiterator.__iter__") (by kernel_rfl) rfl (by decide +kernel) (by kernel_rfl)
theorem args_it_iter (a : Value) : argsOk "set_iterator.__iter__" ⟨[a], []⟩ := by
  unfold argsOk; rw [signature?_of (id := "set_iterator.__iter__") (n := ['_', '_', 'r', 'e', 't', 'i', '_', '_']) (o := ['r', 'o', 't', 'a', 'r', 'e', 't', 'i', '_', 't', 'e', 's']) (by kernel_rfl) owner_it]; kernel_rfl
theorem erase_perm {α : Type} : ∀ {l : List α} {i : Nat} (h : i < l.length), (l[i] :: l.eraseIdx i).Perm l
  | [], _, h => by simp at h
  | x :: r, 0, _ => .refl _
  | x :: r, i + 1, h => by
    have ih := erase_perm (l := r) (i := i) (by simpa using h)
    exact (List.Perm.swap x (r[i]'(by simpa using h)) (r.eraseIdx i)).trans (ih.cons x)
theorem pick_go {α : Type} (next : Nat → Nat) : ∀ (f k : Nat) (l : List α) (out : Array α), f = l.length → (pickOrder.go next f k l out).toList.Perm (out.toList ++ l)
  | 0, k, l, out, h => by
    have : l = [] := List.length_eq_zero_iff.mp h.symm
    subst this
    unfold pickOrder.go
    simp
  | f + 1, k, l, out, h => by
    unfold pickOrder.go
    have hl : 0 < l.length := by omega
    have hi : next k % l.length < l.length := Nat.mod_lt _ hl
    rw [List.getElem?_eq_getElem hi]
    have ih := pick_go next f (k + 1) (l.eraseIdx (next k % l.length)) (out.push l[next k % l.length]) (by rw [List.length_eraseIdx_of_lt hi]; omega)
    refine ih.trans ?_
    rw [Array.toList_push, List.append_assoc]
    refine List.Perm.append_left _ ?_
    exact (erase_perm hi)
theorem pick_perm {α : Type} (next : Nat → Nat) (xs : Array α) : (pickOrder next xs).toList.Perm xs.toList := by
  have := pick_go next xs.size 0 xs.toList #[] (by simp)
  unfold pickOrder
  simpa using this
section
variable {prog : Program} {w : World} {A : Around} {E : Value → Shared → Prop} {s : Shared}
theorem wp_choose {src : Source} {n : Nat} {Q : Nat → Shared → Prop} (hn : n ≠ 0) (h : ∀ i, i < n → Q i { s with drawn := s.drawn.bump src }) : wpAny (model prog w) A (choose src n) Q E s := fun Γ p hΓ => by
  show n ≠ 0 ∧ _
  exact ⟨hn, h _ (Nat.mod_lt _ (Nat.pos_of_ne_zero hn))⟩
theorem wp_draw {α : Type} : ∀ (n : Nat) (xs : List α) (s : Shared) {Q : List α → Shared → Prop}, xs.length = n → (∀ ys d, ys.Perm xs → Q ys { s with drawn := d }) → wpAny (model prog w) A (drawOrder n xs) Q E s
  | 0, xs, s, Q, h, k => by
    have : xs = [] := List.length_eq_zero_iff.mp h
    subst this
    unfold drawOrder
    exact wpAny_pure (k [] s.drawn (.refl _))
  | n + 1, [], s, Q, h, k => by simp at h
  | n + 1, x :: xs, s, Q, h, k => by
    unfold drawOrder
    refine wpAny_bind (wp_choose (by simp) fun i hi => ?_)
    rw [List.getElem?_eq_getElem hi]
    refine wpAny_bind (wp_draw n ((x :: xs).eraseIdx i) _ (by rw [List.length_eraseIdx_of_lt hi]; omega) fun ys d hp => ?_)
    refine wpAny_pure (k _ d ?_)
    exact (hp.cons _).trans (erase_perm hi)
def itObj (first : Value) (i : Nat) (a : Addr) (n ep : Nat) : Obj := { cls := .type "set_iterator", dict := none, data := .fields #[first, rawInt i, .ref a, rawInt n, rawInt ep], slots := #[] }
theorem stop_raise {Q : Option Value → Shared → Prop} {Q' : PySem.Fin → Shared → Prop} (hh : A.handled = none) (hQ : ∀ h' : Heap, (∀ b o, s.heap.get? b = some o → h'.get? b = some o) → Q none { s with heap := h' }) :
    wpAny (model prog w) A.in1 (newExc (.type "StopIteration") [] >>= fun e => raiseNew e) Q' (fun e s' => wpAny (model prog w) A (isInstance e (.type "StopIteration") >>= fun b => if b = true then pure none else throw e) Q E s') s := by
  refine wpAny_bind ?_
  simp only [newExc, newTuple]
  refine wpAny_bind (wpAny_newObj_type (wpAny_bind (m := firstArgMember _ _) (wpAny_of_eq (a := Value.none) (by first | rfl | (simp only [firstArgMember]; rfl)) (wpAny_newObj_type ?_ (by size_fits)))) (by size_fits))
  simp only [raiseNew]
  refine wpAny_bind (wpAny_handled ?_)
  rw [show A.in1.handled = none from hh]
  refine wpAny_bind (wpAny_pure (wpAny_throw ?_))
  refine wpAny_bind (wpAny_isInstance (T := "StopIteration") (b := true) ⟨_, Heap.get?_push_size _ rfl, rfl⟩ isSubtype_stop (wpAny_pure ?_))
  exact hQ _ fun b o e => Heap.get?_push_of_some _ (Heap.get?_push_of_some _ e)
abbrev setO (es : Array (Int × Value)) (ep : Nat) (t : SetTable) : Obj := { cls := .type "set", dict := none, data := .set es ep t, slots := #[] }
/-- the next one, told by its slot -/
theorem next_slot {it a : Addr} {slot i n ep : Nat} {es : Array (Int × Value)} {t : SetTable} {r : Option (Value × Nat)} {Q : Option Value → Shared → Prop} (hh : A.handled = none) (hit : s.heap.get? it = some (itObj (rawInt slot) i a n ep)) (ho : s.heap.get? a = some (setO es ep t)) (hf : t.fits es.size = true) (hn : es.size = n)
    (hnx : ∀ (A' : Around) (Q' : Option (Value × Nat) → Shared → Prop) (E' : Value → Shared → Prop), Q' r s → wpAny (model prog w) A' (setNext a slot i ep) Q' E' s)
    (hQ : ∀ h' : Heap, (∀ b o, b ≠ it → s.heap.get? b = some o → h'.get? b = some o) → (∀ x nx, r = some (x, nx) → h'.get? it = some (itObj (rawInt nx) (i + 1) a n ep)) → Q (r.map (·.1)) { s with heap := h' }) :
    wpAny (model prog w) A (pyNext (.ref it)) Q E s := by
  have hT : s.TypeIs (.ref it) "set_iterator" := ⟨_, hit, rfl⟩
  unfold pyNext
  refine wpAny_bind (wpAny_attempt (wpAny_callSpecial?_slot (name := Str.ofString "__next__") hT slot_it_next (wpAny_call_entry slot_it_next hT entry_it_next ?_ (args_it_next _))))
  unfold Builtin.«set_iterator.__next__»
  refine wpAny_bind (wpAny_pure (wpAny_bind (wpAny_fieldsOf hit rfl ?_)))
  dsimp only [rawInt]
  refine wpAny_bind (wpAny_setEntries_of ho rfl hf ?_)
  rw [if_neg (by simp [hn])]
  try dsimp only
  rw [Int.toNat_natCast, Int.toNat_natCast, Int.toNat_natCast]
  refine wpAny_bind (hnx _ _ _ ?_)
  cases r with
  | some z =>
    obtain ⟨x, nx⟩ := z
    dsimp only
    refine wpAny_bind (wpAny_setField_rec hit (by simp) fun h1 e1 b1 => wpAny_bind (wpAny_setField_rec e1 (by simp) fun h2 e2 b2 => ?_))
    refine wpAny_pure ⟨_, rfl, wpAny_pure (hQ h2 (fun b o hb e => (b2.2 b hb).trans ((b1.2 b hb).trans e)) fun y ny ey => ?_)⟩
    cases ey
    rw [e2]
    unfold itObj
    simp [rawInt]
  | none =>
    dsimp only
    refine wpAny_bind (wpAny_setField_rec hit (by simp) fun h1 e1 b1 => ?_)
    refine stop_raise (s := { s with heap := h1 }) hh fun h2 k2 => hQ h2 (fun b o hb e => k2 b o ((b1.2 b hb).trans e)) fun y ny ey => by cases ey
/-- the next one of an order that was drawn -/
theorem next_drawn {it a tp : Addr} {i n ep : Nat} {es : Array (Int × Value)} {t : SetTable} {ps : List Nat} {Q : Option Value → Shared → Prop} (hh : A.handled = none) (hit : s.heap.get? it = some (itObj (.ref tp) i a n ep)) (ho : s.heap.get? a = some (setO es ep t)) (hf : t.fits es.size = true) (hn : es.size = n)
    (htp : s.heap.get? tp = some { cls := .type "tuple", data := .seq (ps.map fun (p : Nat) => rawInt p).toArray }) (hps : ∀ p ∈ ps, p < es.size)
    (hQ : ∀ h' : Heap, (∀ b o, b ≠ it → s.heap.get? b = some o → h'.get? b = some o) → (∀ p, ps[i]? = some p → h'.get? it = some (itObj (.ref tp) (i + 1) a n ep)) → Q (ps[i]?.bind fun p => es[p]?.map (·.2)) { s with heap := h' }) :
    wpAny (model prog w) A (pyNext (.ref it)) Q E s := by
  have hT : s.TypeIs (.ref it) "set_iterator" := ⟨_, hit, rfl⟩
  unfold pyNext
  refine wpAny_bind (wpAny_attempt (wpAny_callSpecial?_slot (name := Str.ofString "__next__") hT slot_it_next (wpAny_call_entry slot_it_next hT entry_it_next ?_ (args_it_next _))))
  unfold Builtin.«set_iterator.__next__»
  refine wpAny_bind (wpAny_pure (wpAny_bind (wpAny_fieldsOf hit rfl ?_)))
  dsimp only [rawInt]
  refine wpAny_bind (wpAny_setEntries_of ho rfl hf ?_)
  rw [if_neg (by simp [hn])]
  try dsimp only
  rw [Int.toNat_natCast, Int.toNat_natCast]
  refine wpAny_bind (wpAny_seqItems htp rfl ?_)
  dsimp only
  cases q : ps[i]? with
  | some p =>
    have e1 : (ps.map fun (p : Nat) => rawInt (p : Int)).toArray[i]? = some (rawInt (p : Int)) := by
      rw [List.getElem?_toArray, List.getElem?_map, q]
      rfl
    rw [e1]
    dsimp only [rawInt]
    rw [Int.toNat_natCast]
    have hp : p < es.size := hps p (List.mem_of_getElem? q)
    have e2 : es[p]? = some (es[p].1, es[p].2) := by simp [hp]
    unfold setNextDrawn
    refine wpAny_bind (wpAny_bind (wpAny_setState_of ho rfl hf ?_))
    dsimp only
    rw [if_neg (by simp), e2]
    refine wpAny_pure (wpAny_bind (wpAny_setField_rec hit (by simp) fun h1 k1 b1 => wpAny_pure ⟨_, rfl, wpAny_pure ?_⟩))
    have := hQ h1 (fun b o hb e => (b1.2 b hb).trans e) fun p' _ => by
      rw [k1]
      unfold itObj
      simp [rawInt]
    rw [q] at this
    have e3 : ((some p).bind fun p => es[p]?.map (·.2)) = some es[p].2 := by
      show (es[p]?.map (·.2)) = _
      rw [e2]
      rfl
    rw [e3] at this
    exact this
  | none =>
    have e1 : (ps.map fun (p : Nat) => rawInt (p : Int)).toArray[i]? = none := by
      rw [List.getElem?_toArray, List.getElem?_map, q]
      rfl
    rw [e1]
    dsimp only
    refine wpAny_bind (wpAny_setField_rec hit (by simp) fun h1 k1 b1 => wpAny_bind (wpAny_setField_rec k1 (by simp) fun h2 k2 b2 => ?_))
    refine stop_raise (s := { s with heap := h2 }) hh fun h3 k3 => ?_
    have := hQ h3 (fun b o hb e => k3 b o ((b2.2 b hb).trans ((b1.2 b hb).trans e))) fun p' hp' => by rw [q] at hp'; cases hp'
    rw [q] at this
    exact this
/-- by text: the order is the world's -/
def ordA (w : World) (a : Addr) (ep : Nat) (es : Array (Int × Value)) : Array (Int × Value) := pickOrder (w.params.setOrder a ep) es
theorem setNext_A {a : Addr} {slot i ep : Nat} {es : Array (Int × Value)} {t : SetTable} {Q : Option (Value × Nat) → Shared → Prop} (hb : byT w = true) (ho : s.heap.get? a = some (setO es ep t)) (hf : t.fits es.size = true)
    (h : Q ((ordA w a ep es)[i]?.map fun e => (e.2, slot)) s) : wpAny (model prog w) A (setNext a slot i ep) Q E s := by
  unfold setNext setsByText
  refine wpAny_bind (wpAny_setState_of ho rfl hf ?_)
  dsimp only
  refine wpAny_bind (wpAny_bind (wpAny_askSetting (wpAny_pure ?_)))
  rw [show (model prog w).w.params.followText "set-order" = true from hb, if_pos rfl, if_neg (by simp)]
  unfold setWalk setsByText
  refine wpAny_bind (wpAny_bind (wpAny_setState_of ho rfl hf ?_))
  dsimp only
  refine wpAny_bind (wpAny_bind (wpAny_askSetting (wpAny_pure ?_)))
  rw [show (model prog w).w.params.followText "set-order" = true from hb, if_pos rfl]
  refine wpAny_bind (wpAny_askSetting (wpAny_pure (wpAny_pure ?_)))
  exact h
theorem setNext_C {a : Addr} {slot i ep : Nat} {es : Array (Int × Value)} {t : SetTable} {Q : Option (Value × Nat) → Shared → Prop} (hb : byT w = false) (hz : es.size ≤ 1) (hl : t.led = true) (ho : s.heap.get? a = some (setO es ep t)) (hf : t.fits es.size = true)
    (h : Q (match es[SetTable.below t.place slot]?, t.place[SetTable.below t.place slot]? with | some (_, x), some j => some (x, j + 1) | _, _ => none) s) : wpAny (model prog w) A (setNext a slot i ep) Q E s := by
  unfold setNext setsByText
  refine wpAny_bind (wpAny_setState_of ho rfl hf ?_)
  dsimp only
  refine wpAny_bind (wpAny_bind (wpAny_askSetting (wpAny_pure ?_)))
  rw [show (model prog w).w.params.followText "set-order" = false from hb, if_neg (by simp)]
  refine wpAny_ite_split (fun hq => absurd hq ?_) (fun _ => ?_)
  · show ¬ (!t.plain && decide (es.size > 1)) = true
    rw [decide_eq_false (by omega), Bool.and_false]
    simp
  · refine wpAny_bind ?_
    show wpAny _ _ (if (!t.led && !es.isEmpty) = true then unsupported "set:maker-not-led" else pure ()) _ _ _
    rw [hl, if_neg (by simp)]
    exact wpAny_pure (wpAny_pure h)
theorem iter_it {I a : Addr} {first : Value} {i n ep : Nat} {Q : Value → Shared → Prop} (hit : s.heap.get? I = some (itObj first i a n ep)) (h : Q (.ref I) s) : wpAny (model prog w) A (pyIter (.ref I)) Q E s := by
  have hT : s.TypeIs (.ref I) "set_iterator" := ⟨_, hit, rfl⟩
  refine wpAny_pyIter_slot hT slot_it_iter (wpAny_call_entry slot_it_iter hT entry_it_iter ?_ (args_it_iter _))
  exact wpAny_pure ⟨_, rfl, "set_iterator", _, hT, slot_it_next.lookup, h⟩
theorem walk_A {a I : Addr} {es : Array (Int × Value)} {ep : Nat} {t : SetTable} (hb : byT w = true) (hh : A.handled = none) (hf : t.fits es.size = true) (hne : a ≠ I) :
    Walks prog w A I [I, a] [I] es.size (fun i v => ((ordA w a ep es).toList.map (·.2))[i]? = some v) (fun i h => (∃ slot : Nat, h.get? I = some (itObj (rawInt slot) i a es.size ep)) ∧ h.get? a = some (setO es ep t)) where
  sub := fun b hb => by simp at hb; simp [hb]
  frame := fun _ _ _ st hk => ⟨st.1.imp fun _ e => hk I (by simp) _ e, hk a (by simp) _ st.2⟩
  item := fun i s Q E hi st hQ => by
    obtain ⟨⟨slot, hit⟩, ho⟩ := st
    have hl : (ordA w a ep es).size = es.size := by
      have := (pick_perm (w.params.setOrder a ep) es).length_eq
      unfold ordA
      simpa using this
    have e : (ordA w a ep es)[i]? = some ((ordA w a ep es)[i]'(by omega)) := by simp [hl, hi]
    refine next_slot hh hit ho hf rfl (r := (ordA w a ep es)[i]?.map fun e => (e.2, slot)) (fun A' Q' E' h => setNext_A hb ho hf h) fun h' k1 k2 => ?_
    rw [e]
    refine hQ _ h' s.toks ?_ ⟨⟨slot, k2 _ _ (by rw [e]; rfl)⟩, k1 a _ hne ho⟩ fun b o hb e => k1 b o (by simpa using hb) e
    rw [List.getElem?_map, Array.getElem?_toList, e]
    rfl
  done := fun s Q E st hQ => by
    obtain ⟨⟨slot, hit⟩, ho⟩ := st
    have hl : (ordA w a ep es).size = es.size := by
      have := (pick_perm (w.params.setOrder a ep) es).length_eq
      unfold ordA
      simpa using this
    have e : (ordA w a ep es)[es.size]? = none := by simp [hl]
    refine next_slot hh hit ho hf rfl (r := (ordA w a ep es)[es.size]?.map fun e => (e.2, slot)) (fun A' Q' E' h => setNext_A hb ho hf h) fun h' k1 k2 => ?_
    rw [e]
    exact hQ h' s.toks fun b o hb e => k1 b o (by simpa using hb) e
  self := fun _ _ _ _ st hQ => iter_it st.1.choose_spec hQ
theorem below_one {p j : Nat} : SetTable.below #[p] j = if p < j then 1 else 0 := by
  unfold SetTable.below
  show SetTable.below.go #[p] j 1 0 1 = _
  unfold SetTable.below.go
  simp only [Nat.lt_irrefl, show (0 : Nat) < 1 by decide, if_true]
  show (if (#[p] : Array Nat).getD ((0 + 1) / 2) j < j then _ else _) = _
  by_cases h : p < j
  · rw [if_pos h, if_pos (show (#[p] : Array Nat).getD ((0 + 1) / 2) j < j from h)]
    rfl
  · rw [if_neg h, if_neg (show ¬ (#[p] : Array Nat).getD ((0 + 1) / 2) j < j from h)]
    rfl
theorem fits_size {t : SetTable} {n : Nat} (h : t.fits n = true) : t.place.size = n := by
  unfold SetTable.fits at h
  rw [Bool.and_eq_true] at h
  simpa using h.1
/-- one element or none -/
theorem walk_C {a I : Addr} {es : Array (Int × Value)} {ep : Nat} {t : SetTable} (hb : byT w = false) (hl : t.led = true) (hz : es.size ≤ 1) (hh : A.handled = none) (hf : t.fits es.size = true) (hne : a ≠ I) :
    Walks prog w A I [I, a] [I] es.size (fun i v => (es.toList.map (·.2))[i]? = some v) (fun i h => (∃ slot : Nat, h.get? I = some (itObj (rawInt slot) i a es.size ep) ∧ SetTable.below t.place slot = i) ∧ h.get? a = some (setO es ep t)) where
  sub := fun b hb => by simp at hb; simp [hb]
  frame := fun _ _ _ st hk => ⟨st.1.imp fun _ e => ⟨hk I (by simp) _ e.1, e.2⟩, hk a (by simp) _ st.2⟩
  item := fun i s Q E hi st hQ => by
    obtain ⟨⟨slot, hit, hbl⟩, ho⟩ := st
    have hp := fits_size hf
    have i0 : i = 0 := by omega
    subst i0
    have hes : es.size = 1 := by omega
    have e1 : es[0]? = some (es[0]'(by omega)) := by simp [hes]
    obtain ⟨p0, ea⟩ : ∃ p0, t.place = #[p0] := ⟨t.place[0]'(by omega), by
      refine Array.ext (by simp [hp, hes]) fun j h1 h2 => ?_
      have : j = 0 := by simp at h2; omega
      subst this
      rfl⟩
    have e2 : t.place[0]? = some p0 := by rw [ea]; rfl
    refine next_slot hh hit ho hf rfl (r := some ((es[0]'(by omega)).2, p0 + 1)) (fun A' Q' E' h => setNext_C hb hz hl ho hf (by rw [hbl, e1, e2]; exact h)) fun h' k1 k2 => ?_
    refine hQ _ h' s.toks ?_ ⟨⟨_, k2 _ _ rfl, ?_⟩, k1 a _ hne ho⟩ fun b o hb e => k1 b o (by simpa using hb) e
    · rw [List.getElem?_map, Array.getElem?_toList, e1]
      rfl
    · rw [ea, below_one, if_pos (by simp)]
  done := fun s Q E st hQ => by
    obtain ⟨⟨slot, hit, hbl⟩, ho⟩ := st
    have e1 : es[es.size]? = none := by simp
    refine next_slot hh hit ho hf rfl (r := none) (fun A' Q' E' h => setNext_C hb hz hl ho hf (by rw [hbl, e1]; exact h)) fun h' k1 k2 => ?_
    exact hQ h' s.toks fun b o hb e => k1 b o (by simpa using hb) e
  self := fun _ _ _ _ st hQ => iter_it st.1.choose_spec.1 hQ
/-- an order that was drawn -/
def ordB (es : Array (Int × Value)) (ps : List Nat) : List Value := ps.filterMap fun p => es[p]?.map (·.2)
theorem ordB_get {es : Array (Int × Value)} : ∀ {ps : List Nat} (h : ∀ p ∈ ps, p < es.size) (i : Nat), (ordB es ps)[i]? = ps[i]?.bind fun p => es[p]?.map (·.2)
  | [], _, i => by simp [ordB]
  | p :: r, h, i => by
    have hp : p < es.size := h p List.mem_cons_self
    have e : (es[p]?.map (·.2)) = some es[p].2 := by simp [hp]
    have ih := ordB_get (ps := r) (fun q hq => h q (List.mem_cons_of_mem _ hq))
    unfold ordB at ih ⊢
    rw [List.filterMap_cons, e]
    cases i with
    | zero => simp [e]
    | succ i => simpa using ih i
theorem walk_B {a I tp : Addr} {es : Array (Int × Value)} {ep : Nat} {t : SetTable} {ps : List Nat} (hh : A.handled = none) (hf : t.fits es.size = true) (hne : a ≠ I) (hnt : tp ≠ I) (hpl : ps.length = es.size) (hps : ∀ p ∈ ps, p < es.size) :
    Walks prog w A I [I, a, tp] [I] es.size (fun i v => (ordB es ps)[i]? = some v) (fun i h => h.get? I = some (itObj (.ref tp) i a es.size ep) ∧ h.get? a = some (setO es ep t) ∧ h.get? tp = some { cls := .type "tuple", data := .seq (ps.map fun (p : Nat) => rawInt p).toArray }) where
  sub := fun b hb => by simp at hb; simp [hb]
  frame := fun _ _ _ st hk => ⟨hk I (by simp) _ st.1, hk a (by simp) _ st.2.1, hk tp (by simp) _ st.2.2⟩
  item := fun i s Q E hi st hQ => by
    obtain ⟨hit, ho, htp⟩ := st
    have e1 : ps[i]? = some (ps[i]'(by omega)) := by simp [hpl, hi]
    have hp := hps _ (List.getElem_mem (by omega : i < ps.length))
    refine next_drawn hh hit ho hf rfl htp hps fun h' k1 k2 => ?_
    rw [← ordB_get hps]
    have e2 : (ordB es ps)[i]? = some (es[ps[i]'(by omega)]'hp).2 := by rw [ordB_get hps, e1]; simp [hp]
    rw [e2]
    exact hQ _ h' s.toks e2 ⟨k2 _ e1, k1 a _ hne ho, k1 tp _ hnt htp⟩ fun b o hb e => k1 b o (by simpa using hb) e
  done := fun s Q E st hQ => by
    obtain ⟨hit, ho, htp⟩ := st
    have e1 : ps[es.size]? = none := by simp [hpl]
    refine next_drawn hh hit ho hf rfl htp hps fun h' k1 k2 => ?_
    rw [e1]
    exact hQ h' s.toks fun b o hb e => k1 b o (by simpa using hb) e
  self := fun _ _ _ _ st hQ => iter_it st.1 hQ
theorem ordB_perm {es : Array (Int × Value)} {ps : List Nat} (h : ps.Perm (List.range es.size)) : (ordB es ps).Perm (es.toList.map (·.2)) := by
  have h1 : (ordB es ps).Perm (ordB es (List.range es.size)) := h.filterMap _
  have h2 : ordB es (List.range es.size) = es.toList.map (·.2) := by
    refine List.ext_getElem? fun i => ?_
    rw [ordB_get (fun p hp => List.mem_range.mp hp), List.getElem?_map]
    by_cases hi : i < es.size
    · have e : (List.range es.size)[i]? = some i := by simp [hi]
      rw [e, Array.getElem?_toList]
      rfl
    · have e : (List.range es.size)[i]? = none := by simp; omega
      rw [e, Array.getElem?_toList, Array.getElem?_eq_none (by omega)]
      rfl
  rwa [h2] at h1
theorem iter_set {a : Addr} {es : Array (Int × Value)} {ep : Nat} {t : SetTable} {ss : List Str} {Q : Value → Shared → Prop} (S : SetAtS prog w s.heap a es ep t ss) (hh : A.handled = none) (hz : es.size ≤ sizeLine)
    (h : ∀ (s1 : Shared) (I : Addr) (fp : List Addr) (ord : List Value) (St : Nat → Heap → Prop), Mv s s1 → s.heap.objs.size ≤ I → I ∈ fp → (∀ b ∈ fp, b = a ∨ s.heap.objs.size ≤ b) → Walks prog w A I fp [I] es.size (fun i v => ord[i]? = some v) St → St 0 s1.heap → ord.Perm (es.toList.map (·.2)) → Q (.ref I) s1) :
    wpAny (model prog w) A (pyIter (.ref a)) Q E s := by
  have hT : s.TypeIs (.ref a) "set" := ⟨_, S.obj, rfl⟩
  have hlt : a < s.heap.objs.size := Heap.lt_size S.obj
  refine wpAny_pyIter_slot hT PySem.F.slot_set_iter (wpAny_call_entry PySem.F.slot_set_iter hT entry_set_iter ?_ (PySem.F.args_set_iter_1 _))
  unfold Builtin.«frozenset.__iter__» Builtin.Frozenset.slot0 Builtin.Frozenset.sizeOf setDrawn setsByText
  refine wpAny_bind (wpAny_bind (wpAny_pure (wpAny_pure (wpAny_bind (wpAny_bind (wpAny_setEntries_of S.obj rfl S.fits (wpAny_pure ?_)))))))
  refine wpAny_bind (wpAny_bind (wpAny_setState_of S.obj rfl S.fits ?_))
  dsimp only
  refine wpAny_bind (wpAny_bind (wpAny_askSetting (wpAny_pure (wpAny_pure ?_))))
  have fresh0 : ∀ {s' : Shared} {first : Value}, Mv s s' → (s'.heap.push (itObj first 0 a es.size ep)).get? s'.heap.objs.size = some (itObj first 0 a es.size ep) := fun _ => Heap.get?_push_size _ rfl
  refine wpAny_ite_split (fun hc => ?_) (fun hc => ?_)
  · have hc : (!byT w && (!t.plain && decide (es.size > 1))) = true := hc
    refine wpAny_bind (wp_draw es.size (List.range es.size) s (by simp) fun ys d hp => ?_)
    have hyl : ys.length = es.size := by rw [hp.length_eq]; simp
    have hym : ∀ p ∈ ys, p < es.size := fun p hp' => List.mem_range.mp (hp.mem_iff.mp hp')
    refine wpAny_bind (wpAny_newTuple ?_ (by rw [List.length_map, hyl]; exact hz))
    refine wpAny_bind (wpAny_setEpoch_of (Heap.get?_push_of_some _ S.obj) rfl S.fits ?_)
    refine wpAny_bind (wpAny_newObj_type (wpAny_pure ⟨_, rfl, "set_iterator", _, ⟨_, Heap.get?_push_size _ rfl, rfl⟩, slot_it_next.lookup, ?_⟩))
    have s0 : ∀ o : Obj, (s.heap.push o).objs.size = s.heap.objs.size + 1 := fun o => Heap.size_push ..
    refine h _ _ [_, a, s.heap.objs.size] (ordB es ys) _ ⟨rfl, rfl, fun b o e => Heap.get?_push_of_some _ (Heap.get?_push_of_some _ e)⟩ (by rw [s0]; exact Nat.le_succ _) List.mem_cons_self (fun b hb => ?_)
      (walk_B (ps := ys) (ep := ep) (t := t) hh S.fits (by rw [s0]; exact Nat.ne_of_lt (Nat.lt_succ_of_lt hlt)) (by rw [s0]; exact Nat.ne_of_lt (Nat.lt_succ_self _)) hyl hym) ⟨Heap.get?_push_size _ rfl, Heap.get?_push_of_some _ (Heap.get?_push_of_some _ S.obj), Heap.get?_push_of_some _ (Heap.get?_push_size _ rfl)⟩ (ordB_perm hp)
    simp only [List.mem_cons, List.not_mem_nil, or_false] at hb
    rcases hb with rfl | rfl | rfl
    · rw [s0]; exact .inr (Nat.le_succ _)
    · exact .inl rfl
    · exact .inr (Nat.le_refl _)
  · have hc : ¬ (!byT w && (!t.plain && decide (es.size > 1))) = true := hc
    refine wpAny_bind (wpAny_pure (wpAny_bind (wpAny_setEpoch_of S.obj rfl S.fits ?_)))
    refine wpAny_bind (wpAny_newObj_type (wpAny_pure ⟨_, rfl, "set_iterator", _, ⟨_, Heap.get?_push_size _ rfl, rfl⟩, slot_it_next.lookup, ?_⟩))
    have hfp : ∀ b ∈ [s.heap.objs.size, a], b = a ∨ s.heap.objs.size ≤ b := fun b hb => by
      simp only [List.mem_cons, List.not_mem_nil, or_false] at hb
      rcases hb with rfl | rfl
      · exact .inr (Nat.le_refl _)
      · exact .inl rfl
    cases hb : byT w with
    | true =>
      exact h _ _ [s.heap.objs.size, a] ((ordA w a ep es).toList.map (·.2)) _ ⟨rfl, rfl, fun b o e => Heap.get?_push_of_some _ e⟩ (Nat.le_refl _) List.mem_cons_self hfp
        (walk_A (ep := ep) (t := t) hb hh S.fits (Nat.ne_of_lt hlt)) ⟨⟨0, Heap.get?_push_size _ rfl⟩, Heap.get?_push_of_some _ S.obj⟩ ((pick_perm _ es).map _)
    | false =>
      have hle : es.size ≤ 1 := by
        rw [hb] at hc
        rcases S.plain with e | e
        · omega
        · rw [e] at hc
          simpa using hc
      have hld : t.led = true := by rw [S.led, hb]; rfl
      have hbl : SetTable.below t.place 0 = 0 := by
        have hp := fits_size S.fits
        have : t.place.size = 0 ∨ t.place.size = 1 := by omega
        rcases this with e | e
        · rw [Array.size_eq_zero_iff.mp e]
          rfl
        · obtain ⟨p0, ea⟩ : ∃ p0, t.place = #[p0] := ⟨t.place[0]'(by omega), by
            refine Array.ext (by simp [e]) fun j h1 h2 => ?_
            have : j = 0 := by simp at h2; omega
            subst this
            rfl⟩
          rw [ea, below_one, if_neg (Nat.not_lt_zero _)]
      exact h _ _ [s.heap.objs.size, a] (es.toList.map (·.2)) _ ⟨rfl, rfl, fun b o e => Heap.get?_push_of_some _ e⟩ (Nat.le_refl _) List.mem_cons_self hfp
        (walk_C (ep := ep) (t := t) hb hld hle hh S.fits (Nat.ne_of_lt hlt)) ⟨⟨0, Heap.get?_push_size _ rfl, hbl⟩, Heap.get?_push_of_some _ S.obj⟩ (.refl _)
theorem hint_set {r : Addr} {Q : Bool → Shared → Prop} (hT : s.TypeIs (.ref r) "set") (h : Q false s) : wpAny (model prog w) A (Builtin.List.listLengthHint (.ref r)) Q E s := by
  unfold Builtin.List.listLengthHint
  refine wpAny_bind (wpAny_specialOf hT PySem.F.slot_set_len.lookup ?_)
  generalize hid : ("set.__len__" : String) = id0
  wp_delta
  rw [show splitId id0 = some ("set", "__len__") from by subst hid; decide +kernel]
  subst hid
  refine wpAny_bind (wpAny_isInstance (T := "set") (b := true) hT (by rw [isSubtype_type]; kernel_rfl) ?_)
  refine wpAny_ite_split (fun hab => absurd hab (by decide)) (fun _ => wpAny_ite_split (fun _ => ?_) (fun hab => absurd (by decide +kernel) hab))
  exact wpAny_bind (wpAny_typeOf hT (wpAny_pure h))
end
end L2
set_option Elab.async false
set_option linter.all false
set_option maxRecDepth 100000
set_option maxHeartbeats 4000000
namespace L2
open PySem PySem.Spec PyProof.Rows
/-! ### a set of texts, gathered and sorted -/
section
variable {prog : Program} {w : World} {A : Around} {E : Value → Shared → Prop} {s : Shared} {a : Addr} {es : Array (Int × Value)} {ep : Nat} {t : SetTable} {ss : List Str}
theorem extend_set {R : Result → Shared → Prop} (S : SetAtS prog w s.heap a es ep t ss) (hh : A.handled = none) (hz : es.size ≤ sizeLine) (L : Addr) (hLa : L ≠ a) (res : Value) (c₀ : Nat) (hL : s.heap.get? L = some { cls := .type "list", data := .seq #[] c₀ })
    (hR : ∀ (s' : Shared) (acc : Array Value) (c : Nat), s'.os = s.os → s'.gens = s.gens → (∀ b o, b ≠ L → s.heap.get? b = some o → s'.heap.get? b = some o) → s'.heap.get? L = some { cls := .type "list", dict := none, data := .seq acc c, slots := #[] } → acc.toList.Perm (es.toList.map (·.2)) → R (.ok (.ret res)) s') :
    wpAny (model prog w) A.in1 (Builtin.List.listExtendWith (.ref L) (.ref a) res) (fun fin s' => match fin with | .done f => R (.ok f) s' | .again c' => c'.quiet = true ∧ codeAny (model prog w) A c' R s') (fun e s' => R (.error e) s') s := by
  have hT : s.TypeIs (.ref a) "set" := ⟨_, S.obj, rfl⟩
  have hLt : L < s.heap.objs.size := Heap.lt_size hL
  unfold Builtin.List.listExtendWith
  refine wpAny_bind (wpAny_typeOf (T := "set") hT ?_)
  have h1 : Builtin.List.listSameRef (.ref L) (.ref a) = false := by simp [Builtin.List.listSameRef, hLa]
  have h2 : (Value.type "set" == Value.type "list") = false := by decide
  have h3 : (Value.type "set" == Value.type "tuple") = false := by decide
  simp only [h1, h2, h3, Bool.or_false, Bool.false_eq_true, if_false]
  refine wpAny_bind (iter_set S hh hz fun s1 I fp ord St m1 hI hIf hfp W st hp => ?_)
  have hLf : L ∉ fp := fun hm => (hfp L hm).elim hLa fun h => absurd (Nat.lt_of_lt_of_le hLt h) (Nat.lt_irrefl _)
  have hL1 := m1.keep _ _ hL
  have hol : ord.length = es.size := by rw [hp.length_eq, List.length_map, Array.length_toList]
  have key : ∀ (s2 : Shared) (c₁ : Nat), s2.os = s.os → s2.gens = s.gens → St 0 s2.heap → (∀ b o, b ≠ L → s.heap.get? b = some o → s2.heap.get? b = some o) → s2.heap.get? L = some { cls := .type "list", data := .seq #[] c₁ } →
      codeAny (model prog w) A (.builtin "list.extend.loop" ⟨[.ref L, .ref I, res], []⟩) R s2 := fun s2 c₁ eo eg hst hk hL2 => by
    refine codeAny_extend_loopS W.toS hz L hLf res es.size 0 _ #[] c₁ rfl (Nat.zero_le _) hst hL2 (ItemsOf.nil _) fun s' acc c hm hL' hacc => ?_
    refine hR s' acc c (hm.os.trans eo) (Eq.trans hm.gens eg) (fun b o hb e => hm.heap b o (fun hmem => ?_) (hk b o hb e)) hL' ?_
    · rcases List.mem_cons.mp hmem with e' | hmem
      · exact hb e'
      · rw [List.mem_singleton.mp hmem] at e
        exact absurd (Nat.lt_of_lt_of_le (Heap.lt_size e) hI) (Nat.lt_irrefl _)
    · have : acc.toList = ord := List.ext_getElem? fun i => by
        rw [Array.getElem?_toList]
        by_cases hi : i < es.size
        · have e : acc[i]? = some (acc[i]'(by rw [hacc.1]; exact hi)) := by simp [hacc.1, hi]
          rw [e]
          exact (hacc.2 i _ e).symm
        · rw [Array.getElem?_eq_none (by rw [hacc.1]; omega), List.getElem?_eq_none (by omega)]
      rw [this]
      exact hp
  refine wpAny_bind (wpAny_holding (hint_set ⟨_, m1.keep _ _ S.obj, rfl⟩ ?_))
  refine wpAny_ite_split (fun _ => ?_) (fun _ => wpAny_pure ⟨plainId_quiet PySem.F.plain_extend_loop _, key _ c₀ m1.os m1.gens st (fun b o _ e => m1.keep b o e) hL1⟩)
  refine wpAny_bind (wpAny_rule (wpAny_bind ?_))
  show wpAny _ _ (updateSeq L (·.push .none) >>= fun _ => updateSeq L (·.pop)) _ _ _
  have hL2 := Heap.get?_update_self (Obj.mapSeq (·.push Value.none)) hL1 rfl
  have hL3 := Heap.get?_update_self (Obj.mapSeq (·.pop)) hL2 rfl
  refine wpAny_bind (wpAny_updateSeq hL1 rfl (wpAny_updateSeq (hz := by seq_fits) hL2 rfl (wpAny_pure ⟨plainId_quiet PySem.F.plain_extend_loop _, key _ _ m1.os m1.gens ?_ (fun b o hb e => ?_) hL3⟩)))
  · refine W.frame 0 _ _ st fun b hb o e => ?_
    have hbL : b ≠ L := fun h => hLf (h ▸ hb)
    exact (Heap.get?_update_other _ _ (Ne.symm hbL)).trans ((Heap.get?_update_other _ _ (Ne.symm hbL)).trans e)
  · exact (Heap.get?_update_other _ _ (Ne.symm hb)).trans ((Heap.get?_update_other _ _ (Ne.symm hb)).trans (m1.keep b o e))
theorem collect_set {R : List Value → Shared → Prop} (S : SetAtS prog w s.heap a es ep t ss) (hh : A.handled = none) (hz : ss.length ≤ 1000)
    (h : ∀ s' vs ss', Mv s s' → StrsAre vs ss' → ss'.Perm ss → R vs s') : wpAny (model prog w) A (collect (.ref a)) R E s := by
  have hlt : a < s.heap.objs.size := Heap.lt_size S.obj
  have hes : es.size = ss.length := by rw [← S.txt.length, List.length_map, Array.length_toList]
  unfold collect
  refine wpAny_bind (wpAny_runValue (codeAny_builtin entry_proto_collect' ?_))
  rw [Around.under_plainId PySem.F.plain_proto_collect _]
  show wpAny _ A.in1 (newList [] >>= fun l => again (.builtin "list.__iadd__" ⟨[l, .ref a], []⟩)) _ _ s
  refine wpAny_bind (wpAny_newObj_type (wpAny_pure ⟨plainId_quiet PySem.F.plain_list_iadd _, codeAny_builtin entry_list_iadd' ?_⟩))
  rw [Around.under_plainId PySem.F.plain_list_iadd _]
  have hL : (s.heap.push { cls := .type "list", data := .seq ([] : List Value).toArray }).get? s.heap.objs.size = some { cls := .type "list", data := .seq #[] } := Heap.get?_push_size _ rfl
  show wpAny _ A.in1 (Builtin.List.listExtendWith (.ref s.heap.objs.size) (.ref a) (.ref s.heap.objs.size)) _ _ _
  have fin : ∀ (s' : Shared) (acc : Array Value), Mv s s' → acc.toList.Perm (es.toList.map (·.2)) → R acc.toList s' := fun s' acc m hp => by
    obtain ⟨ss', h1, h2⟩ := strsAre_perm S.txt hp
    exact h s' _ ss' m h1 h2
  have key := extend_set (A := A) (s := { s with heap := s.heap.push { cls := .type "list", data := .seq ([] : List Value).toArray } })
    (R := fun (q : Result) (s' : Shared) => ∃ (acc : Array Value) (c : Nat), q = .ok (.ret (.ref s.heap.objs.size)) ∧ Mv s s' ∧ s'.heap.get? s.heap.objs.size = some { cls := .type "list", dict := none, data := .seq acc c, slots := #[] } ∧ acc.toList.Perm (es.toList.map (·.2)))
    (S.moved fun o e => Heap.get?_push_of_some _ e) hh (by rw [hes]; exact small (by omega)) s.heap.objs.size (Nat.ne_of_gt hlt) (.ref s.heap.objs.size) 0 hL
    (fun s' acc c eo eg hk hL' hp => ⟨acc, c, rfl, ⟨eo, eg, fun b o e => hk b o (Nat.ne_of_lt (Heap.lt_size e)) (Heap.get?_push_of_some _ e)⟩, hL', hp⟩)
  refine wpAny_mono key (fun fi s' x => ?_) fun e s' x => ?_
  · cases fi with
    | done f =>
      obtain ⟨acc, c, e, m, hL', hp⟩ := x
      cases e
      exact wpAny_bind (wpAny_load hL' (wpAny_pure (fin s' acc m hp)))
    | again c₁ =>
      refine ⟨x.1, codeAny_mono x.2 fun q s₂ y => ?_⟩
      obtain ⟨acc, c, rfl, m, hL', hp⟩ := y
      exact wpAny_bind (wpAny_load hL' (wpAny_pure (fin s₂ acc m hp)))
  · obtain ⟨_, _, e', _⟩ := x
    cases e'
end
/-- a set of texts, tracked -/
def SetV (P : Program) (w : World) (v : Addr) (ss : List Str) : HO := .ext fun h => ∃ es ep t, SetAtS P w h v es ep t ss
section
variable {X : Cx}
theorem call_set_strs (hc : X.calm = true) : CallR X (.type "set") (fun xs H Q => ∃ (a : Addr) (ns U : List Str), xs = [.ref a] ∧ SqL X.K H a (ns.map V.str) ∧ (∀ y ∈ ns, y ∈ U) ∧ U.length ≤ 1000 ∧
    ∀ (v : Addr) (ss : List Str), H v = none → ss.Nodup → (∀ y, y ∈ ss ↔ y ∈ ns) → Q (.ref v) (upd H v (SetV X.prog X.w v ss))) := by
  intro pins s σ H xs us Q I r h
  obtain ⟨a, ns, U, rfl, hq, hU, hUl, q⟩ := h
  obtain ⟨u, rfl, rx⟩ := vals1 r
  cases rx
  obtain ⟨its, rv, p, hl⟩ := I.list hq
  refine set_of_list (I.ok.hd hc) p.isList (strs_of rv) hU (by unfold scanBound; omega) fun h' tk es ep t ss S hm hk => ?_
  exact ⟨.ref s.heap.objs.size, _, I.laid (t' := tk) hk (Nat.le_refl _) (show ObjOk X.prog X.w _ h' _ (SetV X.prog X.w s.heap.objs.size ss) from ⟨⟨es, ep, t, S⟩, ⟨_, S.obj⟩, fun h1 h2 ⟨es, ep, t, S⟩ k => ⟨es, ep, t, S.moved k⟩⟩), rfl, q _ ss I.fresh S.nodup hm⟩
theorem call_sorted_set (hc : X.calm = true) : CallR X (.builtin "sorted") (fun xs H Q => ∃ v ss, xs = [.ref v] ∧ H v = some (SetV X.prog X.w v ss) ∧ ss.length < 64 ∧ ∀ ss' l, ss'.Perm ss → sortedS ss' = true → H l = none → Q (.ref l) (upd H l (.lst (ss'.map V.str)))) := by
  intro pins s σ H xs us Q I r h
  obtain ⟨v, ss, rfl, hv, hz, q⟩ := h
  obtain ⟨u, rfl, rx⟩ := vals1 r
  cases rx
  obtain ⟨es, ep, t, S⟩ := (I.hok v _ hv).1
  refine sorted_texts hz (fun R E' k => ?_) fun s1 s' b out c ss' m1 m2 hb e hS' hp ho => I.sorted m1 m2 hb e hS' (by rw [hp.length_eq]; exact hz) fun l hl => q ss' l hp ho hl
  exact collect_set S (by simp [I.ok.hd hc]) (by omega) k
end
end L2
set_option Elab.async false
set_option linter.all false
set_option maxRecDepth 100000
set_option maxHeartbeats 4000000
namespace L2
open PySem PySem.Spec PyProof.Rows
/-! ### the names that have a value -/
def ksOf (d : DD) : List Str := d.filterMap fun p => match p.1 with
  | Sum.inr x => some x
  | Sum.inl _ => none
theorem ksOf_key : ∀ {d : DD}, StrD d → keyS d (ksOf d)
  | [], _ => rfl
  | (k, v) :: r, h => by
    obtain ⟨x, hx⟩ := h (k, v) List.mem_cons_self
    have hx : k = Sum.inr x := hx
    have ih : r.map (·.1) = (ksOf r).map Sum.inr := ksOf_key (d := r) fun p hp => h p (List.mem_cons_of_mem _ hp)
    subst hx
    show (Sum.inr x :: r.map (·.1)) = Sum.inr x :: (ksOf r).map Sum.inr
    rw [ih]
theorem mem_ksOf {d : DD} {y : Str} : y ∈ ksOf d ↔ (Sum.inr y : Key) ∈ d.map (·.1) := by
  unfold ksOf
  rw [List.mem_filterMap, List.mem_map]
  constructor
  · rintro ⟨p, hp, e⟩
    refine ⟨p, hp, ?_⟩
    obtain ⟨k, v⟩ := p
    cases k with
    | inl i => cases e
    | inr x => cases e; rfl
  · rintro ⟨p, hp, e⟩
    exact ⟨p, hp, by rw [e]⟩
theorem keyS_len {d : DD} {ks : List Str} (h : keyS d ks) : ks.length = d.length := by
  have := congrArg List.length h
  rw [List.length_map, List.length_map] at this
  exact this.symm
def allN (st : LS) : List Str := st.flatMap fun e => ksOf e.1
theorem mem_allN {st : LS} {y : Str} : y ∈ allN st ↔ ∃ e ∈ st, (Sum.inr y : Key) ∈ e.1.map (·.1) := by
  unfold allN
  rw [List.mem_flatMap]
  exact ⟨fun ⟨e, he, h⟩ => ⟨e, he, mem_ksOf.mp h⟩, fun ⟨e, he, h⟩ => ⟨e, he, mem_ksOf.mpr h⟩⟩
/-! ### merged dicts: their keys -/
theorem putK_keys (d : DD) (k : Key) (v : V) : ((putK d k v).map (·.1) = d.map (·.1) ∧ k ∈ d.map (·.1)) ∨ ((putK d k v).map (·.1) = d.map (·.1) ++ [k] ∧ ¬ k ∈ d.map (·.1)) := by
  unfold putK
  split
  · rename_i h
    refine .inl ⟨?_, ?_⟩
    · rw [List.map_map]
      refine List.map_congr_left fun p _ => ?_
      show (if p.1 = k then (p.1, v) else p).1 = p.1
      split <;> rfl
    · obtain ⟨p, hp, e⟩ := List.any_eq_true.mp h
      exact List.mem_map.mpr ⟨p, hp, of_decide_eq_true e⟩
  · rename_i h
    refine .inr ⟨by rw [List.map_append]; rfl, fun m => h ?_⟩
    obtain ⟨p, hp, e⟩ := List.mem_map.mp m
    exact List.any_eq_true.mpr ⟨p, hp, decide_eq_true e⟩
theorem mergeK_keys : ∀ (m d : DD), (d.map (·.1)).Nodup → ((mergeK d m).map (·.1)).Nodup ∧ ∀ k, k ∈ (mergeK d m).map (·.1) ↔ k ∈ d.map (·.1) ∨ k ∈ m.map (·.1)
  | [], d, h => ⟨h, fun k => by simp [mergeK]⟩
  | p :: r, d, h => by
    have e : mergeK d (p :: r) = mergeK (putK d p.1 p.2) r := rfl
    have hk : ((putK d p.1 p.2).map (·.1)).Nodup ∧ ∀ x, x ∈ (putK d p.1 p.2).map (·.1) ↔ x ∈ d.map (·.1) ∨ x = p.1 := by
      rcases putK_keys d p.1 p.2 with ⟨e1, e2⟩ | ⟨e1, e2⟩
      · exact ⟨by rw [e1]; exact h, fun k => by
          rw [e1]
          exact ⟨.inl, fun z => z.elim id fun z => by rw [z]; exact e2⟩⟩
      · exact ⟨by rw [e1]; exact nd_snoc h e2, fun k => by rw [e1, List.mem_append, List.mem_singleton]⟩
    obtain ⟨i1, i2⟩ := mergeK_keys r _ hk.1
    rw [e]
    refine ⟨i1, fun k => ?_⟩
    rw [i2 k, hk.2 k, List.map_cons, List.mem_cons, or_assoc]
def mergeS (st : LS) : DD := st.foldl (fun acc e => mergeK acc e.1) []
theorem mergeS_snoc {st : LS} {i : Nat} {e : DD × DD} (h : st[i]? = some e) : mergeS (st.take (i + 1)) = mergeK (mergeS (st.take i)) e.1 := by
  unfold mergeS
  rw [List.take_add_one, h, List.foldl_append]
  rfl
theorem foldM_keys : ∀ (st : LS) (d : DD), (d.map (·.1)).Nodup → ((st.foldl (fun acc e => mergeK acc e.1) d).map (·.1)).Nodup ∧ ∀ k, k ∈ (st.foldl (fun acc e => mergeK acc e.1) d).map (·.1) ↔ k ∈ d.map (·.1) ∨ ∃ e ∈ st, k ∈ e.1.map (·.1)
  | [], d, h => ⟨h, fun k => by simp⟩
  | e :: r, d, h => by
    obtain ⟨h1, h2⟩ := mergeK_keys e.1 d h
    obtain ⟨i1, i2⟩ := foldM_keys r (mergeK d e.1) h1
    refine ⟨i1, fun k => ?_⟩
    rw [List.foldl_cons, i2 k, h2 k, or_assoc]
    refine or_congr Iff.rfl ⟨?_, ?_⟩
    · rintro (z | ⟨f, hf, z⟩)
      · exact ⟨e, List.mem_cons_self, z⟩
      · exact ⟨f, List.mem_cons_of_mem _ hf, z⟩
    · rintro ⟨f, hf, z⟩
      rcases List.mem_cons.mp hf with rfl | hf
      · exact .inl z
      · exact .inr ⟨f, hf, z⟩
theorem names_good {st : LS} {U : List Str} (hS : StrS st) (hU : ∀ y ∈ allN st, y ∈ U) : ∃ ks, keyS (mergeS st) ks ∧ ks.Nodup ∧ (∀ y, y ∈ ks ↔ y ∈ allN st) ∧ ks.length ≤ U.length := by
  obtain ⟨h1, h2⟩ := foldM_keys st [] List.nodup_nil
  have hm : ∀ k, k ∈ (mergeS st).map (·.1) ↔ ∃ e ∈ st, k ∈ e.1.map (·.1) := fun k => (h2 k).trans ⟨fun z => z.elim (fun z => by cases z) id, .inr⟩
  have hstr : StrD (mergeS st) := fun p hp => by
    obtain ⟨e, he, z⟩ := (hm p.1).mp (List.mem_map.mpr ⟨p, hp, rfl⟩)
    obtain ⟨q, hq, e2⟩ := List.mem_map.mp z
    obtain ⟨x, hx⟩ := (hS e he).1 q hq
    exact ⟨x, by rw [← e2, hx]⟩
  have hk : keyS (mergeS st) (ksOf (mergeS st)) := ksOf_key hstr
  have hnd : (ksOf (mergeS st)).Nodup := by
    have h3 : ((mergeS st).map (·.1)).Nodup := h1
    rw [show (mergeS st).map (·.1) = (ksOf (mergeS st)).map Sum.inr from hk] at h3
    exact List.Pairwise.of_map Sum.inr (fun a b z e => z (by rw [e])) h3
  have hmem : ∀ y, y ∈ ksOf (mergeS st) ↔ y ∈ allN st := fun y => by rw [mem_ksOf, hm, mem_allN]
  exact ⟨_, hk, hnd, hmem, nodup_le hnd fun y hy => hU y ((hmem y).mp hy)⟩
theorem allN_take {st : LS} {i : Nat} {y : Str} (h : y ∈ allN (st.take i)) : y ∈ allN st := by
  obtain ⟨e, he, z⟩ := mem_allN.mp h
  exact mem_allN.mpr ⟨e, List.mem_of_mem_take he, z⟩
theorem StrS.take {st : LS} {i : Nat} (h : StrS st) : StrS (st.take i) := fun e he => h e (List.mem_of_mem_take he)
theorem merge_small {st : LS} {U : List Str} (hS : StrS st) (hU : ∀ y ∈ allN st, y ∈ U) (i : Nat) : (mergeS (st.take i)).length ≤ U.length := by
  obtain ⟨ks, h1, _, _, h4⟩ := names_good (st := st.take i) hS.take fun y hy => hU y (allN_take hy)
  rw [← keyS_len h1]
  exact h4
/-! ### where the names come from -/
def setN : Deed → Option Str
  | .set _ n _ => some n
  | _ => none
def NmD (U : List Str) (d : DD) : Prop := ∀ p ∈ d, ∀ x : Str, p.1 = Sum.inr x → x ∈ U
def NmS (U : List Str) (st : LS) : Prop := ∀ e ∈ st, NmD U e.1
def NmDay (U : List Str) (s : DS) : Prop := NmS U s.1 ∧ ∀ q ∈ s.2, NmS U q
theorem NmD.put {U : List Str} {d : DD} {n : Str} {v : V} (h : NmD U d) (hn : n ∈ U) : NmD U (putK d (Sum.inr n) v) := fun p hp x hx => by
  unfold putK at hp
  split at hp
  · obtain ⟨q, hq, rfl⟩ := List.mem_map.mp hp
    split at hx
    · exact h q hq x hx
    · exact h q hq x hx
  · rcases List.mem_append.mp hp with hp | hp
    · exact h p hp x hx
    · rw [List.mem_singleton] at hp
      subst hp
      cases hx
      exact hn
theorem NmD.drop {U : List Str} {d : DD} {k : Key} (h : NmD U d) : NmD U (dropK d k) := fun p hp => h p (dropK_mem hp)
theorem NmS.lay {U : List Str} {st : LS} (h : NmS U st) (i : Int) : NmD U (lay st i).1 := by
  unfold L2.lay
  rw [List.getD_eq_getElem?_getD]
  cases e : st[i.toNat]? with
  | none => exact fun p hp => by cases hp
  | some x => exact h x (List.mem_of_getElem? e)
theorem NmS.set {U : List Str} {st : LS} {i : Nat} {e : DD × DD} (h : NmS U st) (he : NmD U e.1) : NmS U (st.set i e) := fun x hx => by
  rcases List.mem_or_eq_of_mem_set hx with hx | rfl
  · exact h x hx
  · exact he
theorem NmS.step {U : List Str} {st q : LS} {d : Deed} (h : NmS U st) (hd : ∀ n, setN d = some n → n ∈ U) (e : stepM st d = some q) : NmS U q := by
  cases d with
  | undo => cases e
  | holds n => cases e
  | set l m v =>
    simp only [stepM] at e
    split at e
    · cases e
      exact h.set ((h.lay l).put (hd m rfl))
    · cases e
  | unset l m =>
    simp only [stepM] at e
    split at e
    · cases e
      exact h.set (h.lay l).drop
    · cases e
  | lock l m =>
    simp only [stepM] at e
    split at e
    · cases e
      exact h.set (h.lay l)
    · cases e
  | unlock l m =>
    simp only [stepM] at e
    split at e
    · cases e
      exact h.set (h.lay l)
    · cases e
  | copy a b =>
    simp only [stepM] at e
    split at e
    · cases e
      exact h.set (h.lay a)
    · cases e
theorem NmDay.next {U : List Str} {s : DS} (h : NmDay U s) (d : Deed) (hd : ∀ n, setN d = some n → n ∈ U) : NmDay U (nextM s d).1 := by
  have did : ∀ o : Option LS, (∀ q, o = some q → NmS U q) → NmDay U (didM s o).1 := fun o ho => by
    cases o with
    | none => exact h
    | some q =>
      refine ⟨ho q rfl, fun x hx => ?_⟩
      rcases List.mem_append.mp hx with hx | hx
      · exact h.2 x hx
      · rw [List.mem_singleton] at hx
        rw [hx]
        exact h.1
  cases d with
  | undo =>
    show NmDay U (undoM s).1
    rcases undo_cases s with ⟨_, e⟩ | ⟨r, q, e1, e⟩
    · rw [e]; exact h
    · rw [e]
      exact ⟨h.2 q (by rw [e1]; simp), fun x hx => h.2 x (by rw [e1]; simp [hx])⟩
  | holds m => exact h
  | set a b c => exact did _ fun q e => h.1.step hd e
  | unset a b => exact did _ fun q e => h.1.step hd e
  | lock a b => exact did _ fun q e => h.1.step hd e
  | unlock a b => exact did _ fun q e => h.1.step hd e
  | copy a b => exact did _ fun q e => h.1.step hd e
theorem NmDay.day {U : List Str} : ∀ {r : List Deed} {s : DS}, NmDay U s → (∀ d ∈ r, ∀ n, setN d = some n → n ∈ U) → NmDay U (dayM s r).1
  | [], _, h, _ => h
  | d :: r, _, h, hd => NmDay.day (r := r) (h.next d (hd d List.mem_cons_self)) fun e he => hd e (List.mem_cons_of_mem _ he)
theorem day_names (n : Nat) (ds : List Deed) : ∃ U : List Str, U.length ≤ ds.length ∧ ∀ y ∈ allN (dayM (zeroM n) ds).1.1, y ∈ U := by
  have h0 : NmDay (ds.filterMap setN) (zeroM n) := ⟨fun e he => by
    have := List.eq_of_mem_replicate he
    subst this
    exact (fun p hp => by cases hp), fun q hq => by cases hq⟩
  have h := h0.day (r := ds) fun d hd n hn => List.mem_filterMap.mpr ⟨d, hd, hn⟩
  refine ⟨ds.filterMap setN, List.length_filterMap_le _ _, fun y hy => ?_⟩
  obtain ⟨e, he, z⟩ := mem_allN.mp hy
  obtain ⟨p, hp, ep⟩ := List.mem_map.mp z
  exact h.1 e he p hp y ep
/-! ### all that holds -/
def heldM (st : LS) (ss : List Str) : List (List V) := ss.filterMap fun y => (decM 0 none (rowM st y)).map fun z => [.str y, .int z.1, .int z.2]
theorem heldM_no {st : LS} {ss : List Str} {i : Nat} {y : Str} (h : ss[i]? = some y) (e : decM 0 none (rowM st y) = none) : heldM st (ss.take (i + 1)) = heldM st (ss.take i) := by
  unfold heldM
  rw [List.take_add_one, h, List.filterMap_append]
  show _ ++ List.filterMap _ [y] = _
  rw [List.filterMap_cons_none (by rw [e]; rfl), List.filterMap_nil, List.append_nil]
theorem heldM_yes {st : LS} {ss : List Str} {i : Nat} {y : Str} {x : Int} {j : Nat} (h : ss[i]? = some y) (e : decM 0 none (rowM st y) = some (x, j)) : heldM st (ss.take (i + 1)) = heldM st (ss.take i) ++ [[.str y, .int x, .int j]] := by
  unfold heldM
  rw [List.take_add_one, h, List.filterMap_append]
  show _ ++ List.filterMap _ [y] = _
  rw [List.filterMap_cons_some (by rw [e]; rfl), List.filterMap_nil]
theorem heldM_row {st : LS} {ss : List Str} {i : Nat} {xs : List V} (h : (heldM st ss)[i]? = some xs) : ∃ (y : Str) (x : Int) (j : Nat), xs = [.str y, .int x, .int j] := by
  obtain ⟨y, _, e⟩ := List.mem_filterMap.mp (List.mem_of_getElem? h)
  cases z : decM 0 none (rowM st y) with
  | none => rw [z] at e; cases e
  | some u =>
    rw [z] at e
    exact ⟨y, u.1, u.2, (Option.some.inj e).symm⟩
theorem heldM_len (st : LS) (ss : List Str) : (heldM st ss).length ≤ ss.length := List.length_filterMap_le _ _
theorem nodup_perm : ∀ {a b : List Str}, a.Nodup → b.Nodup → (∀ y, y ∈ a ↔ y ∈ b) → a.Perm b := fun ha hb h => (List.perm_ext_iff_of_nodup ha hb).mpr h
/-! ### what the defs promise -/
def spNames (D C : Addr) : Sp := fun vs H Q _ => ∃ (p q : Addr) (s : DS) (U : List Str), vs = [.ref p] ∧ DialAt D C H p q s ∧ StrS s.1 ∧ OkS 63 s.1 ∧ (∀ y ∈ allN s.1, y ∈ U) ∧ U.length ≤ 63 ∧
  ∀ (l : Addr) (ss : List Str) H', Same H H' → H l = none → H' l = some (.lst (ss.map V.str)) → ss.Nodup → (∀ y, y ∈ ss ↔ y ∈ allN s.1) → sortedS ss = true → ss.length ≤ 63 → Q (.ref l) H'
def spHoldsS (D C : Addr) : Sp := fun vs H Q _ => ∃ (p q : Addr) (s : DS) (n : Str) (m : Nat), vs = [.ref p, .str n] ∧ OkS m s.1 ∧ s.1.length ≤ 1000 ∧ DialAt D C H p q s ∧ ∀ r H', Same H H' → HoldV H' r (decM 0 none (rowM s.1 n)) → Q r H'
def spHeld : Sp := fun vs H Q _ => ∃ (n : Int) (dl : Addr) (rs : List V) (ds : List Deed), vs = [.int n, .ref dl] ∧ 0 ≤ n ∧ n ≤ 1000 ∧ H dl = some (.lst rs) ∧ TupsAt H rs (ds.map Deed.enc) ∧ ds.length ≤ 63 ∧
  ∀ (t : Addr) (ts : List V) (ss : List Str) H', Same H H' → H' t = some (.lst ts) → ss.Nodup → (∀ y, y ∈ ss ↔ y ∈ allN (dayM (zeroM n.toNat) ds).1.1) → sortedS ss = true → ss.length ≤ 63 → TupsAt H' ts (heldM (dayM (zeroM n.toNat) ds).1.1 ss) → Q (.ref t) H'
end L2
set_option Elab.async false
set_option linter.all false
set_option maxRecDepth 100000
set_option maxHeartbeats 4000000
namespace K6
open PySem L2 PySem.Spec PyProof.Rows
def top (i : Nat) : Stmt := PySem.Challenge.pw_layerdial_k06_all_that_holds.main.body.getD i (.Pass ⟨0, 0, 0, 0⟩)
abbrev sDec : Stmt := top 1
abbrev sWith : Stmt := top 3
abbrev sWithout : Stmt := top 4
abbrev sLinit : Stmt := inClass (top 5) 0
abbrev sDinit : Stmt := inClass (top 6) 0
abbrev sThere : Stmt := inClass (top 6) 1
abbrev sHasV : Stmt := inClass (top 6) 2
abbrev sHasL : Stmt := inClass (top 6) 3
abbrev sPut : Stmt := inClass (top 6) 4
abbrev sSet : Stmt := inClass (top 6) 5
abbrev sUnset : Stmt := inClass (top 6) 6
abbrev sLock : Stmt := inClass (top 6) 7
abbrev sUnlock : Stmt := inClass (top 6) 8
abbrev sCopy : Stmt := inClass (top 6) 9
abbrev sUndo : Stmt := inClass (top 6) 10
abbrev sHolds : Stmt := inClass (top 6) 11
abbrev sNames : Stmt := inClass (top 6) 12
abbrev sAnswer : Stmt := top 8
abbrev sDone : Stmt := top 9
abbrev sBehind : Stmt := top 10
abbrev sHeld : Stmt := top 11
abbrev sWide : Stmt := top 13
abbrev sUnt : Stmt := top 14
abbrev sWho : Stmt := top 15
abbrev sAt : Stmt := top 16
abbrev sName : Stmt := top 17
abbrev sDeeds : Stmt := top 18
abbrev sCop : Stmt := top 19
abbrev sCha : Stmt := top 20
abbrev sNext : Stmt := top 21
abbrev sHolding : Stmt := top 22
abbrev sLaw : Stmt := top 23
structure Txt (K : PySem.W.Frag) (mg : Str → Option Value) (CL CD : Addr) : Prop where
  b_enumerate : mg "enumerate" = none
  b_isinstance : mg "isinstance" = none
  b_list : mg "list" = none
  b_tuple : mg "tuple" = none
  b_len : mg "len" = none
  b_range : mg "range" = none
  b_bool : mg "bool" = none
  b_str : mg "str" = none
  b_int : mg "int" = none
  b_dict : mg "dict" = none
  b_min : mg "min" = none
  b_sum : mg "sum" = none
  b_sorted : mg "sorted" = none
  b_set : mg "set" = none
  cl_Layer : Cls K CL
  n_valued : NoAttr K CL "valued"
  n_locked : NoAttr K CL "locked"
  cl_Dial : Cls K CD
  n_layers : NoAttr K CD "layers"
  n_past : NoAttr K CD "past"
section
variable {P : Program} {w : World} {K : PySem.W.Frag} {mg : Str → Option Value} {base : Heap} {CL CD : Addr}
theorem scWith : FnScope ["entries", "name", "entry", "grown"] ["entries", "name", "entry"] (defScope sWith) := ⟨rfl, rfl, rfl, by decide +kernel, rfl, by decide +kernel, by decide +kernel⟩
theorem ok_with {f : Addr} {fd : FuncData} (F : Fun K "with_entry" "with_entry" sWith f fd) (T : Txt K mg CL CD) : FnOk P w K mg base CX0 1 f fd ["entries", "name", "entry"] spWith := by
  refine F.ok scWith (fun vs H Q E h => ?_) (fun cdv A outer s H vs Q E hr h => ?_)
  · obtain ⟨e, n, v, kvs, rfl, _⟩ := h
    rfl
  · obtain ⟨e, n, v, kvs, rfl, he, hl, q⟩ := h
    have nd := scWith.nd
    have hu := hu_of hr
    refine ⟨_, (pss_cons (ps_set (i := 3) nd rfl (Or.inl rfl) (pe_callTy call_dict (by rfl) T.b_dict PyProof.Rows.boot_dict (pa_cons (pv 0) pa_nil)))
      (pss_cons (ps_dput hu (pv 3) (pv 1) (pv 2) rfl)
      (pss_one (ps_ret (pv 3))))), ?_⟩
    refine ⟨_, rfl, e, kvs, rfl, he, fun d hd => ?_⟩
    refine ⟨_, rfl, _, rfl, _, rfl, d, _, rfl, DPut.k (k := Sum.inr n) upd_same (small' (by omega)), ?_⟩
    refine ⟨_, rfl, ?_⟩
    rw [upd_upd]
    exact q d hd
theorem scWithout : FnScope ["entries", "name", "shrunk"] ["entries", "name"] (defScope sWithout) := ⟨rfl, rfl, rfl, by decide +kernel, rfl, by decide +kernel, by decide +kernel⟩
theorem ok_without {f : Addr} {fd : FuncData} (F : Fun K "without_entry" "without_entry" sWithout f fd) (T : Txt K mg CL CD) : FnOk P w K mg base CX0 1 f fd ["entries", "name"] spWithout := by
  refine F.ok scWithout (fun vs H Q E h => ?_) (fun cdv A outer s H vs Q E hr h => ?_)
  · obtain ⟨e, n, v, kvs, rfl, _⟩ := h
    rfl
  · obtain ⟨e, n, v, kvs, rfl, he, hv, q⟩ := h
    have nd := scWithout.nd
    have hu := hu_of hr
    refine ⟨_, (pss_cons (ps_set (i := 2) nd rfl (Or.inl rfl) (pe_callTy call_dict (by rfl) T.b_dict PyProof.Rows.boot_dict (pa_cons (pv 0) pa_nil)))
      (pss_cons (ps_expr (pe_dpop1 (pv 2) (pv 1) ⟨rfl, rfl, rfl, rfl⟩))
      (pss_one (ps_ret (pv 2))))), ?_⟩
    refine ⟨_, rfl, e, kvs, rfl, he, fun d hd => ?_⟩
    refine ⟨_, rfl, d, rfl, .inl ⟨_, .inl upd_same⟩, _, rfl, kvs, Sum.inr n, v, upd_same, rfl, hv, ?_⟩
    refine ⟨_, rfl, ?_⟩
    rw [upd_upd]
    exact q d hd
theorem scLinit : FnScope ["self", "valued", "locked"] ["self", "valued", "locked"] (defScope sLinit) := ⟨rfl, rfl, rfl, by decide +kernel, rfl, by decide +kernel, by decide +kernel⟩
theorem ok_linit {f : Addr} {fd : FuncData} (F : Fun K "__init__" "Layer.__init__" sLinit f fd) (T : Txt K mg CL CD) : FnOk P w K mg base CX0 1 f fd ["self", "valued", "locked"] (spLinit CL) := by
  refine F.ok scLinit (fun vs H Q E h => ?_) (fun cdv A outer s H vs Q E hr h => ?_)
  · obtain ⟨x, dx, v1, v2, rfl, _⟩ := h
    rfl
  · obtain ⟨x, dx, v1, v2, rfl, hx, q⟩ := h
    have nd := scLinit.nd
    refine ⟨_, (pss_cons (ps_fld (pv 0) (pv 1) rfl)
      (pss_one (ps_fld (pv 0) (pv 2) rfl))), ?_⟩
    refine ⟨_, rfl, _, rfl, x, CL, dx, [], rfl, hx, T.cl_Layer, T.n_valued, by show 0 < 1000; decide, ?_⟩
    refine ⟨_, rfl, _, rfl, x, CL, dx, _, rfl, upd_same, T.cl_Layer, T.n_locked, by show 1 < 1000; decide, ?_⟩
    rw [upd_upd, lfs_eq]
    exact q
theorem scDinit : FnScope ["self", "layers"] ["self", "layers"] (defScope sDinit) := ⟨rfl, rfl, rfl, by decide +kernel, rfl, by decide +kernel, by decide +kernel⟩
theorem ok_dinit {f : Addr} {fd : FuncData} (F : Fun K "__init__" "Dial.__init__" sDinit f fd) (T : Txt K mg CL CD) (M_Layer : Mc P w K mg base 1 CL "Layer" ["self", "valued", "locked"] (spLinit CL)) : FnOk P w K mg base CX0 3 f fd ["self", "layers"] (spDinit CD CL) := by
  refine F.ok scDinit (fun vs H Q E h => ?_) (fun cdv A outer s H vs Q E hr h => ?_)
  · obtain ⟨x, dx, n, rfl, _⟩ := h
    rfl
  · obtain ⟨x, dx, n, rfl, hx, h0, h1, k⟩ := h
    have nd := scDinit.nd
    refine ⟨_, (pss_cons (ps_fld (pv 0) (pe_comp rfl (CompSc.of (esc := defScope sDinit) (fr := []) (cap := []) rfl rfl ⟨rfl, by decide, by decide, rfl, by decide, by decide, .nil⟩) (pi_range1 (by rfl) T.b_range (pa_cons (pv 1) pa_nil)) (fun _ _ _ _ _ => pts_nil) (fun _ _ _ _ _ => (pe_makeF M_Layer (hr.mono (by decide)) (by rfl) (pa_cons pe_dnewK (pa_cons pe_dnewK pa_nil))))) rfl)
      (pss_one (ps_fld (pv 0) (pe_lst pa_nil) rfl))), ?_⟩
    refine ⟨_, rfl, n, rfl, by omega, by omega, fun l hl => comp_range (fun i ys H' => Same H H' ∧ H' l = some (.lst ys) ∧ Paired (LayAt CL (hid x l H')) ys (List.replicate i ([], []))) ⟨Same.new hl, upd_same, .nil⟩ ?_ ?_ ?_⟩
    · rintro i ys H' hi ⟨_, e, hp⟩
      have := hp.length
      rw [List.length_replicate] at this
      exact ⟨e, small' (by omega)⟩
    · rintro i ys H1 hi ⟨s1, e, hp⟩
      refine comp_yes ?_
      intro d1 hd1 d2 hd2 y dy hy hdy hne
      refine ⟨y, dy, .ref d1, .ref d2, rfl, upd_same, rfl, ?_⟩
      rw [upd_upd]
      have hd2' : H1 d2 = none := (Same.new hd1).free hd2
      have ndd : d1 ≠ d2 := ne_of_none upd_same hd2
      have sA : Same H1 (upd (upd H1 d1 (.dK [])) d2 (.dK [])) := (Same.new hd1).trans (Same.new hd2)
      have sB : Same H1 (upd (upd (upd (upd H1 d1 (.dK [])) d2 (.dK [])) dy (.own y)) y (.ins CL dy (lfs (.ref d1) (.ref d2)))) := fun b o z => by
        rw [upd_ne (ne_of_none (sA _ _ z) hy), upd_ne (ne_of_none (sA _ _ z) hdy)]
        exact sA _ _ z
      have hd1y : d1 ≠ y := ne_of_none (H := upd (upd H1 d1 (.dK [])) d2 (.dK [])) (by rw [upd_ne ndd, upd_same]) hy
      have hd1d : d1 ≠ dy := ne_of_none (H := upd (upd H1 d1 (.dK [])) d2 (.dK [])) (by rw [upd_ne ndd, upd_same]) hdy
      have hd2y : d2 ≠ y := ne_of_none (H := upd (upd H1 d1 (.dK [])) d2 (.dK [])) upd_same hy
      have hd2d : d2 ≠ dy := ne_of_none (H := upd (upd H1 d1 (.dK [])) d2 (.dK [])) upd_same hdy
      have hx1 : H1 x = some (.ins CD dx []) := s1 _ _ hx
      generalize hH2 : upd (upd (upd (upd H1 d1 (.dK [])) d2 (.dK [])) dy (.own y)) y (.ins CL dy (lfs (.ref d1) (.ref d2))) = H2 at sB
      have g1 : H2 d1 = some (.dK []) := by rw [← hH2, upd_ne hd1y, upd_ne hd1d, upd_ne ndd, upd_same]
      have g2 : H2 d2 = some (.dK []) := by rw [← hH2, upd_ne hd2y, upd_ne hd2d, upd_same]
      have g3 : H2 y = some (.ins CL dy (lfs (.ref d1) (.ref d2))) := by rw [← hH2, upd_same]
      have e2 := sB _ _ e
      have hx2 := sB _ _ hx1
      refine ⟨e2, (s1.trans sB).upd hl, upd_same, ?_⟩
      rw [List.replicate_succ', hid_q]
      refine Paired.snoc' (Paired.mapP hp fun v z hz => hz.same (hid_same sB)) ⟨y, dy, d1, d2, rfl, hid_get g3 (ne_of g3 hx2 (by intro z; cases z)) (ne_of g3 e2 (by intro z; cases z)), hid_get g1 (ne_of g1 hx2 (by intro z; cases z)) (ne_of g1 e2 (by intro z; cases z)), hid_get g2 (ne_of g2 hx2 (by intro z; cases z)) (ne_of g2 e2 (by intro z; cases z))⟩
    · rintro ys H2 ⟨s2, e, hp⟩
      have hx2 := s2 _ _ hx
      refine ⟨_, rfl, x, CD, dx, [], rfl, hx2, T.cl_Dial, T.n_layers, by show 0 < 1000; decide, ?_⟩
      refine ⟨Nat.zero_le _, fun q hq => ?_⟩
      have nxq : x ≠ q := ne_of_none upd_same hq
      have hq2 : H2 q = none := by rw [upd_ne (Ne.symm nxq)] at hq; exact hq
      have nlx : l ≠ x := ne_of e hx2 (by intro z; cases z)
      have nlq : l ≠ q := ne_of_none e hq2
      refine ⟨_, rfl, x, CD, dx, _, rfl, by rw [upd_ne nxq]; exact upd_same, T.cl_Dial, T.n_past, by show 1 < 1000; decide, ?_⟩
      have sK : Same (hid x l H2) (hid x q (upd (upd (upd H2 x (.ins CD dx (putF "layers" (.ref l) []))) q (.lst [])) x (.ins CD dx (putF "past" (.ref q) (putF "layers" (.ref l) []))))) := fun b o z => by
        obtain ⟨z, z1, z2⟩ := of_hid z
        rw [hid_p]
        exact hid_get (by rw [upd_ne (ne_of_none z hq2), upd_ne z1]; exact z) z1 (ne_of_none z hq2)
      refine k q _ (s2.free hq2) ⟨dx, l, [], by rw [upd_same, dfs_eq], by rw [upd_ne (Ne.symm nxq), upd_same]; rfl, ⟨ys, ?_, Paired.mapP hp fun v z hz => hz.same sK⟩, .nil⟩ fun b o z hb => ?_
      · rw [hid_p]
        exact hid_get (by rw [upd_ne nlq, upd_ne nlx]; exact e) nlx nlq
      · have z2 := s2 _ _ z
        rw [upd_ne hb, upd_ne (ne_of_none z2 hq2), upd_ne hb]
        exact z2
theorem scThere : FnScope ["self", "number"] ["self", "number"] (defScope sThere) := ⟨rfl, rfl, rfl, by decide +kernel, rfl, by decide +kernel, by decide +kernel⟩
theorem ok_there {f : Addr} {fd : FuncData} (F : Fun K "is_there" "Dial.is_there" sThere f fd) (T : Txt K mg CL CD) : FnOk P w K mg base CX0 1 f fd ["self", "number"] (spThere CD CL) := by
  refine F.ok scThere (fun vs H Q E h => ?_) (fun cdv A outer s H vs Q E hr h => ?_)
  · obtain ⟨p, q, s, i, rfl, _⟩ := h
    rfl
  · obtain ⟨p, q, s, i, rfl, hD, k⟩ := h
    have nd := scThere.nd
    obtain ⟨dx, l, ls, vs, hp, hq, hl, hvs, _⟩ := hD.list
    have hll := hvs.length
    refine ⟨_, (pss_one (ps_ret (pe_chain op_le op_lt pe_int (pv 1) (pe_callB call_len_seq (by rfl) T.b_len PySem.boot_len (pa_cons (pe_fld (pv 0) rfl) pa_nil))))), ?_⟩
    refine ⟨_, rfl, _, _, rfl, rfl, _, rfl, ite2 (fun h => ⟨_, rfl, p, CD, dx, _, _, rfl, hp, T.cl_Dial, T.n_layers, lk_dl _ _, l, vs, rfl, .inl (SqL.of (of_hid hl).1), _, _, rfl, rfl, ?_⟩) (fun h => ?_)⟩
    · have h := of_decide_eq_true h
      have e : L2.inR s.1 i = decide (i < (vs.length : Int)) := by unfold L2.inR; rw [decide_eq_true h, Bool.true_and, hll]
      rw [e] at k
      exact k
    · have e : L2.inR s.1 i = false := by unfold L2.inR; rw [decide_eq_false (fun z => h (decide_eq_true z)), Bool.false_and]
      rw [e] at k
      exact k
theorem scHasV : FnScope ["self", "number", "name"] ["self", "number", "name"] (defScope sHasV) := ⟨rfl, rfl, rfl, by decide +kernel, rfl, by decide +kernel, by decide +kernel⟩
theorem ok_hasv {f : Addr} {fd : FuncData} (F : Fun K "has_value" "Dial.has_value" sHasV f fd) (T : Txt K mg CL CD) (M_is_there : Mt P w K mg base 1 CD "is_there" ["self", "number"] (spThere CD CL)) : FnOk P w K mg base CX0 2 f fd ["self", "number", "name"] (spHasV CD CL) := by
  refine F.ok scHasV (fun vs H Q E h => ?_) (fun cdv A outer s H vs Q E hr h => ?_)
  · obtain ⟨p, q, s, i, n, rfl, _⟩ := h
    rfl
  · obtain ⟨p, q, s, i, n, rfl, hD, k⟩ := h
    have nd := scHasV.nd
    have hu := hu_of hr
    obtain ⟨dx, l, ls, vs, hp, hq, hl, hvs, _⟩ := hD.list
    refine ⟨_, (pss_one (ps_ret (pe_and (pe_methF M_is_there T.cl_Dial (hr.mono (by decide)) (pv 0) (pa_cons (pv 1) pa_nil)) (pe_one (pe_cmp (pc_din hu (pv 2) (pe_fld (pe_ix ix_list (pe_fld (pv 0) rfl) (pv 1) (fun _ _ => rfl)) rfl))))))), ?_⟩
    refine ⟨_, rfl, p, dx, _, rfl, hp, lk_no _ _ (by decide +kernel) (by decide +kernel), _, rfl, p, q, s, i, rfl, hD, _, rfl, ?_⟩
    cases hi : L2.inR s.1 i with
    | false =>
      rw [hi] at k
      exact iteF k
    | true =>
      refine iteT ?_
      obtain ⟨lp, ldx, d1, d2, e0, e1, e2, e3⟩ := lays_at hvs hi
      rw [hi, Bool.true_and] at k
      exact ⟨_, rfl, _, rfl, p, CD, dx, _, _, rfl, hp, T.cl_Dial, T.n_layers, lk_dl _ _, _, rfl, l, vs, _, _, rfl, rfl, SqL.of (of_hid hl).1, e0, lp, CL, ldx, _, _, rfl, (of_hid e1).1, T.cl_Layer, T.n_valued, lk_lv _ _, d1, _, rfl, DGet.k (k := Sum.inr n) (of_hid e2).1, k⟩
theorem scHasL : FnScope ["self", "number", "name"] ["self", "number", "name"] (defScope sHasL) := ⟨rfl, rfl, rfl, by decide +kernel, rfl, by decide +kernel, by decide +kernel⟩
theorem ok_hasl {f : Addr} {fd : FuncData} (F : Fun K "has_lock" "Dial.has_lock" sHasL f fd) (T : Txt K mg CL CD) (M_is_there : Mt P w K mg base 1 CD "is_there" ["self", "number"] (spThere CD CL)) : FnOk P w K mg base CX0 2 f fd ["self", "number", "name"] (spHasL CD CL) := by
  refine F.ok scHasL (fun vs H Q E h => ?_) (fun cdv A outer s H vs Q E hr h => ?_)
  · obtain ⟨p, q, s, i, n, rfl, _⟩ := h
    rfl
  · obtain ⟨p, q, s, i, n, rfl, hD, k⟩ := h
    have nd := scHasL.nd
    have hu := hu_of hr
    obtain ⟨dx, l, ls, vs, hp, hq, hl, hvs, _⟩ := hD.list
    refine ⟨_, (pss_one (ps_ret (pe_and (pe_methF M_is_there T.cl_Dial (hr.mono (by decide)) (pv 0) (pa_cons (pv 1) pa_nil)) (pe_one (pe_cmp (pc_din hu (pv 2) (pe_fld (pe_ix ix_list (pe_fld (pv 0) rfl) (pv 1) (fun _ _ => rfl)) rfl))))))), ?_⟩
    refine ⟨_, rfl, p, dx, _, rfl, hp, lk_no _ _ (by decide +kernel) (by decide +kernel), _, rfl, p, q, s, i, rfl, hD, _, rfl, ?_⟩
    cases hi : L2.inR s.1 i with
    | false =>
      rw [hi] at k
      exact iteF k
    | true =>
      refine iteT ?_
      obtain ⟨lp, ldx, d1, d2, e0, e1, e2, e3⟩ := lays_at hvs hi
      rw [hi, Bool.true_and] at k
      exact ⟨_, rfl, _, rfl, p, CD, dx, _, _, rfl, hp, T.cl_Dial, T.n_layers, lk_dl _ _, _, rfl, l, vs, _, _, rfl, rfl, SqL.of (of_hid hl).1, e0, lp, CL, ldx, _, _, rfl, (of_hid e1).1, T.cl_Layer, T.n_locked, lk_ll _ _, d2, _, rfl, DGet.k (k := Sum.inr n) (of_hid e3).1, k⟩
end
end K6
set_option Elab.async false
set_option linter.all false
set_option maxRecDepth 100000
set_option maxHeartbeats 4000000
namespace K6
open PySem L2 PySem.Spec PyProof.Rows
section
variable {P : Program} {w : World} {K : PySem.W.Frag} {mg : Str → Option Value} {base : Heap} {CL CD : Addr}
theorem scPut : FnScope ["self", "number", "valued", "locked"] ["self", "number", "valued", "locked"] (defScope sPut) := ⟨rfl, rfl, rfl, by decide +kernel, rfl, by decide +kernel, by decide +kernel⟩
theorem ok_put {f : Addr} {fd : FuncData} (F : Fun K "put" "Dial.put" sPut f fd) (T : Txt K mg CL CD) (M_Layer : Mc P w K mg base 1 CL "Layer" ["self", "valued", "locked"] (spLinit CL)) : FnOk P w K mg base CX0 3 f fd ["self", "number", "valued", "locked"] (spPut CD CL) := by
  refine F.ok scPut (fun vs H Q E h => ?_) (fun cdv A outer s H vs Q E hr h => ?_)
  · obtain ⟨p, q, s, i, d1, d2, kv, kl, rfl, _⟩ := h
    rfl
  · obtain ⟨p, q, s, i, d1, d2, kv, kl, rfl, hD, hi, g1, g2, hn1, hn2, k⟩ := h
    have nd := scPut.nd
    have hu := hu_of hr
    obtain ⟨dx, l, ls, vs, hp, hq, hl, hvs, hls⟩ := hD.list
    have hll := hvs.length
    have hlls := hls.length
    have npq : p ≠ q := ne_of hp hq (by intro z; cases z)
    obtain ⟨hl', nlp, nlq⟩ := of_hid hl
    refine ⟨_, (pss_cons (ps_expr (pe_bm PySem.F.plainAttrs_list PySem.F.slot_list_append PySem.F.type_list_append mt_append (pe_fld (pv 0) rfl) (pa_cons (pe_fld (pv 0) rfl) pa_nil)))
      (pss_cons (ps_fld (pv 0) (pe_op op_cat (pe_op op_cat (pe_slice sl_list (pe_fld (pv 0) rfl) po_none (po_some (pv 1))) (pe_lst (pa_cons (pe_makeF M_Layer (hr.mono (by decide)) (by rfl) (pa_cons (pv 2) (pa_cons (pv 3) pa_nil))) pa_nil))) (pe_slice sl_list (pe_fld (pv 0) rfl) (po_some (pe_op op_add (pv 1) pe_int)) po_none)) rfl)
      (pss_one (ps_ret pe_bl)))), ?_⟩
    refine ⟨_, rfl, p, CD, dx, _, _, rfl, hp, T.cl_Dial, T.n_past, lk_dp _ _, .inl ⟨rfl, _, SqL.of hq⟩, _, rfl, p, CD, dx, _, _, rfl, hp, T.cl_Dial, T.n_layers, lk_dl _ _, q, _, .ref l, rfl, rfl, hq, small' (by rw [List.length_map]; omega), ?_⟩
    have hp1 : (upd H q (.lst (ls.map V.ref ++ [.ref l]))) p = some (.ins CD dx (dfs (.ref l) (.ref q))) := by rw [upd_ne npq]; exact hp
    have hl1 : (upd H q (.lst (ls.map V.ref ++ [.ref l]))) l = some (.lst vs) := by rw [upd_ne nlq]; exact hl'
    have hq1 : (upd H q (.lst (ls.map V.ref ++ [.ref l]))) q = some (.lst (ls.map V.ref ++ [.ref l])) := upd_same
    have hh1 : hid p q (upd H q (.lst (ls.map V.ref ++ [.ref l]))) = hid p q H := hid_q
    generalize upd H q (.lst (ls.map V.ref ++ [.ref l])) = H1 at hp1 hl1 hq1 hh1
    have hi' := inR_iff.mp hi
    -- layers[:number] + [Layer(valued, locked)] + layers[number + 1:]
    refine ⟨_, rfl, p, CD, dx, _, _, rfl, hp1, T.cl_Dial, T.n_layers, lk_dl _ _, _, rfl, _, rfl, l, vs, rfl, SqL.of hl1, fun s1 hs1 => ?_⟩
    have S1 : Same H1 (upd H1 s1 (.lst (cutV vs none (some i)))) := Same.new hs1
    refine ⟨_, rfl, _, rfl, fun y dy hy hdy hne => ⟨y, dy, _, _, rfl, upd_same, rfl, ?_⟩⟩
    rw [upd_upd]
    have S2 : Same H1 (upd (upd (upd H1 s1 (.lst (cutV vs none (some i)))) dy (.own y)) y (.ins CL dy (lfs (.ref d1) (.ref d2)))) := fun b o z => by
      rw [upd_ne (ne_of_none (S1 _ _ z) hy), upd_ne (ne_of_none (S1 _ _ z) hdy)]
      exact S1 _ _ z
    have hs1y : s1 ≠ y := ne_of_none (H := upd H1 s1 (.lst (cutV vs none (some i)))) upd_same hy
    have hs1d : s1 ≠ dy := ne_of_none (H := upd H1 s1 (.lst (cutV vs none (some i)))) upd_same hdy
    have a1 : (upd (upd (upd H1 s1 (.lst (cutV vs none (some i)))) dy (.own y)) y (.ins CL dy (lfs (.ref d1) (.ref d2)))) s1 = some (.lst (cutV vs none (some i))) := by rw [upd_ne hs1y, upd_ne hs1d, upd_same]
    have a2 : (upd (upd (upd H1 s1 (.lst (cutV vs none (some i)))) dy (.own y)) y (.ins CL dy (lfs (.ref d1) (.ref d2)))) y = some (.ins CL dy (lfs (.ref d1) (.ref d2))) := upd_same
    generalize upd (upd (upd H1 s1 (.lst (cutV vs none (some i)))) dy (.own y)) y (.ins CL dy (lfs (.ref d1) (.ref d2))) = H2 at S2 a1 a2
    refine ⟨size1, fun s2 hs2 => ⟨s1, s2, _, _, rfl, rfl, by rw [upd_ne (ne_of_none a1 hs2)]; exact a1, upd_same, ?_, fun s3 hs3 => ?_⟩⟩
    · have := cutV_length vs none (some i)
      rw [List.length_singleton]
      exact small (by omega)
    have S3 : Same H2 (upd (upd H2 s2 (.lst [.ref y])) s3 (.lst (cutV vs none (some i) ++ [.ref y]))) := (Same.new hs2).trans (Same.new hs3)
    have a3 : (upd (upd H2 s2 (.lst [.ref y])) s3 (.lst (cutV vs none (some i) ++ [.ref y]))) s3 = some (.lst (cutV vs none (some i) ++ [.ref y])) := upd_same
    generalize upd (upd H2 s2 (.lst [.ref y])) s3 (.lst (cutV vs none (some i) ++ [.ref y])) = H3 at S3 a3
    have S13 := S2.trans S3
    refine ⟨_, rfl, p, CD, dx, _, _, rfl, S13 _ _ hp1, T.cl_Dial, T.n_layers, lk_dl _ _, _, rfl, _, _, rfl, rfl, _, rfl, l, vs, rfl, SqL.of (S13 _ _ hl1), fun s4 hs4 => ?_⟩
    refine ⟨s3, s4, _, _, rfl, rfl, by rw [upd_ne (ne_of_none a3 hs4)]; exact a3, upd_same, ?_, fun s5 hs5 => ?_⟩
    · have h1 := cutV_length vs none (some i)
      have h2 := cutV_length vs (some (i + 1)) none
      rw [List.length_append, List.length_singleton]
      exact small (by omega)
    have S5 : Same H3 (upd (upd H3 s4 (.lst (cutV vs (some (i + 1)) none))) s5 (.lst (cutV vs none (some i) ++ [.ref y] ++ cutV vs (some (i + 1)) none))) := (Same.new hs4).trans (Same.new hs5)
    have a5 : (upd (upd H3 s4 (.lst (cutV vs (some (i + 1)) none))) s5 (.lst (cutV vs none (some i) ++ [.ref y] ++ cutV vs (some (i + 1)) none))) s5 = some (.lst (vs.set i.toNat (.ref y))) := by rw [upd_same, set_cut hi'.1 (by omega)]
    generalize upd (upd H3 s4 (.lst (cutV vs (some (i + 1)) none))) s5 (.lst (cutV vs none (some i) ++ [.ref y] ++ cutV vs (some (i + 1)) none)) = H5 at S5 a5
    have S15 := S13.trans S5
    have hp5 := S15 _ _ hp1
    have hq5 := S15 _ _ hq1
    refine ⟨_, rfl, p, CD, dx, _, rfl, hp5, T.cl_Dial, T.n_layers, by show 2 < 1000; decide, ?_⟩
    rw [dfs_put]
    have hh : hid p q (upd H5 p (.ins CD dx (dfs (.ref s5) (.ref q)))) = hid p q H5 := hid_p
    have SS : Same (hid p q H) (hid p q (upd H5 p (.ins CD dx (dfs (.ref s5) (.ref q))))) := by rw [hh, ← hh1]; exact hid_same S15
    have ay := (S3.trans S5) _ _ a2
    have yp : y ≠ p := ne_of ay hp5 (by intro z; injection z with _ _ z; exact lfs_ne z)
    have yq : y ≠ q := ne_of ay hq5 (by intro z; cases z)
    have s5p : s5 ≠ p := ne_of a5 hp5 (by intro z; cases z)
    have s5q : s5 ≠ q := by
      rintro rfl
      have z1 := S13 _ _ hq1
      have z2 : (upd H3 s4 (.lst (cutV vs (some (i + 1)) none))) s5 = some (.lst (ls.map V.ref ++ [.ref l])) := Same.new hs4 _ _ z1
      rw [hs5] at z2
      cases z2
    refine k _ ⟨dx, s5, ls ++ [l], upd_same, ?_, ⟨vs.set i.toNat (.ref y), ?_, ?_⟩, ?_⟩ SS
    · rw [upd_ne (Ne.symm npq), hq5, List.map_append]
      rfl
    · rw [hh]
      exact hid_get a5 s5p s5q
    · refine Paired.set ⟨y, dy, d1, d2, rfl, ?_, SS _ _ g1, SS _ _ g2⟩ _ (Paired.mapP hvs fun v z hz => hz.same SS)
      rw [hh]
      exact hid_get ay yp yq
    · exact Paired.snoc' (Paired.mapP hls fun v z hz => hz.same SS) ⟨vs, SS _ _ hl, Paired.mapP hvs fun v z hz => hz.same SS⟩
theorem scSet : FnScope ["self", "number", "name", "value", "layer"] ["self", "number", "name", "value"] (defScope sSet) := ⟨rfl, rfl, rfl, by decide +kernel, rfl, by decide +kernel, by decide +kernel⟩
theorem ok_set {f : Addr} {fd : FuncData} (F : Fun K "set_value" "Dial.set_value" sSet f fd) (T : Txt K mg CL CD) (M_is_there : Mt P w K mg base 1 CD "is_there" ["self", "number"] (spThere CD CL)) (M_put : Mt P w K mg base 3 CD "put" ["self", "number", "valued", "locked"] (spPut CD CL)) (F_with_entry : Fn P w K mg base 1 "with_entry" ["entries", "name", "entry"] spWith) : FnOk P w K mg base CX0 4 f fd ["self", "number", "name", "value"] (spSet CD CL) := by
  refine F.ok scSet (fun vs H Q E h => ?_) (fun cdv A outer s H vs Q E hr h => ?_)
  · obtain ⟨p, q, s, i, n, v, rfl, _⟩ := h
    rfl
  · obtain ⟨p, q, s, i, n, v, rfl, m, hO, hm, hn1, hD, k⟩ := h
    have nd := scSet.nd
    have hu := hu_of hr
    obtain ⟨dx, l, ls, vs, hp, hq, hl, hvs, _⟩ := hD.list
    refine ⟨_, (pss_cons (ps_if (pt_not (pt_val (pe_methF M_is_there T.cl_Dial (hr.mono (by decide)) (pv 0) (pa_cons (pv 1) pa_nil))))
        (pss_one (ps_ret pe_bl))
        pss_nil)
      (pss_cons (ps_set (i := 4) nd rfl (Or.inl rfl) (pe_ix ix_list (pe_fld (pv 0) rfl) (pv 1) (fun _ _ => rfl)))
      (pss_one (ps_ret (pe_methF M_put T.cl_Dial (hr.mono (by decide)) (pv 0) (pa_cons (pv 1) (pa_cons (pe_callF F_with_entry (hr.mono (by decide)) (by rfl) (pa_cons (pe_fld (pv 4) rfl) (pa_cons (pv 2) (pa_cons (pv 3) pa_nil)))) (pa_cons (pe_fld (pv 4) rfl) pa_nil)))))))), ?_⟩
    refine ⟨_, rfl, p, dx, _, rfl, hp, lk_no _ _ (by decide +kernel) (by decide +kernel), _, rfl, p, q, s, i, rfl, hD, _, rfl, ?_⟩
    cases hi : L2.inR s.1 i with
    | false =>
      have e : nextM s (.set i n v) = (s, .b false) := by show didM s (stepM s.1 (.set i n v)) = _; simp only [stepM, hi]; rfl
      rw [e] at k
      exact iteT' rfl (k _ _ hD (.refl _) rfl)
    | true =>
      refine iteF' rfl ?_
      obtain ⟨lp, ldx, d1, d2, e0, e1, e2, e3⟩ := lays_at hvs hi
      have e : nextM s (.set i n v) = ((s.1.set i.toNat (putK (lay s.1 i).1 (Sum.inr n) (.int v), (lay s.1 i).2), s.2 ++ [s.1]), .b true) := by show didM s (stepM s.1 (.set i n v)) = _; simp only [stepM, hi, if_true]; rfl
      rw [e] at k
      have hL := hO.1.lay i
      refine ⟨_, rfl, p, CD, dx, _, _, rfl, hp, T.cl_Dial, T.n_layers, lk_dl _ _, _, rfl, l, vs, _, _, rfl, rfl, SqL.of (of_hid hl).1, e0, ?_⟩
      refine ⟨_, rfl, p, dx, _, rfl, hp, lk_no _ _ (by decide +kernel) (by decide +kernel), _, rfl, _, rfl, lp, CL, ldx, _, _, rfl, (of_hid e1).1, T.cl_Layer, T.n_valued, lk_lv _ _, _, rfl, _, rfl, d1, n, .int v, _, rfl, (of_hid e2).1, by omega, fun d hd => ?_⟩
      have S := Same.new (o := .dK (putK (lay s.1 i).1 (Sum.inr n) (.int v))) hd
      have S' := hid_new (p := p) (q := q) (o := .dK (putK (lay s.1 i).1 (Sum.inr n) (.int v))) hd
      refine ⟨_, rfl, lp, CL, ldx, _, _, rfl, S _ _ (of_hid e1).1, T.cl_Layer, T.n_locked, lk_ll _ _, p, q, s, i, d, d2, _, _, rfl, hD.same S, hi, hid_get upd_same (Ne.symm (ne_of_none hp hd)) (Ne.symm (ne_of_none hq hd)), S' _ _ e3, hn1, by have := hO.2.2; omega, fun H' hD' hS' => k _ _ hD' (S'.trans hS') rfl⟩
theorem scUnset : FnScope ["self", "number", "name", "layer"] ["self", "number", "name"] (defScope sUnset) := ⟨rfl, rfl, rfl, by decide +kernel, rfl, by decide +kernel, by decide +kernel⟩
theorem ok_unset {f : Addr} {fd : FuncData} (F : Fun K "unset_value" "Dial.unset_value" sUnset f fd) (T : Txt K mg CL CD) (M_has_value : Mt P w K mg base 2 CD "has_value" ["self", "number", "name"] (spHasV CD CL)) (M_put : Mt P w K mg base 3 CD "put" ["self", "number", "valued", "locked"] (spPut CD CL)) (F_without_entry : Fn P w K mg base 1 "without_entry" ["entries", "name"] spWithout) : FnOk P w K mg base CX0 4 f fd ["self", "number", "name"] (spUnset CD CL) := by
  refine F.ok scUnset (fun vs H Q E h => ?_) (fun cdv A outer s H vs Q E hr h => ?_)
  · obtain ⟨p, q, s, i, n, rfl, _⟩ := h
    rfl
  · obtain ⟨p, q, s, i, n, rfl, m, hO, hm, hn1, hD, k⟩ := h
    have nd := scUnset.nd
    have hu := hu_of hr
    obtain ⟨dx, l, ls, vs, hp, hq, hl, hvs, _⟩ := hD.list
    refine ⟨_, (pss_cons (ps_if (pt_not (pt_val (pe_methF M_has_value T.cl_Dial (hr.mono (by decide)) (pv 0) (pa_cons (pv 1) (pa_cons (pv 2) pa_nil)))))
        (pss_one (ps_ret pe_bl))
        pss_nil)
      (pss_cons (ps_set (i := 3) nd rfl (Or.inl rfl) (pe_ix ix_list (pe_fld (pv 0) rfl) (pv 1) (fun _ _ => rfl)))
      (pss_one (ps_ret (pe_methF M_put T.cl_Dial (hr.mono (by decide)) (pv 0) (pa_cons (pv 1) (pa_cons (pe_callF F_without_entry (hr.mono (by decide)) (by rfl) (pa_cons (pe_fld (pv 3) rfl) (pa_cons (pv 2) pa_nil))) (pa_cons (pe_fld (pv 3) rfl) pa_nil)))))))), ?_⟩
    refine ⟨_, rfl, p, dx, _, rfl, hp, lk_no _ _ (by decide +kernel) (by decide +kernel), _, rfl, _, rfl, p, q, s, i, n, rfl, hD, _, rfl, ?_⟩
    by_cases hb : L2.inR s.1 i = true ∧ has (lay s.1 i).1 n = true
    · obtain ⟨hi, hh⟩ := hb
      refine iteF' (by rw [hi, hh]; rfl) ?_
      obtain ⟨lp, ldx, d1, d2, e0, e1, e2, e3⟩ := lays_at hvs hi
      have e : nextM s (.unset i n) = ((s.1.set i.toNat (dropK (lay s.1 i).1 (Sum.inr n), (lay s.1 i).2), s.2 ++ [s.1]), .b true) := by show didM s (stepM s.1 (.unset i n)) = _; simp only [stepM, hi, hh, and_self, if_true]; rfl
      rw [e] at k
      obtain ⟨v, hv⟩ := has_some hh
      refine ⟨_, rfl, p, CD, dx, _, _, rfl, hp, T.cl_Dial, T.n_layers, lk_dl _ _, _, rfl, l, vs, _, _, rfl, rfl, SqL.of (of_hid hl).1, e0, ?_⟩
      refine ⟨_, rfl, p, dx, _, rfl, hp, lk_no _ _ (by decide +kernel) (by decide +kernel), _, rfl, _, rfl, lp, CL, ldx, _, _, rfl, (of_hid e1).1, T.cl_Layer, T.n_valued, lk_lv _ _, _, rfl, d1, n, v, _, rfl, (of_hid e2).1, hv, fun d hd => ?_⟩
      have S := Same.new (o := .dK (dropK (lay s.1 i).1 (Sum.inr n))) hd
      have S' := hid_new (p := p) (q := q) (o := .dK (dropK (lay s.1 i).1 (Sum.inr n))) hd
      refine ⟨_, rfl, lp, CL, ldx, _, _, rfl, S _ _ (of_hid e1).1, T.cl_Layer, T.n_locked, lk_ll _ _, p, q, s, i, d, d2, _, _, rfl, hD.same S, hi, hid_get upd_same (Ne.symm (ne_of_none hp hd)) (Ne.symm (ne_of_none hq hd)), S' _ _ e3, hn1, by have := hO.2.2; omega, fun H' hD' hS' => k _ _ hD' (S'.trans hS') rfl⟩
    · have e : nextM s (.unset i n) = (s, .b false) := by show didM s (stepM s.1 (.unset i n)) = _; simp only [stepM, if_neg hb]; rfl
      rw [e] at k
      refine iteT' ?_ (k _ _ hD (.refl _) rfl)
      cases h1 : L2.inR s.1 i <;> cases h2 : has (lay s.1 i).1 n <;> simp_all
theorem scLock : FnScope ["self", "number", "name", "layer"] ["self", "number", "name"] (defScope sLock) := ⟨rfl, rfl, rfl, by decide +kernel, rfl, by decide +kernel, by decide +kernel⟩
theorem ok_lock {f : Addr} {fd : FuncData} (F : Fun K "lock" "Dial.lock" sLock f fd) (T : Txt K mg CL CD) (M_is_there : Mt P w K mg base 1 CD "is_there" ["self", "number"] (spThere CD CL)) (M_has_lock : Mt P w K mg base 2 CD "has_lock" ["self", "number", "name"] (spHasL CD CL)) (M_put : Mt P w K mg base 3 CD "put" ["self", "number", "valued", "locked"] (spPut CD CL)) (F_with_entry : Fn P w K mg base 1 "with_entry" ["entries", "name", "entry"] spWith) : FnOk P w K mg base CX0 4 f fd ["self", "number", "name"] (spLock CD CL) := by
  refine F.ok scLock (fun vs H Q E h => ?_) (fun cdv A outer s H vs Q E hr h => ?_)
  · obtain ⟨p, q, s, i, n, rfl, _⟩ := h
    rfl
  · obtain ⟨p, q, s, i, n, rfl, m, hO, hm, hn1, hD, k⟩ := h
    have nd := scLock.nd
    have hu := hu_of hr
    obtain ⟨dx, l, ls, vs, hp, hq, hl, hvs, _⟩ := hD.list
    refine ⟨_, (pss_cons (ps_if (PW.pt (pw_or (pt_not (pt_val (pe_methF M_is_there T.cl_Dial (hr.mono (by decide)) (pv 0) (pa_cons (pv 1) pa_nil)))) (pw_or1 (pt_val (pe_methF M_has_lock T.cl_Dial (hr.mono (by decide)) (pv 0) (pa_cons (pv 1) (pa_cons (pv 2) pa_nil)))))))
        (pss_one (ps_ret pe_bl))
        pss_nil)
      (pss_cons (ps_set (i := 3) nd rfl (Or.inl rfl) (pe_ix ix_list (pe_fld (pv 0) rfl) (pv 1) (fun _ _ => rfl)))
      (pss_one (ps_ret (pe_methF M_put T.cl_Dial (hr.mono (by decide)) (pv 0) (pa_cons (pv 1) (pa_cons (pe_fld (pv 3) rfl) (pa_cons (pe_callF F_with_entry (hr.mono (by decide)) (by rfl) (pa_cons (pe_fld (pv 3) rfl) (pa_cons (pv 2) (pa_cons pe_bl pa_nil)))) pa_nil)))))))), ?_⟩
    refine ⟨_, rfl, p, dx, _, rfl, hp, lk_no _ _ (by decide +kernel) (by decide +kernel), _, rfl, p, q, s, i, rfl, hD, _, rfl, ?_⟩
    cases hi : L2.inR s.1 i with
    | false =>
      have e : nextM s (.lock i n) = (s, .b false) := by show didM s (stepM s.1 (.lock i n)) = _; simp only [stepM, hi]; rfl
      rw [e] at k
      exact iteT' rfl (iteT (k _ _ hD (.refl _) rfl))
    | true =>
      refine iteF' rfl ?_
      refine ⟨_, rfl, p, dx, _, rfl, hp, lk_no _ _ (by decide +kernel) (by decide +kernel), _, rfl, _, rfl, p, q, s, i, n, rfl, hD, _, rfl, ?_⟩
      rw [hi, Bool.true_and]
      cases hh : has (lay s.1 i).2 n with
      | true =>
        have e : nextM s (.lock i n) = (s, .b false) := by show didM s (stepM s.1 (.lock i n)) = _; simp only [stepM, hi, hh]; rfl
        rw [e] at k
        exact iteT (k _ _ hD (.refl _) rfl)
      | false =>
        refine iteF ?_
        obtain ⟨lp, ldx, d1, d2, e0, e1, e2, e3⟩ := lays_at hvs hi
        have e : nextM s (.lock i n) = ((s.1.set i.toNat ((lay s.1 i).1, putK (lay s.1 i).2 (Sum.inr n) (.bl true)), s.2 ++ [s.1]), .b true) := by show didM s (stepM s.1 (.lock i n)) = _; simp only [stepM, hi, hh, and_self, if_true]; rfl
        rw [e] at k
        have hL := hO.1.lay i
        refine ⟨_, rfl, p, CD, dx, _, _, rfl, hp, T.cl_Dial, T.n_layers, lk_dl _ _, _, rfl, l, vs, _, _, rfl, rfl, SqL.of (of_hid hl).1, e0, ?_⟩
        refine ⟨_, rfl, p, dx, _, rfl, hp, lk_no _ _ (by decide +kernel) (by decide +kernel), _, rfl, _, rfl, lp, CL, ldx, _, _, rfl, (of_hid e1).1, T.cl_Layer, T.n_valued, lk_lv _ _, _, rfl, lp, CL, ldx, _, _, rfl, (of_hid e1).1, T.cl_Layer, T.n_locked, lk_ll _ _, _, rfl, d2, n, .bl true, _, rfl, (of_hid e3).1, by omega, fun d hd => ?_⟩
        have S := Same.new (o := .dK (putK (lay s.1 i).2 (Sum.inr n) (.bl true))) hd
        have S' := hid_new (p := p) (q := q) (o := .dK (putK (lay s.1 i).2 (Sum.inr n) (.bl true))) hd
        refine ⟨p, q, s, i, d1, d, _, _, rfl, hD.same S, hi, S' _ _ e2, hid_get upd_same (Ne.symm (ne_of_none hp hd)) (Ne.symm (ne_of_none hq hd)), hn1, by have := hO.2.2; omega, fun H' hD' hS' => k _ _ hD' (S'.trans hS') rfl⟩
theorem scUnlock : FnScope ["self", "number", "name", "layer"] ["self", "number", "name"] (defScope sUnlock) := ⟨rfl, rfl, rfl, by decide +kernel, rfl, by decide +kernel, by decide +kernel⟩
theorem ok_unlock {f : Addr} {fd : FuncData} (F : Fun K "unlock" "Dial.unlock" sUnlock f fd) (T : Txt K mg CL CD) (M_has_lock : Mt P w K mg base 2 CD "has_lock" ["self", "number", "name"] (spHasL CD CL)) (M_put : Mt P w K mg base 3 CD "put" ["self", "number", "valued", "locked"] (spPut CD CL)) (F_without_entry : Fn P w K mg base 1 "without_entry" ["entries", "name"] spWithout) : FnOk P w K mg base CX0 4 f fd ["self", "number", "name"] (spUnlock CD CL) := by
  refine F.ok scUnlock (fun vs H Q E h => ?_) (fun cdv A outer s H vs Q E hr h => ?_)
  · obtain ⟨p, q, s, i, n, rfl, _⟩ := h
    rfl
  · obtain ⟨p, q, s, i, n, rfl, m, hO, hm, hn1, hD, k⟩ := h
    have nd := scUnlock.nd
    have hu := hu_of hr
    obtain ⟨dx, l, ls, vs, hp, hq, hl, hvs, _⟩ := hD.list
    refine ⟨_, (pss_cons (ps_if (pt_not (pt_val (pe_methF M_has_lock T.cl_Dial (hr.mono (by decide)) (pv 0) (pa_cons (pv 1) (pa_cons (pv 2) pa_nil)))))
        (pss_one (ps_ret pe_bl))
        pss_nil)
      (pss_cons (ps_set (i := 3) nd rfl (Or.inl rfl) (pe_ix ix_list (pe_fld (pv 0) rfl) (pv 1) (fun _ _ => rfl)))
      (pss_one (ps_ret (pe_methF M_put T.cl_Dial (hr.mono (by decide)) (pv 0) (pa_cons (pv 1) (pa_cons (pe_fld (pv 3) rfl) (pa_cons (pe_callF F_without_entry (hr.mono (by decide)) (by rfl) (pa_cons (pe_fld (pv 3) rfl) (pa_cons (pv 2) pa_nil))) pa_nil)))))))), ?_⟩
    refine ⟨_, rfl, p, dx, _, rfl, hp, lk_no _ _ (by decide +kernel) (by decide +kernel), _, rfl, _, rfl, p, q, s, i, n, rfl, hD, _, rfl, ?_⟩
    by_cases hb : L2.inR s.1 i = true ∧ has (lay s.1 i).2 n = true
    · obtain ⟨hi, hh⟩ := hb
      refine iteF' (by rw [hi, hh]; rfl) ?_
      obtain ⟨lp, ldx, d1, d2, e0, e1, e2, e3⟩ := lays_at hvs hi
      have e : nextM s (.unlock i n) = ((s.1.set i.toNat ((lay s.1 i).1, dropK (lay s.1 i).2 (Sum.inr n)), s.2 ++ [s.1]), .b true) := by show didM s (stepM s.1 (.unlock i n)) = _; simp only [stepM, hi, hh, and_self, if_true]; rfl
      rw [e] at k
      obtain ⟨v, hv⟩ := has_some hh
      refine ⟨_, rfl, p, CD, dx, _, _, rfl, hp, T.cl_Dial, T.n_layers, lk_dl _ _, _, rfl, l, vs, _, _, rfl, rfl, SqL.of (of_hid hl).1, e0, ?_⟩
      refine ⟨_, rfl, p, dx, _, rfl, hp, lk_no _ _ (by decide +kernel) (by decide +kernel), _, rfl, _, rfl, lp, CL, ldx, _, _, rfl, (of_hid e1).1, T.cl_Layer, T.n_valued, lk_lv _ _, _, rfl, lp, CL, ldx, _, _, rfl, (of_hid e1).1, T.cl_Layer, T.n_locked, lk_ll _ _, _, rfl, d2, n, v, _, rfl, (of_hid e3).1, hv, fun d hd => ?_⟩
      have S := Same.new (o := .dK (dropK (lay s.1 i).2 (Sum.inr n))) hd
      have S' := hid_new (p := p) (q := q) (o := .dK (dropK (lay s.1 i).2 (Sum.inr n))) hd
      refine ⟨p, q, s, i, d1, d, _, _, rfl, hD.same S, hi, S' _ _ e2, hid_get upd_same (Ne.symm (ne_of_none hp hd)) (Ne.symm (ne_of_none hq hd)), hn1, by have := hO.2.2; omega, fun H' hD' hS' => k _ _ hD' (S'.trans hS') rfl⟩
    · have e : nextM s (.unlock i n) = (s, .b false) := by show didM s (stepM s.1 (.unlock i n)) = _; simp only [stepM, if_neg hb]; rfl
      rw [e] at k
      refine iteT' ?_ (k _ _ hD (.refl _) rfl)
      cases h1 : L2.inR s.1 i <;> cases h2 : has (lay s.1 i).2 n <;> simp_all
theorem scCopy : FnScope ["self", "one", "other"] ["self", "one", "other"] (defScope sCopy) := ⟨rfl, rfl, rfl, by decide +kernel, rfl, by decide +kernel, by decide +kernel⟩
theorem ok_copy {f : Addr} {fd : FuncData} (F : Fun K "copy_values" "Dial.copy_values" sCopy f fd) (T : Txt K mg CL CD) (M_is_there : Mt P w K mg base 1 CD "is_there" ["self", "number"] (spThere CD CL)) (M_put : Mt P w K mg base 3 CD "put" ["self", "number", "valued", "locked"] (spPut CD CL)) : FnOk P w K mg base CX0 4 f fd ["self", "one", "other"] (spCopy CD CL) := by
  refine F.ok scCopy (fun vs H Q E h => ?_) (fun cdv A outer s H vs Q E hr h => ?_)
  · obtain ⟨p, q, s, a, b, rfl, _⟩ := h
    rfl
  · obtain ⟨p, q, s, a, b, rfl, m, hO, hm, hn1, hD, k⟩ := h
    have nd := scCopy.nd
    have hu := hu_of hr
    obtain ⟨dx, l, ls, vs, hp, hq, hl, hvs, _⟩ := hD.list
    refine ⟨_, (pss_cons (ps_if (PW.pt (pw_or (pt_not (pt_val (pe_methF M_is_there T.cl_Dial (hr.mono (by decide)) (pv 0) (pa_cons (pv 1) pa_nil)))) (pw_or (pt_not (pt_val (pe_methF M_is_there T.cl_Dial (hr.mono (by decide)) (pv 0) (pa_cons (pv 2) pa_nil)))) (pw_or1 (pt_cmpR op_eq (pv 1) (pv 2) (nomark _))))))
        (pss_one (ps_ret pe_bl))
        pss_nil)
      (pss_one (ps_ret (pe_methF M_put T.cl_Dial (hr.mono (by decide)) (pv 0) (pa_cons (pv 2) (pa_cons (pe_fld (pe_ix ix_list (pe_fld (pv 0) rfl) (pv 1) (fun _ _ => rfl)) rfl) (pa_cons (pe_fld (pe_ix ix_list (pe_fld (pv 0) rfl) (pv 2) (fun _ _ => rfl)) rfl) pa_nil))))))), ?_⟩
    have no : (¬ (L2.inR s.1 a = true ∧ L2.inR s.1 b = true ∧ a ≠ b)) → Q (.bl false) H := fun hb => by
      have e : nextM s (.copy a b) = (s, .b false) := by show didM s (stepM s.1 (.copy a b)) = _; simp only [stepM, if_neg hb]; rfl
      rw [e] at k
      exact k _ _ hD (.refl _) rfl
    refine ⟨_, rfl, p, dx, _, rfl, hp, lk_no _ _ (by decide +kernel) (by decide +kernel), _, rfl, p, q, s, a, rfl, hD, _, rfl, ?_⟩
    cases ha : L2.inR s.1 a with
    | false => exact iteT' rfl (iteT (no (by rw [ha]; simp)))
    | true =>
      refine iteF' rfl ?_
      refine ⟨_, rfl, p, dx, _, rfl, hp, lk_no _ _ (by decide +kernel) (by decide +kernel), _, rfl, p, q, s, b, rfl, hD, _, rfl, ?_⟩
      cases hb : L2.inR s.1 b with
      | false => exact iteT' rfl (iteT (no (by rw [hb]; simp)))
      | true =>
        refine iteF' rfl ?_
        refine ⟨_, rfl, _, rfl, rfl, _, rfl, ?_⟩
        by_cases hab : a = b
        · exact iteT' (by rw [hab]; simp) (no (fun z => z.2.2 hab))
        · refine iteF' (decide_eq_false (fun z => hab (V.int.inj z))) ?_
          have e : nextM s (.copy a b) = ((s.1.set b.toNat ((lay s.1 a).1, (lay s.1 b).2), s.2 ++ [s.1]), .b true) := by show didM s (stepM s.1 (.copy a b)) = _; simp only [stepM]; rw [if_pos ⟨ha, hb, hab⟩]; rfl
          rw [e] at k
          obtain ⟨lp, ldx, d1, d2, e0, e1, e2, e3⟩ := lays_at hvs ha
          obtain ⟨lp', ldx', d1', d2', e0', e1', e2', e3'⟩ := lays_at hvs hb
          refine ⟨_, rfl, p, dx, _, rfl, hp, lk_no _ _ (by decide +kernel) (by decide +kernel), _, rfl, _, rfl, p, CD, dx, _, _, rfl, hp, T.cl_Dial, T.n_layers, lk_dl _ _, _, rfl, l, vs, _, _, rfl, rfl, SqL.of (of_hid hl).1, e0, lp, CL, ldx, _, _, rfl, (of_hid e1).1, T.cl_Layer, T.n_valued, lk_lv _ _,
            _, rfl, p, CD, dx, _, _, rfl, hp, T.cl_Dial, T.n_layers, lk_dl _ _, _, rfl, l, vs, _, _, rfl, rfl, SqL.of (of_hid hl).1, e0', lp', CL, ldx', _, _, rfl, (of_hid e1').1, T.cl_Layer, T.n_locked, lk_ll _ _, p, q, s, b, d1, d2', _, _, rfl, hD, hb, e2, e3', hn1, by have := hO.2.2; omega, fun H' hD' hS' => k _ _ hD' hS' rfl⟩
theorem scUndo : FnScope ["self"] ["self"] (defScope sUndo) := ⟨rfl, rfl, rfl, by decide +kernel, rfl, by decide +kernel, by decide +kernel⟩
theorem ok_undo {f : Addr} {fd : FuncData} (F : Fun K "undo" "Dial.undo" sUndo f fd) (T : Txt K mg CL CD) : FnOk P w K mg base CX0 1 f fd ["self"] (spUndo CD CL) := by
  refine F.ok scUndo (fun vs H Q E h => ?_) (fun cdv A outer s H vs Q E hr h => ?_)
  · obtain ⟨p, q, s, rfl, _⟩ := h
    rfl
  · obtain ⟨p, q, s, rfl, m, hO, hm, hn1, hD, k⟩ := h
    have nd := scUndo.nd
    have hu := hu_of hr
    obtain ⟨dx, l, ls, vs, hp, hq, hl, hvs, hls⟩ := hD.list
    have npq : p ≠ q := ne_of hp hq (by intro z; cases z)
    have hlls := hls.length
    refine ⟨_, (pss_cons (ps_if (pt_cmpR op_eq (pe_callB call_len_seq (by rfl) T.b_len PySem.boot_len (pa_cons (pe_fld (pv 0) rfl) pa_nil)) pe_int (nomark _))
        (pss_one (ps_ret pe_bl))
        pss_nil)
      (pss_cons (ps_fld (pv 0) (pe_bm0 PySem.F.plainAttrs_list PySem.F.slot_list_pop PySem.F.type_list_pop mt_pop (pe_fld (pv 0) rfl)) rfl)
      (pss_one (ps_ret pe_bl)))), ?_⟩
    refine ⟨_, rfl, p, CD, dx, _, _, rfl, hp, T.cl_Dial, T.n_past, lk_dp _ _, q, _, rfl, .inl (SqL.of hq), rfl, _, rfl, ?_⟩
    by_cases he : s.2 = []
    · have e : nextM s .undo = (s, .b false) := by show undoM s = _; unfold undoM; rw [he]; rfl
      rw [e] at k
      refine iteT' ?_ (k _ _ hD (.refl _) rfl)
      rw [List.length_map, hlls, he]
      rfl
    · have hne : ls ≠ [] := by
        rintro rfl
        exact he (List.eq_nil_of_length_eq_zero hlls.symm)
      obtain ⟨ls', l', past', st', e1, e2, hls', hl'⟩ := Paired.last hls hne
      subst e1
      have e : nextM s .undo = ((st', past'), .b true) := by show undoM s = _; unfold undoM; rw [e2]; simp
      rw [e] at k
      refine iteF' ?_ ?_
      · rw [List.length_map]
        exact decide_eq_false (fun z => by have := V.int.inj z; simp at this; omega)
      have e3 : (ls' ++ [l']).map V.ref = ls'.map V.ref ++ [V.ref l'] := by rw [List.map_append]; rfl
      rw [e3] at hq
      refine ⟨_, rfl, p, CD, dx, _, _, rfl, hp, T.cl_Dial, T.n_past, lk_dp _ _, .inl ⟨rfl, _, SqL.of hq⟩, q, _, .ref l', rfl, rfl, hq, by simp, _, rfl, p, CD, dx, _, rfl, by rw [upd_ne npq]; exact hp, T.cl_Dial, T.n_layers, by show 2 < 1000; decide, ?_⟩
      rw [dfs_put, List.dropLast_concat]
      have hh : hid p q (upd (upd H q (.lst (ls'.map V.ref))) p (.ins CD dx (dfs (.ref l') (.ref q)))) = hid p q H := by rw [hid_p, hid_q]
      refine k _ _ ⟨dx, l', ls', upd_same, by rw [upd_ne (Ne.symm npq), upd_same], ?_, ?_⟩ ?_ rfl
      · rw [hh]; exact hl'
      · rw [hh]; exact hls'
      · rw [hh]; exact .refl _
theorem scHolds : FnScope ["self", "name"] ["self", "name"] (defScope sHolds) := ⟨rfl, rfl, rfl, by decide +kernel, rfl, by decide +kernel, by decide +kernel⟩
theorem ok_holds {f : Addr} {fd : FuncData} (F : Fun K "holds" "Dial.holds" sHolds f fd) (T : Txt K mg CL CD) (F_decided : Fn P w K mg base 1 "decided" ["row"] spDec) : FnOk P w K mg base CX0 2 f fd ["self", "name"] (spHolds CD CL) := by
  refine F.ok scHolds (fun vs H Q E h => ?_) (fun cdv A outer s H vs Q E hr h => ?_)
  · obtain ⟨p, q, s, n, rfl, _⟩ := h
    rfl
  · obtain ⟨p, q, s, n, rfl, m, hO, hm, hn1, hD, k⟩ := h
    have nd := scHolds.nd
    have hu := hu_of hr
    obtain ⟨dx, l, ls, vs, hp, hq, hl, hvs, hls⟩ := hD.list
    have hll := hvs.length
    refine ⟨_, (pss_one (ps_ret (pe_callF F_decided (hr.mono (by decide)) (by rfl) (pa_cons (pe_comp rfl (CompSc.of (esc := defScope sHolds) (fr := ["name"]) (cap := [1]) rfl rfl ⟨rfl, by decide, by decide, rfl, by decide, by decide, .cons ⟨rfl, rfl⟩ (.nil)⟩) (pi_list (pe_fld (pv 0) rfl)) (fun _ _ _ _ _ => pts_nil) (fun _ _ _ _ _ => (pe_tup (pa_cons (pe_dget1 hu (pe_fldK K rfl (pv 0) rfl) (pv 1) ⟨rfl, rfl, rfl, rfl⟩) (pa_cons (pe_cmp (pc_din hu (pv 1) (pe_fldK K rfl (pv 0) rfl))) pa_nil))))) pa_nil)))), ?_⟩
    refine ⟨_, rfl, p, CD, dx, _, _, rfl, hp, T.cl_Dial, T.n_layers, lk_dl _ _, l, rfl, ⟨_, SqL.of (of_hid hl).1⟩, fun D hD0 => comp_list (xs := vs) (fun i ys H' => Same H H' ∧ H' D = some (.lst ys) ∧ TupsAt H' ys (rowE ((rowM s.1 n).take i))) ⟨Same.new hD0, upd_same, .nil⟩ ?_ ?_ ?_⟩
    · rintro i ys H' hi ⟨s1, e, ht⟩
      have := ht.length
      rw [rowE, List.length_map, List.length_take] at this
      exact ⟨SqL.of (s1 _ _ (of_hid hl).1), e, small' (by omega)⟩
    · rintro i x ys H1 hx ⟨s1, e, ht⟩
      obtain ⟨z, hz, lp, ldx, d1, d2, rfl, e1, e2, e3⟩ := Paired.getL hvs hx
      have f1 := s1 _ _ (of_hid e1).1
      have f2 := s1 _ _ (of_hid e2).1
      have f3 := s1 _ _ (of_hid e3).1
      refine comp_yes ?_
      refine ⟨_, rfl, lp, CL, ldx, _, _, rfl, f1, T.cl_Layer, T.n_valued, lk_lv _ _, d1, rfl, .inl ⟨_, .inl f2⟩, _, rfl, _, DGet.k (k := Sum.inr n) f2, _, rfl, _, rfl, lp, CL, ldx, _, _, rfl, f1, T.cl_Layer, T.n_locked, lk_ll _ _, d2, _, rfl, DGet.k (k := Sum.inr n) f3, size2, fun t ht0 => ?_⟩
      have nDt : D ≠ t := ne_of_none e ht0
      refine ⟨by rw [upd_ne nDt]; exact e, (s1.trans (Same.new ht0)).upd hD0, upd_same, ?_⟩
      have hrow : (rowM s.1 n)[i]? = some (valI z.1 n, has z.2 n) := by rw [rowM, List.getElem?_map, hz]; rfl
      rw [List.take_add_one, hrow, rowE, List.map_append]
      refine Paired.snoc' (TupsAt.tk ht ((Tk.new ht0).trans (Tk.lst (xs := ys) (by rw [upd_ne nDt]; exact e)))) ⟨t, rfl, ?_⟩
      rw [upd_ne (Ne.symm nDt), upd_same, valI_ov (hO.1 z (List.mem_of_getElem? hz)).1.2]
      rfl
    · rintro ys H2 ⟨s2, e, ht⟩
      have hl3 : (rowM s.1 n).take vs.length = rowM s.1 n := List.take_of_length_le (by rw [rowM, List.length_map]; omega)
      rw [hl3] at ht
      refine ⟨D, ys, _, rfl, e, ht, fun r H' s3 hv => ?_⟩
      have s4 := s2.trans s3
      exact k r H' (hD.same s4) (hid_same s4) hv
end
end K6
set_option Elab.async false
set_option linter.all false
set_option maxRecDepth 100000
set_option maxHeartbeats 4000000
namespace K6
open PySem L2 PySem.Spec PyProof.Rows
section
variable {P : Program} {w : World} {K : PySem.W.Frag} {mg : Str → Option Value} {base : Heap} {CL CD : Addr}
theorem scAnswer : FnScope ["settings", "deed", "kind"] ["settings", "deed"] (defScope sAnswer) := ⟨rfl, rfl, rfl, by decide +kernel, rfl, by decide +kernel, by decide +kernel⟩
theorem ok_answer {f : Addr} {fd : FuncData} (F : Fun K "answer" "answer" sAnswer f fd) (T : Txt K mg CL CD) (M_set_value : Mt P w K mg base 4 CD "set_value" ["self", "number", "name", "value"] (spSet CD CL)) (M_unset_value : Mt P w K mg base 4 CD "unset_value" ["self", "number", "name"] (spUnset CD CL)) (M_lock : Mt P w K mg base 4 CD "lock" ["self", "number", "name"] (spLock CD CL)) (M_unlock : Mt P w K mg base 4 CD "unlock" ["self", "number", "name"] (spUnlock CD CL)) (M_copy_values : Mt P w K mg base 4 CD "copy_values" ["self", "one", "other"] (spCopy CD CL)) (M_undo : Mt P w K mg base 1 CD "undo" ["self"] (spUndo CD CL)) (M_holds : Mt P w K mg base 2 CD "holds" ["self", "name"] (spHolds CD CL)) : FnOk P w K mg base CX0 5 f fd ["settings", "deed"] (spAnswer CD CL) := by
  refine F.ok scAnswer (fun vs H Q E h => ?_) (fun cdv A outer s H vs Q E hr h => ?_)
  · obtain ⟨p, q, s, t, d, rfl, _⟩ := h
    rfl
  · obtain ⟨p, q, s, t, d, rfl, ht, hDo⟩ := h
    have nd := scAnswer.nd
    have hu := hu_of hr
    obtain ⟨m, hO, hm, hn1, hD, k⟩ := id hDo
    obtain ⟨dx, l, ls, vs, hp, hq, hl, hvs, hls⟩ := hD.list
    refine ⟨_, (pss_cons (ps_set (i := 2) nd rfl (Or.inl rfl) (pe_ix ix_tup (pv 1) pe_int (fun _ _ => rfl)))
      (pss_cons (ps_if (pt_cmpR op_eq (pv 2) pe_str (nomark _))
        (pss_one (ps_ret (pe_methF M_set_value T.cl_Dial (hr.mono (by decide)) (pv 0) (pa_cons (pe_ix ix_tup (pv 1) pe_int (fun _ _ => rfl)) (pa_cons (pe_ix ix_tup (pv 1) pe_int (fun _ _ => rfl)) (pa_cons (pe_ix ix_tup (pv 1) pe_int (fun _ _ => rfl)) pa_nil))))))
        pss_nil)
      (pss_cons (ps_if (pt_cmpR op_eq (pv 2) pe_str (nomark _))
        (pss_one (ps_ret (pe_methF M_unset_value T.cl_Dial (hr.mono (by decide)) (pv 0) (pa_cons (pe_ix ix_tup (pv 1) pe_int (fun _ _ => rfl)) (pa_cons (pe_ix ix_tup (pv 1) pe_int (fun _ _ => rfl)) pa_nil)))))
        pss_nil)
      (pss_cons (ps_if (pt_cmpR op_eq (pv 2) pe_str (nomark _))
        (pss_one (ps_ret (pe_methF M_lock T.cl_Dial (hr.mono (by decide)) (pv 0) (pa_cons (pe_ix ix_tup (pv 1) pe_int (fun _ _ => rfl)) (pa_cons (pe_ix ix_tup (pv 1) pe_int (fun _ _ => rfl)) pa_nil)))))
        pss_nil)
      (pss_cons (ps_if (pt_cmpR op_eq (pv 2) pe_str (nomark _))
        (pss_one (ps_ret (pe_methF M_unlock T.cl_Dial (hr.mono (by decide)) (pv 0) (pa_cons (pe_ix ix_tup (pv 1) pe_int (fun _ _ => rfl)) (pa_cons (pe_ix ix_tup (pv 1) pe_int (fun _ _ => rfl)) pa_nil)))))
        pss_nil)
      (pss_cons (ps_if (pt_cmpR op_eq (pv 2) pe_str (nomark _))
        (pss_one (ps_ret (pe_methF M_copy_values T.cl_Dial (hr.mono (by decide)) (pv 0) (pa_cons (pe_ix ix_tup (pv 1) pe_int (fun _ _ => rfl)) (pa_cons (pe_ix ix_tup (pv 1) pe_int (fun _ _ => rfl)) pa_nil)))))
        pss_nil)
      (pss_cons (ps_if (pt_cmpR op_eq (pv 2) pe_str (nomark _))
        (pss_one (ps_ret (pe_methF0 M_undo T.cl_Dial (hr.mono (by decide)) (pv 0))))
        pss_nil)
      (pss_one (ps_ret (pe_methF M_holds T.cl_Dial (hr.mono (by decide)) (pv 0) (pa_cons (pe_ix ix_tup (pv 1) pe_int (fun _ _ => rfl)) pa_nil))))))))))), ?_⟩
    cases d with
    | set i n v =>
      refine ⟨_, rfl, t, _, _, _, rfl, rfl, SqT.of ht, rfl, ?_⟩
      refine ⟨_, rfl, rfl, _, rfl, iteT' (by decide +kernel) ?_⟩
      exact ⟨_, rfl, p, dx, _, rfl, hp, lk_no _ _ (by decide +kernel) (by decide +kernel), _, rfl, t, _, _, _, rfl, rfl, SqT.of ht, rfl, _, rfl, t, _, _, _, rfl, rfl, SqT.of ht, rfl, _, rfl, t, _, _, _, rfl, rfl, SqT.of ht, rfl, p, q, s, i, n, v, rfl, hDo⟩
    | unset i n =>
      refine ⟨_, rfl, t, _, _, _, rfl, rfl, SqT.of ht, rfl, ?_⟩
      refine ⟨_, rfl, rfl, _, rfl, iteF' (by decide +kernel) ?_⟩
      refine ⟨_, rfl, rfl, _, rfl, iteT' (by decide +kernel) ?_⟩
      exact ⟨_, rfl, p, dx, _, rfl, hp, lk_no _ _ (by decide +kernel) (by decide +kernel), _, rfl, t, _, _, _, rfl, rfl, SqT.of ht, rfl, _, rfl, t, _, _, _, rfl, rfl, SqT.of ht, rfl, p, q, s, i, n, rfl, hDo⟩
    | lock i n =>
      refine ⟨_, rfl, t, _, _, _, rfl, rfl, SqT.of ht, rfl, ?_⟩
      refine ⟨_, rfl, rfl, _, rfl, iteF' (by decide +kernel) ?_⟩
      refine ⟨_, rfl, rfl, _, rfl, iteF' (by decide +kernel) ?_⟩
      refine ⟨_, rfl, rfl, _, rfl, iteT' (by decide +kernel) ?_⟩
      exact ⟨_, rfl, p, dx, _, rfl, hp, lk_no _ _ (by decide +kernel) (by decide +kernel), _, rfl, t, _, _, _, rfl, rfl, SqT.of ht, rfl, _, rfl, t, _, _, _, rfl, rfl, SqT.of ht, rfl, p, q, s, i, n, rfl, hDo⟩
    | unlock i n =>
      refine ⟨_, rfl, t, _, _, _, rfl, rfl, SqT.of ht, rfl, ?_⟩
      refine ⟨_, rfl, rfl, _, rfl, iteF' (by decide +kernel) ?_⟩
      refine ⟨_, rfl, rfl, _, rfl, iteF' (by decide +kernel) ?_⟩
      refine ⟨_, rfl, rfl, _, rfl, iteF' (by decide +kernel) ?_⟩
      refine ⟨_, rfl, rfl, _, rfl, iteT' (by decide +kernel) ?_⟩
      exact ⟨_, rfl, p, dx, _, rfl, hp, lk_no _ _ (by decide +kernel) (by decide +kernel), _, rfl, t, _, _, _, rfl, rfl, SqT.of ht, rfl, _, rfl, t, _, _, _, rfl, rfl, SqT.of ht, rfl, p, q, s, i, n, rfl, hDo⟩
    | copy a b =>
      refine ⟨_, rfl, t, _, _, _, rfl, rfl, SqT.of ht, rfl, ?_⟩
      refine ⟨_, rfl, rfl, _, rfl, iteF' (by decide +kernel) ?_⟩
      refine ⟨_, rfl, rfl, _, rfl, iteF' (by decide +kernel) ?_⟩
      refine ⟨_, rfl, rfl, _, rfl, iteF' (by decide +kernel) ?_⟩
      refine ⟨_, rfl, rfl, _, rfl, iteF' (by decide +kernel) ?_⟩
      refine ⟨_, rfl, rfl, _, rfl, iteT' (by decide +kernel) ?_⟩
      exact ⟨_, rfl, p, dx, _, rfl, hp, lk_no _ _ (by decide +kernel) (by decide +kernel), _, rfl, t, _, _, _, rfl, rfl, SqT.of ht, rfl, _, rfl, t, _, _, _, rfl, rfl, SqT.of ht, rfl, p, q, s, a, b, rfl, hDo⟩
    | undo =>
      refine ⟨_, rfl, t, _, _, _, rfl, rfl, SqT.of ht, rfl, ?_⟩
      refine ⟨_, rfl, rfl, _, rfl, iteF' (by decide +kernel) ?_⟩
      refine ⟨_, rfl, rfl, _, rfl, iteF' (by decide +kernel) ?_⟩
      refine ⟨_, rfl, rfl, _, rfl, iteF' (by decide +kernel) ?_⟩
      refine ⟨_, rfl, rfl, _, rfl, iteF' (by decide +kernel) ?_⟩
      refine ⟨_, rfl, rfl, _, rfl, iteF' (by decide +kernel) ?_⟩
      refine ⟨_, rfl, rfl, _, rfl, iteT' (by decide +kernel) ?_⟩
      exact ⟨_, rfl, p, dx, _, rfl, hp, lk_no _ _ (by decide +kernel) (by decide +kernel), p, q, s, rfl, hDo⟩
    | holds n =>
      refine ⟨_, rfl, t, _, _, _, rfl, rfl, SqT.of ht, rfl, ?_⟩
      refine ⟨_, rfl, rfl, _, rfl, iteF' (by decide +kernel) ?_⟩
      refine ⟨_, rfl, rfl, _, rfl, iteF' (by decide +kernel) ?_⟩
      refine ⟨_, rfl, rfl, _, rfl, iteF' (by decide +kernel) ?_⟩
      refine ⟨_, rfl, rfl, _, rfl, iteF' (by decide +kernel) ?_⟩
      refine ⟨_, rfl, rfl, _, rfl, iteF' (by decide +kernel) ?_⟩
      refine ⟨_, rfl, rfl, _, rfl, iteF' (by decide +kernel) ?_⟩
      exact ⟨_, rfl, p, dx, _, rfl, hp, lk_no _ _ (by decide +kernel) (by decide +kernel), _, rfl, t, _, _, _, rfl, rfl, SqT.of ht, rfl, p, q, s, n, rfl, hDo⟩
theorem scDone : FnScope ["settings", "deeds", "told", "deed"] ["settings", "deeds"] (defScope sDone) := ⟨rfl, rfl, rfl, by decide +kernel, rfl, by decide +kernel, by decide +kernel⟩
theorem ok_done {f : Addr} {fd : FuncData} (F : Fun K "done" "done" sDone f fd) (T : Txt K mg CL CD) (F_answer : Fn P w K mg base 5 "answer" ["settings", "deed"] (spAnswer CD CL)) : FnOk P w K mg base CX0 6 f fd ["settings", "deeds"] (spDone CD CL) := by
  refine F.ok scDone (fun vs H Q E h => ?_) (fun cdv A outer s H vs Q E hr h => ?_)
  · obtain ⟨p, q, s, dl, rs, ds, m, rfl, _⟩ := h
    rfl
  · obtain ⟨p, q, s, dl, rs, ds, m, rfl, hdl, hT, hO, hm, ⟨L, hL, hLl⟩, hD, k⟩ := h
    have nd := scDone.nd
    have hu := hu_of hr
    refine ⟨_, (pss_cons (ps_set (i := 2) nd rfl (Or.inl rfl) (pe_lst pa_nil))
      (pss_cons (ps_for PassesOwn.never rfl (pi_list (pv 1)) (pg_name (i := 3) nd rfl (Or.inl rfl))
        (pss_one (ps_expr (pe_bm PySem.F.plainAttrs_list PySem.F.slot_list_append PySem.F.type_list_append mt_append (pv 2) (pa_cons (pe_callFr F_answer (hr.mono (by decide)) (by rfl) (pa_cons (pv 0) (pa_cons (pv 3) pa_nil))) pa_nil)))))
      (pss_one (ps_ret (pv 2))))), ?_⟩
    refine ⟨Nat.zero_le _, fun t ht => ?_⟩
    have hTl := hT.length
    rw [List.length_map] at hTl
    obtain ⟨hdl', ndp, ndq⟩ := of_hid hdl
    obtain ⟨_, _, _, _, hp, hq, _⟩ := hD.list
    have ntp : t ≠ p := Ne.symm (ne_of_none hp ht)
    have ntq : t ≠ q := Ne.symm (ne_of_none hq ht)
    refine ⟨_, rfl, dl, rfl, ⟨_, SqL.of (Same.new ht _ _ hdl')⟩, for_list (K := K) (a := dl) (xs := rs) (fun i σ H' => ∃ (ts : List V) (x3 : Option V) (G : Hp), σ = [some (.ref p), some (.ref dl), some (.ref t), x3] ∧ Same G H' ∧ G t = none ∧ DialAt CD CL G p q (dayM s (ds.take i)).1 ∧ Same (hid p q H) (hid p q G) ∧ H' t = some (.lst ts) ∧ Paired (AnsV H') ts (dayM s (ds.take i)).2 ∧ ts.length ≤ i)
      ⟨[], none, H, rfl, Same.new ht, ht, hD, .refl _, upd_same, .nil, Nat.le_refl _⟩ (fun i σ H' _ ⟨_, _, G, _, s0, _, _, s1, _⟩ => SqL.of (s0 _ _ (of_hid (s1 _ _ hdl)).1)) ?_ ?_⟩
    · rintro i x σ H1 hx ⟨ts, x3, G, rfl, s0, hG, hD1, s1, ht1, hA, hAl⟩
      obtain ⟨d, hd, a, rfl, ha⟩ := Paired.getL hT hx
      rw [List.getElem?_map] at hd
      cases ed : ds[i]? with
      | none => rw [ed] at hd; cases hd
      | some d' =>
        rw [ed] at hd
        cases hd
        have hil : i < ds.length := (List.getElem?_eq_some_iff.mp ed).1
        have tkH : Tk H (hid p q H) := fun b ys e => hid_get e (ne_of e hp (by intro z; cases z)) (ne_of e hq (by intro z; cases z))
        have haG : G a = some (.tup (Deed.enc d')) := (of_hid (s1 _ _ (tkH _ _ ha))).1
        have hO1 : OkDay (m + i) (dayM s (ds.take i)).1 := by
          have := hO.day (r := ds.take i)
          rw [List.length_take] at this
          exact this.mono (by omega)
        have hL1 := hL.day (r := ds.take i)
        have sC := same_cut s0 hG
        obtain ⟨_, _, _, _, hpG, hqG, _⟩ := hD1.list
        refine ⟨_, rfl, .inl ⟨rfl, _, SqL.of ht1⟩, _, rfl, _, rfl, one t, fun b hb => ⟨ts, by rw [one_iff.mp hb]; exact ht1⟩, p, q, _, a, d', rfl, sC _ _ haG, m + i, hO1, by omega, by rw [hL1.1]; exact hLl, hD1.same sC, fun r H2 hD2 s2 hr hgone => ?_⟩
        have hH2 : H2 t = none := hgone t (one_iff.mpr rfl)
        refine ⟨t, ts, r, rfl, rfl, by rw [glue_at]; exact ht1, small' (by omega), ?_⟩
        have e1 : ds.take (i + 1) = ds.take i ++ [d'] := by rw [List.take_add_one, ed]; rfl
        have sN : Same H2 (upd (glue (one t) H1 H2) t (.lst (ts ++ [r]))) := (glue_same hH2).upd hH2
        have tkN : Tk H1 (upd (glue (one t) H1 H2) t (.lst (ts ++ [r]))) := fun b ys e => by
          have nbt : b ≠ t := ne_of e ht1 (by intro z; cases z)
          have z1 : cut (one t) H1 b = some (.tup ys) := cut_get e (one_ne nbt)
          have z2 : hid p q (cut (one t) H1) b = some (.tup ys) := hid_get z1 (ne_of z1 (sC _ _ hpG) (by intro z; cases z)) (ne_of z1 (sC _ _ hqG) (by intro z; cases z))
          exact sN _ _ (of_hid (s2 _ _ z2)).1
        refine ⟨ts ++ [r], _, H2, rfl, sN, hH2, ?_, (s1.trans (hid_same sC)).trans s2, upd_same, ?_, by rw [List.length_append]; exact Nat.succ_le_succ hAl⟩
        · rw [e1, dayM_snoc]; exact hD2
        · rw [e1, dayM_snoc]
          exact Paired.snoc' (Paired.mapP hA fun v z hz => hz.tk tkN) (hr.tk sN.tk)
    · rintro σ H1 ⟨ts, x3, G, rfl, s0, hG, hD1, s1, ht1, hA, hAl⟩
      rw [hTl, List.take_length] at hD1 hA
      exact ⟨_, rfl, k t ts H1 (hD1.same s0) (s1.trans (hid_same s0)) (hid_get ht1 ntp ntq) hA⟩
end
end K6
set_option Elab.async false
set_option linter.all false
set_option maxRecDepth 100000
set_option maxHeartbeats 4000000
namespace K6
open PySem L2 PySem.Spec PyProof.Rows
section
variable {P : Program} {w : World} {K : PySem.W.Frag} {mg : Str → Option Value} {base : Heap} {CL CD : Addr}

theorem scDec : FnScope ["row", "holding", "number", "pair", "value", "locked"] ["row"] (defScope sDec) := ⟨rfl, rfl, rfl, by decide +kernel, rfl, by decide +kernel, by decide +kernel⟩
theorem ok_dec {f : Addr} {fd : FuncData} (F : Fun K "decided" "decided" sDec f fd) (T : Txt K mg CL CD) : FnOk P w K mg base CX0 1 f fd ["row"] spDec := by
  refine F.ok scDec (fun vs H Q E h => ?_) (fun cdv A outer s H vs Q E hr h => ?_)
  · obtain ⟨a, rs, row, rfl, _⟩ := h
    rfl
  · obtain ⟨a, rs, row, rfl, ha, hrow, k⟩ := h
    have nd := scDec.nd
    refine ⟨_, (pss_cons (ps_set (i := 1) nd rfl (Or.inl rfl) pe_non)
      (pss_cons (ps_for PassesOwn.never rfl (pi_enum (by rfl) T.b_enumerate (pa_cons (pv 0) pa_nil)) (pg_tup rfl (pgs_cons (pg_name (i := 2) nd rfl (Or.inl rfl)) (pgs_cons (pg_name (i := 3) nd rfl (Or.inl rfl)) pgs_nil)))
        (pss_cons (ps_set (i := 4) nd rfl (Or.inl rfl) (pe_ix ix_tup (pv 3) pe_int (fun _ _ => rfl)))
        (pss_cons (ps_set (i := 5) nd rfl (Or.inl rfl) (pe_ix ix_tup (pv 3) pe_int (fun _ _ => rfl)))
        (pss_cons (ps_if (pt_cmp (pc_notN (pv 4)))
          (pss_one (ps_set (i := 1) nd rfl (Or.inl rfl) (pe_tup (pa_cons (pv 4) (pa_cons (pv 2) pa_nil)))))
          pss_nil)
        (pss_one (ps_if (pt_val (pv 5))
          (pss_one (ps_ret (pv 1)))
          pss_nil))))))
      (pss_one (ps_ret (pv 1))))), ?_⟩
    refine ⟨_, rfl, a, rfl, ⟨_, SqL.of ha⟩, for_enum (K := K) (a := a) (xs := rs) (fun i σ H' => ∃ (h : V) (hd : Option (Int × Nat)) (x2 x3 x4 x5 : Option V), σ = [some (.ref a), some h, x2, x3, x4, x5] ∧ Same H H' ∧ HoldV H' h hd ∧ decM i hd (row.drop i) = decM 0 none row)
      ⟨.non, none, none, none, none, none, rfl, .refl _, rfl, rfl⟩ (fun i σ H' _ ⟨_, _, _, _, _, _, _, s1, _⟩ => SqL.of (s1 _ _ ha)) ?_ ?_⟩
    · rintro i x σ H1 p hx ⟨h, hd, x2, x3, x4, x5, rfl, s1, hh, ed⟩ hp
      obtain ⟨b, hb, p', rfl, hp'⟩ := Paired.getL hrow hx
      rw [rowE, List.getElem?_map] at hb
      cases er : row[i]? with
      | none => rw [er] at hb; cases hb
      | some r =>
        rw [er] at hb
        obtain ⟨v, l⟩ := r
        cases hb
        rw [drop_cons er] at ed
        have s2 := Same.new (o := .tup [.int i, .ref p']) hp
        have hp2 := s2 _ _ (s1 _ _ hp')
        refine ⟨p, _, rfl, SqT.of upd_same, rfl, _, _, rfl, _, _, rfl, rfl, ?_⟩
        refine ⟨_, rfl, p', _, _, _, rfl, rfl, SqT.of hp2, rfl, ?_⟩
        refine ⟨_, rfl, p', _, _, _, rfl, rfl, SqT.of hp2, rfl, ?_⟩
        refine ⟨_, rfl, _, rfl, ?_⟩
        cases v with
        | none =>
          refine iteF' rfl ?_
          refine ⟨_, rfl, _, rfl, ?_⟩
          cases l with
          | true =>
            refine iteT ?_
            exact ⟨_, rfl, k h _ (s1.trans s2) (by rw [← ed]; exact hh.tk s2.tk)⟩
          | false =>
            refine iteF ?_
            exact ⟨h, hd, _, _, _, _, rfl, s1.trans s2, hh.tk s2.tk, ed⟩
        | some n =>
          refine iteT' rfl ?_
          refine ⟨_, rfl, _, rfl, size2, fun q hq => ?_⟩
          have s3 := Same.new (o := .tup [.int n, .int i]) hq
          refine ⟨_, rfl, _, rfl, ?_⟩
          cases l with
          | true =>
            refine iteT ?_
            exact ⟨_, rfl, k _ _ ((s1.trans s2).trans s3) (by rw [← ed]; exact ⟨q, rfl, upd_same⟩)⟩
          | false =>
            refine iteF ?_
            exact ⟨_, some (n, i), _, _, _, _, rfl, (s1.trans s2).trans s3, ⟨q, rfl, upd_same⟩, ed⟩
    · rintro σ H1 ⟨h, hd, x2, x3, x4, x5, rfl, s1, hh, ed⟩
      have hl : rs.length = row.length := by rw [hrow.length, rowE, List.length_map]
      rw [hl, List.drop_length] at ed
      exact ⟨_, rfl, k h H1 s1 (by rw [← ed]; exact hh)⟩
theorem scAt : FnScope ["_law_script", "_law_k"] ["_law_script", "_law_k"] (defScope sAt) := ⟨rfl, rfl, rfl, by decide +kernel, rfl, by decide +kernel, by decide +kernel⟩
theorem ok_at {f : Addr} {fd : FuncData} (F : Fun K "_law_at" "_law_at" sAt f fd) (T : Txt K mg CL CD) : FnOk P w K mg base CX0 1 f fd ["_law_script", "_law_k"] (spAt K) := by
  refine F.ok scAt (fun vs H Q E h => ?_) (fun cdv A outer s H vs Q E hr h => ?_)
  · obtain ⟨a, ns, k, rfl, _⟩ := h
    rfl
  · obtain ⟨a, ns, k, rfl, hS, h0, q⟩ := h
    have nd := scAt.nd
    refine ⟨_, (pss_cons (ps_if (pt_cmpR op_lt (pv 1) (pe_callB call_len_seq (by rfl) T.b_len PySem.boot_len (pa_cons (pv 0) pa_nil)) (nomark _))
        (pss_one (ps_ret (pe_ix ix_list (pv 0) (pv 1) (fun _ _ => rfl))))
        pss_nil)
      (pss_one (ps_ret pe_int))), ?_⟩
    refine ⟨_, rfl, _, rfl, a, _, rfl, .inl hS, _, _, rfl, rfl, _, rfl, ?_⟩
    rw [List.length_map]
    refine ite2 (fun h => ?_) (fun h => ?_)
    · have h := of_decide_eq_true h
      exact ⟨_, rfl, _, rfl, a, _, _, _, rfl, rfl, hS, atI_ints h0 h, q⟩
    · have h : ¬ k < (ns.length : Int) := fun z => h (decide_eq_true z)
      rw [getD_out h0 h] at q
      exact q

theorem scUnt : FnScope ["_law_found", "_law_due", "_law_todo", "_law_left", "_law_right", "_law_k"] ["_law_found", "_law_due"] (defScope sUnt) := ⟨rfl, rfl, rfl, by decide +kernel, rfl, by decide +kernel, by decide +kernel⟩
theorem ok_unt {f : Addr} {fd : FuncData} (F : Fun K "_law_unturned" "_law_unturned" sUnt f fd) (T : Txt K mg CL CD) : FnOk P w K mg base CX0 1 f fd ["_law_found", "_law_due"] spUnt := by
  refine F.ok scUnt (fun vs H Q E h => ?_) (fun cdv A outer s H0 vs Q E hr h => ?_)
  · obtain ⟨x, y, n, rfl, _⟩ := h
    rfl
  · obtain ⟨x0, y0, n0, rfl, hE, hn0, k⟩ := h
    have nd := scUnt.nd
    refine ⟨_, (pss_cons (ps_set (i := 2) nd rfl (Or.inl rfl) (pe_lst (pa_cons (pe_tup (pa_cons (pv 0) (pa_cons (pv 1) pa_nil))) pa_nil)))
      (pss_cons (ps_while PassesOwn.never (pt_cmpR (op_ne_nil hr.units0) (pv 2) (pe_lst pa_nil) (nomark _))
        (pss_cons (ps_asg (pe_bm0 PySem.F.plainAttrs_list PySem.F.slot_list_pop PySem.F.type_list_pop mt_pop (pv 2)) (pg_tup rfl (pgs_cons (pg_name (i := 3) nd rfl (Or.inl rfl)) (pgs_cons (pg_name (i := 4) nd rfl (Or.inl rfl)) pgs_nil))))
        (pss_one (ps_if (pt_val (pe_callB call_isTs (by rfl) T.b_isinstance PyProof.Rows.boot_isinstance (pa_cons (pv 4) (pa_cons (pe_tup (pa_cons (pe_bltn (v := .ty "list") (by rfl) T.b_list PyProof.Rows.boot_list rfl) (pa_cons (pe_bltn (v := .ty "tuple") (by rfl) T.b_tuple PyProof.Rows.boot_tuple rfl) pa_nil))) pa_nil))))
          (pss_cons (ps_if (pt_cmpR op_ne (pe_callB call_isT (by rfl) T.b_isinstance PyProof.Rows.boot_isinstance (pa_cons (pv 3) (pa_cons (pe_bltn (v := .ty "list") (by rfl) T.b_list PyProof.Rows.boot_list rfl) pa_nil))) (pe_callB call_isT (by rfl) T.b_isinstance PyProof.Rows.boot_isinstance (pa_cons (pv 4) (pa_cons (pe_bltn (v := .ty "list") (by rfl) T.b_list PyProof.Rows.boot_list rfl) pa_nil))) (nomark _))
            (pss_one (ps_ret pe_bl))
            pss_nil)
          (pss_cons (ps_if (PW.pt (pw_or (pt_not (pt_val (pe_callB call_isTs (by rfl) T.b_isinstance PyProof.Rows.boot_isinstance (pa_cons (pv 3) (pa_cons (pe_tup (pa_cons (pe_bltn (v := .ty "list") (by rfl) T.b_list PyProof.Rows.boot_list rfl) (pa_cons (pe_bltn (v := .ty "tuple") (by rfl) T.b_tuple PyProof.Rows.boot_tuple rfl) pa_nil))) pa_nil))))) (pw_or1 (pt_cmpR op_ne (pe_callB call_len_seq (by rfl) T.b_len PySem.boot_len (pa_cons (pv 3) pa_nil)) (pe_callB call_len_seq (by rfl) T.b_len PySem.boot_len (pa_cons (pv 4) pa_nil)) (nomark _)))))
            (pss_one (ps_ret pe_bl))
            pss_nil)
          (pss_one (ps_for PassesOwn.never rfl (pi_range1 (by rfl) T.b_range (pa_cons (pe_callB call_len_seq (by rfl) T.b_len PySem.boot_len (pa_cons (pv 4) pa_nil)) pa_nil)) (pg_name (i := 5) nd rfl (Or.inl rfl))
            (pss_one (ps_expr (pe_bm PySem.F.plainAttrs_list PySem.F.slot_list_append PySem.F.type_list_append mt_append (pv 2) (pa_cons (pe_tup (pa_cons (pe_ix ix_seq (pv 3) (pv 5) (fun _ _ => rfl)) (pa_cons (pe_ix ix_seq (pv 4) (pv 5) (fun _ _ => rfl)) pa_nil))) pa_nil))))))))
          (pss_one (ps_if (PW.pt (pw_or (pt_cmp (pc_isN (pv 3))) (pw_or1 (pt_cmp (pc_isN (pv 4))))))
            (pss_one (ps_if (PW.pt (pw_or (pt_cmp (pc_notN (pv 3))) (pw_or1 (pt_cmp (pc_notN (pv 4))))))
              (pss_one (ps_ret pe_bl))
              pss_nil))
            (pss_one (ps_if (pt_cmpR op_ne (pe_callB call_isT (by rfl) T.b_isinstance PyProof.Rows.boot_isinstance (pa_cons (pv 3) (pa_cons (pe_bltn (v := .ty "bool") (by rfl) T.b_bool PyProof.Rows.boot_bool rfl) pa_nil))) (pe_callB call_isT (by rfl) T.b_isinstance PyProof.Rows.boot_isinstance (pa_cons (pv 4) (pa_cons (pe_bltn (v := .ty "bool") (by rfl) T.b_bool PyProof.Rows.boot_bool rfl) pa_nil))) (nomark _))
              (pss_one (ps_ret pe_bl))
              (pss_one (ps_if (pt_cmpR op_ne (pe_callB call_isT (by rfl) T.b_isinstance PyProof.Rows.boot_isinstance (pa_cons (pv 3) (pa_cons (pe_bltn (v := .ty "str") (by rfl) T.b_str PyProof.Rows.boot_str rfl) pa_nil))) (pe_callB call_isT (by rfl) T.b_isinstance PyProof.Rows.boot_isinstance (pa_cons (pv 4) (pa_cons (pe_bltn (v := .ty "str") (by rfl) T.b_str PyProof.Rows.boot_str rfl) pa_nil))) (nomark _))
                (pss_one (ps_ret pe_bl))
                (pss_one (ps_if (PW.pt (pw_or (pt_not (pt_val (pe_callB call_isTs (by rfl) T.b_isinstance PyProof.Rows.boot_isinstance (pa_cons (pv 3) (pa_cons (pe_tup (pa_cons (pe_bltn (v := .ty "str") (by rfl) T.b_str PyProof.Rows.boot_str rfl) (pa_cons (pe_bltn (v := .ty "int") (by rfl) T.b_int PyProof.Rows.boot_int rfl) pa_nil))) pa_nil))))) (pw_or1 (pt_cmpR op_ne (pv 3) (pv 4) (nomark _)))))
                  (pss_one (ps_ret pe_bl))
                  pss_nil))))))))))))
      (pss_one (ps_ret pe_bl)))), ?_⟩
    -- todo = [(found, due)]
    refine ⟨_, rfl, _, rfl, size2, fun p0 hp0 => ⟨size1, fun t ht0 => ?_⟩⟩
    have ht : H0 t = none := (Same.new hp0).free ht0
    have npt : p0 ≠ t := ne_of_none upd_same ht0
    refine ⟨fun m σ H => ∃ (ts : List V) (ws : List Nat) (x3 x4 x5 : Option V), σ = [some x0, some y0, some (.ref t), x3, x4, x5] ∧ Same H0 H ∧ H t = some (.lst ts) ∧ Todo H0 H ts ws ∧ ws.sum = m ∧ m ≤ 50000,
      ⟨n0, [.ref p0], [n0], none, none, none, rfl, ?_, upd_same, .cons ⟨p0, x0, y0, rfl, by rw [upd_ne npt, upd_same], hE⟩ .nil, by simp, hn0⟩, ?_⟩
    · exact ((Same.new hp0).upd ht)
    rintro m σ H ⟨ts, ws, x3, x4, x5, rfl, s1, htl, hT, hm, hmb⟩
    -- todo != []
    refine ⟨_, rfl, Nat.zero_le _, fun e he => ⟨t, e, ts, rfl, rfl, SqL.of (by rw [upd_ne (ne_of_none htl he)]; exact htl), SqL.of upd_same, _, rfl, ?_⟩⟩
    have s2 : Same H (upd H e (.lst [])) := Same.new he
    refine ite2 (fun hne => ?_) (fun _ => k _ (s1.trans s2))
    have hne : ts ≠ [] := by
      intro z
      rw [z] at hne
      cases hne
    obtain ⟨ts', v, ws', c, rfl, rfl, hT', p, x, y, rfl, hp, hxy⟩ := Paired.last hT hne
    have htl2 := s2 _ _ htl
    have nte : t ≠ e := ne_of_none htl he
    have hpt : p ≠ t := ne_of hp htl (by intro z; cases z)
    refine ⟨fun σ' H' => ∃ m', m' < m ∧ ∃ (ts : List V) (ws : List Nat) (x3 x4 x5 : Option V), σ' = [some x0, some y0, some (.ref t), x3, x4, x5] ∧ Same H0 H' ∧ H' t = some (.lst ts) ∧ Todo H0 H' ts ws ∧ ws.sum = m' ∧ m' ≤ 50000, fun _ _ h => h, ?_⟩
    -- left, right = todo.pop()
    refine ⟨_, rfl, .inl ⟨rfl, _, SqL.of htl2⟩, t, _, .ref p, rfl, rfl, htl2, by simp, ?_⟩
    rw [List.dropLast_concat]
    have hp2 : (upd (upd H e (.lst [])) t (.lst ts')) p = some (.tup [x, y]) := by rw [upd_ne hpt]; exact s2 _ _ hp
    refine ⟨p, _, rfl, SqT.of hp2, rfl, _, _, rfl, _, _, rfl, rfl, ?_⟩
    generalize hH3 : upd (upd H e (.lst [])) t (.lst ts') = H3 at hp2
    have tk3 : Tk H H3 := by rw [← hH3]; exact s2.tk.trans (Tk.lst htl2)
    have s3 : Same H0 H3 := by rw [← hH3]; exact (s1.trans s2).upd ht
    have ht3 : H3 t = some (.lst ts') := by rw [← hH3]; exact upd_same
    have hT3 : Todo H0 H3 ts' ws' := Todo.tk hT' tk3
    rw [List.sum_append] at hm
    simp only [List.sum_cons, List.sum_nil, Nat.add_zero] at hm
    have done : ∀ H', Same H3 H' → c ≥ 1 → ∃ m', m' < m ∧ ∃ (ts : List V) (ws : List Nat) (x3' x4' x5' : Option V), [some x0, some y0, some (V.ref t), some x, some y, x5] = [some x0, some y0, some (.ref t), x3', x4', x5'] ∧ Same H0 H' ∧ H' t = some (.lst ts) ∧ Todo H0 H' ts ws ∧ ws.sum = m' ∧ m' ≤ 50000 :=
      fun H' s4 hc => ⟨ws'.sum, by omega, ts', ws', _, _, _, rfl, s3.trans s4, s4 _ _ ht3, hT3.tk s4.tk, rfl, by omega⟩
    rcases hxy.kind K with ⟨rfl, hf, rfl⟩ | ⟨T0, b1, b2, a, b, xs, ys, cs, rfl, rfl, k1, k2, hb12, hK, hl, hcl, hch, rfl⟩
    · -- a flat value
      cases x with
      | non =>
        refine ⟨_, rfl, size2, fun p1 hp1 => ⟨_, p1, _, _, _, _, _, rfl, upd_same, .non, k_NoneType_list _, k_NoneType_tuple _, _, rfl, iteF' rfl ?_⟩⟩
        refine ⟨_, rfl, _, rfl, iteT' rfl ?_⟩
        refine iteT ?_
        refine ⟨_, rfl, _, rfl, iteF' rfl ?_⟩
        refine ⟨_, rfl, _, rfl, iteF' rfl ?_⟩
        exact done _ (Same.new hp1) (Nat.le_refl _)
      | bl z =>
        refine ⟨_, rfl, size2, fun p1 hp1 => ⟨_, p1, _, _, _, _, _, rfl, upd_same, .bl _, k_bool_list _, k_bool_tuple _, _, rfl, iteF' rfl ?_⟩⟩
        refine ⟨_, rfl, _, rfl, iteF' rfl ?_⟩
        refine ⟨_, rfl, _, rfl, iteF' rfl ?_⟩
        refine ⟨_, rfl, _, _, _, _, rfl, .bl _, k_bool_bool _, _, rfl, _, _, _, _, rfl, .bl _, k_bool_bool _, rfl, _, rfl, iteF' rfl ?_⟩
        refine ⟨_, rfl, _, _, _, _, rfl, .bl _, k_bool_str _, _, rfl, _, _, _, _, rfl, .bl _, k_bool_str _, rfl, _, rfl, iteF' rfl ?_⟩
        refine ⟨_, rfl, size2, fun p2 hp2 => ⟨_, p2, _, _, _, _, _, rfl, upd_same, .bl _, k_bool_str _, k_bool_int _, _, rfl, iteF' rfl ?_⟩⟩
        refine ⟨_, rfl, _, rfl, rfl, _, rfl, iteF' (by simp) ?_⟩
        exact done _ ((Same.new hp1).trans (Same.new hp2)) (Nat.le_refl _)
      | int z =>
        refine ⟨_, rfl, size2, fun p1 hp1 => ⟨_, p1, _, _, _, _, _, rfl, upd_same, .int _, k_int_list _, k_int_tuple _, _, rfl, iteF' rfl ?_⟩⟩
        refine ⟨_, rfl, _, rfl, iteF' rfl ?_⟩
        refine ⟨_, rfl, _, rfl, iteF' rfl ?_⟩
        refine ⟨_, rfl, _, _, _, _, rfl, .int _, k_int_bool _, _, rfl, _, _, _, _, rfl, .int _, k_int_bool _, rfl, _, rfl, iteF' rfl ?_⟩
        refine ⟨_, rfl, _, _, _, _, rfl, .int _, k_int_str _, _, rfl, _, _, _, _, rfl, .int _, k_int_str _, rfl, _, rfl, iteF' rfl ?_⟩
        refine ⟨_, rfl, size2, fun p2 hp2 => ⟨_, p2, _, _, _, _, _, rfl, upd_same, .int _, k_int_str _, k_int_int _, _, rfl, iteF' rfl ?_⟩⟩
        refine ⟨_, rfl, _, rfl, rfl, _, rfl, iteF' (by simp) ?_⟩
        exact done _ ((Same.new hp1).trans (Same.new hp2)) (Nat.le_refl _)
      | str z =>
        refine ⟨_, rfl, size2, fun p1 hp1 => ⟨_, p1, _, _, _, _, _, rfl, upd_same, .str _, k_str_list _, k_str_tuple _, _, rfl, iteF' rfl ?_⟩⟩
        refine ⟨_, rfl, _, rfl, iteF' rfl ?_⟩
        refine ⟨_, rfl, _, rfl, iteF' rfl ?_⟩
        refine ⟨_, rfl, _, _, _, _, rfl, .str _, k_str_bool _, _, rfl, _, _, _, _, rfl, .str _, k_str_bool _, rfl, _, rfl, iteF' rfl ?_⟩
        refine ⟨_, rfl, _, _, _, _, rfl, .str _, k_str_str _, _, rfl, _, _, _, _, rfl, .str _, k_str_str _, rfl, _, rfl, iteF' rfl ?_⟩
        refine ⟨_, rfl, size2, fun p2 hp2 => ⟨_, p2, _, _, _, _, _, rfl, upd_same, .str _, k_str_str _, k_str_int _, _, rfl, iteF' rfl ?_⟩⟩
        refine ⟨_, rfl, _, rfl, rfl, _, rfl, iteF' (by simp) ?_⟩
        exact done _ ((Same.new hp1).trans (Same.new hp2)) (Nat.le_refl _)
      | byt z => cases hf
      | flt z => cases hf
      | ref z => cases hf
      | ty z => cases hf
    · -- two lists, or two tuples
      refine ⟨_, rfl, size2, fun p1 hp1 => ⟨_, p1, _, _, T0, b1, b2, rfl, upd_same, (hK _ (s3.trans (Same.new hp1))).2.1, k1, k2, _, rfl, iteT' hb12 ?_⟩⟩
      have s4 := s3.trans (Same.new (o := .tup [.ty "list", .ty "tuple"]) hp1)
      refine ⟨_, rfl, _, _, T0, b1, rfl, (hK _ s4).1, k1, _, rfl, _, _, T0, b1, rfl, (hK _ s4).2.1, k1, rfl, _, rfl, iteF' (by simp) ?_⟩
      refine ⟨_, rfl, size2, fun p2 hp2 => ⟨_, p2, _, _, T0, b1, b2, rfl, upd_same, (hK _ (s4.trans (Same.new hp2))).1, k1, k2, _, rfl, iteF' (by rw [hb12]; rfl) ?_⟩⟩
      have s34 : Same H3 (upd (upd H3 p1 (.tup [.ty "list", .ty "tuple"])) p2 (.tup [.ty "list", .ty "tuple"])) := (Same.new hp1).trans (Same.new hp2)
      have s5 := s3.trans s34
      generalize hH5 : upd (upd H3 p1 (.tup [.ty "list", .ty "tuple"])) p2 (.tup [.ty "list", .ty "tuple"]) = H5 at s34 s5
      have hsum : ∀ i, (cs.take i).sum ≤ cs.sum := fun i => by
        have e := congrArg List.sum (List.take_append_drop i cs)
        rw [List.sum_append] at e
        omega
      have hys : ys.length ≤ 50000 := by
        have h1 : cs.length ≤ cs.sum := by
          have : ∀ (l : List Nat), (∀ c ∈ l, 1 ≤ c) → l.length ≤ l.sum := by
            intro l
            induction l with
            | nil => intro _; exact Nat.le_refl _
            | cons z l ih =>
              intro h
              have := ih fun c hc => h c (List.mem_cons_of_mem _ hc)
              have := h z List.mem_cons_self
              simp only [List.length_cons, List.sum_cons]
              omega
          refine this cs fun c hc => ?_
          obtain ⟨i, hi⟩ := List.mem_iff_getElem?.mp hc
          have hil : i < cs.length := (List.getElem?_eq_some_iff.mp hi).1
          exact (hch i xs[i] ys[i] c (by simp) (by simp) hi).pos
        omega
      refine ⟨_, rfl, a, xs, rfl, (hK _ s5).2.2.1, _, rfl, b, ys, rfl, (hK _ s5).2.2.2, rfl, _, rfl, iteF' (by rw [hl]; simp) ?_⟩
      refine ⟨_, rfl, b, ys, rfl, (hK _ s5).2.2.2, _, rfl, by omega, by omega, for_range (fun i σ H' => ∃ (ts'' : List V) (x5' : Option V), σ = [some x0, some y0, some (.ref t), some (.ref a), some (.ref b), x5'] ∧ Same H0 H' ∧ H' t = some (.lst ts'') ∧ Todo H0 H' ts'' (ws' ++ cs.take i))
        ⟨ts', x5, rfl, s5, s34 _ _ ht3, by rw [List.take_zero, List.append_nil]; exact hT3.tk s34.tk⟩ ?_ ?_⟩
      · rintro i σ H' hi ⟨ts'', x5', rfl, s6, ht6, hT6⟩
        rw [Int.toNat_natCast] at hi
        have hil : i < cs.length := by omega
        have g1 : ∀ (l : List V), i < l.length → (SqL K H' a l ∨ SqT K H' a l) → rIx K (.ref a) (.int (0 + (i : Int))) H' = rIx K (.ref a) (.int (i : Int)) H' := fun l _ _ => by rw [Int.zero_add]
        have rx : ∀ (q : Addr) (l : List V) (h : i < l.length) (Q : VK), (SqL K H' q l ∨ SqT K H' q l) → Q l[i] H' → rIx K (.ref q) (.int (0 + (i : Int))) H' Q := fun q l h Q hq z => by
          rw [Int.zero_add]
          rcases hq with hq | hq
          · exact .inl ⟨q, l, _, _, rfl, rfl, hq, atI_nat (by simp), z⟩
          · exact .inr (.inl ⟨q, l, _, _, rfl, rfl, hq, atI_nat (by simp), z⟩)
        refine ⟨_, rfl, .inl ⟨rfl, _, SqL.of ht6⟩, ?_⟩
        refine ⟨_, rfl, _, rfl, rx a xs (by omega) _ (hK _ s6).2.2.1 ⟨_, rfl, _, rfl, rx b ys (by omega) _ (hK _ s6).2.2.2 ⟨size2, fun q hq => ?_⟩⟩⟩
        have ntq : t ≠ q := ne_of_none ht6 hq
        have hlen : ts''.length ≤ 50000 := by
          have := hT6.len
          rw [List.sum_append] at this
          have := hsum i
          omega
        refine ⟨t, ts'', .ref q, rfl, rfl, by rw [upd_ne ntq]; exact ht6, small' (by omega), ?_⟩
        have s7 : Same H0 (upd (upd H' q (.tup [xs[i], ys[i]])) t (.lst (ts'' ++ [.ref q]))) := (s6.trans (Same.new hq)).upd ht
        refine ⟨_, _, rfl, s7, upd_same, ?_⟩
        have e : cs.take (i + 1) = cs.take i ++ [cs[i]] := by rw [List.take_add_one]; simp [hil]
        rw [e, ← List.append_assoc]
        have tk8 : Tk H' (upd (upd H' q (.tup [xs[i], ys[i]])) t (.lst (ts'' ++ [.ref q]))) := (Tk.new hq).trans (Tk.lst (by rw [upd_ne ntq]; exact ht6))
        refine Paired.snoc' (hT6.tk tk8) ⟨q, _, _, rfl, by rw [upd_ne (Ne.symm ntq), upd_same], hch i _ _ _ (by simp) (by simp) (by simp)⟩
      · rintro σ H' ⟨ts'', x5', rfl, s6, ht6, hT6⟩
        rw [Int.toNat_natCast, ← hl, ← hcl, List.take_length] at hT6
        exact ⟨ws'.sum + cs.sum, by omega, ts'', ws' ++ cs, _, _, _, rfl, s6, ht6, hT6, by rw [List.sum_append], by omega⟩
    -- return True: nothing behind the loop but it

theorem scWho : FnScope ["_law_found"] ["_law_found"] (defScope sWho) := ⟨rfl, rfl, rfl, by decide +kernel, rfl, by decide +kernel, by decide +kernel⟩
theorem ok_who {f : Addr} {fd : FuncData} (F : Fun K "_law_whole" "_law_whole" sWho f fd) (T : Txt K mg CL CD) : FnOk P w K mg base CX0 1 f fd ["_law_found"] spWho := by
  refine F.ok scWho (fun vs H Q E h => ?_) (fun cdv A outer s H vs Q E hr h => ?_)
  · obtain ⟨i, rfl, _⟩ := h
    rfl
  · obtain ⟨i, rfl, q⟩ := h
    have nd := scWho.nd
    refine ⟨_, (pss_one (ps_ret (pe_and (pe_callB call_isT (by rfl) T.b_isinstance PyProof.Rows.boot_isinstance (pa_cons (pv 0) (pa_cons (pe_bltn (v := .ty "int") (by rfl) T.b_int PyProof.Rows.boot_int rfl) pa_nil))) (pe_one (pe_not (pe_callB call_isT (by rfl) T.b_isinstance PyProof.Rows.boot_isinstance (pa_cons (pv 0) (pa_cons (pe_bltn (v := .ty "bool") (by rfl) T.b_bool PyProof.Rows.boot_bool rfl) pa_nil)))))))), ?_⟩
    refine ⟨_, rfl, _, _, _, _, rfl, .int _, k_int_int _, _, rfl, iteT ?_⟩
    exact ⟨_, rfl, _, _, _, _, rfl, .int _, k_int_bool _, _, rfl, q⟩
theorem scWide : FnScope ["_law_script", "_law_few", "_law_bound"] ["_law_script", "_law_few", "_law_bound"] (defScope sWide) := ⟨rfl, rfl, rfl, by decide +kernel, rfl, by decide +kernel, by decide +kernel⟩
theorem ok_wide {f : Addr} {fd : FuncData} (F : Fun K "_law_wide" "_law_wide" sWide f fd) (T : Txt K mg CL CD) : FnOk P w K mg base CX0 1 f fd ["_law_script", "_law_few", "_law_bound"] (spWide K) := by
  refine F.ok scWide (fun vs H Q E h => ?_) (fun cdv A outer s H vs Q E hr h => ?_)
  · obtain ⟨a, ns, f, b, rfl, _⟩ := h
    rfl
  · obtain ⟨a, ns, f, b, rfl, hS, hlen, hf, hb, k⟩ := h
    have nd := scWide.nd
    have hu := hu_of hr
    refine ⟨_, (pss_cons (ps_if (pt_cmpR op_gt (pe_callB call_len_seq (by rfl) T.b_len PySem.boot_len (pa_cons (pv 0) pa_nil)) pe_int (nomark _))
        (pss_one (ps_ret (pv 2)))
        pss_nil)
      (pss_one (ps_ret (pe_ix ix_list (pe_lst (pa_cons (pv 1) (pa_cons (pe_callB (call_min2 rfl) (by rfl) T.b_min PyProof.Rows.boot_min (pa_cons (pe_op op_add (pv 1) pe_int) (pa_cons (pv 2) pa_nil))) pa_nil))) (pe_callTy call_int1 (by rfl) T.b_int PyProof.Rows.boot_int (pa_cons (pe_cmpR op_eq (pe_op op_mod (pe_callB (call_sum rfl) (by rfl) T.b_sum PyProof.Rows.boot_sum (pa_cons (pe_slice sl_list (pv 0) po_none (po_some pe_int)) pa_nil)) pe_int) pe_int (nomark _)) pa_nil)) (fun _ _ => rfl))))), ?_⟩
    refine ⟨_, rfl, a, _, rfl, .inl hS, _, _, rfl, rfl, _, rfl, iteF' (decide_eq_false (by rw [List.length_map]; omega)) ?_⟩
    refine ⟨_, rfl, _, rfl, _, _, rfl, rfl, _, rfl, _, _, rfl, size2, fun q hq => ?_⟩
    have s1 := Same.new (o := .lst [.int f, .int (if b < f + 40 then b else f + 40)]) hq
    refine ⟨_, rfl, _, rfl, a, _, rfl, s1.seq hS, fun q2 hq2 => ?_⟩
    obtain ⟨ms, em, _⟩ := cut_map ns none (some 3)
    refine ⟨q2, ms, rfl, SqL.of (by rw [upd_same, em]), _, _, rfl, rfl, lt16, rfl, .inr ⟨_, rfl, ?_⟩⟩
    have s2 := Same.new (o := .lst (cutV (ns.map V.int) none (some 3))) hq2
    have hql : (upd (upd H q (.lst [.int f, .int (if b < f + 40 then b else f + 40)])) q2 (.lst (cutV (ns.map V.int) none (some 3)))) q = some (.lst [.int f, .int (if b < f + 40 then b else f + 40)]) := s2 _ _ upd_same
    refine ⟨q, _, _, if decide (V.int (ms.sum % 16) = V.int 5) = true then .int (if b < f + 40 then b else f + 40) else .int f, rfl, rfl, SqL.of hql, ?_, ?_⟩
    · cases decide (V.int (ms.sum % 16) = V.int 5) <;> rfl
    · cases decide (V.int (ms.sum % 16) = V.int 5) with
      | true => exact k _ _ (s1.trans s2) (by split <;> omega) (by split <;> omega)
      | false => exact k _ _ (s1.trans s2) (by omega) (by omega)
theorem scName : FnScope ["_law_spot", "_law_size", "_law_names"] ["_law_spot", "_law_size"] (defScope sName) := ⟨rfl, rfl, rfl, by decide +kernel, rfl, by decide +kernel, by decide +kernel⟩
theorem ok_name {f : Addr} {fd : FuncData} (F : Fun K "_law_name_by" "_law_name_by" sName f fd) (T : Txt K mg CL CD) : FnOk P w K mg base CX0 1 f fd ["_law_spot", "_law_size"] spName := by
  refine F.ok scName (fun vs H Q E h => ?_) (fun cdv A outer s H vs Q E hr h => ?_)
  · obtain ⟨s, z, rfl, _⟩ := h
    rfl
  · obtain ⟨s, z, rfl, hz, k⟩ := h
    have nd := scName.nd
    have hu := hu_of hr
    refine ⟨_, (pss_cons (ps_set (i := 2) nd rfl (Or.inl rfl) (pe_lst (pa_cons pe_str (pa_cons pe_str (pa_cons pe_str (pa_cons pe_str (pa_cons (pe_op op_rep_str pe_str pe_int) (pa_cons pe_str pa_nil))))))))
      (pss_one (ps_ret (pe_ix ix_list (pe_op op_cat (pv 2) (pe_op op_rep (pe_lst (pa_cons (pe_op op_add_str pe_str (pe_callTy call_str_int (by rfl) T.b_str PyProof.Rows.boot_str (pa_cons (pe_op op_mod (pv 0) pe_int) pa_nil))) pa_nil)) pe_int)) (pe_op op_mod (pv 0) (pv 1)) (fun _ _ => rfl))))), ?_⟩
    refine ⟨_, _, rfl, rfl, s40, by show 6 ≤ sizeLine; decide, fun l hl => ?_⟩
    have s1 := Same.new (o := .lst [.str "size", .str "", .str "hue", .str "size of all", .str (Txt.mul "s" 40), .str "Size"]) hl
    refine ⟨_, rfl, _, rfl, _, _, rfl, rfl, lt12, _, rfl, (mod12 s).1, _, _, rfl, rfl, (mod12 s).2, size1, fun q hq => ?_⟩
    have s2 := Same.new (o := .lst [.str (Str.ofString "name " ++ Str.ofString (toString (s % 12)))]) hq
    refine ⟨q, 6, _, rfl, rfl, upd_same, by decide, by decide, by show 1 * 6 ≤ sizeLine; decide, fun q2 hq2 => ?_⟩
    have hl2 := s2 _ _ (upd_same (H := H) (a := l) (o := .lst [.str "size", .str "", .str "hue", .str "size of all", .str (Txt.mul "s" 40), .str "Size"]))
    refine ⟨l, q2, _, _, rfl, rfl, Same.new hq2 _ _ hl2, upd_same, by show 6 + 6 ≤ sizeLine; decide, fun q3 hq3 => ?_⟩
    have h1 := Int.emod_nonneg s (show z ≠ 0 by omega)
    have h2 := Int.emod_lt_of_pos s (show 0 < z by omega)
    obtain ⟨x, hx, n, rfl⟩ := atI_all (P := fun x => ∃ n, x = V.str n) (L := [.str "size", .str "", .str "hue", .str "size of all", .str (Txt.mul "s" 40), .str "Size"] ++ (List.replicate (6 : Int).toNat [V.str (Str.ofString "name " ++ Str.ofString (toString (s % 12)))]).flatten) h1 (by
      show s % z < ((12 : Nat) : Int)
      omega) (fun x hx => by
      rcases List.mem_append.mp hx with hx | hx
      · simp only [List.mem_cons, List.not_mem_nil, or_false] at hx
        rcases hx with rfl | rfl | rfl | rfl | rfl | rfl <;> exact ⟨_, rfl⟩
      · obtain ⟨y, hy, hx⟩ := List.mem_flatten.mp hx
        rw [List.eq_of_mem_replicate hy, List.mem_singleton] at hx
        exact ⟨_, hx⟩)
    exact ⟨_, rfl, _, rfl, _, _, rfl, rfl, show 0 < z by omega, q3, _, _, _, rfl, rfl, SqL.of upd_same, hx, k n _ (((s1.trans s2).trans (Same.new hq2)).trans (Same.new hq3))⟩
theorem scDeeds : FnScope ["_law_cells", "_law_layers", "_law_made", "_law_size", "_law_k", "_law_rest", "_law_turn", "_law_name", "_law_layer", "_law_other", "_law_value"] ["_law_cells", "_law_layers"] (defScope sDeeds) := ⟨rfl, rfl, rfl, by decide +kernel, rfl, by decide +kernel, by decide +kernel⟩
theorem ok_deeds {f : Addr} {fd : FuncData} (F : Fun K "_law_deeds" "_law_deeds" sDeeds f fd) (T : Txt K mg CL CD) (F__law_name_by : Fn P w K mg base 1 "_law_name_by" ["_law_spot", "_law_size"] spName) : FnOk P w K mg base CX0 2 f fd ["_law_cells", "_law_layers"] (spDeeds K) := by
  refine F.ok scDeeds (fun vs H Q E h => ?_) (fun cdv A outer s H vs Q E hr h => ?_)
  · obtain ⟨a, ns, n, rfl, _⟩ := h
    rfl
  · obtain ⟨a, ns, n, rfl, hS, hlen, hn, k⟩ := h
    have nd := scDeeds.nd
    have hu := hu_of hr
    refine ⟨_, (pss_cons (ps_set (i := 2) nd rfl (Or.inl rfl) (pe_lst pa_nil))
      (pss_cons (ps_set (i := 3) nd rfl (Or.inl rfl) (pe_ix ix_list (pe_lst (pa_cons pe_int (pa_cons pe_int (pa_cons pe_int pa_nil)))) (pe_op op_mod (pe_op op_fdiv (pe_callB (call_sum rfl) (by rfl) T.b_sum PyProof.Rows.boot_sum (pa_cons (pe_slice sl_list (pv 0) po_none (po_some pe_int)) pa_nil)) pe_int) pe_int) (fun _ _ => rfl)))
      (pss_cons (ps_for PassesOwn.never rfl (pi_range1 (by rfl) T.b_range (pa_cons (pe_callB call_len_seq (by rfl) T.b_len PySem.boot_len (pa_cons (pv 0) pa_nil)) pa_nil)) (pg_name (i := 4) nd rfl (Or.inl rfl))
        (pss_cons (ps_set (i := 5) nd rfl (Or.inl rfl) (pe_op op_fdiv (pe_ix ix_list (pv 0) (pv 4) (fun _ _ => rfl)) pe_int))
        (pss_cons (ps_set (i := 6) nd rfl (Or.inl rfl) (pe_op op_mod (pe_op op_add (pe_ix ix_list (pv 0) (pv 4) (fun _ _ => rfl)) (pe_op op_mul pe_int (pv 4))) pe_int))
        (pss_cons (ps_set (i := 7) nd rfl (Or.inl rfl) (pe_callF F__law_name_by (hr.mono (by decide)) (by rfl) (pa_cons (pe_op op_add (pv 5) (pe_op op_fdiv (pv 4) pe_int)) (pa_cons (pv 3) pa_nil))))
        (pss_cons (ps_set (i := 8) nd rfl (Or.inl rfl) (pe_op op_mod (pe_op op_add (pe_op op_fdiv (pv 5) pe_int) (pv 4)) (pv 1)))
        (pss_cons (ps_set (i := 9) nd rfl (Or.inl rfl) (pe_op op_mod (pe_op op_add (pv 8) (pe_op op_fdiv (pv 5) pe_int)) (pv 1)))
        (pss_cut (ps_if (pt_cmpR op_eq (pe_op op_mod (pe_ix ix_list (pv 0) (pv 4) (fun _ _ => rfl)) pe_int) pe_int (nomark _))
          (pss_one (ps_set (i := 8) nd rfl (Or.inl rfl) (pe_ix ix_list (pe_lst (pa_cons (pe_un un_neg pe_int) (pa_cons (pv 1) (pa_cons (pe_op op_pow pe_int pe_int) (pa_cons (pe_op op_sub (pe_un un_neg pe_int) (pe_op op_mod (pv 5) (pe_op op_pow pe_int pe_int))) (pa_cons (pe_op op_add (pv 1) (pe_op op_mod (pv 5) (pe_op op_pow pe_int pe_int))) pa_nil)))))) (pe_op op_mod (pv 5) pe_int) (fun _ _ => rfl))))
          pss_nil)
        (pss_cut (ps_if (pt_cmpR op_eq (pe_op op_mod (pe_ix ix_list (pv 0) (pv 4) (fun _ _ => rfl)) pe_int) pe_int (nomark _))
          (pss_one (ps_set (i := 9) nd rfl (Or.inl rfl) (pe_ix ix_list (pe_lst (pa_cons (pe_un un_neg pe_int) (pa_cons (pv 1) (pa_cons (pe_op op_pow pe_int pe_int) (pa_cons (pe_op op_sub (pe_un un_neg pe_int) (pe_op op_mod (pv 5) (pe_op op_pow pe_int pe_int))) (pa_cons (pe_op op_add (pv 1) (pe_op op_mod (pv 5) (pe_op op_pow pe_int pe_int))) pa_nil)))))) (pe_op op_mod (pv 5) pe_int) (fun _ _ => rfl))))
          pss_nil)
        (pss_one (ps_if (pt_cmpR op_lt (pv 6) pe_int (nomark _))
          (pss_cons (ps_set (i := 10) nd rfl (Or.inl rfl) (pe_op op_add (pe_op op_sub (pe_op op_mod (pe_op op_add (pv 5) (pv 4)) pe_int) pe_int) (pe_op op_mul (pe_op op_pow pe_int pe_int) (pe_callTy call_int1 (by rfl) T.b_int PyProof.Rows.boot_int (pa_cons (pe_cmpR op_eq (pe_op op_mod (pe_ix ix_list (pv 0) (pv 4) (fun _ _ => rfl)) pe_int) pe_int (nomark _)) pa_nil)))))
          (pss_cut (ps_if (pt_cmpR op_eq (pe_op op_mod (pe_ix ix_list (pv 0) (pv 4) (fun _ _ => rfl)) pe_int) pe_int (nomark _))
            (pss_one (ps_set (i := 10) nd rfl (Or.inl rfl) (pe_op op_mul (pe_op op_mod (pv 5) (pe_op op_sub (pe_op op_mulB (pe_op op_pow pe_int pe_int) (pe_op op_pow pe_int pe_int)) pe_int)) (pe_ix ix_list (pe_lst (pa_cons pe_int (pa_cons (pe_un un_neg pe_int) pa_nil))) (pe_op op_mod (pv 4) pe_int) (fun _ _ => rfl)))))
            pss_nil)
          (pss_one (ps_expr (pe_bm PySem.F.plainAttrs_list PySem.F.slot_list_append PySem.F.type_list_append mt_append (pv 2) (pa_cons (pe_tup (pa_cons pe_str (pa_cons (pv 8) (pa_cons (pv 7) (pa_cons (pv 10) pa_nil))))) pa_nil))))))
          (pss_one (ps_if (pt_cmpR op_lt (pv 6) pe_int (nomark _))
            (pss_one (ps_expr (pe_bm PySem.F.plainAttrs_list PySem.F.slot_list_append PySem.F.type_list_append mt_append (pv 2) (pa_cons (pe_tup (pa_cons pe_str (pa_cons (pv 8) (pa_cons (pv 7) pa_nil)))) pa_nil))))
            (pss_one (ps_if (pt_cmpR op_lt (pv 6) pe_int (nomark _))
              (pss_one (ps_expr (pe_bm PySem.F.plainAttrs_list PySem.F.slot_list_append PySem.F.type_list_append mt_append (pv 2) (pa_cons (pe_tup (pa_cons (pe_ix ix_list (pe_lst (pa_cons pe_str (pa_cons pe_str pa_nil))) (pe_op op_sub (pv 6) pe_int) (fun _ _ => rfl)) (pa_cons (pv 8) (pa_cons (pv 7) pa_nil)))) pa_nil))))
              (pss_one (ps_if (pt_cmpR op_eq (pv 6) pe_int (nomark _))
                (pss_one (ps_expr (pe_bm PySem.F.plainAttrs_list PySem.F.slot_list_append PySem.F.type_list_append mt_append (pv 2) (pa_cons (pe_tup (pa_cons (pe_ix ix_list (pe_lst (pa_cons pe_str (pa_cons pe_str pa_nil))) (pe_op op_mod (pv 5) pe_int) (fun _ _ => rfl)) (pa_cons (pv 8) (pa_cons (pv 7) pa_nil)))) pa_nil))))
                (pss_one (ps_if (pt_cmpR op_eq (pv 6) pe_int (nomark _))
                  (pss_one (ps_expr (pe_bm PySem.F.plainAttrs_list PySem.F.slot_list_append PySem.F.type_list_append mt_append (pv 2) (pa_cons (pe_tup (pa_cons pe_str (pa_cons (pv 8) (pa_cons (pv 9) pa_nil)))) pa_nil))))
                  (pss_one (ps_if (pt_cmpR op_lt (pv 6) pe_int (nomark _))
                    (pss_one (ps_expr (pe_bm PySem.F.plainAttrs_list PySem.F.slot_list_append PySem.F.type_list_append mt_append (pv 2) (pa_cons (pe_tup (pa_cons pe_str pa_nil)) pa_nil))))
                    (pss_one (ps_expr (pe_bm PySem.F.plainAttrs_list PySem.F.slot_list_append PySem.F.type_list_append mt_append (pv 2) (pa_cons (pe_tup (pa_cons pe_str (pa_cons (pv 7) pa_nil))) pa_nil))))))))))))))))))))))))
      (pss_one (ps_ret (pv 2)))))), ?_⟩
    refine ⟨Nat.zero_le _, fun r hr0 => ?_⟩
    have s0 := Same.new (o := .lst []) hr0
    -- size
    refine ⟨by show 3 ≤ sizeLine; decide, fun q hq => ?_⟩
    have s1 := Same.new (o := .lst [.int 3, .int 3, .int 12]) hq
    refine ⟨_, rfl, _, rfl, a, _, rfl, (s0.trans s1).seq hS, fun q2 hq2 => ?_⟩
    obtain ⟨ms, em, _⟩ := cut_map ns none (some 1)
    have s2 := Same.new (o := .lst (cutV (ns.map V.int) none (some 1))) hq2
    obtain ⟨x, hx, sz, rfl, hsz⟩ := atI_all (P := fun x => ∃ z : Int, x = V.int z ∧ 1 ≤ z ∧ z ≤ 12) (L := [.int 3, .int 3, .int 12]) (i := ms.sum / 16 % 3) (Int.emod_nonneg _ (by decide)) (by
      have := Int.emod_lt_of_pos (ms.sum / 16) lt3
      show _ < ((3 : Nat) : Int)
      omega) (fun x hx => by
      simp only [List.mem_cons, List.not_mem_nil, or_false] at hx
      rcases hx with rfl | rfl | rfl
      · exact ⟨3, rfl, by decide, by decide⟩
      · exact ⟨3, rfl, by decide, by decide⟩
      · exact ⟨12, rfl, by decide, by decide⟩)
    refine ⟨q2, ms, rfl, SqL.of (by rw [upd_same, em]), _, _, rfl, rfl, ⟨by decide, by decide⟩, _, _, rfl, rfl, lt3, q, _, _, _, rfl, rfl, SqL.of (s2 _ _ upd_same), hx, ?_⟩
    have sA := (s0.trans s1).trans s2
    have hrA := (s1.trans s2) _ _ (upd_same (H := H) (a := r) (o := .lst []))
    generalize upd (upd (upd H r (.lst [])) q (.lst [.int 3, .int 3, .int 12])) q2 (.lst (cutV (ns.map V.int) none (some 1))) = HA at sA hrA
    -- the cells
    refine ⟨_, rfl, a, _, rfl, .inl (sA.seq hS), _, rfl, by rw [List.length_map]; omega, by rw [List.length_map]; omega, for_range (fun i σ H' => ∃ (rs : List V) (ds : List Deed) (x4 x5 x6 x7 x8 x9 x10 : Option V), σ = [some (.ref a), some (.int n), some (.ref r), some (.int sz), x4, x5, x6, x7, x8, x9, x10] ∧ Same H H' ∧ H' r = some (.lst rs) ∧ TupsAt H' rs (ds.map Deed.enc) ∧ ds.length = i)
      ⟨[], [], none, none, none, none, none, none, none, rfl, sA, hrA, .nil, rfl⟩ ?_ ?_⟩
    · rintro i σ H1 hi ⟨rs, ds, x4, x5, x6, x7, x8, x9, x10, rfl, t1, hr1, hT1, hl1⟩
      rw [List.length_map, Int.toNat_natCast] at hi
      have hat : atI (ns.map V.int) (0 + (i : Int)) = some (.int (ns.getD (0 + (i : Int)).toNat 0)) := atI_ints (by omega) (by omega)
      generalize ns.getD (0 + (i : Int)).toNat 0 = c at hat
      generalize 0 + (i : Int) = kk at hat
      have hrl : rs.length < sizeLine := small' (by have := hT1.length; rw [List.length_map] at this; omega)
      have cell : ∀ H', Same H1 H' → SqL K H' a (ns.map V.int) := fun H' s => (t1.trans s).seq hS
      -- rest, turn, name
      refine ⟨_, rfl, _, rfl, a, _, _, _, rfl, rfl, t1.seq hS, hat, _, _, rfl, rfl, ⟨by decide, by decide⟩, ?_⟩
      refine ⟨_, rfl, _, rfl, a, _, _, _, rfl, rfl, t1.seq hS, hat, _, rfl, _, _, rfl, rfl, mul5 _, _, _, rfl, rfl, _, _, rfl, rfl, lt16, ?_⟩
      refine ⟨_, rfl, _, rfl, _, _, rfl, rfl, ⟨by decide, by decide⟩, _, _, rfl, rfl, _, rfl, _, _, rfl, hsz, fun nm H2 t2 => ?_⟩
      -- layer, other
      refine ⟨_, rfl, _, _, rfl, rfl, ⟨by decide, by decide⟩, _, rfl, _, _, rfl, rfl, _, rfl, _, _, rfl, rfl, show 0 < n by omega, ?_⟩
      refine ⟨_, rfl, _, rfl, _, _, rfl, rfl, ⟨by decide, by decide⟩, _, _, rfl, rfl, _, rfl, _, _, rfl, rfl, show 0 < n by omega, ?_⟩
      have five : ∀ (H' : Hp) (Q : VK), (∀ z q, H' q = none → ∀ L, Q (.int z) (upd H' q (.lst L))) → ∀ q, H' q = none → rIxL K (.ref q) (.int (c / 16 % 5)) (upd H' q (.lst [.int (-1), .int n, .int (10 ^ (9 : Int).toNat), .int (-2 - c / 16 % 10 ^ (60 : Int).toNat), .int (n + c / 16 % 10 ^ (60 : Int).toNat)])) Q := fun H' Q hQ q hq => by
        have h1 := Int.emod_nonneg (c / 16) (show (5 : Int) ≠ 0 by decide)
        have h2 := Int.emod_lt_of_pos (c / 16) lt5
        obtain ⟨x, hx, z, rfl⟩ := atI_all (P := fun x => ∃ z, x = V.int z) (L := [.int (-1), .int n, .int (10 ^ (9 : Int).toNat), .int (-2 - c / 16 % 10 ^ (60 : Int).toNat), .int (n + c / 16 % 10 ^ (60 : Int).toNat)]) h1 (by
          show _ < ((5 : Nat) : Int)
          omega) (fun x hx => by
          simp only [List.mem_cons, List.not_mem_nil, or_false] at hx
          rcases hx with rfl | rfl | rfl | rfl | rfl <;> exact ⟨_, rfl⟩)
        exact ⟨q, _, _, _, rfl, rfl, SqL.of upd_same, hx, hQ z q hq _⟩
      refine ⟨fun σ' H' => ∃ ly : Int, σ' = [some (.ref a), some (.int n), some (.ref r), some (.int sz), some (.int kk), some (.int (c / 16)), some (.int ((c + 5 * kk) % 16)), some (.str nm), some (.int ly), some (.int (((c / 16 / 3 + kk) % n + c / 16 / 7) % n)), x10] ∧ Same H1 H', ?_, ?_⟩
      · refine ⟨_, rfl, _, rfl, a, _, _, _, rfl, rfl, cell _ t2, hat, _, _, rfl, rfl, lt29, rfl, _, rfl, ite2 (fun _ => ?_) (fun _ => ⟨(c / 16 / 3 + kk) % n, rfl, t2⟩)⟩
        refine ⟨_, rfl, _, rfl, _, _, rfl, rfl, pow9, _, rfl, _, rfl, _, _, rfl, rfl, pow60, _, _, rfl, rfl, p60, _, _, rfl, rfl, _, rfl, _, rfl, _, _, rfl, rfl, pow60, _, _, rfl, rfl, p60, _, _, rfl, rfl, by show 5 ≤ sizeLine; decide, fun q3 hq3 => ⟨_, rfl, _, _, rfl, rfl, lt5, five _ _ (fun z q hq L => ⟨z, rfl, t2.trans (Same.new hq)⟩) q3 hq3⟩⟩
      rintro σ' H3 ⟨ly, rfl, t3⟩
      generalize ((c + 5 * kk) % 16) = tn
      generalize (((c / 16 / 3 + kk) % n + c / 16 / 7) % n) = ot0
      refine ⟨fun σ' H' => ∃ ot : Int, σ' = [some (.ref a), some (.int n), some (.ref r), some (.int sz), some (.int kk), some (.int (c / 16)), some (.int tn), some (.str nm), some (.int ly), some (.int ot), x10] ∧ Same H1 H', ?_, ?_⟩
      · refine ⟨_, rfl, _, rfl, a, _, _, _, rfl, rfl, cell _ t3, hat, _, _, rfl, rfl, lt29, rfl, _, rfl, ite2 (fun _ => ?_) (fun _ => ⟨ot0, rfl, t3⟩)⟩
        refine ⟨_, rfl, _, rfl, _, _, rfl, rfl, pow9, _, rfl, _, rfl, _, _, rfl, rfl, pow60, _, _, rfl, rfl, p60, _, _, rfl, rfl, _, rfl, _, rfl, _, _, rfl, rfl, pow60, _, _, rfl, rfl, p60, _, _, rfl, rfl, by show 5 ≤ sizeLine; decide, fun q3 hq3 => ⟨_, rfl, _, _, rfl, rfl, lt5, five _ _ (fun z q hq L => ⟨z, rfl, t3.trans (Same.new hq)⟩) q3 hq3⟩⟩
      rintro σ' H4 ⟨ot, rfl, t4⟩
      have hr4 := t4 _ _ hr1
      have hT4 := hT1.tk t4.tk
      have sH4 := t1.trans t4
      -- the deed
      refine ⟨_, rfl, _, _, rfl, rfl, _, rfl, ite2 (fun _ => ?_) (fun _ => ?_)⟩
      · -- set
        refine ⟨_, rfl, _, rfl, _, _, rfl, rfl, _, _, rfl, rfl, lt7, _, _, rfl, rfl, _, _, rfl, rfl, pow15, _, rfl, _, rfl, a, _, _, _, rfl, rfl, cell _ t4, hat, _, _, rfl, rfl, lt23, rfl, .inr ⟨_, rfl, _, _, rfl, rfl, .inr ?_, _, _, rfl, rfl, ?_⟩⟩
        · split <;> decide
        refine ⟨fun σ' H' => ∃ v : Int, σ' = [some (.ref a), some (.int n), some (.ref r), some (.int sz), some (.int kk), some (.int (c / 16)), some (.int tn), some (.str nm), some (.int ly), some (.int ot), some (.int v)] ∧ Same H4 H', ?_, ?_⟩
        · refine ⟨_, rfl, _, rfl, a, _, _, _, rfl, rfl, cell _ t4, hat, _, _, rfl, rfl, lt13, rfl, _, rfl, ite2 (fun _ => ?_) (fun _ => ⟨_, rfl, .refl _⟩)⟩
          obtain ⟨u, hu', hpm⟩ := pm_at kk
          refine ⟨_, rfl, _, _, rfl, rfl, cpow50, _, _, rfl, rfl, cpow50, _, _, rfl, rfl, big_mul, _, _, rfl, rfl, _, _, rfl, rfl, big_pos, _, rfl, size2, fun q hq => ?_⟩
          exact ⟨_, rfl, _, _, rfl, rfl, lt2, q, _, _, _, rfl, rfl, SqL.of upd_same, hu', _, _, rfl, rfl, pm_mul hpm, _, rfl, Same.new hq⟩
        rintro σ' H5 ⟨v, rfl, t5⟩
        refine ⟨_, rfl, .inl ⟨rfl, _, SqL.of (t5 _ _ hr4)⟩, _, rfl, _, rfl, _, rfl, by show 4 ≤ sizeLine; decide, fun q hq => ⟨r, rs, .ref q, rfl, rfl, Same.new hq _ _ (t5 _ _ hr4), hrl, ?_⟩⟩
        obtain ⟨g1, g2, g3, g4⟩ := push_deed (.set ly nm v) (sH4.trans t5) hr0 (t5 _ _ hr4) (hT4.tk t5.tk) hl1 hq
        exact ⟨_, ds ++ [Deed.set ly nm v], _, _, _, _, _, _, _, rfl, g1, g2, g3, g4⟩
      refine ⟨_, rfl, _, _, rfl, rfl, _, rfl, ite2 (fun _ => ?_) (fun h8 => ?_)⟩
      · -- unset
        refine ⟨_, rfl, .inl ⟨rfl, _, SqL.of hr4⟩, _, rfl, _, rfl, by show 3 ≤ sizeLine; decide, fun q hq => ⟨r, rs, .ref q, rfl, rfl, Same.new hq _ _ hr4, hrl, ?_⟩⟩
        obtain ⟨g1, g2, g3, g4⟩ := push_deed (.unset ly nm) sH4 hr0 hr4 hT4 hl1 hq
        exact ⟨_, ds ++ [Deed.unset ly nm], _, _, _, _, _, _, _, rfl, g1, g2, g3, g4⟩
      have two : ∀ (z : Int), z = 0 ∨ z = 1 → ∀ (q : Addr) (Q : VK), H4 q = none → (∀ x, (x = V.str "lock" ∨ x = V.str "unlock") → Q x (upd H4 q (.lst [.str "lock", .str "unlock"]))) → rIxL K (.ref q) (.int z) (upd H4 q (.lst [.str "lock", .str "unlock"])) Q := fun z hz q Q hq hQ => by
        rcases hz with rfl | rfl
        · exact ⟨q, _, _, _, rfl, rfl, SqL.of upd_same, rfl, hQ _ (.inl rfl)⟩
        · exact ⟨q, _, _, _, rfl, rfl, SqL.of upd_same, rfl, hQ _ (.inr rfl)⟩
      refine ⟨_, rfl, _, _, rfl, rfl, _, rfl, ite2 (fun h10 => ?_) (fun _ => ?_)⟩
      · -- lock or unlock by the turn
        have h8 : ¬ tn < 8 := fun z => h8 (decide_eq_true z)
        have h10 := of_decide_eq_true h10
        refine ⟨_, rfl, .inl ⟨rfl, _, SqL.of hr4⟩, size2, fun q2 hq2 => ⟨_, rfl, _, _, rfl, rfl, two _ (by omega) q2 _ hq2 fun x hx => ?_⟩⟩
        refine ⟨_, rfl, _, rfl, by show 3 ≤ sizeLine; decide, fun q hq => ⟨r, rs, .ref q, rfl, rfl, Same.new hq _ _ (Same.new hq2 _ _ hr4), hrl, ?_⟩⟩
        rcases hx with rfl | rfl
        · obtain ⟨g1, g2, g3, g4⟩ := push_deed (.lock ly nm) (sH4.trans (Same.new hq2)) hr0 (Same.new hq2 _ _ hr4) (hT4.tk (Tk.new hq2)) hl1 hq
          exact ⟨_, ds ++ [Deed.lock ly nm], _, _, _, _, _, _, _, rfl, g1, g2, g3, g4⟩
        · obtain ⟨g1, g2, g3, g4⟩ := push_deed (.unlock ly nm) (sH4.trans (Same.new hq2)) hr0 (Same.new hq2 _ _ hr4) (hT4.tk (Tk.new hq2)) hl1 hq
          exact ⟨_, ds ++ [Deed.unlock ly nm], _, _, _, _, _, _, _, rfl, g1, g2, g3, g4⟩
      refine ⟨_, rfl, rfl, _, rfl, ite2 (fun _ => ?_) (fun _ => ?_)⟩
      · have h1 := Int.emod_nonneg (c / 16) (show (2 : Int) ≠ 0 by decide)
        have h2 := Int.emod_lt_of_pos (c / 16) lt2
        refine ⟨_, rfl, .inl ⟨rfl, _, SqL.of hr4⟩, size2, fun q2 hq2 => ⟨_, rfl, _, _, rfl, rfl, lt2, two _ (by omega) q2 _ hq2 fun x hx => ?_⟩⟩
        refine ⟨_, rfl, _, rfl, by show 3 ≤ sizeLine; decide, fun q hq => ⟨r, rs, .ref q, rfl, rfl, Same.new hq _ _ (Same.new hq2 _ _ hr4), hrl, ?_⟩⟩
        rcases hx with rfl | rfl
        · obtain ⟨g1, g2, g3, g4⟩ := push_deed (.lock ly nm) (sH4.trans (Same.new hq2)) hr0 (Same.new hq2 _ _ hr4) (hT4.tk (Tk.new hq2)) hl1 hq
          exact ⟨_, ds ++ [Deed.lock ly nm], _, _, _, _, _, _, _, rfl, g1, g2, g3, g4⟩
        · obtain ⟨g1, g2, g3, g4⟩ := push_deed (.unlock ly nm) (sH4.trans (Same.new hq2)) hr0 (Same.new hq2 _ _ hr4) (hT4.tk (Tk.new hq2)) hl1 hq
          exact ⟨_, ds ++ [Deed.unlock ly nm], _, _, _, _, _, _, _, rfl, g1, g2, g3, g4⟩
      refine ⟨_, rfl, rfl, _, rfl, ite2 (fun _ => ?_) (fun _ => ?_)⟩
      · refine ⟨_, rfl, .inl ⟨rfl, _, SqL.of hr4⟩, _, rfl, _, rfl, by show 3 ≤ sizeLine; decide, fun q hq => ⟨r, rs, .ref q, rfl, rfl, Same.new hq _ _ hr4, hrl, ?_⟩⟩
        obtain ⟨g1, g2, g3, g4⟩ := push_deed (.copy ly ot) sH4 hr0 hr4 hT4 hl1 hq
        exact ⟨_, ds ++ [Deed.copy ly ot], _, _, _, _, _, _, _, rfl, g1, g2, g3, g4⟩
      refine ⟨_, rfl, _, _, rfl, rfl, _, rfl, ite2 (fun _ => ?_) (fun _ => ?_)⟩
      · refine ⟨_, rfl, .inl ⟨rfl, _, SqL.of hr4⟩, size1, fun q hq => ⟨r, rs, .ref q, rfl, rfl, Same.new hq _ _ hr4, hrl, ?_⟩⟩
        obtain ⟨g1, g2, g3, g4⟩ := push_deed .undo sH4 hr0 hr4 hT4 hl1 hq
        exact ⟨_, ds ++ [Deed.undo], _, _, _, _, _, _, _, rfl, g1, g2, g3, g4⟩
      · refine ⟨_, rfl, .inl ⟨rfl, _, SqL.of hr4⟩, _, rfl, size2, fun q hq => ⟨r, rs, .ref q, rfl, rfl, Same.new hq _ _ hr4, hrl, ?_⟩⟩
        obtain ⟨g1, g2, g3, g4⟩ := push_deed (.holds nm) sH4 hr0 hr4 hT4 hl1 hq
        exact ⟨_, ds ++ [Deed.holds nm], _, _, _, _, _, _, _, rfl, g1, g2, g3, g4⟩
    · rintro σ H1 ⟨rs, ds, x4, x5, x6, x7, x8, x9, x10, rfl, t1, hr1, hT1, hl1⟩
      rw [List.length_map, Int.toNat_natCast] at hl1
      exact ⟨_, rfl, k r rs ds H1 t1 hr0 hr1 hT1 hl1⟩
end
end K6
set_option Elab.async false
set_option linter.all false
set_option maxRecDepth 100000
set_option maxHeartbeats 4000000
namespace K6
open PySem L2 PySem.Spec PyProof.Rows
section
variable {P : Program} {w : World} {K : PySem.W.Frag} {mg : Str → Option Value} {base : Heap} {CL CD : Addr}
theorem scCop : FnScope ["_law_state"] ["_law_state"] (defScope sCop) := ⟨rfl, rfl, rfl, by decide +kernel, rfl, by decide +kernel, by decide +kernel⟩
theorem ok_cop {f : Addr} {fd : FuncData} (F : Fun K "_law_copied" "_law_copied" sCop f fd) (T : Txt K mg CL CD) : FnOk P w K mg base CX0 1 f fd ["_law_state"] spCop := by
  refine F.ok scCop (fun vs H Q E h => ?_) (fun cdv A outer s H vs Q E hr h => ?_)
  · obtain ⟨l, st, rfl, _⟩ := h
    rfl
  · obtain ⟨l, st, rfl, ⟨vs, hl, hvs⟩, hst, k⟩ := h
    have nd := scCop.nd
    have hu := hu_of hr
    have hll := hvs.length
    refine ⟨_, (pss_one (ps_ret (pe_comp rfl (CompSc.of (esc := defScope sCop) (fr := []) (cap := []) rfl rfl ⟨rfl, by decide, by decide, rfl, by decide, by decide, .nil⟩) (pi_list (pv 0)) (fun _ _ _ _ _ => pts_nil) (fun _ _ _ _ _ => (pe_lst (pa_cons (pe_dcopyK K rfl (pe_ix (ix_listK K rfl) (pv 0) pe_int (fun _ _ => rfl))) (pa_cons (pe_dcopyK K rfl (pe_ix (ix_listK K rfl) (pv 0) pe_int (fun _ _ => rfl))) pa_nil))))))), ?_⟩
    refine ⟨_, rfl, l, rfl, ⟨_, SqL.of hl⟩, fun D hD => comp_list (xs := vs) (fun i ys H' => Same H H' ∧ ∃ es : List T3, ys = es.map (fun e => V.ref e.1) ∧ H' D = some (.lst ys) ∧ Paired (OwnRow H') es (st.take i) ∧ (∀ e ∈ es, ∀ x ∈ rowAs e, H x = none ∧ x ≠ D) ∧ (es.Pairwise fun e e' => ∀ x ∈ rowAs e, ∀ y ∈ rowAs e', x ≠ y) ∧ ∀ e ∈ es, e.2.1 ≠ e.2.2)
      ⟨Same.new hD, [], rfl, upd_same, .nil, (by intro e he; cases he), .nil, (by intro e he; cases he)⟩ ?_ ?_ ?_⟩
    · rintro i ys H' hi ⟨s1, es, rfl, e1, hp, _⟩
      have := hp.length
      rw [List.length_take] at this
      exact ⟨SqL.of (s1 _ _ hl), e1, small' (by rw [List.length_map]; omega)⟩
    · rintro i x ys H1 hx ⟨s1, es, rfl, e1, hp, hf, hap, htw⟩
      obtain ⟨z, hz, p, d1, d2, rfl, g1, g2, g3⟩ := Paired.getL hvs hx
      have f1 := s1 _ _ g1
      have f2 := s1 _ _ g2
      have f3 := s1 _ _ g3
      refine comp_yes ?_
      refine ⟨_, rfl, p, _, _, _, rfl, rfl, SqL.of f1, rfl, .inr (.inr (.inl ⟨rfl, .inl ⟨_, f2⟩⟩)), d1, _, rfl, rfl, f2, fun c1 hc1 => ?_⟩
      have t1 := Same.new (o := .dK z.1) hc1
      refine ⟨_, rfl, p, _, _, _, rfl, rfl, SqL.of (t1 _ _ f1), rfl, .inr (.inr (.inl ⟨rfl, .inl ⟨_, t1 _ _ f3⟩⟩)), d2, _, rfl, rfl, t1 _ _ f3, fun c2 hc2 => ?_⟩
      have t2 := Same.new (o := .dK z.2) hc2
      refine ⟨size2, fun c hc => ?_⟩
      have t3 := Same.new (o := .lst [.ref c1, .ref c2]) hc
      have t123 := (t1.trans t2).trans t3
      have b1 : (upd (upd (upd H1 c1 (.dK z.1)) c2 (.dK z.2)) c (.lst [.ref c1, .ref c2])) c1 = some (.dK z.1) := t3 _ _ (t2 _ _ upd_same)
      have b2 : (upd (upd (upd H1 c1 (.dK z.1)) c2 (.dK z.2)) c (.lst [.ref c1, .ref c2])) c2 = some (.dK z.2) := t3 _ _ upd_same
      have b3 : (upd (upd (upd H1 c1 (.dK z.1)) c2 (.dK z.2)) c (.lst [.ref c1, .ref c2])) c = some (.lst [.ref c1, .ref c2]) := upd_same
      have n12 : c1 ≠ c2 := ne_of_none upd_same hc2
      have hc2' : H1 c2 = none := t1.free hc2
      have hc' : H1 c = none := (t1.trans t2).free hc
      generalize upd (upd (upd H1 c1 (.dK z.1)) c2 (.dK z.2)) c (.lst [.ref c1, .ref c2]) = H2 at t123 b1 b2 b3
      have e2 := t123 _ _ e1
      have nD1 : c1 ≠ D := Ne.symm (ne_of_none e1 hc1)
      have nD2 : c2 ≠ D := Ne.symm (ne_of_none e1 hc2')
      have nD3 : c ≠ D := Ne.symm (ne_of_none e1 hc')
      have old : ∀ e ∈ es, ∀ x ∈ rowAs e, ∃ o, H1 x = some o := fun e he x hx => by
        obtain ⟨j, hj⟩ := List.mem_iff_getElem?.mp he
        obtain ⟨s', _, h1, h2, h3⟩ := Paired.getL hp hj
        simp only [rowAs, List.mem_cons, List.not_mem_nil, or_false] at hx
        rcases hx with rfl | rfl | rfl
        · exact ⟨_, h1⟩
        · exact ⟨_, h2⟩
        · exact ⟨_, h3⟩
      have keep : ∀ b u, H1 b = some u → b ≠ D → (upd H2 D (.lst (es.map (fun e => V.ref e.1) ++ [.ref c]))) b = some u := fun b u hb nb => by rw [upd_ne nb]; exact t123 _ _ hb
      refine ⟨e2, (s1.trans t123).upd hD, es ++ [(c, c1, c2)], by rw [List.map_append]; rfl, upd_same, ?_, ?_, ?_, ?_⟩
      · have e5 : st.take (i + 1) = st.take i ++ [z] := by rw [List.take_add_one, hz]; rfl
        rw [e5]
        refine Paired.snoc' ?_ ⟨by rw [upd_ne nD3]; exact b3, by rw [upd_ne nD1]; exact b1, by rw [upd_ne nD2]; exact b2⟩
        clear e2
        revert keep
        generalize upd H2 D (.lst (es.map (fun e => V.ref e.1) ++ [.ref c])) = H9
        intro keep
        have : ∀ {es : List T3} {st : LS}, Paired (OwnRow H1) es st → (∀ e ∈ es, ∀ x ∈ rowAs e, H x = none ∧ x ≠ D) → Paired (OwnRow H9) es st := by
          intro es' st' h
          induction h with
          | nil => intro _; exact .nil
          | @cons e s es st h t ih =>
            intro f
            have f0 := f e List.mem_cons_self
            exact .cons ⟨keep _ _ h.1 (f0 _ (by simp [rowAs])).2, keep _ _ h.2.1 (f0 _ (by simp [rowAs])).2, keep _ _ h.2.2 (f0 _ (by simp [rowAs])).2⟩ (ih fun e' he' => f e' (List.mem_cons_of_mem _ he'))
        exact this hp hf
      · intro e he x hx
        rcases List.mem_append.mp he with he | he
        · exact hf e he x hx
        · rw [List.mem_singleton] at he
          subst he
          simp only [rowAs, List.mem_cons, List.not_mem_nil, or_false] at hx
          rcases hx with rfl | rfl | rfl
          · exact ⟨s1.free hc', nD3⟩
          · exact ⟨s1.free hc1, nD1⟩
          · exact ⟨s1.free hc2', nD2⟩
      · refine List.pairwise_append.mpr ⟨hap, List.pairwise_singleton _ _, fun e he e' he' x hx y hy => ?_⟩
        rw [List.mem_singleton] at he'
        subst he'
        obtain ⟨o, ho⟩ := old e he x hx
        simp only [rowAs, List.mem_cons, List.not_mem_nil, or_false] at hy
        rcases hy with rfl | rfl | rfl
        · exact ne_of_none ho hc'
        · exact ne_of_none ho hc1
        · exact ne_of_none ho hc2'
      · intro e he
        rcases List.mem_append.mp he with he | he
        · exact htw e he
        · rw [List.mem_singleton] at he
          subst he
          exact n12
    · rintro ys H2 ⟨s2, es, rfl, e1, hp, hf, hap, htw⟩
      rw [hll, List.take_length] at hp
      exact k D es H2 s2 ⟨e1, hD, hp, hf, hap, htw⟩
theorem scCha : FnScope ["_law_state", "_law_deed", "_law_row", "_law_fresh", "_law_which"] ["_law_state", "_law_deed"] (defScope sCha) := ⟨rfl, rfl, rfl, by decide +kernel, rfl, by decide +kernel, by decide +kernel⟩
theorem ok_cha {f : Addr} {fd : FuncData} (F : Fun K "_law_changed" "_law_changed" sCha f fd) (T : Txt K mg CL CD) : FnOk P w K mg base CX0 1 f fd ["_law_state", "_law_deed"] spCha := by
  refine F.ok scCha (fun vs H Q E h => ?_) (fun cdv A outer s H vs Q E hr h => ?_)
  · obtain ⟨H0, l, t, es, st, d, rfl, _⟩ := h
    rfl
  · obtain ⟨H0, l, t, es, st, d, rfl, s0, hO, ht, hch, hok, kT, kF⟩ := h
    have nd := scCha.nd
    have hu := hu_of hr
    have hlen := hO.rows.length
    refine ⟨_, (pss_cons (ps_if (PW.pt (pw_or (pt_cmpR op_lt (pe_ix ix_tup (pv 1) pe_int (fun _ _ => rfl)) pe_int (nomark _)) (pw_or1 (pt_cmpR op_ge (pe_ix ix_tup (pv 1) pe_int (fun _ _ => rfl)) (pe_callB call_len_seq (by rfl) T.b_len PySem.boot_len (pa_cons (pv 0) pa_nil)) (nomark _)))))
        (pss_one (ps_ret pe_bl))
        pss_nil)
      (pss_cons (ps_if (pt_cmpR op_eq (pe_ix ix_tup (pv 1) pe_int (fun _ _ => rfl)) pe_str (nomark _))
        (pss_cons (ps_if (PW.pt (pw_or (pt_cmpR op_eq (pe_ix ix_tup (pv 1) pe_int (fun _ _ => rfl)) (pe_ix ix_tup (pv 1) pe_int (fun _ _ => rfl)) (nomark _)) (pw_or (pt_cmpR op_lt (pe_ix ix_tup (pv 1) pe_int (fun _ _ => rfl)) pe_int (nomark _)) (pw_or1 (pt_cmpR op_ge (pe_ix ix_tup (pv 1) pe_int (fun _ _ => rfl)) (pe_callB call_len_seq (by rfl) T.b_len PySem.boot_len (pa_cons (pv 0) pa_nil)) (nomark _))))))
          (pss_one (ps_ret pe_bl))
          pss_nil)
        (pss_cons (ps_asg (pe_dcopy (pe_ix ix_list (pe_ix ix_list (pv 0) (pe_ix ix_tup (pv 1) pe_int (fun _ _ => rfl)) (fun _ _ => rfl)) pe_int (fun _ _ => rfl))) (pg_sub (pe_ix ix_list (pv 0) (pe_ix ix_tup (pv 1) pe_int (fun _ _ => rfl)) (fun _ _ => rfl)) pe_int set_list))
        (pss_one (ps_ret pe_bl))))
        pss_nil)
      (pss_cons (ps_set (i := 2) nd rfl (Or.inl rfl) (pe_ix ix_list (pv 0) (pe_ix ix_tup (pv 1) pe_int (fun _ _ => rfl)) (fun _ _ => rfl)))
      (pss_cons (ps_if (pt_cmpR op_eq (pe_ix ix_tup (pv 1) pe_int (fun _ _ => rfl)) pe_str (nomark _))
        (pss_cons (ps_dput hu (pe_ix ix_list (pv 2) pe_int (fun _ _ => rfl)) (pe_ix ix_tup (pv 1) pe_int (fun _ _ => rfl)) (pe_ix ix_tup (pv 1) pe_int (fun _ _ => rfl)) rfl)
        (pss_one (ps_ret pe_bl)))
        pss_nil)
      (pss_cons (ps_if (pt_cmpR op_eq (pe_ix ix_tup (pv 1) pe_int (fun _ _ => rfl)) pe_str (nomark _))
        (pss_cons (ps_set (i := 3) nd rfl (Or.inl rfl) (pe_cmp (pc_dnotin hu (pe_ix ix_tup (pv 1) pe_int (fun _ _ => rfl)) (pe_ix ix_list (pv 2) pe_int (fun _ _ => rfl)))))
        (pss_cons (ps_dput hu (pe_ix ix_list (pv 2) pe_int (fun _ _ => rfl)) (pe_ix ix_tup (pv 1) pe_int (fun _ _ => rfl)) pe_bl rfl)
        (pss_one (ps_ret (pv 3)))))
        pss_nil)
      (pss_cons (ps_set (i := 4) nd rfl (Or.inl rfl) (pe_ix ix_list (pe_lst (pa_cons pe_int (pa_cons pe_int pa_nil))) (pe_callTy call_int1 (by rfl) T.b_int PyProof.Rows.boot_int (pa_cons (pe_cmpR op_eq (pe_ix ix_tup (pv 1) pe_int (fun _ _ => rfl)) pe_str (nomark _)) pa_nil)) (fun _ _ => rfl)))
      (pss_cons (ps_if (pt_cmp (pc_dnotin hu (pe_ix ix_tup (pv 1) pe_int (fun _ _ => rfl)) (pe_ix ix_list (pv 2) (pv 4) (fun _ _ => rfl))))
        (pss_one (ps_ret pe_bl))
        pss_nil)
      (pss_cons (ps_expr (pe_dpop1 (pe_ix ix_list (pv 2) (pv 4) (fun _ _ => rfl)) (pe_ix ix_tup (pv 1) pe_int (fun _ _ => rfl)) ⟨rfl, rfl, rfl, rfl⟩))
      (pss_one (ps_ret pe_bl)))))))))), ?_⟩
    have hrow : ∀ i, L2.inR st i = true → ∃ e, es[i.toNat]? = some e ∧ atI (es.map fun e => V.ref e.1) i = some (.ref e.1) ∧ H e.1 = some (.lst [.ref e.2.1, .ref e.2.2]) ∧ H e.2.1 = some (.dK (lay st i).1) ∧ H e.2.2 = some (.dK (lay st i).2) := fun i hi => by
      obtain ⟨e, he, h1, h2, h3⟩ := Paired.getR hO.rows (lay_get hi)
      refine ⟨e, he, ?_, h1, h2, h3⟩
      have := atI_nat (xs := es.map fun e => V.ref e.1) (j := i.toNat) (v := .ref e.1) (by rw [List.getElem?_map, he]; rfl)
      rw [Int.toNat_of_nonneg (inR_iff.mp hi).1] at this
      exact this
    cases d with
    | undo => exact hch.elim
    | holds n => exact hch.elim
    | set i n v =>
      have no : ¬ L2.inR st i = true → stepM st (.set i n v) = none := fun z => by simp only [stepM]; rw [if_neg z]
      refine ⟨_, rfl, t, _, _, _, rfl, rfl, SqT.of ht, rfl, _, _, rfl, rfl, _, rfl, ite2 (fun h => iteT (kF _ s0 (no (by rw [inR_iff]; have := of_decide_eq_true h; omega)))) (fun h0 => ?_)⟩
      have h0 : ¬ i < 0 := fun z => h0 (decide_eq_true z)
      refine ⟨_, rfl, t, _, _, _, rfl, rfl, SqT.of ht, rfl, _, rfl, l, _, rfl, .inl (SqL.of hO.lst), _, _, rfl, rfl, _, rfl, ite2 (fun h => kF _ s0 (no (by rw [inR_iff]; have := of_decide_eq_true h; rw [List.length_map] at this; omega))) (fun h1 => ?_)⟩
      have h1 : ¬ ((es.map fun e => V.ref e.1).length : Int) ≤ i := fun z => h1 (decide_eq_true z)
      rw [List.length_map] at h1
      have hi : L2.inR st i = true := inR_iff.mpr ⟨by omega, by omega⟩
      obtain ⟨e, he, hat, hr1, hr2, hr3⟩ := hrow i hi
      have hel := List.mem_of_getElem? he
      have f1 := hO.fresh e hel e.1 (by simp [rowAs])
      have f2 := hO.fresh e hel e.2.1 (by simp [rowAs])
      have f3 := hO.fresh e hel e.2.2 (by simp [rowAs])
      have n12 : e.1 ≠ e.2.1 := ne_of hr1 hr2 (by intro z; cases z)
      have n13 : e.1 ≠ e.2.2 := ne_of hr1 hr3 (by intro z; cases z)
      have n23 := hO.two e hel
      refine ⟨_, rfl, t, _, _, _, rfl, rfl, SqT.of ht, rfl, rfl, _, rfl, iteF' (by decide +kernel) ?_⟩
      refine ⟨_, rfl, _, rfl, t, _, _, _, rfl, rfl, SqT.of ht, rfl, l, _, _, _, rfl, rfl, SqL.of hO.lst, hat, ?_⟩
      refine ⟨_, rfl, t, _, _, _, rfl, rfl, SqT.of ht, rfl, rfl, _, rfl, iteT' (by decide +kernel) ?_⟩
      have hL := (hok.lay i).1.1
      refine ⟨_, rfl, t, _, _, _, rfl, rfl, SqT.of ht, rfl, _, rfl, e.1, _, _, _, rfl, rfl, SqL.of hr1, rfl, _, rfl, t, _, _, _, rfl, rfl, SqT.of ht, rfl, e.2.1, _, rfl, DPut.k (k := Sum.inr n) hr2 (small' (by omega)), ?_⟩
      refine kT _ _ (s0.upd f2.1) (by simp only [stepM, hi, if_true]; rfl) (hO.turn he (m := e.2.1) (by simp [rowAs]) (fun b u nb hb => by rw [upd_ne nb]; exact hb) ?_)
      exact ⟨e.1, e.2.1, e.2.2, rfl, newH_get (by rw [upd_ne n12]; exact hr1) f1.1, newH_get upd_same f2.1, newH_get (by rw [upd_ne (Ne.symm n23)]; exact hr3) f3.1⟩
    | lock i n =>
      have no : ¬ L2.inR st i = true → stepM st (.lock i n) = none := fun z => by simp only [stepM]; rw [if_neg fun y => z y.1]
      refine ⟨_, rfl, t, _, _, _, rfl, rfl, SqT.of ht, rfl, _, _, rfl, rfl, _, rfl, ite2 (fun h => iteT (kF _ s0 (no (by rw [inR_iff]; have := of_decide_eq_true h; omega)))) (fun h0 => ?_)⟩
      have h0 : ¬ i < 0 := fun z => h0 (decide_eq_true z)
      refine ⟨_, rfl, t, _, _, _, rfl, rfl, SqT.of ht, rfl, _, rfl, l, _, rfl, .inl (SqL.of hO.lst), _, _, rfl, rfl, _, rfl, ite2 (fun h => kF _ s0 (no (by rw [inR_iff]; have := of_decide_eq_true h; rw [List.length_map] at this; omega))) (fun h1 => ?_)⟩
      have h1 : ¬ ((es.map fun e => V.ref e.1).length : Int) ≤ i := fun z => h1 (decide_eq_true z)
      rw [List.length_map] at h1
      have hi : L2.inR st i = true := inR_iff.mpr ⟨by omega, by omega⟩
      obtain ⟨e, he, hat, hr1, hr2, hr3⟩ := hrow i hi
      have hel := List.mem_of_getElem? he
      have f1 := hO.fresh e hel e.1 (by simp [rowAs])
      have f2 := hO.fresh e hel e.2.1 (by simp [rowAs])
      have f3 := hO.fresh e hel e.2.2 (by simp [rowAs])
      have n12 : e.1 ≠ e.2.1 := ne_of hr1 hr2 (by intro z; cases z)
      have n13 : e.1 ≠ e.2.2 := ne_of hr1 hr3 (by intro z; cases z)
      have n23 := hO.two e hel
      refine ⟨_, rfl, t, _, _, _, rfl, rfl, SqT.of ht, rfl, rfl, _, rfl, iteF' (by decide +kernel) ?_⟩
      refine ⟨_, rfl, _, rfl, t, _, _, _, rfl, rfl, SqT.of ht, rfl, l, _, _, _, rfl, rfl, SqL.of hO.lst, hat, ?_⟩
      refine ⟨_, rfl, t, _, _, _, rfl, rfl, SqT.of ht, rfl, rfl, _, rfl, iteF' (by decide +kernel) ?_⟩
      refine ⟨_, rfl, t, _, _, _, rfl, rfl, SqT.of ht, rfl, rfl, _, rfl, iteT' (by decide +kernel) ?_⟩
      have hL := (hok.lay i).2
      refine ⟨_, rfl, t, _, _, _, rfl, rfl, SqT.of ht, rfl, _, rfl, e.1, _, _, _, rfl, rfl, SqL.of hr1, rfl, e.2.2, _, rfl, DGet.k (k := Sum.inr n) hr3, ?_⟩
      refine ⟨_, rfl, e.1, _, _, _, rfl, rfl, SqL.of hr1, rfl, _, rfl, t, _, _, _, rfl, rfl, SqT.of ht, rfl, e.2.2, _, rfl, DPut.k (k := Sum.inr n) hr3 (small' (by omega)), ?_⟩
      refine ⟨_, rfl, ?_⟩
      cases hh : has (lay st i).2 n with
      | true =>
        have hh' : (valV (lay st i).2 (Sum.inr n)).isSome = true := hh
        rw [hh']
        exact kF _ (s0.upd f3.1) (by simp only [stepM, hi, hh]; rfl)
      | false =>
        have hh' : (valV (lay st i).2 (Sum.inr n)).isSome = false := hh
        rw [hh']
        refine kT _ _ (s0.upd f3.1) (by simp only [stepM, hi, hh, and_self, if_true]; rfl) (hO.turn he (m := e.2.2) (by simp [rowAs]) (fun b u nb hb => by rw [upd_ne nb]; exact hb) ?_)
        exact ⟨e.1, e.2.1, e.2.2, rfl, newH_get (by rw [upd_ne n13]; exact hr1) f1.1, newH_get (by rw [upd_ne n23]; exact hr2) f2.1, newH_get upd_same f3.1⟩
    | unset i n =>
      have no : ¬ L2.inR st i = true → stepM st (.unset i n) = none := fun z => by simp only [stepM]; rw [if_neg fun y => z y.1]
      refine ⟨_, rfl, t, _, _, _, rfl, rfl, SqT.of ht, rfl, _, _, rfl, rfl, _, rfl, ite2 (fun h => iteT (kF _ s0 (no (by rw [inR_iff]; have := of_decide_eq_true h; omega)))) (fun h0 => ?_)⟩
      have h0 : ¬ i < 0 := fun z => h0 (decide_eq_true z)
      refine ⟨_, rfl, t, _, _, _, rfl, rfl, SqT.of ht, rfl, _, rfl, l, _, rfl, .inl (SqL.of hO.lst), _, _, rfl, rfl, _, rfl, ite2 (fun h => kF _ s0 (no (by rw [inR_iff]; have := of_decide_eq_true h; rw [List.length_map] at this; omega))) (fun h1 => ?_)⟩
      have h1 : ¬ ((es.map fun e => V.ref e.1).length : Int) ≤ i := fun z => h1 (decide_eq_true z)
      rw [List.length_map] at h1
      have hi : L2.inR st i = true := inR_iff.mpr ⟨by omega, by omega⟩
      obtain ⟨e, he, hat, hr1, hr2, hr3⟩ := hrow i hi
      have hel := List.mem_of_getElem? he
      have f1 := hO.fresh e hel e.1 (by simp [rowAs])
      have f2 := hO.fresh e hel e.2.1 (by simp [rowAs])
      have f3 := hO.fresh e hel e.2.2 (by simp [rowAs])
      have n12 : e.1 ≠ e.2.1 := ne_of hr1 hr2 (by intro z; cases z)
      have n13 : e.1 ≠ e.2.2 := ne_of hr1 hr3 (by intro z; cases z)
      have n23 := hO.two e hel
      refine ⟨_, rfl, t, _, _, _, rfl, rfl, SqT.of ht, rfl, rfl, _, rfl, iteF' (by decide +kernel) ?_⟩
      refine ⟨_, rfl, _, rfl, t, _, _, _, rfl, rfl, SqT.of ht, rfl, l, _, _, _, rfl, rfl, SqL.of hO.lst, hat, ?_⟩
      refine ⟨_, rfl, t, _, _, _, rfl, rfl, SqT.of ht, rfl, rfl, _, rfl, iteF' (by decide +kernel) ?_⟩
      refine ⟨_, rfl, t, _, _, _, rfl, rfl, SqT.of ht, rfl, rfl, _, rfl, iteF' (by decide +kernel) ?_⟩
      refine ⟨size2, fun q hq => ⟨_, rfl, t, _, _, _, rfl, rfl, SqT.of (Same.new hq _ _ ht), rfl, rfl, .inr ⟨_, rfl, q, _, _, _, rfl, rfl, SqL.of upd_same, (by decide +kernel : atI [V.int 1, V.int 0] (if decide (V.str (Str.ofString "unset") = V.str (Str.ofString "unset")) = true then 1 else 0) = some (V.int 0)), ?_⟩⟩⟩
      have sq := Same.new (o := .lst [.int 1, .int 0]) hq
      have g1 := sq _ _ hr1
      have g2 := sq _ _ hr2
      have g3 := sq _ _ hr3
      have gt := sq _ _ ht
      refine ⟨_, rfl, t, _, _, _, rfl, rfl, SqT.of gt, rfl, _, rfl, _, rfl, e.1, _, _, _, rfl, rfl, SqL.of g1, rfl, e.2.1, _, rfl, DGet.k (k := Sum.inr n) g2, _, rfl, ?_⟩
      cases hh : has (lay st i).1 n with
      | false =>
        have hh' : (valV (lay st i).1 (Sum.inr n)).isSome = false := hh
        rw [hh']
        exact iteT' rfl (kF _ (s0.trans sq) (by simp only [stepM, hi, hh]; rfl))
      | true =>
        have hh' : (valV (lay st i).1 (Sum.inr n)).isSome = true := hh
        rw [hh']
        refine iteF' rfl ?_
        obtain ⟨v, hv⟩ := has_some hh
        refine ⟨_, rfl, _, rfl, e.1, _, _, _, rfl, rfl, SqL.of g1, rfl, e.2.1, rfl, .inl ⟨_, .inl g2⟩, _, rfl, t, _, _, _, rfl, rfl, SqT.of gt, rfl, _, Sum.inr n, v, g2, rfl, hv, ?_⟩
        refine kT _ _ ((s0.trans sq).upd f2.1) (by simp only [stepM, hi, hh, and_self, if_true]; rfl) (hO.turn he (m := e.2.1) (by simp [rowAs]) (fun b u nb hb => by rw [upd_ne nb]; exact sq _ _ hb) ?_)
        exact ⟨e.1, e.2.1, e.2.2, rfl, newH_get (by rw [upd_ne n12]; exact g1) f1.1, newH_get upd_same f2.1, newH_get (by rw [upd_ne (Ne.symm n23)]; exact g3) f3.1⟩
    | unlock i n =>
      have no : ¬ L2.inR st i = true → stepM st (.unlock i n) = none := fun z => by simp only [stepM]; rw [if_neg fun y => z y.1]
      refine ⟨_, rfl, t, _, _, _, rfl, rfl, SqT.of ht, rfl, _, _, rfl, rfl, _, rfl, ite2 (fun h => iteT (kF _ s0 (no (by rw [inR_iff]; have := of_decide_eq_true h; omega)))) (fun h0 => ?_)⟩
      have h0 : ¬ i < 0 := fun z => h0 (decide_eq_true z)
      refine ⟨_, rfl, t, _, _, _, rfl, rfl, SqT.of ht, rfl, _, rfl, l, _, rfl, .inl (SqL.of hO.lst), _, _, rfl, rfl, _, rfl, ite2 (fun h => kF _ s0 (no (by rw [inR_iff]; have := of_decide_eq_true h; rw [List.length_map] at this; omega))) (fun h1 => ?_)⟩
      have h1 : ¬ ((es.map fun e => V.ref e.1).length : Int) ≤ i := fun z => h1 (decide_eq_true z)
      rw [List.length_map] at h1
      have hi : L2.inR st i = true := inR_iff.mpr ⟨by omega, by omega⟩
      obtain ⟨e, he, hat, hr1, hr2, hr3⟩ := hrow i hi
      have hel := List.mem_of_getElem? he
      have f1 := hO.fresh e hel e.1 (by simp [rowAs])
      have f2 := hO.fresh e hel e.2.1 (by simp [rowAs])
      have f3 := hO.fresh e hel e.2.2 (by simp [rowAs])
      have n12 : e.1 ≠ e.2.1 := ne_of hr1 hr2 (by intro z; cases z)
      have n13 : e.1 ≠ e.2.2 := ne_of hr1 hr3 (by intro z; cases z)
      have n23 := hO.two e hel
      refine ⟨_, rfl, t, _, _, _, rfl, rfl, SqT.of ht, rfl, rfl, _, rfl, iteF' (by decide +kernel) ?_⟩
      refine ⟨_, rfl, _, rfl, t, _, _, _, rfl, rfl, SqT.of ht, rfl, l, _, _, _, rfl, rfl, SqL.of hO.lst, hat, ?_⟩
      refine ⟨_, rfl, t, _, _, _, rfl, rfl, SqT.of ht, rfl, rfl, _, rfl, iteF' (by decide +kernel) ?_⟩
      refine ⟨_, rfl, t, _, _, _, rfl, rfl, SqT.of ht, rfl, rfl, _, rfl, iteF' (by decide +kernel) ?_⟩
      refine ⟨size2, fun q hq => ⟨_, rfl, t, _, _, _, rfl, rfl, SqT.of (Same.new hq _ _ ht), rfl, rfl, .inr ⟨_, rfl, q, _, _, _, rfl, rfl, SqL.of upd_same, (by decide +kernel : atI [V.int 1, V.int 0] (if decide (V.str (Str.ofString "unlock") = V.str (Str.ofString "unset")) = true then 1 else 0) = some (V.int 1)), ?_⟩⟩⟩
      have sq := Same.new (o := .lst [.int 1, .int 0]) hq
      have g1 := sq _ _ hr1
      have g2 := sq _ _ hr2
      have g3 := sq _ _ hr3
      have gt := sq _ _ ht
      refine ⟨_, rfl, t, _, _, _, rfl, rfl, SqT.of gt, rfl, _, rfl, _, rfl, e.1, _, _, _, rfl, rfl, SqL.of g1, rfl, e.2.2, _, rfl, DGet.k (k := Sum.inr n) g3, _, rfl, ?_⟩
      cases hh : has (lay st i).2 n with
      | false =>
        have hh' : (valV (lay st i).2 (Sum.inr n)).isSome = false := hh
        rw [hh']
        exact iteT' rfl (kF _ (s0.trans sq) (by simp only [stepM, hi, hh]; rfl))
      | true =>
        have hh' : (valV (lay st i).2 (Sum.inr n)).isSome = true := hh
        rw [hh']
        refine iteF' rfl ?_
        obtain ⟨v, hv⟩ := has_some hh
        refine ⟨_, rfl, _, rfl, e.1, _, _, _, rfl, rfl, SqL.of g1, rfl, e.2.2, rfl, .inl ⟨_, .inl g3⟩, _, rfl, t, _, _, _, rfl, rfl, SqT.of gt, rfl, _, Sum.inr n, v, g3, rfl, hv, ?_⟩
        refine kT _ _ ((s0.trans sq).upd f3.1) (by simp only [stepM, hi, hh, and_self, if_true]; rfl) (hO.turn he (m := e.2.2) (by simp [rowAs]) (fun b u nb hb => by rw [upd_ne nb]; exact sq _ _ hb) ?_)
        exact ⟨e.1, e.2.1, e.2.2, rfl, newH_get (by rw [upd_ne n13]; exact g1) f1.1, newH_get (by rw [upd_ne n23]; exact g2) f2.1, newH_get upd_same f3.1⟩
    | copy i j =>
      have no : ¬ L2.inR st i = true → stepM st (.copy i j) = none := fun z => by simp only [stepM]; rw [if_neg fun y => z y.1]
      refine ⟨_, rfl, t, _, _, _, rfl, rfl, SqT.of ht, rfl, _, _, rfl, rfl, _, rfl, ite2 (fun h => iteT (kF _ s0 (no (by rw [inR_iff]; have := of_decide_eq_true h; omega)))) (fun h0 => ?_)⟩
      have h0 : ¬ i < 0 := fun z => h0 (decide_eq_true z)
      refine ⟨_, rfl, t, _, _, _, rfl, rfl, SqT.of ht, rfl, _, rfl, l, _, rfl, .inl (SqL.of hO.lst), _, _, rfl, rfl, _, rfl, ite2 (fun h => kF _ s0 (no (by rw [inR_iff]; have := of_decide_eq_true h; rw [List.length_map] at this; omega))) (fun h1 => ?_)⟩
      have h1 : ¬ ((es.map fun e => V.ref e.1).length : Int) ≤ i := fun z => h1 (decide_eq_true z)
      rw [List.length_map] at h1
      have hi : L2.inR st i = true := inR_iff.mpr ⟨by omega, by omega⟩
      obtain ⟨e, he, hat, hr1, hr2, hr3⟩ := hrow i hi
      have hel := List.mem_of_getElem? he
      have f1 := hO.fresh e hel e.1 (by simp [rowAs])
      have f2 := hO.fresh e hel e.2.1 (by simp [rowAs])
      have f3 := hO.fresh e hel e.2.2 (by simp [rowAs])
      have n12 : e.1 ≠ e.2.1 := ne_of hr1 hr2 (by intro z; cases z)
      have n13 : e.1 ≠ e.2.2 := ne_of hr1 hr3 (by intro z; cases z)
      have n23 := hO.two e hel
      refine ⟨_, rfl, t, _, _, _, rfl, rfl, SqT.of ht, rfl, rfl, _, rfl, iteT' (by decide +kernel) ?_⟩
      have nj : (¬ L2.inR st j = true ∨ i = j) → stepM st (.copy i j) = none := fun z => by
        simp only [stepM]
        rw [if_neg]
        rintro ⟨_, y1, y2⟩
        rcases z with z | z
        · exact z y1
        · exact y2 z
      refine ⟨_, rfl, t, _, _, _, rfl, rfl, SqT.of ht, rfl, _, rfl, t, _, _, _, rfl, rfl, SqT.of ht, rfl, rfl, _, rfl, ite2 (fun h => iteT (kF _ s0 (nj (.inr (V.int.inj (of_decide_eq_true h)).symm)))) (fun hne => ?_)⟩
      have hne : i ≠ j := fun z => hne (decide_eq_true (by rw [z]))
      refine ⟨_, rfl, t, _, _, _, rfl, rfl, SqT.of ht, rfl, _, _, rfl, rfl, _, rfl, ite2 (fun h => iteT (kF _ s0 (nj (.inl (by rw [inR_iff]; have := of_decide_eq_true h; omega))))) (fun hj0 => ?_)⟩
      have hj0 : ¬ j < 0 := fun z => hj0 (decide_eq_true z)
      refine ⟨_, rfl, t, _, _, _, rfl, rfl, SqT.of ht, rfl, _, rfl, l, _, rfl, .inl (SqL.of hO.lst), _, _, rfl, rfl, _, rfl, ite2 (fun h => kF _ s0 (nj (.inl (by rw [inR_iff]; have := of_decide_eq_true h; rw [List.length_map] at this; omega)))) (fun hj1 => ?_)⟩
      have hj1 : ¬ ((es.map fun e => V.ref e.1).length : Int) ≤ j := fun z => hj1 (decide_eq_true z)
      rw [List.length_map] at hj1
      have hj : L2.inR st j = true := inR_iff.mpr ⟨by omega, by omega⟩
      obtain ⟨e', he', hat', hr1', hr2', hr3'⟩ := hrow j hj
      have hel' := List.mem_of_getElem? he'
      have f1' := hO.fresh e' hel' e'.1 (by simp [rowAs])
      have f3' := hO.fresh e' hel' e'.2.2 (by simp [rowAs])
      have n13' : e'.1 ≠ e'.2.2 := ne_of hr1' hr3' (by intro z; cases z)
      refine ⟨_, rfl, _, rfl, t, _, _, _, rfl, rfl, SqT.of ht, rfl, l, _, _, _, rfl, rfl, SqL.of hO.lst, hat, e.1, _, _, _, rfl, rfl, SqL.of hr1, rfl, .inr (.inr (.inl ⟨rfl, .inl ⟨_, hr2⟩⟩)), e.2.1, _, rfl, rfl, hr2, fun c hc => ?_⟩
      have sc1 := Same.new (o := .dK (lay st i).1) hc
      refine ⟨_, rfl, _, rfl, t, _, _, _, rfl, rfl, SqT.of (sc1 _ _ ht), rfl, l, _, _, _, rfl, rfl, SqL.of (sc1 _ _ hO.lst), hat', e'.1, _, _, 0, rfl, rfl, sc1 _ _ hr1', rfl, ?_⟩
      have hc0 : H0 c = none := s0.free hc
      have nc1 : c ≠ e'.1 := Ne.symm (ne_of_none hr1' hc)
      refine kT _ _ ((s0.trans sc1).upd f1'.1) (by simp only [stepM]; rw [if_pos ⟨hi, hj, hne⟩]) (hO.turn he' (m := e'.1) (by simp [rowAs]) (fun b u nb hb => by rw [upd_ne nb]; exact sc1 _ _ hb) ?_)
      exact ⟨e'.1, c, e'.2.2, rfl, newH_get upd_same f1'.1, newH_get (by rw [upd_ne nc1, upd_same]) hc0, newH_get (by rw [upd_ne (Ne.symm n13')]; exact sc1 _ _ hr3') f3'.1⟩
theorem scNext : FnScope ["_law_state", "_law_past", "_law_deed", "_law_later"] ["_law_state", "_law_past", "_law_deed"] (defScope sNext) := ⟨rfl, rfl, rfl, by decide +kernel, rfl, by decide +kernel, by decide +kernel⟩
theorem ok_next {f : Addr} {fd : FuncData} (F : Fun K "_law_next" "_law_next" sNext f fd) (T : Txt K mg CL CD) (F__law_copied : Fn P w K mg base 1 "_law_copied" ["_law_state"] spCop) (F__law_changed : Fn P w K mg base 1 "_law_changed" ["_law_state", "_law_deed"] spCha) : FnOk P w K mg base CX0 2 f fd ["_law_state", "_law_past", "_law_deed"] spNext := by
  refine F.ok scNext (fun vs H Q E h => ?_) (fun cdv A outer s H vs Q E hr h => ?_)
  · obtain ⟨l, q, t, s, d, m, rfl, _⟩ := h
    rfl
  · obtain ⟨l, q, t, s, d, m, rfl, ht, hD, hOk, hm, hn1, k⟩ := h
    have nd := scNext.nd
    have hu := hu_of hr
    obtain ⟨ls, hq, hl, hls⟩ := id hD
    have hlls := hls.length
    refine ⟨_, (pss_cons (ps_if (pt_cmpR op_eq (pe_ix ix_tup (pv 2) pe_int (fun _ _ => rfl)) pe_str (nomark _))
        (pss_one (ps_ret (pv 0)))
        pss_nil)
      (pss_cons (ps_if (pt_cmpR op_eq (pe_ix ix_tup (pv 2) pe_int (fun _ _ => rfl)) pe_str (nomark _))
        (pss_cons (ps_if (pt_cmpR (op_eq_nil hr.units0) (pv 1) (pe_lst pa_nil) (nomark _))
          (pss_one (ps_ret pe_non))
          pss_nil)
        (pss_one (ps_ret (pe_bm0 PySem.F.plainAttrs_list PySem.F.slot_list_pop PySem.F.type_list_pop mt_pop (pv 1)))))
        pss_nil)
      (pss_cons (ps_set (i := 3) nd rfl (Or.inl rfl) (pe_callF F__law_copied (hr.mono (by decide)) (by rfl) (pa_cons (pv 0) pa_nil)))
      (pss_cons (ps_if (pt_not (pt_val (pe_callF F__law_changed (hr.mono (by decide)) (by rfl) (pa_cons (pv 3) (pa_cons (pv 2) pa_nil)))))
        (pss_one (ps_ret pe_non))
        pss_nil)
      (pss_cons (ps_expr (pe_bm PySem.F.plainAttrs_list PySem.F.slot_list_append PySem.F.type_list_append mt_append (pv 1) (pa_cons (pv 0) pa_nil)))
      (pss_one (ps_ret (pv 3)))))))), ?_⟩
    have hk : (d.ch ∧ ∃ (x0 : V) (xs : List V), Deed.enc d = x0 :: xs ∧ x0 ≠ .str "holds" ∧ x0 ≠ .str "undo" ∧ scal x0 (.str "holds") = true ∧ scal x0 (.str "undo") = true) ∨ (∃ n, d = .holds n) ∨ d = .undo := by
      cases d with
      | holds n => exact .inr (.inl ⟨n, rfl⟩)
      | undo => exact .inr (.inr rfl)
      | set i n v => exact .inl ⟨trivial, _, _, rfl, by decide +kernel, by decide +kernel, rfl, rfl⟩
      | unset i n => exact .inl ⟨trivial, _, _, rfl, by decide +kernel, by decide +kernel, rfl, rfl⟩
      | lock i n => exact .inl ⟨trivial, _, _, rfl, by decide +kernel, by decide +kernel, rfl, rfl⟩
      | unlock i n => exact .inl ⟨trivial, _, _, rfl, by decide +kernel, by decide +kernel, rfl, rfl⟩
      | copy i j => exact .inl ⟨trivial, _, _, rfl, by decide +kernel, by decide +kernel, rfl, rfl⟩
    rcases hk with ⟨hch, x0, xs, henc, nh, nu, sh, su⟩ | ⟨n, rfl⟩ | rfl
    · rw [henc] at ht
      refine ⟨_, rfl, t, _, _, _, rfl, rfl, SqT.of ht, atI0, sh, _, rfl, iteF' (decide_eq_false nh) ?_⟩
      refine ⟨_, rfl, t, _, _, _, rfl, rfl, SqT.of ht, atI0, su, _, rfl, iteF' (decide_eq_false nu) ?_⟩
      refine ⟨_, rfl, l, s.1, rfl, hl.same hid_sub, hn1, fun l' es H1 s1 hO => ?_⟩
      refine ⟨_, rfl, _, rfl, H, l', t, es, s.1, d, rfl, s1, hO, by rw [henc]; exact s1 _ _ ht, hch, hOk.1.mono hm, fun H2 st' s2 hst hL => ⟨_, rfl, iteF' rfl ?_⟩, fun H2 s2 hst => ⟨_, rfl, iteT' rfl ?_⟩⟩
      · have e := next_ch (s := s) hch
        rw [did_true hst] at e
        refine ⟨_, rfl, .inl ⟨rfl, _, SqL.of (s2 _ _ hq)⟩, _, rfl, q, _, .ref l, rfl, rfl, s2 _ _ hq, small' (by rw [List.length_map]; have := hOk.2.2; omega), ?_⟩
        refine ⟨_, rfl, k _ _ (by rw [hid_q]; exact hid_same s2) (.inr ⟨l', rfl, (by rw [e]; exact fun z => by cases z), ?_⟩)⟩
        rw [e]
        refine ⟨ls ++ [l], by rw [upd_same, List.map_append]; rfl, ?_, ?_⟩
        · rw [hid_q]
          refine hL.same fun b o z => ?_
          obtain ⟨z, zn⟩ := of_newH z
          have nq : b ≠ q := Ne.symm (ne_of_none hq zn)
          exact hid_get z nq nq
        · rw [hid_q]
          exact Paired.snoc' (Paired.mapP hls fun v z hz => hz.same (hid_same s2)) (hl.same (hid_same s2))
      · have e := next_ch (s := s) hch
        rw [did_false hst] at e
        exact k _ _ (hid_same s2) (.inl ⟨rfl, by rw [e], hD.same s2⟩)
    · refine ⟨_, rfl, t, _, _, _, rfl, rfl, SqT.of ht, rfl, rfl, _, rfl, iteT' (by decide +kernel) ?_⟩
      exact ⟨_, rfl, k _ _ (.refl _) (.inr ⟨l, rfl, (fun z => by cases z), hD⟩)⟩
    · refine ⟨_, rfl, t, _, _, _, rfl, rfl, SqT.of ht, rfl, rfl, _, rfl, iteF' (by decide +kernel) ?_⟩
      refine ⟨_, rfl, t, _, _, _, rfl, rfl, SqT.of ht, rfl, rfl, _, rfl, iteT' (by decide +kernel) ?_⟩
      refine ⟨_, rfl, Nat.zero_le _, fun e he => ⟨q, e, _, rfl, rfl, SqL.of (Same.new he _ _ hq), SqL.of upd_same, _, rfl, ?_⟩⟩
      have se := Same.new (o := .lst []) he
      by_cases hp : s.2 = []
      · have e1 : nextM s .undo = (s, .b false) := by show undoM s = _; unfold undoM; rw [hp]; rfl
        have e2 : ls = [] := List.eq_nil_of_length_eq_zero (by rw [hlls, hp]; rfl)
        exact iteT' (by rw [e2]; rfl) (k _ _ (hid_same se) (.inl ⟨rfl, by rw [e1], hD.same se⟩))
      · have hne : ls ≠ [] := by
          rintro rfl
          exact hp (List.eq_nil_of_length_eq_zero hlls.symm)
        obtain ⟨ls', l', past', st', e1, e2, hls', hl'⟩ := Paired.last hls hne
        subst e1
        have e3 : nextM s .undo = ((st', past'), .b true) := by show undoM s = _; unfold undoM; rw [e2]; simp
        have e4 : (ls' ++ [l']).map V.ref = ls'.map V.ref ++ [V.ref l'] := by rw [List.map_append]; rfl
        rw [e4] at hq
        refine iteF' (by rw [e4]; simp) ?_
        refine ⟨_, rfl, .inl ⟨rfl, _, SqL.of (se _ _ hq)⟩, q, _, .ref l', rfl, rfl, se _ _ hq, by simp, ?_⟩
        rw [List.dropLast_concat]
        refine k _ _ (by rw [hid_q]; exact hid_same se) (.inr ⟨l', rfl, (by rw [e3]; exact fun z => by cases z), ?_⟩)
        rw [e3]
        refine ⟨ls', upd_same, ?_, ?_⟩
        · rw [hid_q]; exact hl'.same (hid_same se)
        · rw [hid_q]; exact Paired.mapP hls' fun v z hz => hz.same (hid_same se)
end
end K6
set_option Elab.async false
set_option linter.all false
set_option maxRecDepth 100000
set_option maxHeartbeats 4000000
namespace K6
open PySem L2 PySem.Spec PyProof.Rows
section
variable {P : Program} {w : World} {K : PySem.W.Frag} {mg : Str → Option Value} {base : Heap} {CL CD : Addr}
theorem scNames : FnScope ["self", "found", "layer"] ["self"] (defScope sNames) := ⟨rfl, rfl, rfl, by decide +kernel, rfl, by decide +kernel, by decide +kernel⟩
theorem ok_names {f : Addr} {fd : FuncData} (F : Fun K "names_with_value" "Dial.names_with_value" sNames f fd) (T : Txt K mg CL CD) : FnOk P w K mg base CX0 1 f fd ["self"] (spNames CD CL) := by
  refine F.ok scNames (fun vs H Q E h => ?_) (fun cdv A outer s H vs Q E hr h => ?_)
  · obtain ⟨p, q, s, U, rfl, _⟩ := h
    rfl
  · obtain ⟨p, q, s, U, rfl, hD, hS, hO, hU, hUl, k⟩ := h
    have nd := scNames.nd
    have hu := hu_of hr
    obtain ⟨dx, l, ls, vs, hp, hq, hl, hvs, hls⟩ := hD.list
    have hll := hvs.length
    have hl' := (of_hid hl).1
    refine ⟨_, (pss_cons (ps_set (i := 1) nd rfl (Or.inl rfl) pe_dnewK)
      (pss_cons (ps_for PassesOwn.never rfl (pi_list (pe_fld (pv 0) rfl)) (pg_name (i := 2) nd rfl (Or.inl rfl))
        (pss_one (ps_expr (pe_dupdate (pv 1) (pa_cons (pe_fld (pv 2) rfl) pa_nil)))))
      (pss_one (ps_ret (pe_callB (call_sorted_dict rfl) (by rfl) T.b_sorted PyProof.Rows.boot_sorted (pa_cons (pv 1) pa_nil)))))), ?_⟩
    refine fun fo hfo => ?_
    have s0 := Same.new (o := .dK []) hfo
    refine ⟨_, rfl, p, CD, dx, _, _, rfl, s0 _ _ hp, T.cl_Dial, T.n_layers, lk_dl _ _, l, rfl, ⟨_, SqL.of (s0 _ _ hl')⟩, for_list (K := K) (a := l) (xs := vs) (fun i σ H' => ∃ (x2 : Option V), σ = [some (.ref p), some (.ref fo), x2] ∧ Same H H' ∧ H' fo = some (.dK (mergeS (s.1.take i))))
      ⟨none, rfl, s0, upd_same⟩ (fun i σ H' _ ⟨_, _, s1, _⟩ => SqL.of (s1 _ _ hl')) ?_ ?_⟩
    · rintro i x σ H1 hx ⟨x2, rfl, s1, hf⟩
      obtain ⟨z, hz, lp, ldx, d1, d2, rfl, e1, e2, e3⟩ := Paired.getL hvs hx
      have f1 := s1 _ _ (of_hid e1).1
      have f2 := s1 _ _ (of_hid e2).1
      have hne : fo ≠ d1 := Ne.symm (ne_of_none (of_hid e2).1 hfo)
      have hz1 := (hO z (List.mem_of_getElem? hz)).1.1
      have hz2 := merge_small hS hU i
      refine ⟨_, rfl, .inr (.inr (.inl ⟨rfl, .inl ⟨_, hf⟩⟩)), _, rfl, lp, CL, ldx, _, _, rfl, f1, T.cl_Layer, T.n_valued, lk_lv _ _, fo, d1, _, _, rfl, rfl, hne, hf, f2, small (by omega), ?_⟩
      exact ⟨_, rfl, s1.upd hfo, by rw [upd_same, mergeS_snoc hz]⟩
    · rintro σ H1 ⟨x2, rfl, s1, hf⟩
      rw [List.take_of_length_le (by omega)] at hf
      obtain ⟨ks, hk1, hk2, hk3, hk4⟩ := names_good hS hU
      exact ⟨_, rfl, fo, _, ks, rfl, hf, hk1, by omega, fun ss l2 hp2 hs2 hl2 => k l2 ss _ (s1.trans (Same.new hl2)) (s1.free hl2) upd_same (hp2.nodup_iff.mpr hk2) (fun y => (hp2.mem_iff).trans (hk3 y)) hs2 (by rw [hp2.length_eq]; omega)⟩
theorem scHoldsS : FnScope ["self", "name"] ["self", "name"] (defScope sHolds) := ⟨rfl, rfl, rfl, by decide +kernel, rfl, by decide +kernel, by decide +kernel⟩
theorem ok_holdsS {f : Addr} {fd : FuncData} (F : Fun K "holds" "Dial.holds" sHolds f fd) (T : Txt K mg CL CD) (F_decided : Fn P w K mg base 1 "decided" ["row"] spDec) : FnOk P w K mg base CX0 2 f fd ["self", "name"] (spHoldsS CD CL) := by
  refine F.ok scHoldsS (fun vs H Q E h => ?_) (fun cdv A outer s H vs Q E hr h => ?_)
  · obtain ⟨p, q, s, n, m, rfl, _⟩ := h
    rfl
  · obtain ⟨p, q, s, n, m, rfl, hO, hn1, hD, k⟩ := h
    have nd := scHoldsS.nd
    have hu := hu_of hr
    obtain ⟨dx, l, ls, vs, hp, hq, hl, hvs, hls⟩ := hD.list
    have hll := hvs.length
    refine ⟨_, (pss_one (ps_ret (pe_callF F_decided (hr.mono (by decide)) (by rfl) (pa_cons (pe_comp rfl (CompSc.of (esc := defScope sHolds) (fr := ["name"]) (cap := [1]) rfl rfl ⟨rfl, by decide, by decide, rfl, by decide, by decide, .cons ⟨rfl, rfl⟩ (.nil)⟩) (pi_list (pe_fld (pv 0) rfl)) (fun _ _ _ _ _ => pts_nil) (fun _ _ _ _ _ => (pe_tup (pa_cons (pe_dget1 hu (pe_fldK K rfl (pv 0) rfl) (pv 1) ⟨rfl, rfl, rfl, rfl⟩) (pa_cons (pe_cmp (pc_din hu (pv 1) (pe_fldK K rfl (pv 0) rfl))) pa_nil))))) pa_nil)))), ?_⟩
    refine ⟨_, rfl, p, CD, dx, _, _, rfl, hp, T.cl_Dial, T.n_layers, lk_dl _ _, l, rfl, ⟨_, SqL.of (of_hid hl).1⟩, fun D hD0 => comp_list (xs := vs) (fun i ys H' => Same H H' ∧ H' D = some (.lst ys) ∧ TupsAt H' ys (rowE ((rowM s.1 n).take i))) ⟨Same.new hD0, upd_same, .nil⟩ ?_ ?_ ?_⟩
    · rintro i ys H' hi ⟨s1, e, ht⟩
      have := ht.length
      rw [rowE, List.length_map, List.length_take] at this
      exact ⟨SqL.of (s1 _ _ (of_hid hl).1), e, small' (by omega)⟩
    · rintro i x ys H1 hx ⟨s1, e, ht⟩
      obtain ⟨z, hz, lp, ldx, d1, d2, rfl, e1, e2, e3⟩ := Paired.getL hvs hx
      have f1 := s1 _ _ (of_hid e1).1
      have f2 := s1 _ _ (of_hid e2).1
      have f3 := s1 _ _ (of_hid e3).1
      refine comp_yes ?_
      refine ⟨_, rfl, lp, CL, ldx, _, _, rfl, f1, T.cl_Layer, T.n_valued, lk_lv _ _, d1, rfl, .inl ⟨_, .inl f2⟩, _, rfl, _, DGet.k (k := Sum.inr n) f2, _, rfl, _, rfl, lp, CL, ldx, _, _, rfl, f1, T.cl_Layer, T.n_locked, lk_ll _ _, d2, _, rfl, DGet.k (k := Sum.inr n) f3, size2, fun t ht0 => ?_⟩
      have nDt : D ≠ t := ne_of_none e ht0
      refine ⟨by rw [upd_ne nDt]; exact e, (s1.trans (Same.new ht0)).upd hD0, upd_same, ?_⟩
      have hrow : (rowM s.1 n)[i]? = some (valI z.1 n, has z.2 n) := by rw [rowM, List.getElem?_map, hz]; rfl
      rw [List.take_add_one, hrow, rowE, List.map_append]
      refine Paired.snoc' (TupsAt.tk ht ((Tk.new ht0).trans (Tk.lst (xs := ys) (by rw [upd_ne nDt]; exact e)))) ⟨t, rfl, ?_⟩
      rw [upd_ne (Ne.symm nDt), upd_same, valI_ov (hO z (List.mem_of_getElem? hz)).1.2]
      rfl
    · rintro ys H2 ⟨s2, e, ht⟩
      have hl3 : (rowM s.1 n).take vs.length = rowM s.1 n := List.take_of_length_le (by rw [rowM, List.length_map]; omega)
      rw [hl3] at ht
      exact ⟨D, ys, _, rfl, e, ht, fun r H' s3 hv => k r H' (s2.trans s3) hv⟩
theorem scBehind : FnScope ["layers", "deeds", "settings"] ["layers", "deeds"] (defScope sBehind) := ⟨rfl, rfl, rfl, by decide +kernel, rfl, by decide +kernel, by decide +kernel⟩
theorem ok_behind {f : Addr} {fd : FuncData} (F : Fun K "settings_behind" "settings_behind" sBehind f fd) (T : Txt K mg CL CD) (F_done : Fn P w K mg base 6 "done" ["settings", "deeds"] (spDone CD CL)) (M_Dial : Mc P w K mg base 3 CD "Dial" ["self", "layers"] (spDinit CD CL)) : FnOk P w K mg base CX0 7 f fd ["layers", "deeds"] (spBehind CD CL) := by
  refine F.ok scBehind (fun vs H Q E h => ?_) (fun cdv A outer s H vs Q E hr h => ?_)
  · obtain ⟨n, dl, rs, ds, rfl, _⟩ := h
    rfl
  · obtain ⟨n, dl, rs, ds, rfl, h0, h1, hdl, hT, hds, k⟩ := h
    have nd := scBehind.nd
    have hu := hu_of hr
    refine ⟨_, (pss_cons (ps_set (i := 2) nd rfl (Or.inl rfl) (pe_makeF M_Dial (hr.mono (by decide)) (by rfl) (pa_cons (pv 0) pa_nil)))
      (pss_cons (ps_expr (pe_callF F_done (hr.mono (by decide)) (by rfl) (pa_cons (pv 2) (pa_cons (pv 1) pa_nil))))
      (pss_one (ps_ret (pv 2))))), ?_⟩
    refine ⟨_, rfl, fun x dx hx hdx hne => ⟨x, dx, n, rfl, upd_same, h0, h1, fun q H1 hq hD hk => ⟨rfl, ?_⟩⟩⟩
    have s1 : Same H H1 := fun b o e => hk b o (by rw [upd_ne (ne_of_none e hx), upd_ne (ne_of_none e hdx)]; exact e) (ne_of_none e hx)
    have hq0 : H q = none := by
      cases z : H q with
      | none => rfl
      | some o =>
        rw [upd_ne (ne_of_none z hx), upd_ne (ne_of_none z hdx), z] at hq
        cases hq
    have s2 : Same H (hid x q H1) := same_hid s1 hx hq0
    refine ⟨_, rfl, _, rfl, x, q, zeroM n.toNat, dl, rs, ds, 0, rfl, s2 _ _ hdl, TupsAt.tk hT s1.tk, OkDay.zero _, by omega, ⟨_, LenD.zero _, by omega⟩, hD, fun t ts H2 hD2 s3 ht hA => ?_⟩
    exact ⟨_, rfl, k x q H2 ((s2.trans s3).trans hid_sub) hD2⟩
theorem scHeld : FnScope ["layers", "deeds", "settings", "told", "name", "holding"] ["layers", "deeds"] (defScope sHeld) := ⟨rfl, rfl, rfl, by decide +kernel, rfl, by decide +kernel, by decide +kernel⟩
theorem ok_held {f : Addr} {fd : FuncData} (F : Fun K "held" "held" sHeld f fd) (T : Txt K mg CL CD) (F_settings_behind : Fn P w K mg base 7 "settings_behind" ["layers", "deeds"] (spBehind CD CL)) (M_names_with_value : Mt P w K mg base 1 CD "names_with_value" ["self"] (spNames CD CL)) (M_holds : Mt P w K mg base 2 CD "holds" ["self", "name"] (spHoldsS CD CL)) : FnOk P w K mg base CX0 8 f fd ["layers", "deeds"] spHeld := by
  refine F.ok scHeld (fun vs H Q E h => ?_) (fun cdv A outer s H vs Q E hr h => ?_)
  · obtain ⟨n, dl, rs, ds, rfl, _⟩ := h
    rfl
  · obtain ⟨n, dl, rs, ds, rfl, h0, h1, hdl, hT, hds, k⟩ := h
    have nd := scHeld.nd
    have hu := hu_of hr
    refine ⟨_, (pss_cons (ps_set (i := 2) nd rfl (Or.inl rfl) (pe_callF F_settings_behind (hr.mono (by decide)) (by rfl) (pa_cons (pv 0) (pa_cons (pv 1) pa_nil))))
      (pss_cons (ps_set (i := 3) nd rfl (Or.inl rfl) (pe_lst pa_nil))
      (pss_cons (ps_for PassesOwn.never rfl (pi_list (pe_methF0 M_names_with_value T.cl_Dial (hr.mono (by decide)) (pv 2))) (pg_name (i := 4) nd rfl (Or.inl rfl))
        (pss_cons (ps_set (i := 5) nd rfl (Or.inl rfl) (pe_methF M_holds T.cl_Dial (hr.mono (by decide)) (pv 2) (pa_cons (pv 4) pa_nil)))
        (pss_one (ps_if (pt_cmp (pc_notN (pv 5)))
          (pss_one (ps_expr (pe_bm PySem.F.plainAttrs_list PySem.F.slot_list_append PySem.F.type_list_append mt_append (pv 3) (pa_cons (pe_tup (pa_cons (pv 4) (pa_cons (pe_ix ix_tup (pv 5) pe_int (fun _ _ => rfl)) (pa_cons (pe_ix ix_tup (pv 5) pe_int (fun _ _ => rfl)) pa_nil)))) pa_nil))))
          pss_nil))))
      (pss_one (ps_ret (pv 3)))))), ?_⟩
    refine ⟨_, rfl, _, rfl, n, dl, rs, ds, rfl, h0, h1, hdl, hT, by omega, fun p q H1 s1 hD => ?_⟩
    obtain ⟨dx, l, ls, vs, hp, hq, hl, hvs, hls⟩ := hD.list
    have hLn := ((LenD.zero n.toNat).day (r := ds)).1
    have hFew := few_day (n := n.toNat) hds 0
    rw [List.replicate_zero, List.append_nil] at hFew
    obtain ⟨U, hUl, hU⟩ := day_names n.toNat ds
    -- told = []
    refine ⟨Nat.zero_le _, fun t ht => ?_⟩
    have s2 := Same.new (o := .lst []) ht
    -- for name in settings.names_with_value()
    refine ⟨_, rfl, p, dx, _, rfl, s2 _ _ hp, lk_no _ _ (by decide +kernel) (by decide +kernel), p, q, _, U, rfl, hD.same s2, hFew.1, hFew.2, hU, by omega, fun nl ss H2 s3 hn0 hnl hnd hmem hso hsl => ?_⟩
    have ntn : t ≠ nl := ne_of_none upd_same hn0
    refine ⟨nl, rfl, ⟨_, SqL.of hnl⟩, for_list (K := K) (a := nl) (xs := ss.map V.str) (fun i σ H' => ∃ (ts : List V) (x4 x5 : Option V), σ = [some (.int n), some (.ref dl), some (.ref p), some (.ref t), x4, x5] ∧ Same H1 H' ∧ H' nl = some (.lst (ss.map V.str)) ∧ H' t = some (.lst ts) ∧ TupsAt H' ts (heldM (dayM (zeroM n.toNat) ds).1.1 (ss.take i)) ∧ ts.length ≤ i)
      ⟨[], none, none, rfl, s2.trans s3, hnl, s3 _ _ upd_same, .nil, Nat.le_refl _⟩ (fun i σ H' _ ⟨_, _, _, _, _, e, _⟩ => SqL.of e) ?_ ?_⟩
    · rintro i x σ H3 hx ⟨ts, x4, x5, rfl, s4, hn3, ht3, hT3, hl3⟩
      rw [List.getElem?_map] at hx
      cases ey : ss[i]? with
      | none => rw [ey] at hx; cases hx
      | some y =>
        rw [ey] at hx
        cases hx
        have hil : i < ss.length := (List.getElem?_eq_some_iff.mp ey).1
        refine ⟨_, rfl, p, dx, _, rfl, s4 _ _ hp, lk_no _ _ (by decide +kernel) (by decide +kernel), _, rfl, p, q, _, y, 63, rfl, hFew.2, by rw [hLn]; omega, hD.same s4, fun r H4 s5 hr => ?_⟩
        have s45 := s4.trans s5
        have hn4 := s5 _ _ hn3
        have ht4 := s5 _ _ ht3
        cases ez : decM 0 none (rowM (dayM (zeroM n.toNat) ds).1.1 y) with
        | none =>
          rw [ez] at hr
          have hr : r = .non := hr
          subst hr
          refine ⟨_, rfl, _, rfl, iteF' (by decide) ?_⟩
          exact ⟨ts, _, _, rfl, s45, hn4, ht4, by rw [heldM_no ey ez]; exact hT3.tk s5.tk, Nat.le_succ_of_le hl3⟩
        | some z =>
          obtain ⟨vx, j⟩ := z
          rw [ez] at hr
          obtain ⟨pp, hrp, hpp⟩ := hr
          subst hrp
          refine ⟨_, rfl, _, rfl, iteT' (by simp) ?_⟩
          refine ⟨_, rfl, .inl ⟨rfl, _, SqL.of ht4⟩, _, rfl, _, rfl, pp, _, _, _, rfl, rfl, SqT.of hpp, rfl, _, rfl, pp, _, _, _, rfl, rfl, SqT.of hpp, rfl, by show 3 ≤ sizeLine; decide, fun tp htp => ?_⟩
          have u1 := Same.new (o := .tup [.str y, .int vx, .int j]) htp
          have ntp : t ≠ tp := ne_of_none ht4 htp
          refine ⟨t, ts, .ref tp, rfl, rfl, u1 _ _ ht4, small' (by omega), ?_⟩
          have tk1 : Tk H4 (upd (upd H4 tp (.tup [.str y, .int vx, .int j])) t (.lst (ts ++ [.ref tp]))) := u1.tk.trans (Tk.lst (u1 _ _ ht4))
          refine ⟨ts ++ [.ref tp], _, _, rfl, (s45.trans u1).upd ht, by rw [upd_ne (Ne.symm ntn)]; exact u1 _ _ hn4, upd_same, ?_, by rw [List.length_append]; exact Nat.succ_le_succ hl3⟩
          rw [heldM_yes ey ez]
          exact Paired.snoc' ((hT3.tk s5.tk).tk tk1) ⟨tp, rfl, by rw [upd_ne (Ne.symm ntp), upd_same]⟩
    · rintro σ H3 ⟨ts, x4, x5, rfl, s4, hn3, ht3, hT3, hl3⟩
      rw [List.length_map, List.take_length] at hT3
      exact ⟨_, rfl, k t ts ss H3 (s1.trans s4) ht3 hnd hmem hso hsl hT3⟩
theorem scHolding : FnScope ["_law_state", "_law_name", "_law_found", "_law_k"] ["_law_state", "_law_name"] (defScope sHolding) := ⟨rfl, rfl, rfl, by decide +kernel, rfl, by decide +kernel, by decide +kernel⟩
theorem ok_holding {f : Addr} {fd : FuncData} (F : Fun K "_law_holding" "_law_holding" sHolding f fd) (T : Txt K mg CL CD) : FnOk P w K mg base CX0 1 f fd ["_law_state", "_law_name"] spHolding := by
  refine F.ok scHolding (fun vs H Q E h => ?_) (fun cdv A outer s H vs Q E hr h => ?_)
  · obtain ⟨l, n, st, m, rfl, _⟩ := h
    rfl
  · obtain ⟨l, n, st, m, rfl, ⟨vs, hl, hvs⟩, hOk, hst, k⟩ := h
    have nd := scHolding.nd
    have hu := hu_of hr
    have hll := hvs.length
    refine ⟨_, (pss_cons (ps_set (i := 2) nd rfl (Or.inl rfl) pe_non)
      (pss_cons (ps_for PassesOwn.never rfl (pi_range1 (by rfl) T.b_range (pa_cons (pe_callB call_len_seq (by rfl) T.b_len PySem.boot_len (pa_cons (pv 0) pa_nil)) pa_nil)) (pg_name (i := 3) nd rfl (Or.inl rfl))
        (pss_cons (ps_if (pt_cmp (pc_din hu (pv 1) (pe_ix ix_list (pe_ix ix_list (pv 0) (pv 3) (fun _ _ => rfl)) pe_int (fun _ _ => rfl))))
          (pss_one (ps_set (i := 2) nd rfl (Or.inl rfl) (pe_tup (pa_cons (pe_dget hu (pe_ix ix_list (pe_ix ix_list (pv 0) (pv 3) (fun _ _ => rfl)) pe_int (fun _ _ => rfl)) (pv 1) (fun _ _ => rfl)) (pa_cons (pv 3) pa_nil)))))
          pss_nil)
        (pss_one (ps_if (pt_cmp (pc_din hu (pv 1) (pe_ix ix_list (pe_ix ix_list (pv 0) (pv 3) (fun _ _ => rfl)) pe_int (fun _ _ => rfl))))
          (pss_one ps_break)
          pss_nil))))
      (pss_one (ps_ret (pv 2))))), ?_⟩
    refine ⟨_, rfl, l, vs, rfl, .inl (SqL.of hl), _, rfl, by omega, by omega, for_range (fun i σ H' => ∃ (h : V) (hd : Option (Int × Nat)) (x3 : Option V), σ = [some (.ref l), some (.str n), some h, x3] ∧ Same H H' ∧ HoldV H' h hd ∧ decM i hd ((rowM st n).drop i) = decM 0 none (rowM st n))
      ⟨.non, none, none, rfl, .refl _, rfl, rfl⟩ ?_ ?_⟩
    · rintro i σ H1 hi ⟨h, hd, x3, rfl, s1, hh, ed⟩
      rw [Int.toNat_natCast] at hi
      obtain ⟨z, hz, p, d1, d2, ep, g1, g2, g3⟩ := Paired.getL hvs (show vs[i]? = some vs[i] by simp [hi])
      have hat : atI vs (0 + (i : Int)) = some (.ref p) := by rw [Int.zero_add, ← ep]; exact atI_nat (by simp [hi])
      have hrow : (rowM st n)[i]? = some (valI z.1 n, has z.2 n) := by rw [rowM, List.getElem?_map, hz]; rfl
      rw [drop_cons hrow] at ed
      have hint := (hOk z (List.mem_of_getElem? hz)).1.2
      have f0 := s1 _ _ hl
      have f1 := s1 _ _ g1
      have f2 := s1 _ _ g2
      have f3 := s1 _ _ g3
      refine ⟨_, rfl, _, rfl, _, rfl, l, _, _, _, rfl, rfl, SqL.of f0, hat, p, _, _, _, rfl, rfl, SqL.of f1, rfl, d1, _, rfl, DGet.k (k := Sum.inr n) f2, _, rfl, ?_⟩
      cases hv : has z.1 n with
      | true =>
        have hv' : (valV z.1 (Sum.inr n)).isSome = true := hv
        obtain ⟨x, hx1, hx2⟩ := valI_of hint hv
        rw [hv']
        refine iteT ?_
        refine ⟨_, rfl, _, rfl, l, _, _, _, rfl, rfl, SqL.of f0, hat, p, _, _, _, rfl, rfl, SqL.of f1, rfl, _, rfl, d1, .int x, rfl, by rw [← hx1]; exact DGet.k (k := Sum.inr n) f2, _, rfl, size2, fun q hq => ?_⟩
        have s2 := Same.new (o := .tup [.int x, .int (0 + (i : Int))]) hq
        rw [hx2] at ed
        have hq2 : HoldV (upd H1 q (.tup [.int x, .int (0 + (i : Int))])) (.ref q) (some (x, i)) := ⟨q, rfl, by rw [upd_same, Int.zero_add]⟩
        refine ⟨_, rfl, _, rfl, _, rfl, l, _, _, _, rfl, rfl, SqL.of (s2 _ _ f0), hat, p, _, _, _, rfl, rfl, SqL.of (s2 _ _ f1), rfl, d2, _, rfl, DGet.k (k := Sum.inr n) (s2 _ _ f3), _, rfl, ?_⟩
        cases hk : has z.2 n with
        | true =>
          have hk' : (valV z.2 (Sum.inr n)).isSome = true := hk
          rw [hk']
          rw [hk] at ed
          exact iteT ⟨_, rfl, k _ _ (s1.trans s2) (by rw [← ed]; exact hq2)⟩
        | false =>
          have hk' : (valV z.2 (Sum.inr n)).isSome = false := hk
          rw [hk']
          rw [hk] at ed
          exact iteF ⟨_, some (x, i), _, rfl, s1.trans s2, hq2, ed⟩
      | false =>
        have hv' : (valV z.1 (Sum.inr n)).isSome = false := hv
        rw [hv']
        rw [valI_no hv] at ed
        refine iteF ?_
        refine ⟨_, rfl, _, rfl, _, rfl, l, _, _, _, rfl, rfl, SqL.of f0, hat, p, _, _, _, rfl, rfl, SqL.of f1, rfl, d2, _, rfl, DGet.k (k := Sum.inr n) f3, _, rfl, ?_⟩
        cases hk : has z.2 n with
        | true =>
          have hk' : (valV z.2 (Sum.inr n)).isSome = true := hk
          rw [hk']
          rw [hk] at ed
          exact iteT ⟨_, rfl, k _ _ s1 (by rw [← ed]; exact hh)⟩
        | false =>
          have hk' : (valV z.2 (Sum.inr n)).isSome = false := hk
          rw [hk']
          rw [hk] at ed
          exact iteF ⟨h, hd, _, rfl, s1, hh, ed⟩
    · rintro σ H1 ⟨h, hd, x3, rfl, s1, hh, ed⟩
      rw [Int.toNat_natCast] at ed
      have : (rowM st n).drop vs.length = [] := List.drop_eq_nil_of_le (by rw [rowM, List.length_map]; omega)
      rw [this] at ed
      exact ⟨_, rfl, k h H1 s1 (by rw [← ed]; exact hh)⟩
end
end K6
set_option Elab.async false
set_option linter.all false
set_option maxRecDepth 100000
set_option maxHeartbeats 4000000
namespace K6
open PySem L2 PySem.Spec PyProof.Rows
section
variable {P : Program} {w : World} {K : PySem.W.Frag} {mg : Str → Option Value} {base : Heap} {CL CD : Addr}
theorem scLaw : FnScope ["_law_script", "_law_layers", "_law_asked", "_law_handed", "_law_found", "_law_k", "_law_state", "_law_past", "_law_deed", "_law_later", "_law_due", "_law_names", "_law_row", "_law_name", "_law_told"] ["_law_script"] (defScope sLaw) := ⟨rfl, rfl, rfl, by decide +kernel, rfl, by decide +kernel, by decide +kernel⟩
def spLaw (K : PySem.W.Frag) : Sp := fun vs H Q _ => ∃ (a : Addr) (ns : List Int), vs = [.ref a] ∧ SqL K H a (ns.map V.int) ∧ ns.length ≤ 63 ∧ ∀ H', Q (.bl true) H'
theorem ok_law {f : Addr} {fd : FuncData} (F : Fun K "law" "law" sLaw f fd) (T : Txt K mg CL CD) (F__law_at : Fn P w K mg base 1 "_law_at" ["_law_script", "_law_k"] (spAt K)) (F__law_wide : Fn P w K mg base 1 "_law_wide" ["_law_script", "_law_few", "_law_bound"] (spWide K)) (F__law_deeds : Fn P w K mg base 2 "_law_deeds" ["_law_cells", "_law_layers"] (spDeeds K)) (F__law_unturned : Fn P w K mg base 1 "_law_unturned" ["_law_found", "_law_due"] spUnt) (F__law_next : Fn P w K mg base 2 "_law_next" ["_law_state", "_law_past", "_law_deed"] spNext) (F_held : Fn P w K mg base 8 "held" ["layers", "deeds"] spHeld) (F__law_holding : Fn P w K mg base 1 "_law_holding" ["_law_state", "_law_name"] spHolding) (F__law_whole : Fn P w K mg base 1 "_law_whole" ["_law_found"] spWho) : FnOk P w K mg base CX0 9 f fd ["_law_script"] (spLaw K) := by
  refine F.ok scLaw (fun vs H Q E h => ?_) (fun cdv A outer s H vs Q E hr h => ?_)
  · obtain ⟨a, ns, rfl, _⟩ := h
    rfl
  · obtain ⟨a, ns, rfl, hS, hlen, k⟩ := h
    have nd := scLaw.nd
    refine ⟨_, (pss_cons (ps_set (i := 1) nd rfl (Or.inl rfl) (pe_op op_add pe_int (pe_op op_mod (pe_callF F__law_at (hr.mono (by decide)) (by rfl) (pa_cons (pv 0) (pa_cons pe_int pa_nil))) (pe_callF F__law_wide (hr.mono (by decide)) (by rfl) (pa_cons (pv 0) (pa_cons pe_int (pa_cons pe_int pa_nil)))))))
      (pss_cons (ps_set (i := 2) nd rfl (Or.inl rfl) (pe_callF F__law_deeds (hr.mono (by decide)) (by rfl) (pa_cons (pe_slice sl_list (pv 0) (po_some pe_int) (po_some pe_int)) (pa_cons (pv 1) pa_nil))))
      (pss_cons (ps_set (i := 3) nd rfl (Or.inl rfl) (pe_callTy call_list_of (by rfl) T.b_list PyProof.Rows.boot_list (pa_cons (pv 2) pa_nil)))
      (pss_cons (ps_set (i := 4) nd rfl (Or.inl rfl) (pe_callF F_held (hr.mono (by decide)) (by rfl) (pa_cons (pv 1) (pa_cons (pv 3) pa_nil))))
      (pss_cons (ps_if (pt_not (pt_val (pe_callF F__law_unturned (hr.mono (by decide)) (by rfl) (pa_cons (pv 3) (pa_cons (pv 2) pa_nil)))))
        (pss_one (ps_ret pe_bl))
        pss_nil)
      (pss_cons (ps_comp (i := 6) rfl (CompSc.of (esc := defScope sLaw) (fr := []) (cap := []) rfl rfl ⟨rfl, by decide, by decide, rfl, by decide, by decide, .nil⟩) (pi_range1 (by rfl) T.b_range (pa_cons (pv 1) pa_nil)) (fun _ _ _ _ _ => pts_nil) (fun _ _ _ _ _ => (pe_lst (pa_cons pe_dnewK (pa_cons pe_dnewK pa_nil)))) nd rfl rfl rfl)
      (pss_cons (ps_set (i := 7) nd rfl (Or.inl rfl) (pe_lst pa_nil))
      (pss_cons (ps_for PassesOwn.never rfl (pi_list (pv 2)) (pg_name (i := 8) nd rfl (Or.inl rfl))
        (pss_cons (ps_set (i := 9) nd rfl (Or.inl rfl) (pe_callF F__law_next (hr.mono (by decide)) (by rfl) (pa_cons (pv 6) (pa_cons (pv 7) (pa_cons (pv 8) pa_nil)))))
        (pss_one (ps_if (pt_cmp (pc_notN (pv 9)))
          (pss_one (ps_set (i := 6) nd rfl (Or.inl rfl) (pv 9)))
          pss_nil))))
      (pss_cons (ps_set (i := 10) nd rfl (Or.inl rfl) (pe_lst pa_nil))
      (pss_cons (ps_set (i := 11) nd rfl (Or.inl rfl) (pe_lst pa_nil))
      (pss_cons (ps_for PassesOwn.never rfl (pi_list (pv 6)) (pg_name (i := 12) nd rfl (Or.inl rfl))
        (pss_one (ps_set (i := 11) nd rfl (Or.inl rfl) (pe_op op_cat (pv 11) (pe_callTy (call_list_dict rfl) (by rfl) T.b_list PyProof.Rows.boot_list (pa_cons (pe_ix ix_list (pv 12) pe_int (fun _ _ => rfl)) pa_nil))))))
      (pss_cons (ps_for PassesOwn.never rfl (pi_list (pe_callB (call_sorted_set rfl) (by rfl) T.b_sorted PyProof.Rows.boot_sorted (pa_cons (pe_callTy (call_set_strs rfl) (by rfl) T.b_set PyProof.Rows.boot_set (pa_cons (pv 11) pa_nil)) pa_nil))) (pg_name (i := 13) nd rfl (Or.inl rfl))
        (pss_cons (ps_set (i := 14) nd rfl (Or.inl rfl) (pe_callF F__law_holding (hr.mono (by decide)) (by rfl) (pa_cons (pv 6) (pa_cons (pv 13) pa_nil))))
        (pss_one (ps_if (pt_cmp (pc_notN (pv 14)))
          (pss_one (ps_expr (pe_bm PySem.F.plainAttrs_list PySem.F.slot_list_append PySem.F.type_list_append mt_append (pv 10) (pa_cons (pe_tup (pa_cons (pv 13) (pa_cons (pe_ix ix_tup (pv 14) pe_int (fun _ _ => rfl)) (pa_cons (pe_ix ix_tup (pv 14) pe_int (fun _ _ => rfl)) pa_nil)))) pa_nil))))
          pss_nil))))
      (pss_cons (ps_if (PW.pt (pw_or (pt_not (pt_val (pe_callB call_isT (by rfl) T.b_isinstance PyProof.Rows.boot_isinstance (pa_cons (pv 4) (pa_cons (pe_bltn (v := .ty "list") (by rfl) T.b_list PyProof.Rows.boot_list rfl) pa_nil))))) (pw_or1 (pt_cmpR op_ne (pe_callB call_len_seq (by rfl) T.b_len PySem.boot_len (pa_cons (pv 4) pa_nil)) (pe_callB call_len_seq (by rfl) T.b_len PySem.boot_len (pa_cons (pv 10) pa_nil)) (nomark _)))))
        (pss_one (ps_ret pe_bl))
        pss_nil)
      (pss_cons (ps_for PassesOwn.never rfl (pi_range1 (by rfl) T.b_range (pa_cons (pe_callB call_len_seq (by rfl) T.b_len PySem.boot_len (pa_cons (pv 10) pa_nil)) pa_nil)) (pg_name (i := 5) nd rfl (Or.inl rfl))
        (pss_cons (ps_if (PW.pt (pw_or (pt_not (pt_val (pe_callB call_isT (by rfl) T.b_isinstance PyProof.Rows.boot_isinstance (pa_cons (pe_ix ix_list (pv 4) (pv 5) (fun _ _ => rfl)) (pa_cons (pe_bltn (v := .ty "tuple") (by rfl) T.b_tuple PyProof.Rows.boot_tuple rfl) pa_nil))))) (pw_or1 (pt_cmpR op_ne (pe_callB call_len_seq (by rfl) T.b_len PySem.boot_len (pa_cons (pe_ix ix_list (pv 4) (pv 5) (fun _ _ => rfl)) pa_nil)) pe_int (nomark _)))))
          (pss_one (ps_ret pe_bl))
          pss_nil)
        (pss_cons (ps_if (PW.pt (pw_or (pt_not (pt_val (pe_callB call_isT (by rfl) T.b_isinstance PyProof.Rows.boot_isinstance (pa_cons (pe_ix ix_tup (pe_ix ix_list (pv 4) (pv 5) (fun _ _ => rfl)) pe_int (fun _ _ => rfl)) (pa_cons (pe_bltn (v := .ty "str") (by rfl) T.b_str PyProof.Rows.boot_str rfl) pa_nil))))) (pw_or1 (pt_not (pt_val (pe_callF F__law_whole (hr.mono (by decide)) (by rfl) (pa_cons (pe_ix ix_tup (pe_ix ix_list (pv 4) (pv 5) (fun _ _ => rfl)) pe_int (fun _ _ => rfl)) pa_nil)))))))
          (pss_one (ps_ret pe_bl))
          pss_nil)
        (pss_one (ps_if (PW.pt (pw_or (pt_not (pt_val (pe_callF F__law_whole (hr.mono (by decide)) (by rfl) (pa_cons (pe_ix ix_tup (pe_ix ix_list (pv 4) (pv 5) (fun _ _ => rfl)) pe_int (fun _ _ => rfl)) pa_nil)))) (pw_or1 (pt_cmpR (op_ne_tup hr.units0) (pe_ix ix_list (pv 4) (pv 5) (fun _ _ => rfl)) (pe_ix ix_list (pv 10) (pv 5) (fun _ _ => rfl)) (nomark _)))))
          (pss_one (ps_ret pe_bl))
          pss_nil)))))
      (pss_one (ps_ret pe_bl)))))))))))))))), ?_⟩
    -- layers
    refine ⟨_, rfl, a, ns, 0, rfl, hS, by decide, _, rfl, a, ns, 5, 100, rfl, hS, hlen, by decide, by decide, fun m H1 s1 hm1 hm2 => ⟨_, _, rfl, rfl, show 0 < m by omega, _, _, rfl, rfl, ?_⟩⟩
    have hn1 := Int.emod_nonneg (ns.getD (Int.toNat 0) 0) (show m ≠ 0 by omega)
    have hn2 := Int.emod_lt_of_pos (ns.getD (Int.toNat 0) 0) (show 0 < m by omega)
    obtain ⟨n, hn⟩ : ∃ n : Int, n = 1 + ns.getD (Int.toNat 0) 0 % m := ⟨_, rfl⟩
    -- asked
    refine ⟨_, rfl, _, rfl, _, rfl, a, _, rfl, s1.seq hS, fun q hq => ?_⟩
    obtain ⟨ms, em, hms⟩ := cut_map ns (some 1) (some 201)
    have s2 := s1.trans (Same.new (o := .lst (cutV (ns.map V.int) (some 1) (some 201))) hq)
    refine ⟨_, rfl, q, ms, _, rfl, SqL.of (by rw [upd_same, em]), by omega, ⟨by omega, by omega⟩, fun r rs ds H2 s2' hr0 hrl hT hl => ?_⟩
    have hrsl : rs.length = ds.length := by rw [hT.length, List.length_map]
    have hds : ds.length ≤ 63 := by omega
    have hn' : (1 + ns.getD (Int.toNat 0) 0 % m).toNat = n.toNat := by rw [hn]
    -- handed = list(asked)
    refine ⟨_, rfl, r, _, rfl, .inl (SqL.of hrl), fun hd hhd => ?_⟩
    have u1 := Same.new (o := .lst rs) hhd
    -- found = held(layers, handed)
    refine ⟨_, rfl, _, rfl, _, hd, rs, ds, rfl, by omega, by omega, upd_same, hT.tk u1.tk, hds, fun t ts ss H5 s5 ht hnd hmem hso hsl hTt => ?_⟩
    rw [hn'] at hmem hTt
    have hr5 := s5 _ _ (u1 _ _ hrl)
    have hT5 := (hT.tk u1.tk).tk s5.tk
    -- unturned(handed, asked)
    obtain ⟨ew, hE, hew⟩ := EqW.deeds (s5 _ _ upd_same) hr5 hT5
    refine ⟨_, rfl, _, rfl, _, _, ew, rfl, hE, by omega, fun H6 s6 => ⟨_, rfl, iteF' rfl ?_⟩⟩
    have ht6 := s6 _ _ ht
    have hr6 := s6 _ _ hr5
    have hT6 := hT5.tk s6.tk
    have hTt6 := hTt.tk s6.tk
    clear hTt hT5 hr5 ht hT hrl
    -- state
    refine ⟨_, rfl, _, rfl, by omega, by omega, fun D2 hD2 => comp_range (fun i ys H' => RowsZ D2 H6 H' i ys) ⟨Same.new hD2, upd_same, .nil⟩ ?_ ?_ ?_⟩
    · rintro i zs H' hi ⟨_, e, hp⟩
      have := hp.length
      rw [List.length_replicate] at this
      exact ⟨e, small' (by omega)⟩
    · rintro i zs H7 hi hz
      refine comp_yes ?_
      intro d1 hd1 d2 hd2
      refine ⟨size2, fun p hp => ?_⟩
      exact hz.more hD2 hd1 hd2 hp
    rintro zs H7 ⟨s7, e7, hz⟩
    -- past = []
    refine ⟨Nat.zero_le _, fun pq hpq => ?_⟩
    have hLen : LenD n.toNat (zeroM n.toNat) := LenD.zero _
    rw [hn'] at hz
    have sB : Same H7 (hid pq pq (upd H7 pq (.lst []))) := fun b o e => hid_get (Same.new hpq _ _ e) (ne_of_none e hpq) (ne_of_none e hpq)
    have sA2 : Same H6 (hid pq pq (upd H7 pq (.lst []))) := s7.trans sB
    -- for deed in asked
    refine ⟨_, rfl, r, rfl, ⟨_, SqL.of (of_hid (sA2 _ _ hr6)).1⟩, for_list (K := K) (a := r) (xs := rs) (fun i σ H' => ∃ (l : Addr) (x8 x9 : Option V), σ = [some (.ref a), some (.int (1 + ns.getD (Int.toNat 0) 0 % m)), some (.ref r), some (.ref hd), some (.ref t), none, some (.ref l), some (.ref pq), x8, x9, none, none, none, none, none] ∧ Same H6 (hid pq pq H') ∧ LawD H' l pq (dayM (zeroM n.toNat) (ds.take i)).1)
      ⟨D2, none, none, rfl, sA2, [], upd_same, ⟨zs, sB _ _ e7, Paired.mapP hz fun v z h => h.same (hid_sub.trans sB)⟩, .nil⟩ (fun i σ H' _ ⟨_, _, _, _, s1, _⟩ => SqL.of (of_hid (s1 _ _ hr6)).1) ?_ ?_⟩
    · rintro i x σ H8 hx ⟨l, x8, x9, rfl, s8, hLD⟩
      obtain ⟨b, hb, p, rfl, hp⟩ := Paired.getL hT6 hx
      rw [List.getElem?_map] at hb
      cases ed : ds[i]? with
      | none => rw [ed] at hb; cases hb
      | some dd =>
        rw [ed] at hb
        cases hb
        have hil : i < ds.length := (List.getElem?_eq_some_iff.mp ed).1
        have hp8 := (of_hid (s8 _ _ hp)).1
        have hOk : OkDay (0 + (ds.take i).length) (dayM (zeroM n.toNat) (ds.take i)).1 := (OkDay.zero _).day
        have hLn := (hLen.day (r := ds.take i)).1
        have hnx := dayM_take (s := zeroM n.toNat) ed
        refine ⟨_, rfl, _, rfl, _, rfl, l, pq, p, _, dd, _, rfl, hp8, hLD, hOk, by rw [List.length_take]; omega, by rw [hLn]; omega, fun r' H9 s9 hNV => ?_⟩
        have s89 := s8.trans s9
        rcases hNV with ⟨rfl, hb, hL9⟩ | ⟨l', rfl, hb, hL9⟩
        · refine ⟨_, rfl, _, rfl, iteF' (by decide) ?_⟩
          exact ⟨l, _, _, rfl, s89, by rw [hnx, nextM_same hb]; exact hL9⟩
        · refine ⟨_, rfl, _, rfl, iteT' (by simp) ?_⟩
          exact ⟨_, rfl, l', _, _, rfl, s89, by rw [hnx]; exact hL9⟩
    rintro σ H8 ⟨l, x8, x9, rfl, s8, hLD⟩
    rw [hrsl, List.take_length] at hLD
    have t8 : Same H6 H8 := fun b u e => (of_hid (s8 _ _ e)).1
    obtain ⟨ls, hq8, hl8', _⟩ := hLD
    have hl8 := hl8'.same hid_sub
    clear hl8'
    have ht8 := t8 _ _ ht6
    have hT8 := hTt6.tk t8.tk
    have hLn := (hLen.day (r := ds)).1
    have hFew := few_day (n := n.toNat) hds 0
    rw [List.replicate_zero, List.append_nil] at hFew
    obtain ⟨U, hUl, hU⟩ := day_names n.toNat ds
    generalize (dayM (zeroM n.toNat) ds).1.1 = st at hmem hT8 hl8 hLn hFew hU
    clear hTt6 t8 s8 hz sA2 sB
    obtain ⟨vs, hl8, hvs⟩ := hl8
    have hvl := hvs.length
    -- due = []; names = []
    refine ⟨Nat.zero_le _, fun du hdu => ?_⟩
    have v1 := Same.new (o := .lst []) hdu
    refine ⟨Nat.zero_le _, fun n0 hn0 => ?_⟩
    have v2 := Same.new (o := .lst []) hn0
    have v12 := v1.trans v2
    -- for row in state
    refine ⟨_, rfl, l, rfl, ⟨_, SqL.of (v12 _ _ hl8)⟩, for_list (K := K) (a := l) (xs := vs) (fun i σ H' => ∃ (nl : Addr) (x12 : Option V), σ = [some (.ref a), some (.int (1 + ns.getD (Int.toNat 0) 0 % m)), some (.ref r), some (.ref hd), some (.ref t), none, some (.ref l), some (.ref pq), x8, x9, some (.ref du), some (.ref nl), x12, none, none] ∧ Same H8 H' ∧ H' du = some (.lst []) ∧ H' nl = some (.lst ((allN (st.take i)).map V.str)) ∧ (allN (st.take i)).length ≤ 63 * i)
      ⟨n0, none, rfl, v12, v2 _ _ upd_same, upd_same, Nat.le_refl _⟩ (fun i σ H' _ ⟨_, _, _, s1, _⟩ => SqL.of (s1 _ _ hl8)) ?_ ?_⟩
    · rintro i x σ H9 hx ⟨nl, x12, rfl, s9, hdu9, hnl9, hnl⟩
      obtain ⟨z, hz, p, d1, d2, rfl, g1, g2, g3⟩ := Paired.getL hvs hx
      have hzm := List.mem_of_getElem? hz
      have hzk := ksOf_key (hFew.1 z hzm).1
      have hil : i < st.length := (List.getElem?_eq_some_iff.mp hz).1
      have hz63 := (hFew.2 z hzm).1.1
      have hkl := keyS_len hzk
      have hst : allN (st.take (i + 1)) = allN (st.take i) ++ ksOf z.1 := by
        unfold allN
        rw [List.take_add_one, hz, List.flatMap_append]
        simp
      refine ⟨_, rfl, _, rfl, p, _, _, _, rfl, rfl, SqL.of (s9 _ _ g1), rfl, d1, _, rfl, s9 _ _ g2, fun q1 hq1 => ?_⟩
      have w1 := Same.new (o := .lst (keysV z.1)) hq1
      refine ⟨nl, q1, _, _, rfl, rfl, w1 _ _ hnl9, upd_same, small (by unfold keysV; rw [List.length_map, List.length_map]; omega), fun q2 hq2 => ?_⟩
      have w2 := Same.new (o := .lst ((allN (st.take i)).map V.str ++ keysV z.1)) hq2
      refine ⟨q2, _, rfl, (s9.trans w1).trans w2, (w1.trans w2) _ _ hdu9, ?_, ?_⟩
      · rw [upd_same, hst, List.map_append, keysV_of hzk]
      · rw [hst, List.length_append]
        omega
    rintro σ H9 ⟨nl, x12, rfl, s9, hdu9, hnl9, hnl⟩
    rw [List.take_of_length_le (by omega)] at hnl9
    -- for name in sorted(set(names))
    refine ⟨_, rfl, nl, _, U, rfl, SqL.of hnl9, hU, by omega, fun sv su hsv hsund hsum => ?_⟩
    have w3 := Same.new (o := SetV P w sv su) hsv
    have hsul : su.length < 64 := by
      have := nodup_le hsund fun y hy => hU y ((hsum y).mp hy)
      omega
    refine ⟨sv, su, rfl, upd_same, hsul, fun s' sl hp1 hso1 hsl1 => ?_⟩
    have hss : s' = ss := sorted_one (hp1.trans (nodup_perm hsund hnd fun y => (hsum y).trans (hmem y).symm)) hso1 hso
    subst hss
    have w4 := Same.new (o := .lst (s'.map V.str)) hsl1
    have w34 := w3.trans w4
    have hdu10 := w34 _ _ hdu9
    have hsl10 := upd_same (H := upd H9 sv (SetV P w sv su)) (a := sl) (o := .lst (s'.map V.str))
    have nds : du ≠ sl := ne_of_none (w3 _ _ hdu9) hsl1
    have s10 := s9.trans w34
    have hdu8 : H8 du = none := hdu
    refine ⟨sl, rfl, ⟨_, SqL.of hsl10⟩, for_list (K := K) (a := sl) (xs := s'.map V.str) (fun i σ H' => ∃ (es : List V) (x13 x14 : Option V), σ = [some (.ref a), some (.int (1 + ns.getD (Int.toNat 0) 0 % m)), some (.ref r), some (.ref hd), some (.ref t), none, some (.ref l), some (.ref pq), x8, x9, some (.ref du), some (.ref nl), x12, x13, x14] ∧ Same H8 H' ∧ H' du = some (.lst es) ∧ H' sl = some (.lst (s'.map V.str)) ∧ TupsAt H' es (heldM st (s'.take i)) ∧ es.length ≤ i)
      ⟨[], none, none, rfl, s10, hdu10, hsl10, .nil, Nat.le_refl _⟩ (fun i σ H' _ ⟨_, _, _, _, _, _, e, _⟩ => SqL.of e) ?_ ?_⟩
    · rintro i x σ H11 hx ⟨es, x13, x14, rfl, s11, hdu11, hsl11, hTe, hel⟩
      rw [List.getElem?_map] at hx
      cases ey : s'[i]? with
      | none => rw [ey] at hx; cases hx
      | some y =>
        rw [ey] at hx
        cases hx
        have hil : i < s'.length := (List.getElem?_eq_some_iff.mp ey).1
        refine ⟨_, rfl, _, rfl, l, y, st, 63, rfl, ⟨vs, s11 _ _ hl8, Paired.mapP hvs fun a b h => h.same s11⟩, hFew.2, by rw [hLn]; omega, fun r' H12 s12 hr' => ?_⟩
        have hdu12 := s12 _ _ hdu11
        cases ez : decM 0 none (rowM st y) with
        | none =>
          rw [ez] at hr'
          have hr' : r' = .non := hr'
          subst hr'
          refine ⟨_, rfl, _, rfl, iteF' (by decide) ?_⟩
          exact ⟨es, _, _, rfl, s11.trans s12, hdu12, s12 _ _ hsl11, by rw [heldM_no ey ez]; exact hTe.tk s12.tk, Nat.le_succ_of_le hel⟩
        | some z =>
          obtain ⟨vx, j⟩ := z
          rw [ez] at hr'
          obtain ⟨pp, hrp, hpp⟩ := hr'
          subst hrp
          refine ⟨_, rfl, _, rfl, iteT' (by simp) ?_⟩
          refine ⟨_, rfl, .inl ⟨rfl, _, SqL.of hdu12⟩, _, rfl, _, rfl, pp, _, _, _, rfl, rfl, SqT.of hpp, rfl, _, rfl, pp, _, _, _, rfl, rfl, SqT.of hpp, rfl, by show 3 ≤ sizeLine; decide, fun tp htp => ?_⟩
          have y1 := Same.new (o := .tup [.str y, .int vx, .int j]) htp
          have ntp : du ≠ tp := ne_of_none hdu12 htp
          refine ⟨du, es, .ref tp, rfl, rfl, y1 _ _ hdu12, small' (by omega), ?_⟩
          have tk1 : Tk H12 (upd (upd H12 tp (.tup [.str y, .int vx, .int j])) du (.lst (es ++ [.ref tp]))) := y1.tk.trans (Tk.lst (y1 _ _ hdu12))
          refine ⟨es ++ [.ref tp], _, _, rfl, ((s11.trans s12).trans y1).upd hdu8, upd_same, by rw [upd_ne (Ne.symm nds)]; exact y1 _ _ (s12 _ _ hsl11), ?_, by rw [List.length_append]; exact Nat.succ_le_succ hel⟩
          rw [heldM_yes ey ez]
          exact Paired.snoc' ((hTe.tk s12.tk).tk tk1) ⟨tp, rfl, by rw [upd_ne (Ne.symm ntp), upd_same]⟩
    rintro σ H11 ⟨es, x13, x14, rfl, s11, hdu11, hsl11, hTe, hel⟩
    rw [List.length_map, List.take_length] at hTe
    have hll := hTe.length
    have htl := hT8.length
    have ht11 := s11 _ _ ht8
    have hT11 := hT8.tk s11.tk
    have hhl := heldM_len st s'
    -- not isinstance(found, list) or len(found) != len(due)
    refine ⟨_, rfl, _, _, _, _, rfl, .lst ht11, k_list_list _, _, rfl, iteF' rfl ?_⟩
    refine ⟨_, rfl, t, ts, rfl, .inl (SqL.of ht11), _, rfl, du, es, rfl, .inl (SqL.of hdu11), rfl, _, rfl, iteF' (by rw [hll, htl]; simp) ?_⟩
    -- for k in range(len(due))
    refine ⟨_, rfl, du, es, rfl, .inl (SqL.of hdu11), _, rfl, by omega, by omega, for_range (fun i σ H' => ∃ (x5 : Option V), σ = [some (.ref a), some (.int (1 + ns.getD (Int.toNat 0) 0 % m)), some (.ref r), some (.ref hd), some (.ref t), x5, some (.ref l), some (.ref pq), x8, x9, some (.ref du), some (.ref nl), x12, x13, x14] ∧ H' = H11)
      ⟨none, rfl, rfl⟩ ?_ ?_⟩
    · rintro i σ H12 hi ⟨x5, rfl, rfl⟩
      rw [Int.toNat_natCast] at hi
      have hi2 : i < ts.length := by omega
      obtain ⟨xs, hxs, p, ep, hp⟩ := Paired.getL hT11 (show ts[i]? = some ts[i] by simp [hi2])
      obtain ⟨v, hv, p', rfl, hp'⟩ := Paired.getR hTe hxs
      obtain ⟨y, vx, j, rfl⟩ := heldM_row hxs
      have hat : atI ts (0 + (i : Int)) = some (.ref p) := by rw [Int.zero_add, ← ep]; exact atI_nat (by simp [hi2])
      have hat' : atI es (0 + (i : Int)) = some (.ref p') := by rw [Int.zero_add]; exact atI_nat hv
      -- not isinstance(found[k], tuple) or len(found[k]) != 3
      refine ⟨_, rfl, _, rfl, t, ts, _, _, rfl, rfl, SqL.of ht11, hat, _, _, _, _, rfl, .tup hp, k_tuple_tuple _, _, rfl, iteF' rfl ?_⟩
      refine ⟨_, rfl, _, rfl, t, ts, _, _, rfl, rfl, SqL.of ht11, hat, p, _, rfl, .inr (SqT.of hp), rfl, _, rfl, iteF' rfl ?_⟩
      -- not isinstance(found[k][0], str) or not whole(found[k][1])
      refine ⟨_, rfl, _, rfl, t, ts, _, _, rfl, rfl, SqL.of ht11, hat, p, _, _, _, rfl, rfl, SqT.of hp, rfl, _, _, _, _, rfl, .str _, k_str_str _, _, rfl, iteF' rfl ?_⟩
      refine ⟨_, rfl, _, rfl, t, ts, _, _, rfl, rfl, SqL.of ht11, hat, p, _, _, _, rfl, rfl, SqT.of hp, rfl, _, rfl, _, rfl, iteF' rfl ?_⟩
      -- not whole(found[k][2]) or found[k] != due[k]
      refine ⟨_, rfl, _, rfl, t, ts, _, _, rfl, rfl, SqL.of ht11, hat, p, _, _, _, rfl, rfl, SqT.of hp, rfl, _, rfl, _, rfl, iteF' rfl ?_⟩
      exact ⟨_, rfl, _, rfl, t, ts, _, _, rfl, rfl, SqL.of ht11, hat, _, rfl, _, rfl, du, es, _, _, rfl, rfl, SqL.of hdu11, hat', p, p', _, rfl, rfl, hp, hp', rfl, _, rfl, iteF' rfl ⟨_, rfl, rfl⟩⟩
    · rintro σ H12 ⟨x5, rfl, rfl⟩
      exact k H12
end
end K6
set_option Elab.async false
set_option linter.all false
set_option maxRecDepth 100000
set_option maxHeartbeats 4000000
namespace K6
open PySem L2
theorem all_mk {l : PySem.W.OpenLaw} {w : World} {K : PySem.W.Frag} {h : Heap} {mg : Str → Option Value} {fa : Addr} (X : K.In h) (G : h.Ns mainGlobals mg) (hfa : mg "law" = some (.ref fa))
    {C0 : Addr}
    {odm0_init anm0_init : Option Addr} {slm0_init : Array (Option Value)} {ocm0_init kVm0_init dcm0_init pmm0_init cdm0_init ctm0_init : Value} {fm0_init : Addr}
    {C1 : Addr}
    {odm1_init anm1_init : Option Addr} {slm1_init : Array (Option Value)} {ocm1_init kVm1_init dcm1_init pmm1_init cdm1_init ctm1_init : Value} {fm1_init : Addr}
    {odm1_is_there anm1_is_there : Option Addr} {slm1_is_there : Array (Option Value)} {ocm1_is_there kVm1_is_there dcm1_is_there pmm1_is_there cdm1_is_there ctm1_is_there : Value} {fm1_is_there : Addr}
    {odm1_has_value anm1_has_value : Option Addr} {slm1_has_value : Array (Option Value)} {ocm1_has_value kVm1_has_value dcm1_has_value pmm1_has_value cdm1_has_value ctm1_has_value : Value} {fm1_has_value : Addr}
    {odm1_has_lock anm1_has_lock : Option Addr} {slm1_has_lock : Array (Option Value)} {ocm1_has_lock kVm1_has_lock dcm1_has_lock pmm1_has_lock cdm1_has_lock ctm1_has_lock : Value} {fm1_has_lock : Addr}
    {odm1_put anm1_put : Option Addr} {slm1_put : Array (Option Value)} {ocm1_put kVm1_put dcm1_put pmm1_put cdm1_put ctm1_put : Value} {fm1_put : Addr}
    {odm1_set_value anm1_set_value : Option Addr} {slm1_set_value : Array (Option Value)} {ocm1_set_value kVm1_set_value dcm1_set_value pmm1_set_value cdm1_set_value ctm1_set_value : Value} {fm1_set_value : Addr}
    {odm1_unset_value anm1_unset_value : Option Addr} {slm1_unset_value : Array (Option Value)} {ocm1_unset_value kVm1_unset_value dcm1_unset_value pmm1_unset_value cdm1_unset_value ctm1_unset_value : Value} {fm1_unset_value : Addr}
    {odm1_lock anm1_lock : Option Addr} {slm1_lock : Array (Option Value)} {ocm1_lock kVm1_lock dcm1_lock pmm1_lock cdm1_lock ctm1_lock : Value} {fm1_lock : Addr}
    {odm1_unlock anm1_unlock : Option Addr} {slm1_unlock : Array (Option Value)} {ocm1_unlock kVm1_unlock dcm1_unlock pmm1_unlock cdm1_unlock ctm1_unlock : Value} {fm1_unlock : Addr}
    {odm1_copy_values anm1_copy_values : Option Addr} {slm1_copy_values : Array (Option Value)} {ocm1_copy_values kVm1_copy_values dcm1_copy_values pmm1_copy_values cdm1_copy_values ctm1_copy_values : Value} {fm1_copy_values : Addr}
    {odm1_undo anm1_undo : Option Addr} {slm1_undo : Array (Option Value)} {ocm1_undo kVm1_undo dcm1_undo pmm1_undo cdm1_undo ctm1_undo : Value} {fm1_undo : Addr}
    {odm1_holds anm1_holds : Option Addr} {slm1_holds : Array (Option Value)} {ocm1_holds kVm1_holds dcm1_holds pmm1_holds cdm1_holds ctm1_holds : Value} {fm1_holds : Addr}
    {odm1_names_with_value anm1_names_with_value : Option Addr} {slm1_names_with_value : Array (Option Value)} {ocm1_names_with_value kVm1_names_with_value dcm1_names_with_value pmm1_names_with_value cdm1_names_with_value ctm1_names_with_value : Value} {fm1_names_with_value : Addr}
    {oddec andec : Option Addr} {sldec : Array (Option Value)} {ocdec kVdec dcdec pmdec cddec ctdec : Value} {fdec : Addr}
    {odwith anwith : Option Addr} {slwith : Array (Option Value)} {ocwith kVwith dcwith pmwith cdwith ctwith : Value} {fwith : Addr}
    {odwithout anwithout : Option Addr} {slwithout : Array (Option Value)} {ocwithout kVwithout dcwithout pmwithout cdwithout ctwithout : Value} {fwithout : Addr}
    {odanswer ananswer : Option Addr} {slanswer : Array (Option Value)} {ocanswer kVanswer dcanswer pmanswer cdanswer ctanswer : Value} {fanswer : Addr}
    {oddone andone : Option Addr} {sldone : Array (Option Value)} {ocdone kVdone dcdone pmdone cddone ctdone : Value} {fdone : Addr}
    {odbehind anbehind : Option Addr} {slbehind : Array (Option Value)} {ocbehind kVbehind dcbehind pmbehind cdbehind ctbehind : Value} {fbehind : Addr}
    {odheld anheld : Option Addr} {slheld : Array (Option Value)} {ocheld kVheld dcheld pmheld cdheld ctheld : Value} {fheld : Addr}
    {odwide anwide : Option Addr} {slwide : Array (Option Value)} {ocwide kVwide dcwide pmwide cdwide ctwide : Value} {fwide : Addr}
    {odunt anunt : Option Addr} {slunt : Array (Option Value)} {ocunt kVunt dcunt pmunt cdunt ctunt : Value} {funt : Addr}
    {odwho anwho : Option Addr} {slwho : Array (Option Value)} {ocwho kVwho dcwho pmwho cdwho ctwho : Value} {fwho : Addr}
    {odat anat : Option Addr} {slat : Array (Option Value)} {ocat kVat dcat pmat cdat ctat : Value} {fat : Addr}
    {odname anname : Option Addr} {slname : Array (Option Value)} {ocname kVname dcname pmname cdname ctname : Value} {fname : Addr}
    {oddeeds andeeds : Option Addr} {sldeeds : Array (Option Value)} {ocdeeds kVdeeds dcdeeds pmdeeds cddeeds ctdeeds : Value} {fdeeds : Addr}
    {odcop ancop : Option Addr} {slcop : Array (Option Value)} {occop kVcop dccop pmcop cdcop ctcop : Value} {fcop : Addr}
    {odcha ancha : Option Addr} {slcha : Array (Option Value)} {occha kVcha dccha pmcha cdcha ctcha : Value} {fcha : Addr}
    {odnext annext : Option Addr} {slnext : Array (Option Value)} {ocnext kVnext dcnext pmnext cdnext ctnext : Value} {fnext : Addr}
    {odholding anholding : Option Addr} {slholding : Array (Option Value)} {ocholding kVholding dcholding pmholding cdholding ctholding : Value} {fholding : Addr}
    {odlaw anlaw : Option Addr} {sllaw : Array (Option Value)} {oclaw kVlaw dclaw pmlaw cdlaw ctlaw : Value} {flaw : Addr}
    (aC0 : PySem.W.nsIn K mainGlobals "Layer" = some (some (.ref C0)))
    (am0_init : PySem.W.findIn K (.ref C0) "__init__" = some (some (.ref fm0_init)))
    (lm0_init : K.lookup fm0_init = some ⟨ocm0_init, odm0_init, .func (PySem.W.fnOf "__init__" "Layer.__init__" (defArgs sLinit) (defBody sLinit) (defScope sLinit) .none kVm0_init dcm0_init pmm0_init anm0_init cdm0_init ctm0_init), slm0_init⟩)
    (cm0_init : PySem.W.codeIn K cdm0_init "Layer.__init__" = true)
    (km0_init : PySem.W.keepIn K (.ref fm0_init) = true)
    (im0_init : PySem.W.isFn K (.ref fm0_init) = true)
    (pg0 : PySem.W.plainGet K C0 Str.empty = true)
    (hd0 : PySem.W.hasDictIn K C0 = true)
    (po0 : PySem.W.plainOver K C0 = true)
    (sa0 : PySem.W.findIn K (.ref C0) "__setattr__" = some (some (.builtin "object.__setattr__")))
    (mk0 : PySem.W.makesIn K C0 = true)
    (kc0 : PySem.W.keepIn K (.ref C0) = true)
    (n0_valued : PySem.W.findIn K (.ref C0) "valued" = some none)
    (n0_locked : PySem.W.findIn K (.ref C0) "locked" = some none)
    (aC1 : PySem.W.nsIn K mainGlobals "Dial" = some (some (.ref C1)))
    (am1_init : PySem.W.findIn K (.ref C1) "__init__" = some (some (.ref fm1_init)))
    (lm1_init : K.lookup fm1_init = some ⟨ocm1_init, odm1_init, .func (PySem.W.fnOf "__init__" "Dial.__init__" (defArgs sDinit) (defBody sDinit) (defScope sDinit) .none kVm1_init dcm1_init pmm1_init anm1_init cdm1_init ctm1_init), slm1_init⟩)
    (cm1_init : PySem.W.codeIn K cdm1_init "Dial.__init__" = true)
    (km1_init : PySem.W.keepIn K (.ref fm1_init) = true)
    (im1_init : PySem.W.isFn K (.ref fm1_init) = true)
    (am1_is_there : PySem.W.findIn K (.ref C1) "is_there" = some (some (.ref fm1_is_there)))
    (lm1_is_there : K.lookup fm1_is_there = some ⟨ocm1_is_there, odm1_is_there, .func (PySem.W.fnOf "is_there" "Dial.is_there" (defArgs sThere) (defBody sThere) (defScope sThere) .none kVm1_is_there dcm1_is_there pmm1_is_there anm1_is_there cdm1_is_there ctm1_is_there), slm1_is_there⟩)
    (cm1_is_there : PySem.W.codeIn K cdm1_is_there "Dial.is_there" = true)
    (km1_is_there : PySem.W.keepIn K (.ref fm1_is_there) = true)
    (im1_is_there : PySem.W.isFn K (.ref fm1_is_there) = true)
    (am1_has_value : PySem.W.findIn K (.ref C1) "has_value" = some (some (.ref fm1_has_value)))
    (lm1_has_value : K.lookup fm1_has_value = some ⟨ocm1_has_value, odm1_has_value, .func (PySem.W.fnOf "has_value" "Dial.has_value" (defArgs sHasV) (defBody sHasV) (defScope sHasV) .none kVm1_has_value dcm1_has_value pmm1_has_value anm1_has_value cdm1_has_value ctm1_has_value), slm1_has_value⟩)
    (cm1_has_value : PySem.W.codeIn K cdm1_has_value "Dial.has_value" = true)
    (km1_has_value : PySem.W.keepIn K (.ref fm1_has_value) = true)
    (im1_has_value : PySem.W.isFn K (.ref fm1_has_value) = true)
    (am1_has_lock : PySem.W.findIn K (.ref C1) "has_lock" = some (some (.ref fm1_has_lock)))
    (lm1_has_lock : K.lookup fm1_has_lock = some ⟨ocm1_has_lock, odm1_has_lock, .func (PySem.W.fnOf "has_lock" "Dial.has_lock" (defArgs sHasL) (defBody sHasL) (defScope sHasL) .none kVm1_has_lock dcm1_has_lock pmm1_has_lock anm1_has_lock cdm1_has_lock ctm1_has_lock), slm1_has_lock⟩)
    (cm1_has_lock : PySem.W.codeIn K cdm1_has_lock "Dial.has_lock" = true)
    (km1_has_lock : PySem.W.keepIn K (.ref fm1_has_lock) = true)
    (im1_has_lock : PySem.W.isFn K (.ref fm1_has_lock) = true)
    (am1_put : PySem.W.findIn K (.ref C1) "put" = some (some (.ref fm1_put)))
    (lm1_put : K.lookup fm1_put = some ⟨ocm1_put, odm1_put, .func (PySem.W.fnOf "put" "Dial.put" (defArgs sPut) (defBody sPut) (defScope sPut) .none kVm1_put dcm1_put pmm1_put anm1_put cdm1_put ctm1_put), slm1_put⟩)
    (cm1_put : PySem.W.codeIn K cdm1_put "Dial.put" = true)
    (km1_put : PySem.W.keepIn K (.ref fm1_put) = true)
    (im1_put : PySem.W.isFn K (.ref fm1_put) = true)
    (am1_set_value : PySem.W.findIn K (.ref C1) "set_value" = some (some (.ref fm1_set_value)))
    (lm1_set_value : K.lookup fm1_set_value = some ⟨ocm1_set_value, odm1_set_value, .func (PySem.W.fnOf "set_value" "Dial.set_value" (defArgs sSet) (defBody sSet) (defScope sSet) .none kVm1_set_value dcm1_set_value pmm1_set_value anm1_set_value cdm1_set_value ctm1_set_value), slm1_set_value⟩)
    (cm1_set_value : PySem.W.codeIn K cdm1_set_value "Dial.set_value" = true)
    (km1_set_value : PySem.W.keepIn K (.ref fm1_set_value) = true)
    (im1_set_value : PySem.W.isFn K (.ref fm1_set_value) = true)
    (am1_unset_value : PySem.W.findIn K (.ref C1) "unset_value" = some (some (.ref fm1_unset_value)))
    (lm1_unset_value : K.lookup fm1_unset_value = some ⟨ocm1_unset_value, odm1_unset_value, .func (PySem.W.fnOf "unset_value" "Dial.unset_value" (defArgs sUnset) (defBody sUnset) (defScope sUnset) .none kVm1_unset_value dcm1_unset_value pmm1_unset_value anm1_unset_value cdm1_unset_value ctm1_unset_value), slm1_unset_value⟩)
    (cm1_unset_value : PySem.W.codeIn K cdm1_unset_value "Dial.unset_value" = true)
    (km1_unset_value : PySem.W.keepIn K (.ref fm1_unset_value) = true)
    (im1_unset_value : PySem.W.isFn K (.ref fm1_unset_value) = true)
    (am1_lock : PySem.W.findIn K (.ref C1) "lock" = some (some (.ref fm1_lock)))
    (lm1_lock : K.lookup fm1_lock = some ⟨ocm1_lock, odm1_lock, .func (PySem.W.fnOf "lock" "Dial.lock" (defArgs sLock) (defBody sLock) (defScope sLock) .none kVm1_lock dcm1_lock pmm1_lock anm1_lock cdm1_lock ctm1_lock), slm1_lock⟩)
    (cm1_lock : PySem.W.codeIn K cdm1_lock "Dial.lock" = true)
    (km1_lock : PySem.W.keepIn K (.ref fm1_lock) = true)
    (im1_lock : PySem.W.isFn K (.ref fm1_lock) = true)
    (am1_unlock : PySem.W.findIn K (.ref C1) "unlock" = some (some (.ref fm1_unlock)))
    (lm1_unlock : K.lookup fm1_unlock = some ⟨ocm1_unlock, odm1_unlock, .func (PySem.W.fnOf "unlock" "Dial.unlock" (defArgs sUnlock) (defBody sUnlock) (defScope sUnlock) .none kVm1_unlock dcm1_unlock pmm1_unlock anm1_unlock cdm1_unlock ctm1_unlock), slm1_unlock⟩)
    (cm1_unlock : PySem.W.codeIn K cdm1_unlock "Dial.unlock" = true)
    (km1_unlock : PySem.W.keepIn K (.ref fm1_unlock) = true)
    (im1_unlock : PySem.W.isFn K (.ref fm1_unlock) = true)
    (am1_copy_values : PySem.W.findIn K (.ref C1) "copy_values" = some (some (.ref fm1_copy_values)))
    (lm1_copy_values : K.lookup fm1_copy_values = some ⟨ocm1_copy_values, odm1_copy_values, .func (PySem.W.fnOf "copy_values" "Dial.copy_values" (defArgs sCopy) (defBody sCopy) (defScope sCopy) .none kVm1_copy_values dcm1_copy_values pmm1_copy_values anm1_copy_values cdm1_copy_values ctm1_copy_values), slm1_copy_values⟩)
    (cm1_copy_values : PySem.W.codeIn K cdm1_copy_values "Dial.copy_values" = true)
    (km1_copy_values : PySem.W.keepIn K (.ref fm1_copy_values) = true)
    (im1_copy_values : PySem.W.isFn K (.ref fm1_copy_values) = true)
    (am1_undo : PySem.W.findIn K (.ref C1) "undo" = some (some (.ref fm1_undo)))
    (lm1_undo : K.lookup fm1_undo = some ⟨ocm1_undo, odm1_undo, .func (PySem.W.fnOf "undo" "Dial.undo" (defArgs sUndo) (defBody sUndo) (defScope sUndo) .none kVm1_undo dcm1_undo pmm1_undo anm1_undo cdm1_undo ctm1_undo), slm1_undo⟩)
    (cm1_undo : PySem.W.codeIn K cdm1_undo "Dial.undo" = true)
    (km1_undo : PySem.W.keepIn K (.ref fm1_undo) = true)
    (im1_undo : PySem.W.isFn K (.ref fm1_undo) = true)
    (am1_holds : PySem.W.findIn K (.ref C1) "holds" = some (some (.ref fm1_holds)))
    (lm1_holds : K.lookup fm1_holds = some ⟨ocm1_holds, odm1_holds, .func (PySem.W.fnOf "holds" "Dial.holds" (defArgs sHolds) (defBody sHolds) (defScope sHolds) .none kVm1_holds dcm1_holds pmm1_holds anm1_holds cdm1_holds ctm1_holds), slm1_holds⟩)
    (cm1_holds : PySem.W.codeIn K cdm1_holds "Dial.holds" = true)
    (km1_holds : PySem.W.keepIn K (.ref fm1_holds) = true)
    (im1_holds : PySem.W.isFn K (.ref fm1_holds) = true)
    (am1_names_with_value : PySem.W.findIn K (.ref C1) "names_with_value" = some (some (.ref fm1_names_with_value)))
    (lm1_names_with_value : K.lookup fm1_names_with_value = some ⟨ocm1_names_with_value, odm1_names_with_value, .func (PySem.W.fnOf "names_with_value" "Dial.names_with_value" (defArgs sNames) (defBody sNames) (defScope sNames) .none kVm1_names_with_value dcm1_names_with_value pmm1_names_with_value anm1_names_with_value cdm1_names_with_value ctm1_names_with_value), slm1_names_with_value⟩)
    (cm1_names_with_value : PySem.W.codeIn K cdm1_names_with_value "Dial.names_with_value" = true)
    (km1_names_with_value : PySem.W.keepIn K (.ref fm1_names_with_value) = true)
    (im1_names_with_value : PySem.W.isFn K (.ref fm1_names_with_value) = true)
    (pg1 : PySem.W.plainGet K C1 Str.empty = true)
    (hd1 : PySem.W.hasDictIn K C1 = true)
    (po1 : PySem.W.plainOver K C1 = true)
    (sa1 : PySem.W.findIn K (.ref C1) "__setattr__" = some (some (.builtin "object.__setattr__")))
    (mk1 : PySem.W.makesIn K C1 = true)
    (kc1 : PySem.W.keepIn K (.ref C1) = true)
    (n1_layers : PySem.W.findIn K (.ref C1) "layers" = some none)
    (n1_past : PySem.W.findIn K (.ref C1) "past" = some none)
    (adec : PySem.W.nsIn K mainGlobals "decided" = some (some (.ref fdec)))
    (ldec : K.lookup fdec = some ⟨ocdec, oddec, .func (PySem.W.fnOf "decided" "decided" (defArgs sDec) (defBody sDec) (defScope sDec) .none kVdec dcdec pmdec andec cddec ctdec), sldec⟩)
    (cdec : PySem.W.codeIn K cddec "decided" = true)
    (kdec : PySem.W.keepIn K (.ref fdec) = true)
    (awith : PySem.W.nsIn K mainGlobals "with_entry" = some (some (.ref fwith)))
    (lwith : K.lookup fwith = some ⟨ocwith, odwith, .func (PySem.W.fnOf "with_entry" "with_entry" (defArgs sWith) (defBody sWith) (defScope sWith) .none kVwith dcwith pmwith anwith cdwith ctwith), slwith⟩)
    (cwith : PySem.W.codeIn K cdwith "with_entry" = true)
    (kwith : PySem.W.keepIn K (.ref fwith) = true)
    (awithout : PySem.W.nsIn K mainGlobals "without_entry" = some (some (.ref fwithout)))
    (lwithout : K.lookup fwithout = some ⟨ocwithout, odwithout, .func (PySem.W.fnOf "without_entry" "without_entry" (defArgs sWithout) (defBody sWithout) (defScope sWithout) .none kVwithout dcwithout pmwithout anwithout cdwithout ctwithout), slwithout⟩)
    (cwithout : PySem.W.codeIn K cdwithout "without_entry" = true)
    (kwithout : PySem.W.keepIn K (.ref fwithout) = true)
    (aanswer : PySem.W.nsIn K mainGlobals "answer" = some (some (.ref fanswer)))
    (lanswer : K.lookup fanswer = some ⟨ocanswer, odanswer, .func (PySem.W.fnOf "answer" "answer" (defArgs sAnswer) (defBody sAnswer) (defScope sAnswer) .none kVanswer dcanswer pmanswer ananswer cdanswer ctanswer), slanswer⟩)
    (canswer : PySem.W.codeIn K cdanswer "answer" = true)
    (kanswer : PySem.W.keepIn K (.ref fanswer) = true)
    (adone : PySem.W.nsIn K mainGlobals "done" = some (some (.ref fdone)))
    (ldone : K.lookup fdone = some ⟨ocdone, oddone, .func (PySem.W.fnOf "done" "done" (defArgs sDone) (defBody sDone) (defScope sDone) .none kVdone dcdone pmdone andone cddone ctdone), sldone⟩)
    (cdone : PySem.W.codeIn K cddone "done" = true)
    (kdone : PySem.W.keepIn K (.ref fdone) = true)
    (abehind : PySem.W.nsIn K mainGlobals "settings_behind" = some (some (.ref fbehind)))
    (lbehind : K.lookup fbehind = some ⟨ocbehind, odbehind, .func (PySem.W.fnOf "settings_behind" "settings_behind" (defArgs sBehind) (defBody sBehind) (defScope sBehind) .none kVbehind dcbehind pmbehind anbehind cdbehind ctbehind), slbehind⟩)
    (cbehind : PySem.W.codeIn K cdbehind "settings_behind" = true)
    (kbehind : PySem.W.keepIn K (.ref fbehind) = true)
    (aheld : PySem.W.nsIn K mainGlobals "held" = some (some (.ref fheld)))
    (lheld : K.lookup fheld = some ⟨ocheld, odheld, .func (PySem.W.fnOf "held" "held" (defArgs sHeld) (defBody sHeld) (defScope sHeld) .none kVheld dcheld pmheld anheld cdheld ctheld), slheld⟩)
    (cheld : PySem.W.codeIn K cdheld "held" = true)
    (kheld : PySem.W.keepIn K (.ref fheld) = true)
    (awide : PySem.W.nsIn K mainGlobals "_law_wide" = some (some (.ref fwide)))
    (lwide : K.lookup fwide = some ⟨ocwide, odwide, .func (PySem.W.fnOf "_law_wide" "_law_wide" (defArgs sWide) (defBody sWide) (defScope sWide) .none kVwide dcwide pmwide anwide cdwide ctwide), slwide⟩)
    (cwide : PySem.W.codeIn K cdwide "_law_wide" = true)
    (kwide : PySem.W.keepIn K (.ref fwide) = true)
    (aunt : PySem.W.nsIn K mainGlobals "_law_unturned" = some (some (.ref funt)))
    (lunt : K.lookup funt = some ⟨ocunt, odunt, .func (PySem.W.fnOf "_law_unturned" "_law_unturned" (defArgs sUnt) (defBody sUnt) (defScope sUnt) .none kVunt dcunt pmunt anunt cdunt ctunt), slunt⟩)
    (cunt : PySem.W.codeIn K cdunt "_law_unturned" = true)
    (kunt : PySem.W.keepIn K (.ref funt) = true)
    (awho : PySem.W.nsIn K mainGlobals "_law_whole" = some (some (.ref fwho)))
    (lwho : K.lookup fwho = some ⟨ocwho, odwho, .func (PySem.W.fnOf "_law_whole" "_law_whole" (defArgs sWho) (defBody sWho) (defScope sWho) .none kVwho dcwho pmwho anwho cdwho ctwho), slwho⟩)
    (cwho : PySem.W.codeIn K cdwho "_law_whole" = true)
    (kwho : PySem.W.keepIn K (.ref fwho) = true)
    (aat : PySem.W.nsIn K mainGlobals "_law_at" = some (some (.ref fat)))
    (lat : K.lookup fat = some ⟨ocat, odat, .func (PySem.W.fnOf "_law_at" "_law_at" (defArgs sAt) (defBody sAt) (defScope sAt) .none kVat dcat pmat anat cdat ctat), slat⟩)
    (cat : PySem.W.codeIn K cdat "_law_at" = true)
    (kat : PySem.W.keepIn K (.ref fat) = true)
    (aname : PySem.W.nsIn K mainGlobals "_law_name_by" = some (some (.ref fname)))
    (lname : K.lookup fname = some ⟨ocname, odname, .func (PySem.W.fnOf "_law_name_by" "_law_name_by" (defArgs sName) (defBody sName) (defScope sName) .none kVname dcname pmname anname cdname ctname), slname⟩)
    (cname : PySem.W.codeIn K cdname "_law_name_by" = true)
    (kname : PySem.W.keepIn K (.ref fname) = true)
    (adeeds : PySem.W.nsIn K mainGlobals "_law_deeds" = some (some (.ref fdeeds)))
    (ldeeds : K.lookup fdeeds = some ⟨ocdeeds, oddeeds, .func (PySem.W.fnOf "_law_deeds" "_law_deeds" (defArgs sDeeds) (defBody sDeeds) (defScope sDeeds) .none kVdeeds dcdeeds pmdeeds andeeds cddeeds ctdeeds), sldeeds⟩)
    (cdeeds : PySem.W.codeIn K cddeeds "_law_deeds" = true)
    (kdeeds : PySem.W.keepIn K (.ref fdeeds) = true)
    (acop : PySem.W.nsIn K mainGlobals "_law_copied" = some (some (.ref fcop)))
    (lcop : K.lookup fcop = some ⟨occop, odcop, .func (PySem.W.fnOf "_law_copied" "_law_copied" (defArgs sCop) (defBody sCop) (defScope sCop) .none kVcop dccop pmcop ancop cdcop ctcop), slcop⟩)
    (ccop : PySem.W.codeIn K cdcop "_law_copied" = true)
    (kcop : PySem.W.keepIn K (.ref fcop) = true)
    (acha : PySem.W.nsIn K mainGlobals "_law_changed" = some (some (.ref fcha)))
    (lcha : K.lookup fcha = some ⟨occha, odcha, .func (PySem.W.fnOf "_law_changed" "_law_changed" (defArgs sCha) (defBody sCha) (defScope sCha) .none kVcha dccha pmcha ancha cdcha ctcha), slcha⟩)
    (ccha : PySem.W.codeIn K cdcha "_law_changed" = true)
    (kcha : PySem.W.keepIn K (.ref fcha) = true)
    (anext : PySem.W.nsIn K mainGlobals "_law_next" = some (some (.ref fnext)))
    (lnext : K.lookup fnext = some ⟨ocnext, odnext, .func (PySem.W.fnOf "_law_next" "_law_next" (defArgs sNext) (defBody sNext) (defScope sNext) .none kVnext dcnext pmnext annext cdnext ctnext), slnext⟩)
    (cnext : PySem.W.codeIn K cdnext "_law_next" = true)
    (knext : PySem.W.keepIn K (.ref fnext) = true)
    (aholding : PySem.W.nsIn K mainGlobals "_law_holding" = some (some (.ref fholding)))
    (lholding : K.lookup fholding = some ⟨ocholding, odholding, .func (PySem.W.fnOf "_law_holding" "_law_holding" (defArgs sHolding) (defBody sHolding) (defScope sHolding) .none kVholding dcholding pmholding anholding cdholding ctholding), slholding⟩)
    (cholding : PySem.W.codeIn K cdholding "_law_holding" = true)
    (kholding : PySem.W.keepIn K (.ref fholding) = true)
    (alaw : PySem.W.nsIn K mainGlobals "law" = some (some (.ref flaw)))
    (llaw : K.lookup flaw = some ⟨oclaw, odlaw, .func (PySem.W.fnOf "law" "law" (defArgs sLaw) (defBody sLaw) (defScope sLaw) .none kVlaw dclaw pmlaw anlaw cdlaw ctlaw), sllaw⟩)
    (claw : PySem.W.codeIn K cdlaw "law" = true)
    (klaw : PySem.W.keepIn K (.ref flaw) = true)
    (z_enumerate : PySem.W.nsIn K mainGlobals "enumerate" = some none)
    (z_isinstance : PySem.W.nsIn K mainGlobals "isinstance" = some none)
    (z_list : PySem.W.nsIn K mainGlobals "list" = some none)
    (z_tuple : PySem.W.nsIn K mainGlobals "tuple" = some none)
    (z_len : PySem.W.nsIn K mainGlobals "len" = some none)
    (z_range : PySem.W.nsIn K mainGlobals "range" = some none)
    (z_bool : PySem.W.nsIn K mainGlobals "bool" = some none)
    (z_str : PySem.W.nsIn K mainGlobals "str" = some none)
    (z_int : PySem.W.nsIn K mainGlobals "int" = some none)
    (z_dict : PySem.W.nsIn K mainGlobals "dict" = some none)
    (z_min : PySem.W.nsIn K mainGlobals "min" = some none)
    (z_sum : PySem.W.nsIn K mainGlobals "sum" = some none)
    (z_sorted : PySem.W.nsIn K mainGlobals "sorted" = some none)
    (z_set : PySem.W.nsIn K mainGlobals "set" = some none) :
    ∃ fd : FuncData, (∀ (s : Shared) (v : Value), BindsTo s fd ⟨[v], []⟩ [("_law_script", v)]) ∧ ∀ base : Heap, K.In base → base.Ns mainGlobals mg → FnOk l.prog w K mg base CX0 9 fa fd ["_law_script"] (spLaw K) := by
  have e := hfa.symm.trans (PySem.W.mg_of X G alaw)
  cases e
  have T : Txt K mg C0 C1 := ⟨PySem.W.mg_none_of X G z_enumerate, PySem.W.mg_none_of X G z_isinstance, PySem.W.mg_none_of X G z_list, PySem.W.mg_none_of X G z_tuple, PySem.W.mg_none_of X G z_len, PySem.W.mg_none_of X G z_range, PySem.W.mg_none_of X G z_bool, PySem.W.mg_none_of X G z_str, PySem.W.mg_none_of X G z_int, PySem.W.mg_none_of X G z_dict, PySem.W.mg_none_of X G z_min, PySem.W.mg_none_of X G z_sum, PySem.W.mg_none_of X G z_sorted, PySem.W.mg_none_of X G z_set, ⟨pg0, hd0, po0, sa0⟩, n0_valued, n0_locked, ⟨pg1, hd1, po1, sa1⟩, n1_layers, n1_past⟩
  have Fdec := fun_mk (st := sDec) ldec cdec kdec
  have bdec := Fdec.binds (ps := ["row"]) fun _ _ _ _ _ _ us hl => match us, hl with | [_], _ => rfl
  have Fwith := fun_mk (st := sWith) lwith cwith kwith
  have bwith := Fwith.binds (ps := ["entries", "name", "entry"]) fun _ _ _ _ _ _ us hl => match us, hl with | [_, _, _], _ => rfl
  have Fwithout := fun_mk (st := sWithout) lwithout cwithout kwithout
  have bwithout := Fwithout.binds (ps := ["entries", "name"]) fun _ _ _ _ _ _ us hl => match us, hl with | [_, _], _ => rfl
  have Fanswer := fun_mk (st := sAnswer) lanswer canswer kanswer
  have banswer := Fanswer.binds (ps := ["settings", "deed"]) fun _ _ _ _ _ _ us hl => match us, hl with | [_, _], _ => rfl
  have Fdone := fun_mk (st := sDone) ldone cdone kdone
  have bdone := Fdone.binds (ps := ["settings", "deeds"]) fun _ _ _ _ _ _ us hl => match us, hl with | [_, _], _ => rfl
  have Fbehind := fun_mk (st := sBehind) lbehind cbehind kbehind
  have bbehind := Fbehind.binds (ps := ["layers", "deeds"]) fun _ _ _ _ _ _ us hl => match us, hl with | [_, _], _ => rfl
  have Fheld := fun_mk (st := sHeld) lheld cheld kheld
  have bheld := Fheld.binds (ps := ["layers", "deeds"]) fun _ _ _ _ _ _ us hl => match us, hl with | [_, _], _ => rfl
  have Fwide := fun_mk (st := sWide) lwide cwide kwide
  have bwide := Fwide.binds (ps := ["_law_script", "_law_few", "_law_bound"]) fun _ _ _ _ _ _ us hl => match us, hl with | [_, _, _], _ => rfl
  have Funt := fun_mk (st := sUnt) lunt cunt kunt
  have bunt := Funt.binds (ps := ["_law_found", "_law_due"]) fun _ _ _ _ _ _ us hl => match us, hl with | [_, _], _ => rfl
  have Fwho := fun_mk (st := sWho) lwho cwho kwho
  have bwho := Fwho.binds (ps := ["_law_found"]) fun _ _ _ _ _ _ us hl => match us, hl with | [_], _ => rfl
  have Fat := fun_mk (st := sAt) lat cat kat
  have bat := Fat.binds (ps := ["_law_script", "_law_k"]) fun _ _ _ _ _ _ us hl => match us, hl with | [_, _], _ => rfl
  have Fname := fun_mk (st := sName) lname cname kname
  have bname := Fname.binds (ps := ["_law_spot", "_law_size"]) fun _ _ _ _ _ _ us hl => match us, hl with | [_, _], _ => rfl
  have Fdeeds := fun_mk (st := sDeeds) ldeeds cdeeds kdeeds
  have bdeeds := Fdeeds.binds (ps := ["_law_cells", "_law_layers"]) fun _ _ _ _ _ _ us hl => match us, hl with | [_, _], _ => rfl
  have Fcop := fun_mk (st := sCop) lcop ccop kcop
  have bcop := Fcop.binds (ps := ["_law_state"]) fun _ _ _ _ _ _ us hl => match us, hl with | [_], _ => rfl
  have Fcha := fun_mk (st := sCha) lcha ccha kcha
  have bcha := Fcha.binds (ps := ["_law_state", "_law_deed"]) fun _ _ _ _ _ _ us hl => match us, hl with | [_, _], _ => rfl
  have Fnext := fun_mk (st := sNext) lnext cnext knext
  have bnext := Fnext.binds (ps := ["_law_state", "_law_past", "_law_deed"]) fun _ _ _ _ _ _ us hl => match us, hl with | [_, _, _], _ => rfl
  have Fholding := fun_mk (st := sHolding) lholding cholding kholding
  have bholding := Fholding.binds (ps := ["_law_state", "_law_name"]) fun _ _ _ _ _ _ us hl => match us, hl with | [_, _], _ => rfl
  have Flaw := fun_mk (st := sLaw) llaw claw klaw
  have Fm0_init := fun_mk (st := sLinit) lm0_init cm0_init km0_init
  have bm0_init := Fm0_init.binds (ps := ["self", "valued", "locked"]) fun _ _ _ _ _ _ us hl => match us, hl with | [_, _, _], _ => rfl
  have Fm1_init := fun_mk (st := sDinit) lm1_init cm1_init km1_init
  have bm1_init := Fm1_init.binds (ps := ["self", "layers"]) fun _ _ _ _ _ _ us hl => match us, hl with | [_, _], _ => rfl
  have Fm1_is_there := fun_mk (st := sThere) lm1_is_there cm1_is_there km1_is_there
  have bm1_is_there := Fm1_is_there.binds (ps := ["self", "number"]) fun _ _ _ _ _ _ us hl => match us, hl with | [_, _], _ => rfl
  have Fm1_has_value := fun_mk (st := sHasV) lm1_has_value cm1_has_value km1_has_value
  have bm1_has_value := Fm1_has_value.binds (ps := ["self", "number", "name"]) fun _ _ _ _ _ _ us hl => match us, hl with | [_, _, _], _ => rfl
  have Fm1_has_lock := fun_mk (st := sHasL) lm1_has_lock cm1_has_lock km1_has_lock
  have bm1_has_lock := Fm1_has_lock.binds (ps := ["self", "number", "name"]) fun _ _ _ _ _ _ us hl => match us, hl with | [_, _, _], _ => rfl
  have Fm1_put := fun_mk (st := sPut) lm1_put cm1_put km1_put
  have bm1_put := Fm1_put.binds (ps := ["self", "number", "valued", "locked"]) fun _ _ _ _ _ _ us hl => match us, hl with | [_, _, _, _], _ => rfl
  have Fm1_set_value := fun_mk (st := sSet) lm1_set_value cm1_set_value km1_set_value
  have bm1_set_value := Fm1_set_value.binds (ps := ["self", "number", "name", "value"]) fun _ _ _ _ _ _ us hl => match us, hl with | [_, _, _, _], _ => rfl
  have Fm1_unset_value := fun_mk (st := sUnset) lm1_unset_value cm1_unset_value km1_unset_value
  have bm1_unset_value := Fm1_unset_value.binds (ps := ["self", "number", "name"]) fun _ _ _ _ _ _ us hl => match us, hl with | [_, _, _], _ => rfl
  have Fm1_lock := fun_mk (st := sLock) lm1_lock cm1_lock km1_lock
  have bm1_lock := Fm1_lock.binds (ps := ["self", "number", "name"]) fun _ _ _ _ _ _ us hl => match us, hl with | [_, _, _], _ => rfl
  have Fm1_unlock := fun_mk (st := sUnlock) lm1_unlock cm1_unlock km1_unlock
  have bm1_unlock := Fm1_unlock.binds (ps := ["self", "number", "name"]) fun _ _ _ _ _ _ us hl => match us, hl with | [_, _, _], _ => rfl
  have Fm1_copy_values := fun_mk (st := sCopy) lm1_copy_values cm1_copy_values km1_copy_values
  have bm1_copy_values := Fm1_copy_values.binds (ps := ["self", "one", "other"]) fun _ _ _ _ _ _ us hl => match us, hl with | [_, _, _], _ => rfl
  have Fm1_undo := fun_mk (st := sUndo) lm1_undo cm1_undo km1_undo
  have bm1_undo := Fm1_undo.binds (ps := ["self"]) fun _ _ _ _ _ _ us hl => match us, hl with | [_], _ => rfl
  have Fm1_holds := fun_mk (st := sHolds) lm1_holds cm1_holds km1_holds
  have bm1_holds := Fm1_holds.binds (ps := ["self", "name"]) fun _ _ _ _ _ _ us hl => match us, hl with | [_, _], _ => rfl
  have Fm1_names_with_value := fun_mk (st := sNames) lm1_names_with_value cm1_names_with_value km1_names_with_value
  have bm1_names_with_value := Fm1_names_with_value.binds (ps := ["self"]) fun _ _ _ _ _ _ us hl => match us, hl with | [_], _ => rfl
  refine ⟨PySem.W.fnOf "law" "law" (defArgs sLaw) (defBody sLaw) (defScope sLaw) .none kVlaw dclaw pmlaw anlaw cdlaw ctlaw, fun s v => .of_eq rfl, fun base _ _ => ?_⟩
  have M_Layer : Mc l.prog w K mg base 1 C0 "Layer" ["self", "valued", "locked"] (spLinit C0) := ⟨fm0_init, _, ok_linit Fm0_init T, ⟨mk0, am0_init, im0_init, kc0⟩, PySem.W.mg_of X G aC0, bm0_init⟩
  have M_Dial : Mc l.prog w K mg base 3 C1 "Dial" ["self", "layers"] (spDinit C1 C0) := ⟨fm1_init, _, ok_dinit Fm1_init T M_Layer, ⟨mk1, am1_init, im1_init, kc1⟩, PySem.W.mg_of X G aC1, bm1_init⟩
  have F_decided : Fn l.prog w K mg base 1 "decided" ["row"] spDec := ⟨fdec, _, ok_dec Fdec T, PySem.W.mg_of X G adec, kdec, bdec⟩
  have F_with_entry : Fn l.prog w K mg base 1 "with_entry" ["entries", "name", "entry"] spWith := ⟨fwith, _, ok_with Fwith T, PySem.W.mg_of X G awith, kwith, bwith⟩
  have F_without_entry : Fn l.prog w K mg base 1 "without_entry" ["entries", "name"] spWithout := ⟨fwithout, _, ok_without Fwithout T, PySem.W.mg_of X G awithout, kwithout, bwithout⟩
  have M_is_there : Mt l.prog w K mg base 1 C1 "is_there" ["self", "number"] (spThere C1 C0) := ⟨fm1_is_there, _, ok_there Fm1_is_there T, ⟨am1_is_there, im1_is_there, km1_is_there⟩, bm1_is_there⟩
  have M_has_value : Mt l.prog w K mg base 2 C1 "has_value" ["self", "number", "name"] (spHasV C1 C0) := ⟨fm1_has_value, _, ok_hasv Fm1_has_value T M_is_there, ⟨am1_has_value, im1_has_value, km1_has_value⟩, bm1_has_value⟩
  have M_has_lock : Mt l.prog w K mg base 2 C1 "has_lock" ["self", "number", "name"] (spHasL C1 C0) := ⟨fm1_has_lock, _, ok_hasl Fm1_has_lock T M_is_there, ⟨am1_has_lock, im1_has_lock, km1_has_lock⟩, bm1_has_lock⟩
  have M_put : Mt l.prog w K mg base 3 C1 "put" ["self", "number", "valued", "locked"] (spPut C1 C0) := ⟨fm1_put, _, ok_put Fm1_put T M_Layer, ⟨am1_put, im1_put, km1_put⟩, bm1_put⟩
  have M_set_value : Mt l.prog w K mg base 4 C1 "set_value" ["self", "number", "name", "value"] (spSet C1 C0) := ⟨fm1_set_value, _, ok_set Fm1_set_value T M_is_there M_put F_with_entry, ⟨am1_set_value, im1_set_value, km1_set_value⟩, bm1_set_value⟩
  have M_unset_value : Mt l.prog w K mg base 4 C1 "unset_value" ["self", "number", "name"] (spUnset C1 C0) := ⟨fm1_unset_value, _, ok_unset Fm1_unset_value T M_has_value M_put F_without_entry, ⟨am1_unset_value, im1_unset_value, km1_unset_value⟩, bm1_unset_value⟩
  have M_lock : Mt l.prog w K mg base 4 C1 "lock" ["self", "number", "name"] (spLock C1 C0) := ⟨fm1_lock, _, ok_lock Fm1_lock T M_is_there M_has_lock M_put F_with_entry, ⟨am1_lock, im1_lock, km1_lock⟩, bm1_lock⟩
  have M_unlock : Mt l.prog w K mg base 4 C1 "unlock" ["self", "number", "name"] (spUnlock C1 C0) := ⟨fm1_unlock, _, ok_unlock Fm1_unlock T M_has_lock M_put F_without_entry, ⟨am1_unlock, im1_unlock, km1_unlock⟩, bm1_unlock⟩
  have M_copy_values : Mt l.prog w K mg base 4 C1 "copy_values" ["self", "one", "other"] (spCopy C1 C0) := ⟨fm1_copy_values, _, ok_copy Fm1_copy_values T M_is_there M_put, ⟨am1_copy_values, im1_copy_values, km1_copy_values⟩, bm1_copy_values⟩
  have M_undo : Mt l.prog w K mg base 1 C1 "undo" ["self"] (spUndo C1 C0) := ⟨fm1_undo, _, ok_undo Fm1_undo T, ⟨am1_undo, im1_undo, km1_undo⟩, bm1_undo⟩
  have M_holds : Mt l.prog w K mg base 2 C1 "holds" ["self", "name"] (spHolds C1 C0) := ⟨fm1_holds, _, ok_holds Fm1_holds T F_decided, ⟨am1_holds, im1_holds, km1_holds⟩, bm1_holds⟩
  have M_names_with_value : Mt l.prog w K mg base 1 C1 "names_with_value" ["self"] (spNames C1 C0) := ⟨fm1_names_with_value, _, ok_names Fm1_names_with_value T, ⟨am1_names_with_value, im1_names_with_value, km1_names_with_value⟩, bm1_names_with_value⟩
  have M_holdsS : Mt l.prog w K mg base 2 C1 "holds" ["self", "name"] (spHoldsS C1 C0) := ⟨fm1_holds, _, ok_holdsS Fm1_holds T F_decided, ⟨am1_holds, im1_holds, km1_holds⟩, bm1_holds⟩
  have F_answer : Fn l.prog w K mg base 5 "answer" ["settings", "deed"] (spAnswer C1 C0) := ⟨fanswer, _, ok_answer Fanswer T M_set_value M_unset_value M_lock M_unlock M_copy_values M_undo M_holds, PySem.W.mg_of X G aanswer, kanswer, banswer⟩
  have F_done : Fn l.prog w K mg base 6 "done" ["settings", "deeds"] (spDone C1 C0) := ⟨fdone, _, ok_done Fdone T F_answer, PySem.W.mg_of X G adone, kdone, bdone⟩
  have F_settings_behind : Fn l.prog w K mg base 7 "settings_behind" ["layers", "deeds"] (spBehind C1 C0) := ⟨fbehind, _, ok_behind Fbehind T F_done M_Dial, PySem.W.mg_of X G abehind, kbehind, bbehind⟩
  have F_held : Fn l.prog w K mg base 8 "held" ["layers", "deeds"] spHeld := ⟨fheld, _, ok_held Fheld T F_settings_behind M_names_with_value M_holdsS, PySem.W.mg_of X G aheld, kheld, bheld⟩
  have F__law_wide : Fn l.prog w K mg base 1 "_law_wide" ["_law_script", "_law_few", "_law_bound"] (spWide K) := ⟨fwide, _, ok_wide Fwide T, PySem.W.mg_of X G awide, kwide, bwide⟩
  have F__law_unturned : Fn l.prog w K mg base 1 "_law_unturned" ["_law_found", "_law_due"] spUnt := ⟨funt, _, ok_unt Funt T, PySem.W.mg_of X G aunt, kunt, bunt⟩
  have F__law_whole : Fn l.prog w K mg base 1 "_law_whole" ["_law_found"] spWho := ⟨fwho, _, ok_who Fwho T, PySem.W.mg_of X G awho, kwho, bwho⟩
  have F__law_at : Fn l.prog w K mg base 1 "_law_at" ["_law_script", "_law_k"] (spAt K) := ⟨fat, _, ok_at Fat T, PySem.W.mg_of X G aat, kat, bat⟩
  have F__law_name_by : Fn l.prog w K mg base 1 "_law_name_by" ["_law_spot", "_law_size"] spName := ⟨fname, _, ok_name Fname T, PySem.W.mg_of X G aname, kname, bname⟩
  have F__law_deeds : Fn l.prog w K mg base 2 "_law_deeds" ["_law_cells", "_law_layers"] (spDeeds K) := ⟨fdeeds, _, ok_deeds Fdeeds T F__law_name_by, PySem.W.mg_of X G adeeds, kdeeds, bdeeds⟩
  have F__law_copied : Fn l.prog w K mg base 1 "_law_copied" ["_law_state"] spCop := ⟨fcop, _, ok_cop Fcop T, PySem.W.mg_of X G acop, kcop, bcop⟩
  have F__law_changed : Fn l.prog w K mg base 1 "_law_changed" ["_law_state", "_law_deed"] spCha := ⟨fcha, _, ok_cha Fcha T, PySem.W.mg_of X G acha, kcha, bcha⟩
  have F__law_next : Fn l.prog w K mg base 2 "_law_next" ["_law_state", "_law_past", "_law_deed"] spNext := ⟨fnext, _, ok_next Fnext T F__law_copied F__law_changed, PySem.W.mg_of X G anext, knext, bnext⟩
  have F__law_holding : Fn l.prog w K mg base 1 "_law_holding" ["_law_state", "_law_name"] spHolding := ⟨fholding, _, ok_holding Fholding T, PySem.W.mg_of X G aholding, kholding, bholding⟩
  exact ok_law Flaw T F__law_at F__law_wide F__law_deeds F__law_unturned F__law_next F_held F__law_holding F__law_whole
theorem walk {l : PySem.W.OpenLaw} {q : Program} {loose : List Str} {XP : (Str → Option Value) → Heap → Prop} {YP : World → Heap → Prop} {d : DefRec} {K : Params → PySem.W.Frag} (hn : l.most = some 63) (hdf : d.params.defaults = [])
    (hY : ∀ (w : World) (h : Heap), YP w h → (K w.params).In h)
    (F : ∀ (w : World) (mg : Str → Option Value) (fa : Addr) (h : Heap), (K w.params).In h → h.Ns mainGlobals mg → mg d.name = some (.ref fa) →
      ∃ fd : FuncData, (∀ (s : Shared) (u : Value), BindsTo s fd ⟨[u], []⟩ [("_law_script", u)]) ∧ ∀ base : Heap, (K w.params).In base → base.Ns mainGlobals mg → FnOk l.prog w (K w.params) mg base CX0 9 fa fd ["_law_script"] (spLaw (K w.params))) :
    PySem.W.WalkO q loose XP YP l.row.toRowW d [] (fun f vs => PySem.call f vs) :=
  L2.walk_of (n := 63) (k := 9) (x := "_law_script") (CX := fun _ => CX0) (sp := fun w => spLaw (K w.params)) hn (by decide) hdf ⟨rfl, by decide, by decide⟩ hY F (fun _ _ a ns hl _ hS => ⟨a, ns, rfl, hS, hl, fun _ => rfl⟩) fun _ _ _ _ _ z => z
end K6
open PySem PySem.W PyProof.Rows
set_option maxRecDepth 100000 in
set_option maxHeartbeats 0 in
theorem PySem.Challenge.cw_layerdial_k06_all_that_holds_holds : PySem.Challenge.rw_layerdial_k06_all_that_holds.Holds := by
  w_on; o_law; k_head; (case hw => w_witness2)
  k_fill
  refine K6.walk (l := PySem.Challenge.rw_layerdial_k06_all_that_holds) rfl rfl (fun w h Y => PySem.W.kIn_of Y) ?F
  case F =>
    intro w mg fa h KX G hmg
    refine' K6.all_mk KX G hmg ?aC0 ?am0_init ?lm0_init ?cm0_init ?km0_init ?im0_init ?pg0 ?hd0 ?po0 ?sa0 ?mk0 ?kc0 ?n0_valued ?n0_locked ?aC1 ?am1_init ?lm1_init ?cm1_init ?km1_init ?im1_init ?am1_is_there ?lm1_is_there ?cm1_is_there ?km1_is_there ?im1_is_there ?am1_has_value ?lm1_has_value ?cm1_has_value ?km1_has_value ?im1_has_value ?am1_has_lock ?lm1_has_lock ?cm1_has_lock ?km1_has_lock ?im1_has_lock ?am1_put ?lm1_put ?cm1_put ?km1_put ?im1_put ?am1_set_value ?lm1_set_value ?cm1_set_value ?km1_set_value ?im1_set_value ?am1_unset_value ?lm1_unset_value ?cm1_unset_value ?km1_unset_value ?im1_unset_value ?am1_lock ?lm1_lock ?cm1_lock ?km1_lock ?im1_lock ?am1_unlock ?lm1_unlock ?cm1_unlock ?km1_unlock ?im1_unlock ?am1_copy_values ?lm1_copy_values ?cm1_copy_values ?km1_copy_values ?im1_copy_values ?am1_undo ?lm1_undo ?cm1_undo ?km1_undo ?im1_undo ?am1_holds ?lm1_holds ?cm1_holds ?km1_holds ?im1_holds ?am1_names_with_value ?lm1_names_with_value ?cm1_names_with_value ?km1_names_with_value ?im1_names_with_value ?pg1 ?hd1 ?po1 ?sa1 ?mk1 ?kc1 ?n1_layers ?n1_past ?adec ?ldec ?cdec ?kdec ?awith ?lwith ?cwith ?kwith ?awithout ?lwithout ?cwithout ?kwithout ?aanswer ?lanswer ?canswer ?kanswer ?adone ?ldone ?cdone ?kdone ?abehind ?lbehind ?cbehind ?kbehind ?aheld ?lheld ?cheld ?kheld ?awide ?lwide ?cwide ?kwide ?aunt ?lunt ?cunt ?kunt ?awho ?lwho ?cwho ?kwho ?aat ?lat ?cat ?kat ?aname ?lname ?cname ?kname ?adeeds ?ldeeds ?cdeeds ?kdeeds ?acop ?lcop ?ccop ?kcop ?acha ?lcha ?ccha ?kcha ?anext ?lnext ?cnext ?knext ?aholding ?lholding ?cholding ?kholding ?alaw ?llaw ?claw ?klaw ?z_enumerate ?z_isinstance ?z_list ?z_tuple ?z_len ?z_range ?z_bool ?z_str ?z_int ?z_dict ?z_min ?z_sum ?z_sorted ?z_set
    (case aC0 => k_is)
    (case am0_init => k_is)
    (case lm0_init => k_is)
    (case cm0_init => k_is)
    (case km0_init => k_is)
    (case im0_init => k_is)
    (case pg0 => k_is)
    (case hd0 => k_is)
    (case po0 => k_is)
    (case sa0 => k_is)
    (case mk0 => k_is)
    (case kc0 => k_is)
    (case n0_valued => k_is)
    (case n0_locked => k_is)
    (case aC1 => k_is)
    (case am1_init => k_is)
    (case lm1_init => k_is)
    (case cm1_init => k_is)
    (case km1_init => k_is)
    (case im1_init => k_is)
    (case am1_is_there => k_is)
    (case lm1_is_there => k_is)
    (case cm1_is_there => k_is)
    (case km1_is_there => k_is)
    (case im1_is_there => k_is)
    (case am1_has_value => k_is)
    (case lm1_has_value => k_is)
    (case cm1_has_value => k_is)
    (case km1_has_value => k_is)
    (case im1_has_value => k_is)
    (case am1_has_lock => k_is)
    (case lm1_has_lock => k_is)
    (case cm1_has_lock => k_is)
    (case km1_has_lock => k_is)
    (case im1_has_lock => k_is)
    (case am1_put => k_is)
    (case lm1_put => k_is)
    (case cm1_put => k_is)
    (case km1_put => k_is)
    (case im1_put => k_is)
    (case am1_set_value => k_is)
    (case lm1_set_value => k_is)
    (case cm1_set_value => k_is)
    (case km1_set_value => k_is)
    (case im1_set_value => k_is)
    (case am1_unset_value => k_is)
    (case lm1_unset_value => k_is)
    (case cm1_unset_value => k_is)
    (case km1_unset_value => k_is)
    (case im1_unset_value => k_is)
    (case am1_lock => k_is)
    (case lm1_lock => k_is)
    (case cm1_lock => k_is)
    (case km1_lock => k_is)
    (case im1_lock => k_is)
    (case am1_unlock => k_is)
    (case lm1_unlock => k_is)
    (case cm1_unlock => k_is)
    (case km1_unlock => k_is)
    (case im1_unlock => k_is)
    (case am1_copy_values => k_is)
    (case lm1_copy_values => k_is)
    (case cm1_copy_values => k_is)
    (case km1_copy_values => k_is)
    (case im1_copy_values => k_is)
    (case am1_undo => k_is)
    (case lm1_undo => k_is)
    (case cm1_undo => k_is)
    (case km1_undo => k_is)
    (case im1_undo => k_is)
    (case am1_holds => k_is)
    (case lm1_holds => k_is)
    (case cm1_holds => k_is)
    (case km1_holds => k_is)
    (case im1_holds => k_is)
    (case am1_names_with_value => k_is)
    (case lm1_names_with_value => k_is)
    (case cm1_names_with_value => k_is)
    (case km1_names_with_value => k_is)
    (case im1_names_with_value => k_is)
    (case pg1 => k_is)
    (case hd1 => k_is)
    (case po1 => k_is)
    (case sa1 => k_is)
    (case mk1 => k_is)
    (case kc1 => k_is)
    (case n1_layers => k_is)
    (case n1_past => k_is)
    (case adec => k_is)
    (case ldec => k_is)
    (case cdec => k_is)
    (case kdec => k_is)
    (case awith => k_is)
    (case lwith => k_is)
    (case cwith => k_is)
    (case kwith => k_is)
    (case awithout => k_is)
    (case lwithout => k_is)
    (case cwithout => k_is)
    (case kwithout => k_is)
    (case aanswer => k_is)
    (case lanswer => k_is)
    (case canswer => k_is)
    (case kanswer => k_is)
    (case adone => k_is)
    (case ldone => k_is)
    (case cdone => k_is)
    (case kdone => k_is)
    (case abehind => k_is)
    (case lbehind => k_is)
    (case cbehind => k_is)
    (case kbehind => k_is)
    (case aheld => k_is)
    (case lheld => k_is)
    (case cheld => k_is)
    (case kheld => k_is)
    (case awide => k_is)
    (case lwide => k_is)
    (case cwide => k_is)
    (case kwide => k_is)
    (case aunt => k_is)
    (case lunt => k_is)
    (case cunt => k_is)
    (case kunt => k_is)
    (case awho => k_is)
    (case lwho => k_is)
    (case cwho => k_is)
    (case kwho => k_is)
    (case aat => k_is)
    (case lat => k_is)
    (case cat => k_is)
    (case kat => k_is)
    (case aname => k_is)
    (case lname => k_is)
    (case cname => k_is)
    (case kname => k_is)
    (case adeeds => k_is)
    (case ldeeds => k_is)
    (case cdeeds => k_is)
    (case kdeeds => k_is)
    (case acop => k_is)
    (case lcop => k_is)
    (case ccop => k_is)
    (case kcop => k_is)
    (case acha => k_is)
    (case lcha => k_is)
    (case ccha => k_is)
    (case kcha => k_is)
    (case anext => k_is)
    (case lnext => k_is)
    (case cnext => k_is)
    (case knext => k_is)
    (case aholding => k_is)
    (case lholding => k_is)
    (case cholding => k_is)
    (case kholding => k_is)
    (case alaw => k_is)
    (case llaw => k_is)
    (case claw => k_is)
    (case klaw => k_is)
    (case z_enumerate => k_is)
    (case z_isinstance => k_is)
    (case z_list => k_is)
    (case z_tuple => k_is)
    (case z_len => k_is)
    (case z_range => k_is)
    (case z_bool => k_is)
    (case z_str => k_is)
    (case z_int => k_is)
    (case z_dict => k_is)
    (case z_min => k_is)
    (case z_sum => k_is)
    (case z_sorted => k_is)
    (case z_set => k_is)
