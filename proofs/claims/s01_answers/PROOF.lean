import PyProof.Rows.All
import Wide.All
import OpenK.AllK
import Wide.FinOn
import PyProof.EqAt
import PyProof.EqKinds
import PyProof.TupleCall
import KE.BitLaws
import KE.KCount
import Open.SpecLaws
import KE.OsHead
import KE.OsGo
import PySem.Challenge.RW_foldingrule_s01_answers
set_option Elab.async false
set_option linter.all false
set_option maxRecDepth 100000
/-! THE HAND LAYER, for ints, bools, texts, own classes, lists, tuples, dicts, comprehensions, walks over dicts, enumerate, zip, reversed, texts, calls, loops. Paste it whole ahead of your own text; what your proof does not reach may be deleted. -/
namespace L2
open PySem PySem.Spec PyProof.Rows

/-- a key: an int or a str -/
abbrev Key := Sum Int Str
def keyIs : Key → Value → Bool
  | .inl k, v => Value.isInt k v
  | .inr x, v => Value.isStrOf x v
def keyH (w : World) : Key → Int
  | .inl k => hashInt k
  | .inr x => hashStr w x
theorem keyIs_shape : ∀ {k : Key} {v : Value}, keyIs k v = true → (∃ i t, k = Sum.inl i ∧ v = Value.int i t) ∨ (∃ x t, k = Sum.inr x ∧ v = Value.str x t)
  | .inl i, v, h => by
    obtain ⟨t, e⟩ := Value.isInt_shape (k := i) (v := v) h
    exact .inl ⟨i, t, rfl, e⟩
  | .inr x, v, h => by
    obtain ⟨t, e⟩ := Value.isStrOf_shape (x := x) (v := v) h
    exact .inr ⟨x, t, rfl, e⟩
theorem keyIs_int (i : Int) (t : Tok) : keyIs (.inl i) (.int i t) = true := by simp [keyIs, Value.isInt]
theorem keyIs_str (x : Str) (t : Tok) : keyIs (.inr x) (.str x t) = true := by simp [keyIs, Value.isStrOf]
theorem key_ll (a b : Int) : decide ((Sum.inl a : Key) = Sum.inl b) = (a == b) := by
  by_cases e : a = b
  · subst e; simp
  · have h : ¬ (Sum.inl a : Key) = Sum.inl b := fun q => e (Sum.inl.inj q)
    rw [decide_eq_false h]
    exact (beq_eq_false_iff_ne.mpr e).symm
theorem key_rr (a b : Str) : decide ((Sum.inr a : Key) = Sum.inr b) = decide (a = b) := by
  by_cases e : a = b
  · subst e; simp
  · have h : ¬ (Sum.inr a : Key) = Sum.inr b := fun q => e (Sum.inr.inj q)
    rw [decide_eq_false h, decide_eq_false e]
theorem key_lr (a : Int) (b : Str) : decide ((Sum.inl a : Key) = Sum.inr b) = false := decide_eq_false (fun q => nomatch q)
theorem key_rl (a : Str) (b : Int) : decide ((Sum.inr a : Key) = Sum.inl b) = false := decide_eq_false (fun q => nomatch q)

def mixKind (prog : Program) (w : World) : PySem.KeyKind prog w Key where
  is := keyIs
  hash := keyH w
  inj := fun v a b ha hb => by
    rcases keyIs_shape ha with ⟨i, t, rfl, rfl⟩ | ⟨x, t, rfl, rfl⟩
    · rcases keyIs_shape hb with ⟨j, u, rfl, e⟩ | ⟨y, u, rfl, e⟩
      · injection e with e1 _; rw [e1]
      · exact nomatch e
    · rcases keyIs_shape hb with ⟨j, u, rfl, e⟩ | ⟨y, u, rfl, e⟩
      · exact nomatch e
      · injection e with e1 _; rw [e1]
  byValue := fun k v h => by
    rcases keyIs_shape h with ⟨i, t, rfl, rfl⟩ | ⟨x, t, rfl, rfl⟩ <;> rfl
  pyHash := fun hv h => by
    rcases keyIs_shape hv with ⟨i, t, rfl, rfl⟩ | ⟨x, t, rfl, rfl⟩
    · exact wpAny_pyHash_int h
    · exact wpAny_pyHash_str h
  eqBool := fun hu hv h => by
    rcases keyIs_shape hu with ⟨i, t, rfl, rfl⟩ | ⟨x, t, rfl, rfl⟩
    · rcases keyIs_shape hv with ⟨j, u, rfl, rfl⟩ | ⟨y, u, rfl, rfl⟩
      · rw [key_ll] at h; exact wpAny_eqBool_int h
      · rw [key_lr] at h; exact SeqAt.EqAt.int_str i t y u _ _ _ _ h
    · rcases keyIs_shape hv with ⟨j, u, rfl, rfl⟩ | ⟨y, u, rfl, rfl⟩
      · rw [key_rl] at h; exact SeqAt.EqAt.str_int x t j u _ _ _ _ h
      · rw [key_rr] at h; exact wpAny_eqBool_str h
  «strs» := fun k x t v h => by
    rcases keyIs_shape h with ⟨i, u, rfl, e⟩ | ⟨y, u, rfl, e⟩
    · exact nomatch e
    · injection e with e1 _
      subst e1
      cases v <;> rfl

theorem mixKind_int (prog : Program) (w : World) (i : Int) (t : Tok) : (mixKind prog w).is (.inl i) (.int i t) = true := keyIs_int i t
theorem mixKind_str (prog : Program) (w : World) (x : Str) (t : Tok) : (mixKind prog w).is (.inr x) (.str x t) = true := keyIs_str x t
end L2

namespace L2
open PySem PySem.Spec PyProof.Rows

/-- a value, without the heap -/
inductive V where
  | non | bl (b : Bool) | int (i : Int) | str (x : Str) | byt (b : Array UInt8) | flt (b : UInt64) | ref (a : Addr) | ty (n : String)
  deriving DecidableEq

def RelV : V → Value → Prop
  | .non, u => u = Value.none
  | .bl b, u => u = Value.bool b
  | .int i, u => ∃ t, u = Value.int i t
  | .str x, u => ∃ t, u = Value.str x t
  | .byt b, u => ∃ t, u = Value.bytes b t
  | .flt b, u => ∃ t, u = Value.float b t
  | .ref a, u => u = Value.ref a
  | .ty n, u => u = Value.type n

abbrev Vals : List V → List Value → Prop := Paired RelV
theorem Vals.length {xs : List V} {us : List Value} (r : Vals xs us) : xs.length = us.length := Paired.length r
theorem Vals.get : ∀ {xs : List V} {us : List Value} {i : Nat} {x : V}, Vals xs us → xs[i]? = some x → ∃ u, us[i]? = some u ∧ RelV x u
  | _, _, _, _, .nil, e => by simp at e
  | _, _, 0, _, .cons r _, e => by simp at e; subst e; exact ⟨_, rfl, r⟩
  | _, _, i + 1, x, .cons _ t, e => by
    obtain ⟨u, h1, h2⟩ := Vals.get (i := i) (x := x) t (by simpa using e)
    exact ⟨u, by simpa using h1, h2⟩
theorem Vals.set {x : V} {u : Value} (r : RelV x u) : ∀ {xs : List V} {us : List Value} (i : Nat), Vals xs us → Vals (xs.set i x) (us.set i u)
  | _, _, _, .nil => .nil
  | _, _, 0, .cons _ t => .cons r t
  | _, _, i + 1, .cons q t => .cons q (Vals.set r i t)
theorem Vals.append : ∀ {xs ys : List V} {us ws : List Value}, Vals xs us → Vals ys ws → Vals (xs ++ ys) (us ++ ws)
  | _, _, _, _, .nil, s => s
  | _, _, _, _, .cons r t, s => .cons r (Vals.append t s)
theorem Vals.take : ∀ {xs : List V} {us : List Value} (n : Nat), Vals xs us → Vals (xs.take n) (us.take n)
  | _, _, 0, _ => .nil
  | _, _, _ + 1, .nil => .nil
  | _, _, n + 1, .cons r t => .cons r (Vals.take n t)
theorem Vals.drop : ∀ {xs : List V} {us : List Value} (n : Nat), Vals xs us → Vals (xs.drop n) (us.drop n)
  | _, _, 0, r => r
  | _, _, _ + 1, .nil => .nil
  | _, _, n + 1, .cons _ t => Vals.drop n t
theorem Vals.none_of : ∀ {xs : List V} {us : List Value} {i : Nat}, Vals xs us → xs[i]? = none → us[i]? = none := fun {xs us i} r e => by
  have h1 := r.length
  have h2 : xs.length ≤ i := List.getElem?_eq_none_iff.mp e
  exact List.getElem?_eq_none_iff.mpr (by omega)

def RelO : Option V → Option Value → Prop
  | some v, some u => RelV v u
  | none, none => True
  | _, _ => False
def KV {κ : Type} : List (κ × V) → List (κ × Value) → Prop := Paired fun (p : κ × V) (q : κ × Value) => p.1 = q.1 ∧ RelV p.2 q.2

/-- a key of a dict (00_mix): an int or a text -/
def kV : Key → V
  | .inl i => .int i
  | .inr x => .str x

/-- what stands at a tracked address -/
inductive HO where
  /-- a list -/
  | lst (xs : List V)
  /-- a tuple (never changes) -/
  | tup (xs : List V)
  /-- a dict whose keys are ints and texts; one whose keys are tuples of ints and texts (the empty one is both) -/
  | dK (kvs : List (Key × V)) | dT (kvs : List (List Key × V))
  /-- a set of ints: its members, its size -/
  | set (S : Int → Bool) (n : Nat)
  /-- an instance of the class at C, its dict at dx, its attributes -/
  | ins (C dx : Addr) (fs : List (Str × V))
  /-- the dict of the instance at x -/
  | own (x : Addr)
  /-- the dict of an exception -/
  | xd (fs : List (Str × V))
  /-- a bound method, f of x -/
  | met (f x : Addr)
  /-- a range object lo, lo + 1, .. below hi -/
  | rng (lo hi : Int)
  /-- a thing that is known to the object (the script; a dict while a loop walks it): read, never written while it is so -/
  | frz (o : Obj) (u : HO)
  /-- a code object's table -/
  | tbl (ps : Array Value)
  /-- any other thing, by what is true of its one object (a def of one's own: SetO a S n := HO.ext fun h => ..) -/
  | ext (φ : Heap → Prop)

abbrev Hp := Addr → Option HO
def upd (H : Hp) (a : Addr) (o : HO) : Hp := fun b => if b = a then some o else H b
theorem upd_same {H : Hp} {a : Addr} {o : HO} : upd H a o a = some o := by unfold upd; rw [if_pos rfl]
theorem upd_ne {H : Hp} {a b : Addr} {o : HO} (h : b ≠ a) : upd H a o b = H b := by unfold upd; rw [if_neg h]
/-- two objects of different content stand apart -/
theorem ne_of {H : Hp} {a b : Addr} {o u : HO} (h : H a = some o) (h' : H b = some u) (d : o ≠ u) : a ≠ b := by
  intro e; subst e; rw [h] at h'; exact d (Option.some.inj h')
theorem ne_of_none {H : Hp} {a b : Addr} {o : HO} (h : H a = some o) (h' : H b = none) : a ≠ b := by
  intro e; subst e; rw [h] at h'; cases h'

section
variable (P : Program) (w : World)
def ObjOk (H : Hp) (h : Heap) (a : Addr) : HO → Prop
  | .lst xs => xs.length ≤ sizeLine ∧ ∃ (its : List Value) (n : Nat), Vals xs its ∧ h.get? a = some { cls := .type "list", data := .seq its.toArray n }
  | .tup xs => xs.length ≤ sizeLine ∧ ∃ its : List Value, Vals xs its ∧ IsTup h a its.toArray
  | .dK kvs => kvs.length ≤ sizeLine ∧ (a == sysModules) = false ∧ ∃ vs, KV kvs vs ∧ h.DictOf (mixKind P w) a vs
  | .dT kvs => kvs.length ≤ sizeLine ∧ (a == sysModules) = false ∧ ∃ xs : List (List Key × Addr × Value),
      Paired (fun (p : List Key × V) (q : List Key × Addr × Value) => p.1 = q.1 ∧ H q.2.1 = some (.tup (p.1.map kV)) ∧ RelV p.2 q.2.2) kvs xs ∧
      ∃ o es ep, h.get? a = some o ∧ o.ExactDict ∧ o.data = .dict es ep ∧ es.toList = xs.map (entryOfKey (tupleKind (mixKind P w))) ∧ (xs.map (·.1)).Nodup
  | .set S n => h.SetOf (intKind P w) a S n
  | .ins C dx fs => H dx = some (.own a) ∧ fs.length ≤ 1000 ∧ dx ≠ a ∧ h.get? a = some (PySem.W.instObj C dx) ∧
      ∃ mA, h.Ns1 dx mA ∧ (∀ f, RelO (fs.lookup f) (mA f)) ∧ PySem.Within mA (fs.map (·.1))
  | .own _ => ∃ o, h.get? a = some o
  | .xd fs => ∃ mA, h.Ns1 a mA ∧ ∀ f, RelO (fs.lookup f) (mA f)
  | .rng lo hi => ∃ t u v, h.get? a = some { cls := .type "range", data := .fields #[.int lo t, .int hi u, .int 1 v] }
  | .frz o u => h.get? a = some o ∧ ObjOk H h a u
  | .tbl ps => h.get? a = some { cls := .none, data := .fields ps }
  | .met f x => h.get? a = some (PySem.W.methodObj (.ref f) (.ref x))
  | .ext φ => φ h ∧ (∃ o, h.get? a = some o) ∧ ∀ h1 h2 : Heap, φ h1 → (∀ o, h1.get? a = some o → h2.get? a = some o) → φ h2
/-- the abstract heap is held -/
def HOk (H : Hp) (h : Heap) : Prop := ∀ a o, H a = some o → ObjOk P w H h a o
end

section
variable {P : Program} {w : World} {H H' : Hp} {h h' : Heap} {a : Addr} {o : HO}
theorem ObjOk.lt (x : ObjOk P w H h a o) : a < h.objs.size := by
  cases o with
  | lst xs => obtain ⟨_, _, _, _, e⟩ := x; exact Heap.lt_size e
  | tup xs => obtain ⟨_, _, _, p⟩ := x; exact p.lt
  | dK kvs => obtain ⟨_, _, _, _, o, _, _, e, _⟩ := x; exact Heap.lt_size e
  | dT kvs => obtain ⟨_, _, _, _, o, _, _, e, _⟩ := x; exact Heap.lt_size e
  | set S n => obtain ⟨o, _, _, _, e, _⟩ := x; exact Heap.lt_size e
  | ins C dx fs => obtain ⟨_, _, _, e, _⟩ := x; exact Heap.lt_size e
  | own y => obtain ⟨_, e⟩ := x; exact Heap.lt_size e
  | xd fs => obtain ⟨_, ⟨_, _, _, e, _⟩, _⟩ := x; exact Heap.lt_size e
  | rng lo hi => obtain ⟨_, _, _, e⟩ := x; exact Heap.lt_size e
  | frz ob u => obtain ⟨e, _⟩ := x; exact Heap.lt_size e
  | tbl ps => exact Heap.lt_size (show h.get? a = some _ from x)
  | met f y => exact Heap.lt_size (show h.get? a = some _ from x)
  | ext φ => obtain ⟨_, ⟨_, e⟩, _⟩ := x; exact Heap.lt_size e
theorem Paired.mapP {α β : Type} {F G : α → β → Prop} : ∀ {l₁ : List α} {l₂ : List β}, Paired F l₁ l₂ → (∀ a b, F a b → G a b) → Paired G l₁ l₂
  | _, _, .nil, _ => .nil
  | _, _, .cons r t, f => .cons (f _ _ r) (Paired.mapP t f)
/-- what an object's description leans on: its own object, its own dict, the tuples -/
theorem ObjOk.stay (x : ObjOk P w H h a o) (k : ∀ b u, (b = a ∨ H b = some (.own a)) → h.get? b = some u → h'.get? b = some u)
    (ho : ∀ b, H b = some (.own a) → H' b = some (.own a)) (ht : ∀ b xs, H b = some (.tup xs) → H' b = some (.tup xs)) : ObjOk P w H' h' a o := by
  induction o with
  | lst xs => obtain ⟨z, its, n, r, e⟩ := x; exact ⟨z, its, n, r, k _ _ (.inl rfl) e⟩
  | tup xs => obtain ⟨z, its, r, ob, e, c⟩ := x; exact ⟨z, its, r, ob, k _ _ (.inl rfl) e, c⟩
  | dK kvs => obtain ⟨z, y, vs, r, ob, es, ep, e, c⟩ := x; exact ⟨z, y, vs, r, ob, es, ep, k _ _ (.inl rfl) e, c⟩
  | dT kvs =>
    obtain ⟨z, y, xs, r, ob, es, ep, e, c⟩ := x
    exact ⟨z, y, xs, Paired.mapP r fun p q z => ⟨z.1, ht _ _ z.2.1, z.2.2⟩, ob, es, ep, k _ _ (.inl rfl) e, c⟩
  | set S n => obtain ⟨ob, es, ep, t, e, c⟩ := x; exact ⟨ob, es, ep, t, k _ _ (.inl rfl) e, c⟩
  | ins C dx fs =>
    obtain ⟨d, z, ne, e, mA, ⟨od, es, ep, e2, c⟩, r⟩ := x
    exact ⟨ho _ d, z, ne, k _ _ (.inl rfl) e, mA, ⟨od, es, ep, k _ _ (.inr d) e2, c⟩, r⟩
  | own y => obtain ⟨ob, e⟩ := x; exact ⟨ob, k _ _ (.inl rfl) e⟩
  | xd fs => obtain ⟨mA, ⟨od, es, ep, e, c⟩, r⟩ := x; exact ⟨mA, ⟨od, es, ep, k _ _ (.inl rfl) e, c⟩, r⟩
  | rng lo hi => obtain ⟨t, u, v, e⟩ := x; exact ⟨t, u, v, k _ _ (.inl rfl) e⟩
  | frz ob u ih => obtain ⟨e, q⟩ := x; exact ⟨k _ _ (.inl rfl) e, ih q⟩
  | tbl ps =>
    have e : h.get? a = some { cls := .none, data := .fields ps } := x
    show h'.get? a = some { cls := .none, data := .fields ps }
    exact k a _ (.inl rfl) e
  | met f y =>
    have e : h.get? a = some (PySem.W.methodObj (.ref f) (.ref y)) := x
    show h'.get? a = some (PySem.W.methodObj (.ref f) (.ref y))
    exact k a _ (.inl rfl) e
  | ext φ => obtain ⟨p, ⟨o, e⟩, st⟩ := x; exact ⟨st _ _ p fun o q => k _ _ (.inl rfl) q, ⟨o, k _ _ (.inl rfl) e⟩, st⟩
theorem HOk.lt (x : HOk P w H h) (e : H a = some o) : a < h.objs.size := (x a o e).lt
theorem HOk.fresh (x : HOk P w H h) (e : h.objs.size ≤ a) : H a = none := by
  cases q : H a with
  | none => rfl
  | some u => exact absurd (Nat.lt_of_lt_of_le (x.lt q) e) (Nat.lt_irrefl _)
/-- every object of the heap is kept -/
theorem HOk.kept (x : HOk P w H h) (k : ∀ b u, h.get? b = some u → h'.get? b = some u) : HOk P w H h' := fun a o e =>
  (x a o e).stay (fun b u _ q => k b u q) (fun _ q => q) fun _ _ q => q
/-- a new object is laid and tracked -/
theorem HOk.laid (x : HOk P w H h) (k : ∀ b u, h.get? b = some u → h'.get? b = some u) (hp : h.objs.size ≤ a) (new : ObjOk P w (upd H a o) h' a o) : HOk P w (upd H a o) h' := fun b u e => by
  have hn := x.fresh hp
  by_cases hb : b = a
  · subst hb; rw [upd_same] at e; cases e; exact new
  · rw [upd_ne hb] at e
    exact (x b u e).stay (fun c v _ q => k c v q) (fun c q => by rw [upd_ne (ne_of_none q hn)]; exact q) fun c xs q => by rw [upd_ne (ne_of_none q hn)]; exact q
end

/-- what may be read as u: it is u, or a known u -/
def Rd (H : Hp) (a : Addr) (u : HO) : Prop := H a = some u ∨ ∃ o, H a = some (.frz o u)
theorem Rd.of {H : Hp} {a : Addr} {u : HO} (h : H a = some u) : Rd H a u := .inl h
theorem Rd.ok {P : Program} {w : World} {H : Hp} {h : Heap} {a : Addr} {u : HO} (r : Rd H a u) (x : HOk P w H h) : ObjOk P w H h a u := by
  rcases r with r | ⟨o, r⟩
  · exact x a u r
  · obtain ⟨_, q⟩ := x a _ r
    exact q
/-- what may be written -/
def Mut : Option HO → Prop
  | some (.lst _) => True
  | some (.dK _) => True
  | some (.dT _) => True
  | some (.set _ _) => True
  | some (.ins _ _ _) => True
  | some (.ext _) => True
  | _ => False
section
variable {P : Program} {w : World} {H : Hp} {h h' : Heap} {x e : Addr} {o' : HO}
/-- the object at e is changed: x itself, or the dict of the instance x -/
theorem HOk.write (ok : HOk P w H h) (mu : Mut (H x)) (he : e = x ∨ H e = some (.own x)) (k : ∀ b u, b ≠ e → h.get? b = some u → h'.get? b = some u) (heo : ∃ u, h'.get? e = some u)
    (new : ObjOk P w (upd H x o') h' x o') : HOk P w (upd H x o') h' := fun b u q => by
  have nown : ∀ c y, H c = some (.own y) → c ≠ x := fun c y r z => by subst z; rw [r] at mu; exact mu
  have ntup : ∀ c xs, H c = some (.tup xs) → c ≠ x := fun c xs r z => by subst z; rw [r] at mu; exact mu
  by_cases hb : b = x
  · subst hb; rw [upd_same] at q; cases q; exact new
  · rw [upd_ne hb] at q
    by_cases hbe : b = e
    · have q' : H b = some (.own x) := by
        rcases he with z | z
        · exact absurd (hbe.trans z) hb
        · rw [hbe]; exact z
      rw [q] at q'; cases q'
      obtain ⟨v, hv⟩ := heo
      exact ⟨v, by rw [hbe]; exact hv⟩
    · refine (ok b u q).stay (fun c v hc r => k c v ?_ r) (fun c r => by rw [upd_ne (nown c b r)]; exact r) fun c xs r => by rw [upd_ne (ntup c xs r)]; exact r
      rcases hc with rfl | hc
      · exact hbe
      · rintro rfl
        rcases he with z | z
        · exact nown c b hc z
        · rw [hc] at z; cases z; exact hb rfl
end

/-! ### kept unless tracked; of the frames at fs (the callers') the slots may change (an exception that passes writes there); of the records at ex (iterators) nothing is said -/
structure Un (fs ex : List Addr) (H H' : Hp) (h h' : Heap) : Prop where
  keep : ∀ b o, h.get? b = some o → H b = none → b ∉ fs → b ∉ ex → h'.get? b = some o
  slot : ∀ b o, h.get? b = some o → H b = none → b ∈ fs → b ∉ ex → ∃ sl, h'.get? b = some { o with slots := sl }
  free : ∀ b o, h.get? b = some o → H b = none → b ∉ ex → H' b = none
  there : ∀ b o, h.get? b = some o → b ∉ ex → ∃ o', h'.get? b = some o'
  tups : ∀ b xs, H b = some (.tup xs) → H' b = some (.tup xs)
  frzs : ∀ b o u, H b = some (.frz o u) → H' b = some (.frz o u)
  tbls : ∀ b ps, H b = some (.tbl ps) → ∃ more, H' b = some (.tbl (ps ++ more))
section
variable {fs fs' ex ex' : List Addr} {H H1 H2 : Hp} {h h1 h2 h' : Heap} {a x e : Addr} {o : HO}
theorem Un.any (u : Un fs ex H H1 h h1) {b : Addr} {ob : Obj} (q : h.get? b = some ob) (n : H b = none) (hx : b ∉ ex) : ∃ sl, h1.get? b = some { ob with slots := sl } := by
  by_cases hb : b ∈ fs
  · exact u.slot b ob q n hb hx
  · exact ⟨ob.slots, u.keep b ob q n hb hx⟩
theorem Un.trans (a : Un fs ex H H1 h h1) (b : Un fs ex H1 H2 h1 h2) : Un fs ex H H2 h h2 where
  keep := fun c ob q n hc hx => b.keep c ob (a.keep c ob q n hc hx) (a.free c ob q n hx) hc hx
  slot := fun c ob q n hc hx => by
    obtain ⟨sl, e1⟩ := a.slot c ob q n hc hx
    obtain ⟨sl', e2⟩ := b.slot c _ e1 (a.free c ob q n hx) hc hx
    exact ⟨sl', e2⟩
  free := fun c ob q n hx => by
    obtain ⟨o', e1⟩ := a.there c ob q hx
    exact b.free c o' e1 (a.free c ob q n hx) hx
  there := fun c ob q hx => by
    obtain ⟨o', e1⟩ := a.there c ob q hx
    exact b.there c o' e1 hx
  tups := fun c xs q => b.tups c xs (a.tups c xs q)
  frzs := fun c ob xs q => b.frzs c ob xs (a.frzs c ob xs q)
  tbls := fun c ps q => by
    obtain ⟨m1, e1⟩ := a.tbls c ps q
    obtain ⟨m2, e2⟩ := b.tbls c _ e1
    exact ⟨m1 ++ m2, by rw [e2, Array.append_assoc]⟩
theorem Un.kept (k : ∀ b u, h.get? b = some u → h'.get? b = some u) : Un fs ex H H h h' :=
  ⟨fun b ob q _ _ _ => k b ob q, fun b ob q _ _ _ => ⟨ob.slots, k b ob q⟩, fun _ _ _ n _ => n, fun b ob q _ => ⟨ob, k b ob q⟩, fun _ _ q => q, fun _ _ _ q => q, fun _ ps q => ⟨#[], by rw [q]; simp⟩⟩
theorem Un.refl : Un fs ex H H h h := Un.kept fun _ _ q => q
theorem Un.laid (k : ∀ b u, h.get? b = some u → h'.get? b = some u) (hp : h.objs.size ≤ a) (hn : H a = none) : Un fs ex H (upd H a o) h h' where
  keep := fun b u q _ _ _ => k b u q
  slot := fun b u q _ _ _ => ⟨u.slots, k b u q⟩
  free := fun b u q n _ => by rw [upd_ne (Nat.ne_of_lt (Nat.lt_of_lt_of_le (Heap.lt_size q) hp))]; exact n
  there := fun b u q _ => ⟨u, k b u q⟩
  tups := fun b xs q => by rw [upd_ne (ne_of_none q hn)]; exact q
  frzs := fun b u xs q => by rw [upd_ne (ne_of_none q hn)]; exact q
  tbls := fun b ps q => ⟨#[], by rw [upd_ne (ne_of_none q hn), q]; simp⟩
theorem Un.write (mu : Mut (H x)) (he : e = x ∨ H e = some (.own x)) (k : ∀ b u, b ≠ e → h.get? b = some u → h'.get? b = some u) (heo : ∃ u, h'.get? e = some u) : Un fs ex H (upd H x o) h h' := by
  have hx : ∀ b, H b = none → b ≠ x := fun b n z => by subst z; rw [n] at mu; exact mu
  have hb : ∀ b, H b = none → b ≠ e := fun b n z => by
    subst z
    rcases he with r | r
    · exact hx b n r
    · rw [n] at r; cases r
  have hm : ∀ b u, H b = some u → ¬ Mut (some u) → b ≠ x := fun b u q nm z => by subst z; rw [q] at mu; exact nm mu
  refine ⟨fun b u q n _ _ => k b u (hb b n) q, fun b u q n _ _ => ⟨u.slots, k b u (hb b n) q⟩, fun b u q n _ => by rw [upd_ne (hx b n)]; exact n, fun b u q _ => ?_,
    fun b xs q => by rw [upd_ne (hm b _ q fun z => z)]; exact q, fun b u xs q => by rw [upd_ne (hm b _ q fun z => z)]; exact q, fun b ps q => ⟨#[], by rw [upd_ne (hm b _ q fun z => z), q]; simp⟩⟩
  by_cases hbe : b = e
  · subst hbe; exact heo
  · exact ⟨u, k b u hbe q⟩
theorem Un.mono (u : Un fs ex H H1 h h1) (hs : ∀ b ∈ fs, b ∈ fs') (hx : ∀ b ∈ ex, b ∈ ex') : Un fs' ex' H H1 h h1 :=
  ⟨fun b ob q n hb he => u.keep b ob q n (fun z => hb (hs b z)) fun z => he (hx b z), fun _ _ q n _ he => u.any q n fun z => he (hx _ z), fun b ob q n he => u.free b ob q n fun z => he (hx b z), fun b ob q he => u.there b ob q fun z => he (hx b z), u.tups, u.frzs, u.tbls⟩
end

/-! ### the heap without what is tracked -/
def trk (h : Heap) (H : Hp) : List Addr := (List.range h.objs.size).filter fun a => (H a).isSome
def hidT (h : Heap) (H : Hp) : Heap := PySem.W.hideAll h (trk h H)
theorem hidT_size (h : Heap) (H : Hp) : (hidT h H).objs.size = h.objs.size := PySem.W.hideAll_size _ _
theorem hidT_get {h : Heap} {H : Hp} {b : Addr} {o : Obj} (e : h.get? b = some o) (n : H b = none) : (hidT h H).get? b = some o :=
  PySem.W.hideAll_get _ e fun hm => by
    have q : (H b).isSome = true := (List.mem_filter.mp hm).2
    rw [n] at q; simp at q
theorem of_hidT {h : Heap} {H : Hp} {b : Addr} {o : Obj} (e : (hidT h H).get? b = some o) : h.get? b = some o ∧ H b = none := by
  have e' : h.get? b = some o := PySem.W.of_hideAll (trk h H) e
  refine ⟨e', ?_⟩
  cases q : H b with
  | none => rfl
  | some x =>
    have hm : b ∈ trk h H := List.mem_filter.mpr ⟨List.mem_range.mpr (Heap.lt_size e'), by simp [q]⟩
    have z : (hidT h H).get? b = none := PySem.W.hideAll_none (trk h H) hm
    rw [z] at e; cases e

/-! ### OpenK's ledger, filled with every new object but one -/
def allNews (g h : Heap) (L : Addr) : List (Addr × Obj) := (List.range h.objs.size).filterMap fun a => if a = L ∨ (g.get? a).isSome = true then none else (h.get? a).map fun o => (a, o)
def rest (g h : Heap) (L d : Addr) : List (Addr × Obj) := (allNews g h L).filter fun p => decide (p.1 ≠ d)
end L2

namespace L2
open PySem PySem.Spec PyProof.Rows

/-- the module's facts, over the base: the heap at the law's entry without what is tracked there -/
structure Mod (K : PySem.W.Frag) (mg : Str → Option Value) (base : Heap) : Prop where
  kin : K.In base
  glob : base.Ns mainGlobals mg
  blt : ∃ mb, base.Ns builtinsNs mb ∧ ∀ x : Str, x ≠ "__name__" → mb x = bootBuiltins x
  nolimit : base.NoLimit

/-- the context: a def's body (or a comprehension's block) running. base: fixed through the whole law; s₀, H₀: the entry; outer: the frames whose slots others may change (a def's callers); stack: all frames that run;
   ex: iterators that were made ahead of the entry and are walked here (a comprehension's); fn: the names whose cells were made at the entry (a def: all; a comprehension's block: its own); calm: not within an except suite; pn: pins that every state bears; xe: what is wanted of an exception that leaves the code -/
structure Cx where
  prog : Program
  w : World
  K : PySem.W.Frag
  mg : Str → Option Value
  base : Heap
  A : Around
  N : List Str
  s_0 : Shared
  H_0 : Hp
  env : Env
  outer : List Env
  stack : List Env
  ex : List Addr
  fn : Str → Bool
  calm : Bool
  pn : List (Addr × Obj)
  xe : Value → Shared → Prop
/-- the callers' frames -/
def frs (l : List Env) : List Addr := l.filterMap (·.frame)
abbrev Cx.fs (X : Cx) : List Addr := frs X.outer

def Vis (sc : Scope) (x : Str) : Prop := sc.names.lookup x = some .local ∨ sc.names.lookup x = some .cell ∨ sc.names.lookup x = some .free
def Loc (sc : Scope) (x : Str) : Prop := sc.names.lookup x = some .local ∨ sc.names.lookup x = some .cell
def Look (env : Env) (h : Heap) (m : Str → Option Value) (x : Str) (u : Value) : Prop :=
  (env.kindOf x = some .local ∧ m x = some u) ∨ ((env.kindOf x = some .cell ∨ env.kindOf x = some .free) ∧ ∃ c, env.cells.lookup x = some c ∧ h.IsCell c (some u))

structure Cx.Ok (X : Cx) : Prop where
  mod : Mod X.K X.mg X.base
  kind : X.env.scope.kind = .function
  glob : X.env.globals = mainGlobals
  blt : X.env.builtins = builtinsNs
  above : X.s_0.heap.objs.size ≤ X.env.locals
  inj : ∀ x y c, X.env.cells.lookup x = some c → X.env.cells.lookup y = some c → x = y
  has : ∀ x, (X.env.kindOf x = some .cell ∨ X.env.kindOf x = some .free) → ∃ c, X.env.cells.lookup x = some c
  cab : ∀ x c, X.fn x = true → X.env.cells.lookup x = some c → X.s_0.heap.objs.size ≤ c
  hd : X.calm = true → X.A.handled = none
  frames : X.A.frames = some X.stack
  stk : X.stack = X.outer ∨ (X.stack = X.env :: X.outer ∧ X.env.frame = some X.env.locals)
  exf : ∀ b ∈ X.ex, b ≠ X.env.locals ∧ ∀ x c, X.env.cells.lookup x = some c → c ≠ b
  bs : ∀ b o, X.base.get? b = some o → X.s_0.heap.get? b = some o ∧ X.H_0 b = none
  bsz : X.base.objs.size ≤ X.s_0.heap.objs.size
  noex : ∀ b o, X.base.get? b = some o → b ∉ X.ex
  exfs : ∀ b ∈ X.ex, b ∉ X.fs
  funs : X.s_0.heap.FunFrames X.base X.outer
  frf : ∀ b ∈ X.fs, X.H_0 b = none

structure Inv (X : Cx) (pins : List (Addr × Obj)) (σ : List (Option V)) (H : Hp) (s : Shared) : Prop where
  ok : X.Ok
  os : s.os = X.s_0.os
  bare : AllBare s.gens
  base : Un X.fs X.ex X.H_0 H X.s_0.heap s.heap
  loc : ∃ m, s.heap.Ns X.env.locals m ∧ ∀ (i : Nat) (x : Str) (v : V), X.N[i]? = some x → σ[i]? = some (some v) → Vis X.env.scope x → ∃ u, RelV v u ∧ Look X.env s.heap m x u
  cell : ∀ x c, X.env.cells.lookup x = some c → ∃ v, s.heap.IsCell c v
  free : H X.env.locals = none
  freeC : ∀ x c, X.env.cells.lookup x = some c → H c = none
  pin : ∀ p ∈ X.pn ++ pins, s.heap.get? p.1 = some p.2 ∧ H p.1 = none ∧ p.1 ≠ X.env.locals ∧ p.1 ∉ X.fs ∧ ∀ v, p.2.data ≠ .cell v
  hok : HOk X.prog X.w H s.heap
  len : σ.length = X.N.length

section
variable {X : Cx} {pins : List (Addr × Obj)} {σ : List (Option V)} {H H' : Hp} {s : Shared} {h' : Heap}

theorem Cx.Ok.nofr (ok : X.Ok) {b : Addr} {o : Obj} (e : X.base.get? b = some o) : b ∉ X.fs := fun hb => by
  have := (ok.funs.mem hb).1
  rw [e] at this; cases this
theorem Inv.bs (I : Inv X pins σ H s) : ∀ b o, X.base.get? b = some o → s.heap.get? b = some o ∧ H b = none := fun b o e =>
  ⟨I.base.keep b o (I.ok.bs b o e).1 (I.ok.bs b o e).2 (I.ok.nofr e) (I.ok.noex b o e), I.base.free b o (I.ok.bs b o e).1 (I.ok.bs b o e).2 (I.ok.noex b o e)⟩
theorem Inv.bk (I : Inv X pins σ H s) : ∀ b o, X.base.get? b = some o → s.heap.get? b = some o := fun b o e => (I.bs b o e).1
theorem Inv.mod (I : Inv X pins σ H s) : Mod X.K X.mg X.base := I.ok.mod
theorem Inv.kIn (I : Inv X pins σ H s) : X.K.In s.heap := I.ok.mod.kin.keeps I.bk
theorem Inv.nolimit (I : Inv X pins σ H s) : s.heap.NoLimit := I.ok.mod.nolimit.keeps I.bk
/-- the frame over the base: for OpenK's rules (K.In X.base is I.mod.kin) -/
theorem Inv.fr (I : Inv X pins σ H s) : ∃ m, Fr X.base X.env.locals s.heap m :=
  let ⟨m, hn, _⟩ := I.loc
  ⟨m, hn, I.bk, Nat.le_trans I.ok.bsz I.ok.above⟩
theorem Inv.lt (I : Inv X pins σ H s) : X.env.locals < s.heap.objs.size := let ⟨_, hn, _⟩ := I.loc; hn.lt
theorem Inv.sz (I : Inv X pins σ H s) : X.s_0.heap.objs.size ≤ s.heap.objs.size := Nat.le_trans I.ok.above (Nat.le_of_lt I.lt)
theorem Inv.nofs (I : Inv X pins σ H s) {a : Addr} (h : s.heap.objs.size ≤ a) : a ∉ X.fs := fun hb => by
  obtain ⟨_, o, ho, _⟩ := I.ok.funs.mem hb
  exact absurd (Nat.lt_of_lt_of_le (Heap.lt_size ho) (Nat.le_trans I.sz h)) (Nat.lt_irrefl _)
theorem Inv.cne (I : Inv X pins σ H s) : ∀ x c, X.env.cells.lookup x = some c → c ≠ X.env.locals := fun x c e z => by
  obtain ⟨v, o, ho, hd⟩ := I.cell x c e
  obtain ⟨m, ⟨o', es, ep, ho', hd', _⟩, _⟩ := I.loc
  rw [z, ho'] at ho; cases ho; rw [hd'] at hd; cases hd
theorem Inv.funs (I : Inv X pins σ H s) : s.heap.FunFrames X.base X.outer := by
  have all : ∀ (l : List Env), (∀ b ∈ frs l, b ∈ X.fs) → X.s_0.heap.FunFrames X.base l → s.heap.FunFrames X.base l := by
    intro l
    induction l with
    | nil => intro _ _; trivial
    | cons env r ih =>
      intro hs hl
      obtain ⟨hk, ⟨L, o, hf, hn, ho, hd⟩, hr⟩ := hl
      have hL : L ∈ X.fs := hs L (by unfold frs; rw [List.filterMap_cons, hf]; exact List.mem_cons_self)
      obtain ⟨sl, e⟩ := I.base.slot L o ho (I.ok.frf L hL) hL fun z => I.ok.exfs L z hL
      exact ⟨hk, ⟨L, _, hf, hn, e, hd⟩, ih (fun b hb => hs b (by unfold frs; rw [List.filterMap_cons, hf]; exact List.mem_cons_of_mem _ hb)) hr⟩
  exact all X.outer (fun _ hb => hb) I.ok.funs

/-- the frames that run, for a call -/
theorem Inv.stack (I : Inv X pins σ H s) : s.heap.FunFrames X.base X.stack := by
  rcases I.ok.stk with e | ⟨e, hf⟩
  · rw [e]; exact I.funs
  · rw [e]
    obtain ⟨m, hn, _⟩ := I.loc
    refine .cons (by rw [I.ok.kind]; decide) hf hn ?_ I.funs
    exact Heap.get?_none_of_le (Nat.le_trans I.ok.bsz I.ok.above)
theorem Inv.stkSub (I : Inv X pins σ H s) : ∀ b ∈ frs X.stack, b ∈ X.env.locals :: X.fs := fun b hb => by
  rcases I.ok.stk with e | ⟨e, hf⟩
  · rw [e] at hb; exact List.mem_cons_of_mem _ hb
  · rw [e] at hb
    unfold frs at hb
    rw [List.filterMap_cons, hf] at hb
    exact hb
theorem Inv.stkFree (I : Inv X pins σ H s) : ∀ b ∈ frs X.stack, H b = none := fun b hb => by
  rcases List.mem_cons.mp (I.stkSub b hb) with e | hb
  · rw [e]; exact I.free
  · obtain ⟨_, o, ho, _⟩ := I.ok.funs.mem hb
    exact I.base.free b o ho (I.ok.frf b hb) fun z => I.ok.exfs b z hb

/-- THE STEP: the untracked objects but the frame and the records at ch are kept (the callers' frames up to slots), the frame's map is kept, the new abstract heap is held -/
theorem Inv.step {g' : Array GenState} {t' : Nat} {d' : Drawn} {ch : List Addr} (I : Inv X pins σ H s)
    (hch : ∀ b ∈ ch, (b ∈ X.ex ∨ X.s_0.heap.objs.size ≤ b) ∧ b ≠ X.env.locals ∧ (∀ x c, X.env.cells.lookup x = some c → c ≠ b) ∧ ∀ p ∈ X.pn ++ pins, p.1 ≠ b)
    (keep : ∀ b o, b ≠ X.env.locals → b ∉ X.fs → b ∉ ch → s.heap.get? b = some o → H b = none → h'.get? b = some o)
    (slot : ∀ b o, b ≠ X.env.locals → b ∈ X.fs → b ∉ ch → s.heap.get? b = some o → H b = none → ∃ sl, h'.get? b = some { o with slots := sl }) (free : ∀ b o, b ∉ ch → s.heap.get? b = some o → H b = none → H' b = none)
    (there : ∀ b o, b ∉ ch → s.heap.get? b = some o → ∃ o', h'.get? b = some o')
    (tups : ∀ b xs, H b = some (.tup xs) → H' b = some (.tup xs)) (frzs : ∀ b o u, H b = some (.frz o u) → H' b = some (.frz o u)) (tbls : ∀ b ps, H b = some (.tbl ps) → ∃ more, H' b = some (.tbl (ps ++ more)))
    (ns : ∀ m, s.heap.Ns X.env.locals m → h'.Ns X.env.locals m) (hok : HOk X.prog X.w H' h') (hg : AllBare g') :
    Inv X pins σ H' { s with heap := h', gens := g', drawn := d', toks := t' } := by
  have neL : ∀ b o, X.s_0.heap.get? b = some o → b ≠ X.env.locals := fun b o e => Nat.ne_of_lt (Nat.lt_of_lt_of_le (Heap.lt_size e) I.ok.above)
  have neC : ∀ b o, X.s_0.heap.get? b = some o → b ∉ X.ex → b ∉ ch := fun b o e hx hb => by
    rcases (hch b hb).1 with z | z
    · exact hx z
    · exact absurd (Nat.lt_of_lt_of_le (Heap.lt_size e) z) (Nat.lt_irrefl _)
  have cellK : ∀ x c, X.env.cells.lookup x = some c → ∀ v, s.heap.IsCell c v → h'.IsCell c v := fun x c e v ⟨o, ho, hd⟩ => by
    have nch : c ∉ ch := fun z => (hch c z).2.2.1 x c e rfl
    by_cases hc : c ∈ X.fs
    · obtain ⟨sl, q⟩ := slot c o (I.cne x c e) hc nch ho (I.freeC x c e)
      exact ⟨_, q, hd⟩
    · exact ⟨o, keep c o (I.cne x c e) hc nch ho (I.freeC x c e), hd⟩
  refine ⟨I.ok, I.os, hg, ⟨fun b o e n hb hx => ?_, fun b o e n hb hx => ?_, fun b o e n hx => ?_, fun b o e hx => ?_, fun b xs e => tups b xs (I.base.tups b xs e), fun b o xs e => frzs b o xs (I.base.frzs b o xs e), fun b ps e => ?_⟩, ?_, fun x c e => ?_, ?_, fun x c e => ?_, fun p hp => ?_, hok, I.len⟩
  · exact keep b o (neL b o e) hb (neC b o e hx) (I.base.keep b o e n hb hx) (I.base.free b o e n hx)
  · obtain ⟨sl, e1⟩ := I.base.slot b o e n hb hx
    obtain ⟨sl', e2⟩ := slot b _ (neL b o e) hb (neC b o e hx) e1 (I.base.free b o e n hx)
    exact ⟨sl', e2⟩
  · obtain ⟨o', e1⟩ := I.base.there b o e hx
    exact free b o' (neC b o e hx) e1 (I.base.free b o e n hx)
  · obtain ⟨o', e1⟩ := I.base.there b o e hx
    exact there b o' (neC b o e hx) e1
  · obtain ⟨m1, e1⟩ := I.base.tbls b ps e
    obtain ⟨m2, e2⟩ := tbls b _ e1
    exact ⟨m1 ++ m2, by rw [e2, Array.append_assoc]⟩
  · obtain ⟨m, hn, hl⟩ := I.loc
    refine ⟨m, ns m hn, fun i x v e1 e2 e3 => ?_⟩
    obtain ⟨u, r, l⟩ := hl i x v e1 e2 e3
    refine ⟨u, r, ?_⟩
    rcases l with l | ⟨k, c, e, z⟩
    · exact .inl l
    · exact .inr ⟨k, c, e, cellK x c e _ z⟩
  · obtain ⟨v, z⟩ := I.cell x c e
    exact ⟨v, cellK x c e v z⟩
  · obtain ⟨m, ⟨o, _, _, ho, _⟩, _⟩ := I.loc
    exact free _ o (fun z => (hch _ z).2.1 rfl) ho I.free
  · obtain ⟨v, o, ho, hd⟩ := I.cell x c e
    exact free c o (fun z => (hch c z).2.2.1 x c e rfl) ho (I.freeC x c e)
  · obtain ⟨e, n, ne, nf, d⟩ := I.pin p hp
    have nch : p.1 ∉ ch := fun z => (hch p.1 z).2.2.2 p hp rfl
    exact ⟨keep p.1 p.2 ne nf nch e n, free p.1 p.2 nch e n, ne, nf, d⟩
/-- .. where the frame's own object is kept too -/
theorem Inv.un {t' : Nat} (I : Inv X pins σ H s) (u : Un X.fs [] H H' s.heap h') (hok : HOk X.prog X.w H' h') : Inv X pins σ H' { s with heap := h', toks := t' } := by
  obtain ⟨m, ⟨o, es, ep, ho, r⟩, _⟩ := id I.loc
  obtain ⟨sl, hL⟩ := u.any ho I.free (by simp)
  exact I.step (g' := s.gens) (d' := s.drawn) (ch := []) (fun _ z => nomatch z) (fun b o _ hb _ e n => u.keep b o e n hb (by simp)) (fun b o _ hb _ e n => u.slot b o e n hb (by simp)) (fun b o _ e n => u.free b o e n (by simp)) (fun b o _ e => u.there b o e (by simp)) u.tups u.frzs u.tbls (fun m' hm => by
    obtain ⟨o', es', ep', ho', r'⟩ := hm
    rw [ho] at ho'; cases ho'
    exact ⟨_, es', ep', hL, r'⟩) hok I.bare
/-- behind a call (or a comprehension's block): the slots of this frame may have changed too, the records at ch may have turned -/
theorem Inv.call {g' : Array GenState} {t' : Nat} {d' : Drawn} {ch : List Addr} (I : Inv X pins σ H s) (u : Un (frs X.stack) ch H H' s.heap h') (hok : HOk X.prog X.w H' h') (hg : AllBare g')
    (hch : ∀ b ∈ ch, (b ∈ X.ex ∨ X.s_0.heap.objs.size ≤ b) ∧ b ≠ X.env.locals ∧ (∀ x c, X.env.cells.lookup x = some c → c ≠ b) ∧ ∀ p ∈ X.pn ++ pins, p.1 ≠ b) :
    Inv X pins σ H' { s with heap := h', gens := g', drawn := d', toks := t' } := by
  obtain ⟨m, ⟨o, es, ep, ho, r⟩, _⟩ := id I.loc
  obtain ⟨sl, hL⟩ := u.any ho I.free fun z => (hch _ z).2.1 rfl
  exact I.step (ch := ch) hch (fun b o hL hb hc e n => u.keep b o e n (fun z => (List.mem_cons.mp (I.stkSub b z)).elim hL hb) hc) (fun b o _ _ hc e n => u.any e n hc) (fun b o hc e n => u.free b o e n hc) (fun b o hc e => u.there b o e hc) u.tups u.frzs u.tbls (fun m' hm => by
    obtain ⟨o', es', ep', ho', r'⟩ := hm
    rw [ho] at ho'; cases ho'
    exact ⟨_, es', ep', hL, r'⟩) hok hg
/-- an untracked record of ours (an iterator) has turned -/
theorem Inv.turned {t' : Nat} {it : Addr} (I : Inv X pins σ H s) (k : ∀ b o, b ≠ it → s.heap.get? b = some o → h'.get? b = some o) (hn : H it = none) (hL : it ≠ X.env.locals)
    (h1 : it ∈ X.ex ∨ X.s_0.heap.objs.size ≤ it) (h2 : ∀ x c, X.env.cells.lookup x = some c → c ≠ it) (h3 : ∀ p ∈ X.pn ++ pins, p.1 ≠ it) : Inv X pins σ H { s with heap := h', toks := t' } := by
  have nit : ∀ b u, H b = some u → b ≠ it := fun b u e z => by rw [z, hn] at e; cases e
  refine I.step (g' := s.gens) (d' := s.drawn) (ch := [it]) (fun b hb => ?_) (fun b o _ _ hc e _ => k b o (fun z => hc (by simp [z])) e) (fun b o _ _ hc e _ => ⟨o.slots, k b o (fun z => hc (by simp [z])) e⟩) (fun _ _ _ _ n => n)
    (fun b o hc e => ⟨o, k b o (fun z => hc (by simp [z])) e⟩) (fun _ _ e => e) (fun _ _ _ e => e) (fun b ps e => ⟨#[], by rw [e]; simp⟩) (fun m hm => ?_) (fun b u e => ?_) I.bare
  · have e : b = it := by simpa using hb
    subst e
    exact ⟨h1, hL, h2, h3⟩
  · obtain ⟨o, es, ep, ho, r⟩ := hm
    exact ⟨o, es, ep, k _ o (Ne.symm hL) ho, r⟩
  · refine (I.hok b u e).stay (fun c v hc q => k c v ?_ q) (fun _ q => q) fun _ _ q => q
    rcases hc with z | z
    · rw [z]; exact nit b u e
    · exact nit c _ z
theorem Inv.tok (I : Inv X pins σ H s) (t : Nat) : Inv X pins σ H { s with toks := t } := I.un (h' := s.heap) (t' := t) Un.refl I.hok
/-- all objects kept -/
theorem Inv.kept {t' : Nat} (I : Inv X pins σ H s) (k : ∀ b u, s.heap.get? b = some u → h'.get? b = some u) : Inv X pins σ H { s with heap := h', toks := t' } := I.un (Un.kept k) (I.hok.kept k)
/-- a new object laid and tracked -/
theorem Inv.laid {a : Addr} {o : HO} {t' : Nat} (I : Inv X pins σ H s) (k : ∀ b u, s.heap.get? b = some u → h'.get? b = some u) (hp : s.heap.objs.size ≤ a) (new : ObjOk X.prog X.w (upd H a o) h' a o) :
    Inv X pins σ (upd H a o) { s with heap := h', toks := t' } := I.un (Un.laid k hp (I.hok.fresh hp)) (I.hok.laid k hp new)
/-- an object written -/
theorem Inv.write {x e : Addr} {o : HO} {t' : Nat} (I : Inv X pins σ H s) (mu : Mut (H x)) (he : e = x ∨ H e = some (.own x)) (k : ∀ b u, b ≠ e → s.heap.get? b = some u → h'.get? b = some u) (heo : ∃ u, h'.get? e = some u)
    (new : ObjOk X.prog X.w (upd H x o) h' x o) : Inv X pins σ (upd H x o) { s with heap := h', toks := t' } := I.un (Un.write mu he k heo) (I.hok.write mu he k heo new)
/-- forgetting slots, pins -/
theorem Inv.weak {σ' : List (Option V)} (I : Inv X pins σ H s) (hl : σ'.length = σ.length) (w : ∀ (i : Nat) v, σ'[i]? = some (some v) → σ[i]? = some (some v)) : Inv X pins σ' H s :=
  ⟨I.ok, I.os, I.bare, I.base, let ⟨m, hn, hl'⟩ := I.loc; ⟨m, hn, fun i x v e1 e2 e3 => hl' i x v e1 (w i v e2) e3⟩, I.cell, I.free, I.freeC, I.pin, I.hok, hl.trans I.len⟩
theorem Inv.pins_of {pins' : List (Addr × Obj)} (I : Inv X pins σ H s) (h : ∀ p ∈ pins', s.heap.get? p.1 = some p.2 ∧ H p.1 = none ∧ p.1 ≠ X.env.locals ∧ p.1 ∉ X.fs ∧ ∀ v, p.2.data ≠ .cell v) : Inv X pins' σ H s :=
  ⟨I.ok, I.os, I.bare, I.base, I.loc, I.cell, I.free, I.freeC, fun p hp => (List.mem_append.mp hp).elim (fun z => I.pin p (List.mem_append_left _ z)) (h p), I.hok, I.len⟩

theorem nodup_ix {N : List Str} (hN : N.Nodup) {i j : Nat} {x : Str} (a : N[i]? = some x) (b : N[j]? = some x) : i = j := by
  obtain ⟨h1, e1⟩ := List.getElem?_eq_some_iff.mp a
  obtain ⟨h2, e2⟩ := List.getElem?_eq_some_iff.mp b
  exact (List.getElem_inj hN).mp (e1.trans e2.symm)

/-- a name is stored; what changed -/
theorem store_ok2 {M : Model} {A : Around} {E : Value → Shared → Prop} {i : Nat} {x : Str} {v : V} {u : Value} {Q : Unit → Shared → Prop} (I : Inv X pins σ H s) (hN : X.N.Nodup) (hi : X.N[i]? = some x) (hx : Loc X.env.scope x) (r : RelV v u)
    (h : ∀ s', Inv X pins (σ.set i (some v)) H s' → (∃ a, Heap.SameBut a s.heap s'.heap ∧ (a = X.env.locals ∨ X.env.cells.lookup x = some a)) → Q () s') (hf : X.fn x = true ∨ X.env.scope.names.lookup x = some .local := by first | exact .inl rfl | exact .inr rfl | assumption) : wpAny M A (storeName X.env x u) Q E s := by
  obtain ⟨m, hn, hl⟩ := id I.loc
  have hcls : (X.env.scope.kind == .class || (X.env.scope.kind == .module && X.env.locals != X.env.globals)) = false := by rw [I.ok.kind]; rfl
  have hiσ : i < σ.length := by rw [I.len]; exact (List.getElem?_eq_some_iff.mp hi).1
  have cne := I.cne
  have tracked : ∀ {a : Addr} {h' : Heap}, (∃ o, s.heap.get? a = some o ∧ H a = none) → Heap.SameBut a s.heap h' → HOk X.prog X.w H h' := fun {a h'} ha hs b ob e => by
    obtain ⟨_, _, hfree⟩ := ha
    refine (I.hok b ob e).stay (fun c w' hc q => (hs.2 c ?_).trans q) (fun _ q => q) fun _ _ q => q
    rintro rfl
    rcases hc with rfl | hc
    · rw [hfree] at e; cases e
    · rw [hfree] at hc; cases hc
  rcases hx with hk | hk
  · refine wpAny_storeName_local hk hn (fun h' hn' hs => ?_) hcls
    obtain ⟨oL, _, _, hoL, _⟩ := id hn
    refine h _ ⟨I.ok, I.os, I.bare, ⟨fun b o e n hb hx => ?_, fun b o e n hb hx => ?_, I.base.free, fun b o e hx => ?_, I.base.tups, I.base.frzs, I.base.tbls⟩, ⟨_, hn', fun j y v' e1 e2 e3 => ?_⟩, fun y c e => ?_, I.free, I.freeC, fun p hp => ?_, tracked ⟨oL, hoL, I.free⟩ hs, by simpa using I.len⟩ ⟨_, hs, .inl rfl⟩
    · exact (hs.2 b (Nat.ne_of_lt (Nat.lt_of_lt_of_le (Heap.lt_size e) I.ok.above))).trans (I.base.keep b o e n hb hx)
    · obtain ⟨sl, e1⟩ := I.base.slot b o e n hb hx
      exact ⟨sl, (hs.2 b (Nat.ne_of_lt (Nat.lt_of_lt_of_le (Heap.lt_size e) I.ok.above))).trans e1⟩
    · obtain ⟨o', e1⟩ := I.base.there b o e hx
      exact ⟨o', (hs.2 b (Nat.ne_of_lt (Nat.lt_of_lt_of_le (Heap.lt_size e) I.ok.above))).trans e1⟩
    · by_cases hj : j = i
      · subst hj
        rw [hi] at e1; cases e1
        rw [List.getElem?_set_self hiσ] at e2
        cases e2
        exact ⟨u, r, .inl ⟨hk, by simp⟩⟩
      · rw [List.getElem?_set_ne (Ne.symm hj)] at e2
        obtain ⟨u', r', q⟩ := hl j y v' e1 e2 e3
        refine ⟨u', r', ?_⟩
        rcases q with ⟨k, e⟩ | ⟨k, c, e, z⟩
        · refine .inl ⟨k, ?_⟩
          have : y ≠ x := fun e => hj (nodup_ix hN e1 (e ▸ hi))
          simp [this, e]
        · exact .inr ⟨k, c, e, z.sameBut hs (cne y c e)⟩
    · obtain ⟨w', z⟩ := I.cell y c e
      exact ⟨w', z.sameBut hs (cne y c e)⟩
    · obtain ⟨e, n, ne, nf, d⟩ := I.pin p hp
      exact ⟨(hs.2 p.1 ne).trans e, n, ne, nf, d⟩
  · have hfn : X.fn x = true := by
      rcases hf with z | z
      · exact z
      · rw [z] at hk; cases hk
    obtain ⟨c, hc⟩ := I.ok.has x (.inl hk)
    obtain ⟨w', z⟩ := I.cell x c hc
    refine wpAny_storeName_cell I.ok.kind hk hc z (fun h' hc' hs => ?_)
    obtain ⟨oc, hoc, hocd⟩ := id z
    refine h { s with heap := h' } ⟨I.ok, I.os, I.bare, ⟨fun b o e n hb hx => ?_, fun b o e n hb hx => ?_, I.base.free, fun b o e hx => ?_, I.base.tups, I.base.frzs, I.base.tbls⟩, ⟨m, hn.sameBut hs (Ne.symm (cne x c hc)), fun j y v' e1 e2 e3 => ?_⟩, fun y c' e => ?_, I.free, I.freeC, fun p hp => ?_, tracked ⟨oc, hoc, I.freeC x c hc⟩ hs, by simpa using I.len⟩ ⟨c, hs, .inr hc⟩
    · exact (hs.2 b (Nat.ne_of_lt (Nat.lt_of_lt_of_le (Heap.lt_size e) (I.ok.cab x c hfn hc)))).trans (I.base.keep b o e n hb hx)
    · obtain ⟨sl, e1⟩ := I.base.slot b o e n hb hx
      exact ⟨sl, (hs.2 b (Nat.ne_of_lt (Nat.lt_of_lt_of_le (Heap.lt_size e) (I.ok.cab x c hfn hc)))).trans e1⟩
    · obtain ⟨o', e1⟩ := I.base.there b o e hx
      exact ⟨o', (hs.2 b (Nat.ne_of_lt (Nat.lt_of_lt_of_le (Heap.lt_size e) (I.ok.cab x c hfn hc)))).trans e1⟩
    · by_cases hj : j = i
      · subst hj
        rw [hi] at e1; cases e1
        rw [List.getElem?_set_self hiσ] at e2
        cases e2
        exact ⟨u, r, .inr ⟨.inl hk, c, hc, hc'⟩⟩
      · rw [List.getElem?_set_ne (Ne.symm hj)] at e2
        obtain ⟨u', r', q⟩ := hl j y v' e1 e2 e3
        refine ⟨u', r', ?_⟩
        rcases q with q | ⟨k, c', e, z'⟩
        · exact .inl q
        · refine .inr ⟨k, c', e, z'.sameBut hs ?_⟩
          rintro rfl
          exact hj (nodup_ix hN e1 (I.ok.inj _ _ _ e hc ▸ hi))
    · by_cases hcc : c' = c
      · subst hcc; exact ⟨_, hc'⟩
      · obtain ⟨w2, z2⟩ := I.cell y c' e
        exact ⟨w2, z2.sameBut hs hcc⟩
    · obtain ⟨e, n, ne, nf, d⟩ := I.pin p hp
      refine ⟨(hs.2 p.1 ?_).trans e, n, ne, nf, d⟩
      intro q
      rw [q, hoc] at e
      have q' : oc = p.2 := Option.some.inj e
      exact d w' (by rw [← q']; exact hocd)
theorem store_ok {M : Model} {A : Around} {E : Value → Shared → Prop} {i : Nat} {x : Str} {v : V} {u : Value} {Q : Unit → Shared → Prop} (I : Inv X pins σ H s) (hN : X.N.Nodup) (hi : X.N[i]? = some x) (hx : Loc X.env.scope x) (r : RelV v u)
    (h : ∀ s', Inv X pins (σ.set i (some v)) H s' → Q () s') (hf : X.fn x = true ∨ X.env.scope.names.lookup x = some .local := by first | exact .inl rfl | exact .inr rfl | assumption) : wpAny M A (storeName X.env x u) Q E s :=
  store_ok2 I hN hi hx r (fun s' I' _ => h s' I') hf
/-- behind a call or a block, the state as it is -/
theorem Inv.call' {s' : Shared} {ch : List Addr} (I : Inv X pins σ H s) (ho : s'.os = s.os) (u : Un (frs X.stack) ch H H' s.heap s'.heap) (hok : HOk X.prog X.w H' s'.heap) (hg : AllBare s'.gens)
    (hch : ∀ b ∈ ch, (b ∈ X.ex ∨ X.s_0.heap.objs.size ≤ b) ∧ b ≠ X.env.locals ∧ (∀ x c, X.env.cells.lookup x = some c → c ≠ b) ∧ ∀ p ∈ X.pn ++ pins, p.1 ≠ b) : Inv X pins σ H' s' := by
  obtain ⟨h', g', d', t', o'⟩ := s'
  have e : o' = s.os := ho
  subst e
  exact I.call (g' := g') (t' := t') (d' := d') u hok hg hch
end

/-! ### the judgements -/
/-- an exception: its class, its own dict's address (where it has one), the abstract heap behind it -/
abbrev XK := Value → Option Addr → Hp → Prop
abbrev St := List (Option V)
abbrev VK := V → Hp → Prop
/-- an expression's reading; a test's; an argument list's -/
abbrev TE := St → Hp → VK → Prop
abbrev TT := St → Hp → (Bool → Hp → Prop) → Prop
abbrev TA := St → Hp → (List V → Hp → Prop) → Prop
/-- what is wanted behind a statement -/
structure Ends where
  nx : St → Hp → Prop
  rt : VK
  bk : St → Hp → Prop := fun _ _ => False
  ct : St → Hp → Prop := fun _ _ => False
abbrev TS := Ends → St → Hp → Prop

def EP (X : Cx) (pins : List (Addr × Obj)) (σ : St) (Q : VK) (u : Value) (s' : Shared) : Prop := ∃ v H', Inv X pins σ H' s' ∧ RelV v u ∧ Q v H'
def TP (X : Cx) (pins : List (Addr × Obj)) (σ : St) (Q : Bool → Hp → Prop) (b : Bool) (s' : Shared) : Prop := ∃ H', Inv X pins σ H' s' ∧ Q b H'
def AP (X : Cx) (pins : List (Addr × Obj)) (σ : St) (Q : List V → Hp → Prop) (us : List Value) (s' : Shared) : Prop := ∃ vs H', Inv X pins σ H' s' ∧ Vals vs us ∧ Q vs H'
def SP (X : Cx) (pins : List (Addr × Obj)) (D : Ends) (f : Flow) (s' : Shared) : Prop :=
  match f with
  | .next => ∃ σ' H', Inv X pins σ' H' s' ∧ D.nx σ' H'
  | .brk => ∃ σ' H', Inv X pins σ' H' s' ∧ D.bk σ' H'
  | .cont => ∃ σ' H', Inv X pins σ' H' s' ∧ D.ct σ' H'
  | .ret u => ∃ v σ' H', Inv X pins σ' H' s' ∧ RelV v u ∧ D.rt v H'

def PE (X : Cx) (e : Expr) (t : TE) : Prop :=
  ∀ (pins : List (Addr × Obj)) (s : Shared) (σ : St) (H : Hp) (Q : VK), Inv X pins σ H s → t σ H Q → wpAny (model X.prog X.w) X.A (eval e X.env) (EP X pins σ Q) X.xe s
def PT (X : Cx) (e : Expr) (t : TT) : Prop :=
  ∀ (pins : List (Addr × Obj)) (s : Shared) (σ : St) (H : Hp) (Q : Bool → Hp → Prop), Inv X pins σ H s → t σ H Q → wpAny (model X.prog X.w) X.A (isTrue e X.env (eval e X.env)) (TP X pins σ Q) X.xe s
/-- a test whatever its 'whole' is (and, or) -/
def PW (X : Cx) (e : Expr) (t : TT) : Prop :=
  ∀ (whole : Sem Value) (pins : List (Addr × Obj)) (s : Shared) (σ : St) (H : Hp) (Q : Bool → Hp → Prop), Inv X pins σ H s → t σ H Q → wpAny (model X.prog X.w) X.A (isTrue e X.env whole) (TP X pins σ Q) X.xe s
theorem PW.pt {X : Cx} {e : Expr} {t : TT} (h : PW X e t) : PT X e t := h _
/-- an argument list (no star), from the left -/
def PA (X : Cx) (es : List Expr) (t : TA) : Prop :=
  ∀ (pos : Pos) (pins : List (Addr × Obj)) (s : Shared) (σ : St) (H : Hp) (Q : List V → Hp → Prop), Inv X pins σ H s → t σ H Q → wpAny (model X.prog X.w) X.A (spliced (backTo pos (starEach es X.env))) (AP X pins σ Q) X.xe s
def PS (X : Cx) (st : Stmt) (t : TS) : Prop :=
  ∀ (pins : List (Addr × Obj)) (s : Shared) (σ : St) (H : Hp) (D : Ends), Inv X pins σ H s → t D σ H → wpAny (model X.prog X.w) X.A (exec st X.env) (SP X pins D) X.xe s
def PSs (X : Cx) (st : List Stmt) (t : TS) : Prop :=
  ∀ (pins : List (Addr × Obj)) (s : Shared) (σ : St) (H : Hp) (D : Ends), Inv X pins σ H s → t D σ H → wpAny (model X.prog X.w) X.A (execs st X.env) (SP X pins D) X.xe s
/-- weaken the end -/
theorem thn {α : Type} {t : Sem α} {Q Q' : α → Shared → Prop} {M : Model} {A : Around} {E : Value → Shared → Prop} {s : Shared} (h : wpAny M A t Q E s) (hQ : ∀ a s, Q a s → Q' a s) : wpAny M A t Q' E s := wpAny_mono h hQ fun _ _ x => x
end L2

namespace L2
open PySem PySem.Spec PyProof.Rows
section
variable {X : Cx}

/-- two expressions in a row -/
theorem bin {a b : Expr} {ta tb : TE} (ha : PE X a ta) (hb : PE X b tb) {pins : List (Addr × Obj)} {s : Shared} {σ : St} {H : Hp} {R : V → V → Hp → Prop} (I : Inv X pins σ H s) (h : ta σ H fun x H1 => tb σ H1 fun y H2 => R x y H2)
    {α : Type} {Q : α → Shared → Prop} {f : Value → Value → Sem α}
    (hf : ∀ v u s2 x y H2, Inv X pins σ H2 s2 → RelV x v → RelV y u → R x y H2 → wpAny (model X.prog X.w) X.A (f v u) Q X.xe s2) :
    wpAny (model X.prog X.w) X.A (eval a X.env) (fun v s₁ => wpAny (model X.prog X.w) X.A (eval b X.env) (fun u s₂ => wpAny (model X.prog X.w) X.A (f v u) Q X.xe s₂) X.xe s₁) X.xe s := by
  refine thn (ha pins s σ H _ I h) fun v s1 ⟨x, H1, I1, r1, q1⟩ => ?_
  refine thn (hb pins s1 σ H1 _ I1 q1) fun u s2 ⟨y, H2, I2, r2, q2⟩ => ?_
  exact hf v u s2 x y H2 I2 r1 r2 q2

/-! ### names and constants -/
def tVar (i : Nat) : TE := fun σ H Q => ∃ v, σ[i]? = some (some v) ∧ Q v H
def tC (v : V) : TE := fun _ H Q => Q v H
theorem pe_var {i : Nat} {x : Str} {pos : Pos} (hN : X.N[i]? = some x) (hv : Vis X.env.scope x) (hd : (x == ("__debug__" : Str)) = false := by decide) (hcd : (x == ("__classdict__" : Str)) = false := by decide) : PE X (.Name x pos) (tVar i) := by
  intro pins s σ H Q I h
  obtain ⟨v, e, h⟩ := h
  obtain ⟨m, hn, hl⟩ := I.loc
  obtain ⟨u, r, l⟩ := hl i x v hN e hv
  have fin : EP X pins σ Q u s := ⟨v, H, I, r, h⟩
  rcases l with ⟨hk, hm⟩ | ⟨hk, c, hc, hcell⟩
  · exact wpAny_Name (wpAny_loadName_local I.ok.kind hk hn hm fin) hd
  · rcases hk with hk | hk
    · exact wpAny_Name (wpAny_loadName_cell I.ok.kind hk hc hcell fin) hd
    · exact wpAny_Name (wpAny_loadName_free I.ok.kind hk hc hcell fin hcd) hd
theorem pe_int {i j pos} : PE X (.Constant (.int i) j pos) (tC (.int i)) := fun _ _ _ H _ I h => wpAny_Constant_int ⟨.int i, H, I.tok _, ⟨_, rfl⟩, h⟩
theorem pe_bl {b j pos} : PE X (.Constant (.bool b) j pos) (tC (.bl b)) := fun _ _ _ H _ I h => Constant_bool ⟨.bl b, H, I, rfl, h⟩
/-- a global name of the def -/
def Gl (X : Cx) (x : Str) : Prop := X.env.kindOf x = some .globalImplicit
theorem ld_glob {E : Value → Shared → Prop} {pins : List (Addr × Obj)} {s : Shared} {σ : St} {H : Hp} {x : Str} {u : Value} {pos : Pos} {Q : Value → Shared → Prop} (I : Inv X pins σ H s) (hg : Gl X x) (hm : X.mg x = some u) (h : Q u s)
    (hd : (x == ("__debug__" : Str)) = false := by decide) : wpAny (model X.prog X.w) X.A (eval (.Name x pos) X.env) Q E s :=
  Calls.Name_function_global I.ok.kind hg (Calls.loadGlobal_global (by rw [I.ok.glob]; exact I.mod.glob.keeps I.bk) hm h) hd
theorem ld_blt {E : Value → Shared → Prop} {pins : List (Addr × Obj)} {s : Shared} {σ : St} {H : Hp} {x : Str} {u : Value} {pos : Pos} {Q : Value → Shared → Prop} (I : Inv X pins σ H s) (hg : Gl X x) (hm : X.mg x = none) (hv : bootBuiltins x = some u) (h : Q u s)
    (hn : x ≠ "__name__" := by decide) (hd : (x == ("__debug__" : Str)) = false := by decide) : wpAny (model X.prog X.w) X.A (eval (.Name x pos) X.env) Q E s := by
  obtain ⟨mb, h1, h2⟩ := I.mod.blt
  exact Calls.Name_function_global I.ok.kind hg (Calls.loadGlobal_builtin (by rw [I.ok.glob]; exact I.mod.glob.keeps I.bk) hm (by rw [I.ok.blt]; exact h1.keeps I.bk) ((h2 x hn).trans hv) h) hd
/-- a module's constant, a class, a function, as a value -/
theorem pe_glob {x : Str} {v : V} {u : Value} {pos : Pos} (hg : Gl X x) (hm : X.mg x = some u) (r : RelV v u) (hd : (x == ("__debug__" : Str)) = false := by decide) : PE X (.Name x pos) (tC v) :=
  fun _ _ _ H _ I h => ld_glob I hg hm ⟨v, H, I, r, h⟩ hd
/-! ### arithmetic -/
variable {a b : Expr} {ta tb : TE} {pos : Pos}
/-! ### comparisons -/
def PC (X : Cx) (op : CmpOp) (a b : Expr) (t : TE) : Prop :=
  ∀ (pins : List (Addr × Obj)) (s : Shared) (σ : St) (H : Hp) (Q : VK), Inv X pins σ H s → t σ H Q →
    wpAny (model X.prog X.w) X.A (eval a X.env) (fun v s₁ => wpAny (model X.prog X.w) X.A (eval b X.env) (fun u s₂ => wpAny (model X.prog X.w) X.A (compareOp op v u) (EP X pins σ Q) X.xe s₂) X.xe s₁) X.xe s
theorem nobehind (b : Expr) {op : CmpOp} (h : op ≠ .In) (h2 : op ≠ .NotIn) : behindInMarks op b = false := by
  have e1 : (op == CmpOp.In) = false := by cases op <;> first | rfl | exact absurd rfl h
  have e2 : (op == CmpOp.NotIn) = false := by cases op <;> first | rfl | exact absurd rfl h2
  cases b <;> simp [behindInMarks, e1, e2]
/-- a comparison as a value, as a test -/
def tB (t : TE) : TT := fun σ H Q => t σ H fun x H1 => ∃ c, x = .bl c ∧ Q c H1
theorem pt_cmp {op : CmpOp} {t : TE} (h : PC X op a b t) (h1 : behindInMarks op b = false := by first | exact nobehind _ (by decide) (by decide) | rfl) : PT X (.Compare a [op] [b] pos) (tB t) := by
  intro pins s σ H Q I hw
  refine wpAny_isTrue_Compare1 (thn (h pins s σ H _ I hw) fun v s1 h1 => thn h1 fun u s2 h2 => thn h2 fun c s3 ⟨x, H1, I1, r1, q1⟩ => ?_) h1
  obtain ⟨d, rfl, q⟩ := q1
  cases r1
  exact wpAny_truthy_bool ⟨H1, I1, q⟩
/-- an expression whose value is a bool, as a test -/
theorem pt_val {e : Expr} {t : TE} (h : PE X e t) (he : ∀ whole, isTrue e X.env whole = (do let v ← whole; standAt e.pos; holding [v] (truthy v)) := by intro _; rfl) : PT X e (tB t) := by
  intro pins s σ H Q I hw
  refine isTrue_plain (thn (h pins s σ H _ I hw) fun v s1 ⟨x, H1, I1, r1, q1⟩ => ?_) (he _)
  obtain ⟨d, rfl, q⟩ := q1
  cases r1
  exact wpAny_truthy_bool ⟨H1, I1, q⟩

/-! ### and, or, not -/
variable {tA tB' : TT} {rest : List Expr}
def tAnd (t u : TT) : TT := fun σ H Q => t σ H fun c H1 => if c = true then u σ H1 Q else Q false H1
def tOr (t u : TT) : TT := fun σ H Q => t σ H fun c H1 => if c = true then Q true H1 else u σ H1 Q
def tNot (t : TT) : TT := fun σ H Q => t σ H fun c H1 => Q (!c) H1
theorem pw_and1 (ha : PT X a tA) : PW X (.BoolOp .And [a] pos) tA := by
  intro wh pins s σ H Q I h
  refine isTrue_and (thn (ha pins s σ H Q I h) fun c s1 e => ?_)
  cases c with
  | true => exact isTrue_and_nil e
  | false => exact e
theorem pw_or1 (ha : PT X a tA) : PW X (.BoolOp .Or [a] pos) tA := by
  intro wh pins s σ H Q I h
  refine isTrue_or (thn (ha pins s σ H Q I h) fun c s1 e => ?_)
  cases c with
  | false => exact isTrue_or_nil e
  | true => exact e
theorem pw_and (ha : PT X a tA) (hb : PW X (.BoolOp .And (b :: rest) pos) tB') : PW X (.BoolOp .And (a :: b :: rest) pos) (tAnd tA tB') := by
  intro wh pins s σ H Q I h
  refine isTrue_and (thn (ha pins s σ H _ I h) fun c s1 ⟨H1, I1, q1⟩ => ?_)
  cases c with
  | true => exact hb wh pins s1 σ H1 Q I1 q1
  | false => exact ⟨H1, I1, q1⟩
theorem pw_or (ha : PT X a tA) (hb : PW X (.BoolOp .Or (b :: rest) pos) tB') : PW X (.BoolOp .Or (a :: b :: rest) pos) (tOr tA tB') := by
  intro wh pins s σ H Q I h
  refine isTrue_or (thn (ha pins s σ H _ I h) fun c s1 ⟨H1, I1, q1⟩ => ?_)
  cases c with
  | true => exact ⟨H1, I1, q1⟩
  | false => exact hb wh pins s1 σ H1 Q I1 q1
theorem pt_not (ha : PT X a tA) : PT X (.UnaryOp .Not a pos) (tNot tA) := by
  intro pins s σ H Q I h
  exact isTrue_not (ha pins s σ H (fun c H1 => Q (!c) H1) I h)
/-- .. as values (bools) -/
def tAndV (ta tb : TE) : TE := fun σ H Q => ta σ H fun x H1 => ∃ c, x = .bl c ∧ if c = true then tb σ H1 Q else Q (.bl false) H1
theorem pe_one {op} {t : TE} (h : PE X a t) : PE X (.BoolOp op [a] pos) t := fun pins s σ H Q I hw => BoolOp_one (h pins s σ H Q I hw)
theorem pe_and (ha : PE X a ta) (hb : PE X (.BoolOp .And (b :: rest) pos) tb) : PE X (.BoolOp .And (a :: b :: rest) pos) (tAndV ta tb) := by
  intro pins s σ H Q I h
  refine BoolOp_and (thn (ha pins s σ H _ I h) fun v s1 ⟨x, H1, I1, r1, q1⟩ => ?_)
  obtain ⟨c, rfl, q1⟩ := q1
  cases r1
  refine wpAny_truthy_bool ?_
  cases c with
  | true => exact hb pins s1 σ H1 Q I1 q1
  | false => exact ⟨.bl false, H1, I1, rfl, q1⟩
end
end L2

namespace L2
open PySem PySem.Spec PyProof.Rows

/-! ### a list, a tuple that is read: tracked, frozen, or an object of the module -/
def SqL (K : PySem.W.Frag) (H : Hp) (a : Addr) (xs : List V) : Prop :=
  Rd H a (.lst xs) ∨
    ∃ (o : Obj) (its : Array Value) (n : Nat), K.lookup a = some o ∧ o.cls = .type "list" ∧ o.dict = none ∧ o.data = .seq its n ∧ its.size ≤ sizeLine ∧ Vals xs its.toList
def SqT (K : PySem.W.Frag) (H : Hp) (a : Addr) (xs : List V) : Prop :=
  Rd H a (.tup xs) ∨
    ∃ (o : Obj) (its : Array Value) (n : Nat), K.lookup a = some o ∧ o.cls = .type "tuple" ∧ o.data = .seq its n ∧ its.size ≤ sizeLine ∧ Vals xs its.toList
def absV : Value → Option V
  | .none => some .non
  | .bool b => some (.bl b)
  | .int i _ => some (.int i)
  | .str x _ => some (.str x)
  | .bytes b _ => some (.byt b)
  | .float b _ => some (.flt b)
  | .ref a => some (.ref a)
  | .type n => some (.ty n)
  | _ => none
theorem RelV.abs {x : V} {u : Value} (r : RelV x u) : absV u = some x := by
  cases x with
  | non => cases r; rfl
  | bl _ => cases r; rfl
  | int _ => obtain ⟨t, rfl⟩ := r; rfl
  | str _ => obtain ⟨t, rfl⟩ := r; rfl
  | byt _ => obtain ⟨t, rfl⟩ := r; rfl
  | flt _ => obtain ⟨t, rfl⟩ := r; rfl
  | ref _ => cases r; rfl
  | ty _ => cases r; rfl
theorem RelV.inj {x y : V} {u : Value} (r : RelV x u) (q : RelV y u) : x = y := Option.some.inj (r.abs.symm.trans q.abs)
theorem Vals.inj : ∀ {xs ys : List V} {us : List Value}, Vals xs us → Vals ys us → xs = ys
  | _, _, _, .nil, .nil => rfl
  | _, _, _, .cons r t, .cons r' t' => by rw [r.inj r', Vals.inj t t']
section
variable {X : Cx} {pins : List (Addr × Obj)} {σ : St} {H : Hp} {s : Shared} {a : Addr} {xs ys : List V}
theorem SqL.of {K : PySem.W.Frag} (h : H a = some (.lst xs)) : SqL K H a xs := .inl (.inl h)
theorem SqT.of {K : PySem.W.Frag} (h : H a = some (.tup xs)) : SqT K H a xs := .inl (.inl h)
theorem Inv.list (I : Inv X pins σ H s) (h : SqL X.K H a xs) : ∃ its : List Value, Vals xs its ∧ PlainL s.heap a its.toArray ∧ xs.length ≤ sizeLine := by
  rcases h with h | ⟨o, its, n, hk, hc, hd, hs, hz, r⟩
  · obtain ⟨z, its, n, r, e⟩ := h.ok I.hok
    exact ⟨its, r, ⟨_, n, e, rfl, rfl, rfl⟩, z⟩
  · refine ⟨its.toList, r, ⟨o, n, I.kIn a o hk, hc, hd, by simpa using hs⟩, ?_⟩
    have e := r.length
    simp only [Array.length_toList] at e
    omega
theorem Inv.tuple (I : Inv X pins σ H s) (h : SqT X.K H a xs) : ∃ its : List Value, Vals xs its ∧ IsTup s.heap a its.toArray ∧ xs.length ≤ sizeLine := by
  rcases h with h | ⟨o, its, n, hk, hc, hs, hz, r⟩
  · obtain ⟨z, its, r, p⟩ := h.ok I.hok
    exact ⟨its, r, p, z⟩
  · refine ⟨its.toList, r, ⟨o, I.kIn a o hk, hc, n, by simpa using hs⟩, ?_⟩
    have e := r.length
    simp only [Array.length_toList] at e
    omega
theorem Inv.list_inj (I : Inv X pins σ H s) (h : SqL X.K H a xs) (h' : SqL X.K H a ys) : xs = ys := by
  obtain ⟨its, r, ⟨o, n, e, _, _, d⟩, _⟩ := I.list h
  obtain ⟨its', r', ⟨o', n', e', _, _, d'⟩, _⟩ := I.list h'
  rw [e] at e'; cases e'
  rw [d] at d'
  injection d' with d1 _
  have : its = its' := by simpa using congrArg Array.toList d1
  subst this
  exact r.inj r'
end

/-! ### another wish about exceptions -/
abbrev Cx.wish (X : Cx) (E : Value → Shared → Prop) : Cx := { X with xe := E }
/-- no exception leaves -/
abbrev Cx.nox (X : Cx) : Cx := X.wish fun _ _ => False
theorem Cx.Ok.wish {X : Cx} (ok : X.Ok) (E : Value → Shared → Prop) : (X.wish E).Ok :=
  ⟨ok.mod, ok.kind, ok.glob, ok.blt, ok.above, ok.inj, ok.has, ok.cab, ok.hd, ok.frames, ok.stk, ok.exf, ok.bs, ok.bsz, ok.noex, ok.exfs, ok.funs, ok.frf⟩
theorem Cx.Ok.unwish {X : Cx} {E : Value → Shared → Prop} (ok : (X.wish E).Ok) : X.Ok :=
  ⟨ok.mod, ok.kind, ok.glob, ok.blt, ok.above, ok.inj, ok.has, ok.cab, ok.hd, ok.frames, ok.stk, ok.exf, ok.bs, ok.bsz, ok.noex, ok.exfs, ok.funs, ok.frf⟩
section
variable {X : Cx} {pins : List (Addr × Obj)} {σ : St} {H : Hp} {s : Shared} {E : Value → Shared → Prop}
theorem Inv.wish (I : Inv X pins σ H s) (E : Value → Shared → Prop) : Inv (X.wish E) pins σ H s := ⟨I.ok.wish E, I.os, I.bare, I.base, I.loc, I.cell, I.free, I.freeC, I.pin, I.hok, I.len⟩
theorem Inv.unwish (I : Inv (X.wish E) pins σ H s) : Inv X pins σ H s := ⟨I.ok.unwish, I.os, I.bare, I.base, I.loc, I.cell, I.free, I.freeC, I.pin, I.hok, I.len⟩
theorem SP.unwish {D : Ends} {f : Flow} {s' : Shared} (h : SP (X.wish E) pins D f s') : SP X pins D f s' := by
  cases f with
  | next => obtain ⟨σ', H', I, q⟩ := h; exact ⟨σ', H', I.unwish, q⟩
  | brk => obtain ⟨σ', H', I, q⟩ := h; exact ⟨σ', H', I.unwish, q⟩
  | cont => obtain ⟨σ', H', I, q⟩ := h; exact ⟨σ', H', I.unwish, q⟩
  | ret u => obtain ⟨v, σ', H', I, r, q⟩ := h; exact ⟨v, σ', H', I.unwish, r, q⟩
theorem PE.nox {e : Expr} {t : TE} (h : PE X.nox e t) : PE X e t := fun pins s σ H Q I hw =>
  wpAny_mono (h pins s σ H Q (I.wish _) hw) (fun _ _ ⟨v, H', I', r, q⟩ => ⟨v, H', I'.unwish, r, q⟩) fun _ _ z => False.elim z
theorem PT.nox {e : Expr} {t : TT} (h : PT X.nox e t) : PT X e t := fun pins s σ H Q I hw =>
  wpAny_mono (h pins s σ H Q (I.wish _) hw) (fun _ _ ⟨H', I', q⟩ => ⟨H', I'.unwish, q⟩) fun _ _ z => False.elim z
theorem PSs.nox {st : List Stmt} {t : TS} (h : PSs X.nox st t) : PSs X st t := fun pins s σ H D I hw =>
  wpAny_mono (h pins s σ H D (I.wish _) hw) (fun _ _ q => q.unwish) fun _ _ z => False.elim z
end

/-! ### blocks and small statements -/
section
variable {X : Cx} {st : Stmt} {rest : List Stmt} {t u : TS} {e : Expr} {te : TE} {pos : Pos}
def tNext : TS := fun D σ H => D.nx σ H
def tSeq (t u : TS) : TS := fun D σ H => t { D with nx := u D } σ H
theorem pss_nil : PSs X [] tNext := fun _ _ σ H _ I h => wpAny_execs_nil ⟨σ, H, I, h⟩
theorem pss_cons (h1 : PS X st t) (h2 : PSs X rest u) : PSs X (st :: rest) (tSeq t u) := by
  intro pins s σ H D I h
  refine wpAny_execs_cons (thn (h1 pins s σ H { D with nx := u D } I h) fun f s1 q => ?_)
  cases f with
  | next =>
    obtain ⟨σ', H', I', q⟩ := q
    exact h2 pins s1 σ' H' D I' q
  | ret v => exact q
  | brk => exact q
  | cont => exact q
theorem pss_one (h1 : PS X st t) : PSs X [st] t := by
  intro pins s σ H D I h
  refine wpAny_execs_cons (thn (h1 pins s σ H D I h) fun f s1 q => ?_)
  cases f with
  | next => exact wpAny_execs_nil q
  | ret v => exact q
  | brk => exact q
  | cont => exact q
/-- in a def's body nothing is shown -/
theorem Inv.quiet {pins : List (Addr × Obj)} {σ : St} {H : Hp} {s : Shared} (I : Inv X pins σ H s) : interactive X.env = false := by simp [interactive, I.ok.kind]
/-- an expression whose value is dropped -/
def tDrop (te : TE) : TS := fun D σ H => te σ H fun _ H1 => D.nx σ H1
theorem ps_expr (he : PE X e te) (hs : swapsWith e none pos.line X.env = pure false := by rfl) : PS X (.Expr e pos) (tDrop te) := by
  intro pins s σ H D I h
  exact wpAny_Expr_any (thn (he pins s σ H _ I h) fun v s1 ⟨x, H1, I1, r1, q1⟩ => ⟨σ, H1, I1, q1⟩) I.quiet hs
def tRet (te : TE) : TS := fun D σ H => te σ H D.rt
theorem ps_ret (he : PE X e te) : PS X (.Return (some e) pos) (tRet te) := by
  intro pins s σ H D I h
  exact wpAny_Return_some (thn (he pins s σ H _ I h) fun v s1 ⟨x, H1, I1, r1, q1⟩ => ⟨x, σ, H1, I1, r1, q1⟩)
def tIfS (c : TT) (t u : TS) : TS := fun D σ H => c σ H fun b H1 => if b = true then t D σ H1 else u D σ H1
theorem ps_if {c : Expr} {a b : List Stmt} {tc : TT} (hc : PT X c tc) (ha : PSs X a t) (hb : PSs X b u) : PS X (.If c a b pos) (tIfS tc t u) := by
  intro pins s σ H D I h
  refine wpAny_If (thn (hc pins s σ H _ I h) fun d s1 ⟨H1, I1, q1⟩ => ?_)
  cases d with
  | true => exact ha pins s1 σ H1 D I1 q1
  | false => exact hb pins s1 σ H1 D I1 q1
/-- code that the proof never comes to -/
def tNever : TS := fun _ _ _ => False
theorem ps_never : PS X st tNever := fun _ _ _ _ _ _ h => h.elim
end

/-! ### targets -/
abbrev TG := V → St → Hp → (St → Hp → Prop) → Prop
abbrev TGs := List V → St → Hp → (St → Hp → Prop) → Prop
def PG (X : Cx) (target : Expr) (t : TG) : Prop :=
  ∀ (pins : List (Addr × Obj)) (s : Shared) (σ : St) (H : Hp) (v : V) (u : Value) (Q : St → Hp → Prop), Inv X pins σ H s → RelV v u → t v σ H Q →
    wpAny (model X.prog X.w) X.A (assign target X.env u) (fun _ s' => ∃ σ' H', Inv X pins σ' H' s' ∧ Q σ' H') X.xe s
/-- several targets, one after another -/
def PGs (X : Cx) (ts : List Expr) (t : TGs) : Prop :=
  ∀ (pins : List (Addr × Obj)) (s : Shared) (σ : St) (H : Hp) (vs : List V) (us : List Value) (Q : St → Hp → Prop), Inv X pins σ H s → Vals vs us → t vs σ H Q →
    wpAny (model X.prog X.w) X.A (assignInOrder ((assignEach ts X.env).map (·.2)) us) (fun _ s' => ∃ σ' H', Inv X pins σ' H' s' ∧ Q σ' H') X.xe s
/-- o[i] = v, by values -/
abbrev TSet := V → V → V → Hp → (Hp → Prop) → Prop
def PSet (X : Cx) (t : TSet) : Prop :=
  ∀ (pins : List (Addr × Obj)) (s : Shared) (σ : St) (H : Hp) (o i v : V) (ov iv u : Value) (Q : Hp → Prop), Inv X pins σ H s → RelV o ov → RelV i iv → RelV v u → t o i v H Q →
    wpAny (model X.prog X.w) X.A (setItem ov iv u) (fun _ s' => ∃ H', Inv X pins σ H' s' ∧ Q H') X.xe s
/-- a op= b, by values -/
abbrev TIp := V → V → Hp → VK → Prop
def PIp (X : Cx) (op : Operator) (t : TIp) : Prop :=
  ∀ (pins : List (Addr × Obj)) (s : Shared) (σ : St) (H : Hp) (x y : V) (v u : Value) (Q : VK), Inv X pins σ H s → RelV x v → RelV y u → t x y H Q →
    wpAny (model X.prog X.w) X.A (inplaceOp op v u) (EP X pins σ Q) X.xe s
section
variable {X : Cx} {pos : Pos}
def gName (i : Nat) : TG := fun v σ H Q => Q (σ.set i (some v)) H
theorem pg_name {i : Nat} {x : Str} (hN : X.N.Nodup) (hi : X.N[i]? = some x) (hx : Loc X.env.scope x) (hf : X.fn x = true ∨ X.env.scope.names.lookup x = some .local := by first | exact .inl rfl | exact .inr rfl | assumption) : PG X (.Name x pos) (gName i) := by
  intro pins s σ H v u Q I r h
  exact wpAny_assign_Name (store_ok I hN hi hx r (fun s' I' => ⟨_, H, I', h⟩) hf)
def gNil : TGs := fun vs σ H Q => vs = [] ∧ Q σ H
def gCons (t : TG) (u : TGs) : TGs := fun vs σ H Q => ∃ v r, vs = v :: r ∧ t v σ H fun σ' H' => u r σ' H' Q
theorem pgs_nil : PGs X [] gNil := by
  intro pins s σ H vs us Q I r h
  obtain ⟨e, h⟩ := h
  subst e
  cases r
  exact assignInOrder_nil ⟨σ, H, I, h⟩
theorem pgs_cons {e : Expr} {es : List Expr} {t : TG} {u : TGs} (h1 : PG X e t) (h2 : PGs X es u)
    (hs : (assignEach (e :: es) X.env).map (·.2) = assign e X.env :: (assignEach es X.env).map (·.2) := by rfl) : PGs X (e :: es) (gCons t u) := by
  intro pins s σ H vs us Q I r h
  obtain ⟨v, vr, e1, h⟩ := h
  subst e1
  cases r with
  | cons r rr =>
    rw [hs]
    refine assignInOrder_cons (thn (h1 pins s σ H _ _ _ I r h) fun _ s1 ⟨σ1, H1, I1, q1⟩ => ?_)
    exact h2 pins s1 σ1 H1 _ _ Q I1 rr q1
/-- (a, b, ..) = a tuple of that length -/
def gTup (K : PySem.W.Frag) (n : Nat) (t : TGs) : TG := fun v σ H Q => ∃ a xs, v = .ref a ∧ SqT K H a xs ∧ xs.length = n ∧ t xs σ H Q
theorem pg_tup {es : List Expr} {k : Nat} {t : TGs} {n : Nat} (hc : X.calm = true) (h : PGs X es t)
    (hn : (assignEach es X.env).length = n := by rfl) (hst : (assignEach es X.env).findIdx? (·.1) = none := by rfl) : PG X (.Tuple es k pos) (gTup X.K n t) := by
  intro pins s σ H v u Q I r hw
  obtain ⟨a, xs, e1, hq, hl, hw⟩ := hw
  subst e1
  cases r
  obtain ⟨its, rv, ht, hz⟩ := I.tuple hq
  refine assign_Tuple_tuple (I.ok.hd hc) ht (by simp [hn, ← hl, rv.length]) hst fun h' hx => ?_
  have I1 : Inv X pins σ H { s with heap := h' } := I.kept (t' := s.toks) fun b o e => hx b o (Nat.ne_of_lt (Heap.lt_size e)) e
  exact h pins _ σ H xs _ Q I1 (by simpa using rv) hw
/-- o[i] = .. -/
def gSub (to ti : TE) (t : TSet) : TG := fun v σ H Q => to σ H fun o H1 => ti σ H1 fun i H2 => t o i v H2 fun H3 => Q σ H3
theorem pg_sub {o i : Expr} {to ti : TE} {t : TSet} (ho : PE X o to) (hi : PE X i ti) (hs : PSet X t)
    (ha : ∀ v, assign (.Subscript o i pos) X.env v = (do
      let ov ← holding [v] (eval o X.env)
      let iv ← holding [v, ov] (eval i X.env)
      standAt pos
      holding [v, ov, iv] (setItem ov iv v)
      release [v, ov, iv] []) := by intro _; rfl) : PG X (.Subscript o i pos) (gSub to ti t) := by
  intro pins s σ H v u Q I r h
  rw [ha]
  refine wpAny_bind (wpAny_holding (thn (ho pins s σ H _ I h) fun ov s1 ⟨x, H1, I1, r1, q1⟩ => ?_))
  refine wpAny_bind (wpAny_holding (thn (hi pins s1 σ H1 _ I1 q1) fun iv s2 ⟨y, H2, I2, r2, q2⟩ => ?_))
  refine wpAny_bind (wpAny_standAt (wpAny_bind (wpAny_holding (thn (hs pins s2 σ H2 x y v ov iv u _ I2 r1 r2 r q2) fun _ s3 ⟨H3, I3, q3⟩ => ?_))))
  exact wpAny_release ⟨σ, H3, I3, q3⟩
/-- target = value -/
def tAsg (te : TE) (g : TG) : TS := fun D σ H => te σ H fun x H1 => g x σ H1 D.nx
theorem ps_asg {tg e : Expr} {te : TE} {g : TG} (he : PE X e te) (hg : PG X tg g) (hs : swapsWithSole [tg] e pos.line X.env = pure false := by rfl) (hw : swappedStores [tg] e X.env = pure none := by rfl)
    (h1 : (assignEach [tg] X.env).map (·.2) = [assign tg X.env] := by rfl) : PS X (.Assign [tg] e pos) (tAsg te g) := by
  intro pins s σ H D I h
  refine wpAny_Assign_stores (thn (he pins s σ H _ I h) fun v s1 ⟨x, H1, I1, r1, q1⟩ => ?_) hs hw
  rw [h1]
  exact thn (hg pins s1 σ H1 x v _ I1 r1 q1) fun _ s2 q => q
/-- name = value -/
theorem ps_set {i : Nat} {x : Str} {e : Expr} {te : TE} {pos' : Pos} (hN : X.N.Nodup) (hi : X.N[i]? = some x) (hx : Loc X.env.scope x) (he : PE X e te) (hs : swapsWith e (some (.Name x pos')) pos.line X.env = pure false := by rfl) (hf : X.fn x = true ∨ X.env.scope.names.lookup x = some .local := by first | exact .inl rfl | exact .inr rfl | assumption) :
    PS X (.Assign [.Name x pos'] e pos) (tAsg te (gName i)) := by
  intro pins s σ H D I h
  refine wpAny_Assign_Name (thn (he pins s σ H _ I h) fun v s1 ⟨y, H1, I1, r1, q1⟩ => ?_) hs
  exact store_ok I1 hN hi hx r1 (fun s2 I2 => ⟨_, H1, I2, q1⟩) hf
/-- name op= e -/
def tAug (i : Nat) (te : TE) (ti : TIp) : TS := fun D σ H => ∃ x, σ[i]? = some (some x) ∧ te σ H fun y H1 => ti x y H1 fun z H2 => D.nx (σ.set i (some z)) H2
theorem ps_aug {i : Nat} {x : Str} {e : Expr} {te : TE} {op : Operator} {ti : TIp} {pos' : Pos} (hN : X.N.Nodup) (hi : X.N[i]? = some x) (hx : Loc X.env.scope x) (he : PE X e te) (ho : PIp X op ti) (hf : X.fn x = true ∨ X.env.scope.names.lookup x = some .local := by first | exact .inl rfl | exact .inr rfl | assumption) :
    PS X (.AugAssign (.Name x pos') op e pos) (tAug i te ti) := by
  intro pins s σ H D I h
  obtain ⟨v, e1, h⟩ := h
  obtain ⟨m, hn, hl⟩ := I.loc
  have vis : Vis X.env.scope x := by rcases hx with k | k; exact .inl k; exact .inr (.inl k)
  obtain ⟨u, r, l⟩ := hl i x v hi e1 vis
  refine wpAny_AugAssign_Name ?_
  have go : wpAny (model X.prog X.w) X.A (eval e X.env) (fun w s₂ => wpAny (model X.prog X.w) X.A (inplaceOp op u w) (fun r s₃ => wpAny (model X.prog X.w) X.A (storeName X.env x r) (fun _ => SP X pins D .next) X.xe s₃) X.xe s₂) X.xe s := by
    refine thn (he pins s σ H _ I h) fun w s1 ⟨y, H1, I1, r1, q1⟩ => ?_
    refine thn (ho pins s1 σ H1 v y u w _ I1 r r1 q1) fun z s2 ⟨zv, H2, I2, r2, q2⟩ => ?_
    exact store_ok I2 hN hi hx r2 (fun s3 I3 => ⟨_, H2, I3, q2⟩) hf
  rcases l with ⟨hk, hm⟩ | ⟨hk, c, hc, hcell⟩
  · exact wpAny_loadName_local I.ok.kind hk hn hm go
  · rcases hk with hk | hk
    · exact wpAny_loadName_cell I.ok.kind hk hc hcell go
    · rcases hx with k | k
      · have : X.env.scope.names.lookup x = some .free := hk
        rw [k] at this; cases this
      · have : X.env.scope.names.lookup x = some .free := hk
        rw [k] at this; cases this
/-- ints -/
def ipI (f : Int → Int → Int) : TIp := fun x y H Q => ∃ i j, x = .int i ∧ y = .int j ∧ Q (.int (f i j)) H
theorem ip_add : PIp X .Add (ipI fun i j => i + j) := by
  intro pins s σ H x y v u Q I r1 r2 h
  obtain ⟨i, j, e1, e2, q⟩ := h
  subst e1; subst e2
  obtain ⟨t, rfl⟩ := r1
  obtain ⟨t', rfl⟩ := r2
  exact iadd_int ⟨.int _, H, I.tok _, ⟨_, rfl⟩, q⟩
end

/-! ### while -/
section
variable {X : Cx} {pos : Pos}
/-- the invariant W with its measure -/
def tWhile (c : TT) (tb : TS) : TS := fun D σ H => ∃ W : Nat → St → Hp → Prop, (∃ m, W m σ H) ∧ ∀ m σ H, W m σ H →
  c σ H fun b H1 => if b = true then ∃ N : St → Hp → Prop, (∀ σ' H', N σ' H' → ∃ m', m' < m ∧ W m' σ' H') ∧ tb { D with nx := N, ct := N, bk := D.nx } σ H1 else D.nx σ H1
theorem ps_while {c : Expr} {body : List Stmt} {tc : TT} {tb : TS} (hp : PassesOwn (model X.prog X.w) X.A X.env X.xe) (hc : PT X c tc) (hb : PSs X body tb) : PS X (.While c body [] pos) (tWhile tc tb) := by
  intro pins s σ H D I h
  obtain ⟨W, ⟨m0, w0⟩, turn⟩ := h
  refine wpAny_While (codeAny_whileLoop (fun n s' => ∃ σ' H', Inv X pins σ' H' s' ∧ W n σ' H') ?_ m0 ⟨σ, H, I, w0⟩)
  rintro n s1 ⟨σ1, H1, I1, w1⟩
  refine wpAny_passesOwn hp (thn (hc pins s1 σ1 H1 _ I1 (turn n σ1 H1 w1)) fun b s2 ⟨H2, I2, q2⟩ => ?_)
  cases b with
  | true =>
    obtain ⟨N, hN, q2⟩ := q2
    rw [if_pos rfl]
    refine wpAny_passesOwn hp (thn (hb pins s2 σ1 H2 _ I2 q2) fun f s3 q3 => ?_)
    cases f with
    | next =>
      obtain ⟨σ3, H3, I3, n3⟩ := q3
      obtain ⟨m', hm, w3⟩ := hN σ3 H3 n3
      exact ⟨m', hm, σ3, H3, I3, w3⟩
    | cont =>
      obtain ⟨σ3, H3, I3, n3⟩ := q3
      obtain ⟨m', hm, w3⟩ := hN σ3 H3 n3
      exact ⟨m', hm, σ3, H3, I3, w3⟩
    | brk => exact q3
    | ret v => exact q3
  | false =>
    rw [if_neg Bool.false_ne_true]
    exact wpAny_execs_nil ⟨σ1, H2, I2, q2⟩
end

/-! ### what a loop or a comprehension walks -/
/-- at turn i: it yields x (the heap may grow), or it stops -/
structure It where
  go : Nat → Hp → Prop
  yld : Nat → Hp → V → Hp → Prop
  stop : Nat → Hp → Prop
/-- the iterator's own objects may turn: they are not the frame's, not pinned, younger than the entry (or a comprehension's own) -/
def FpOk (X : Cx) (pins : List (Addr × Obj)) (H : Hp) (b : Addr) : Prop :=
  H b = none ∧ b ≠ X.env.locals ∧ b ∉ X.fs ∧ (b ∈ X.ex ∨ X.s_0.heap.objs.size ≤ b) ∧ (∀ x c, X.env.cells.lookup x = some c → c ≠ b) ∧ ∀ p ∈ X.pn ++ pins, p.1 ≠ b
theorem Inv.fpOk {X : Cx} {pins : List (Addr × Obj)} {σ : St} {H H' : Hp} {s : Shared} {b : Addr} (I : Inv X pins σ H s) (hb : s.heap.objs.size ≤ b) (hn : H' b = none) : FpOk X pins H' b := by
  refine ⟨hn, Nat.ne_of_gt (Nat.lt_of_lt_of_le I.lt hb), I.nofs hb, .inr (Nat.le_trans I.sz hb), fun x c e z => ?_, fun p hp z => ?_⟩
  · obtain ⟨v, q⟩ := I.cell x c e
    exact absurd (Nat.lt_of_lt_of_le q.lt (by rw [z]; exact hb)) (Nat.lt_irrefl _)
  · exact absurd (Nat.lt_of_lt_of_le (Heap.lt_size (I.pin p hp).1) (by rw [z]; exact hb)) (Nat.lt_irrefl _)
structure Turn (P : Program) (w : World) (K : PySem.W.Frag) (tg : Expr) (J : It) (fp : List Addr) (it : Addr) (tn : Nat → Heap → Prop) : Prop where
  mem : it ∈ fp
  obj : ∀ i h, tn i h → ∀ b ∈ fp, ∃ o, h.get? b = some o ∧ ∀ v, o.data ≠ .cell v
  keep : ∀ i h h', tn i h → (∀ b ∈ fp, ∀ o, h.get? b = some o → h'.get? b = some o) → tn i h'
  item : ∀ (X : Cx), X.prog = P → X.w = w → X.K = K → X.calm = true → ∀ (i : Nat) (pins : List (Addr × Obj)) (s : Shared) (σ : St) (H : Hp) (E : Value → Shared → Prop), Inv X pins σ H s → (∀ b ∈ fp, FpOk X pins H b) → tn i s.heap → J.go i H →
    wpAny (model P w) X.A (pyNext (.ref it)) (fun r s1 => ∃ u, r = some u ∧
      wpAny (model P w) X.A (letOwnedTupleGo tg (.ref it) u) (fun _ s2 => ∃ x H', Inv X pins σ H' s2 ∧ RelV x u ∧ J.yld i H x H' ∧ tn (i + 1) s2.heap ∧ ∀ b ∈ fp, H' b = none) E s1) E s
  done : ∀ (X : Cx), X.prog = P → X.w = w → X.K = K → X.calm = true → ∀ (i : Nat) (pins : List (Addr × Obj)) (s : Shared) (σ : St) (H : Hp) (E : Value → Shared → Prop), Inv X pins σ H s → (∀ b ∈ fp, FpOk X pins H b) → tn i s.heap → J.stop i H →
    wpAny (model P w) X.A (pyNext (.ref it)) (fun r s1 => r = none ∧ Inv X pins σ H s1) E s
  self : ∀ (A : Around) (i : Nat) (s : Shared) (Q : Value → Shared → Prop) (E : Value → Shared → Prop), tn i s.heap → Q (.ref it) s → wpAny (model P w) A (pyIter (.ref it)) Q E s
abbrev TI := St → Hp → (It → Hp → Prop) → Prop
/-- an iterator has come -/
def PIE (X : Cx) (pins : List (Addr × Obj)) (σ : St) (tg : Expr) (R : It → Hp → Prop) (itv : Value) (s2 : Shared) : Prop :=
  ∃ (it : Addr) (fp : List Addr) (tn : Nat → Heap → Prop) (J : It) (H' : Hp), itv = .ref it ∧ Inv X pins σ H' s2 ∧ Turn X.prog X.w X.K tg J fp it tn ∧ tn 0 s2.heap ∧ (∀ b ∈ fp, FpOk X pins H' b) ∧ R J H'
def PI (X : Cx) (tg iter : Expr) (wi : TI) : Prop :=
  ∀ (pins : List (Addr × Obj)) (s : Shared) (σ : St) (H : Hp) (R : It → Hp → Prop), Inv X pins σ H s → wi σ H R →
    wpAny (model X.prog X.w) X.A (eval iter X.env) (fun v s1 => wpAny (model X.prog X.w) X.A (pyIter v) (PIE X pins σ tg R) X.xe s1) X.xe s

/-- the step ahead of the store is nothing for an iterator that keeps no tuple -/
theorem go_of {M : Model} {A : Around} {E : Value → Shared → Prop} {s : Shared} {tg : Expr} {it : Addr} {u : Value} {o : Obj} {n : String} {vs : Array Value} {Q : Unit → Shared → Prop} (ho : s.heap.get? it = some o) (hc : o.cls = .type n) (hd : o.data = .fields vs)
    (hn : ["enumerate", "zip", "dict_itemiterator", "dict_reverseitemiterator", "odict_iterator", "itertools.zip_longest", "itertools.pairwise"].contains n = false) (hQ : Q () s) : wpAny M A (letOwnedTupleGo tg (.ref it) u) Q E s := by
  unfold letOwnedTupleGo
  cases tg <;> first
    | exact wpAny_pure hQ
    | (cases u <;> first
        | exact wpAny_pure hQ
        | (refine wpAny_bind (wpAny_load ho ?_)
           rw [hc, hd]
           show wpAny M A (if (["enumerate", "zip", "dict_itemiterator", "dict_reverseitemiterator", "odict_iterator", "itertools.zip_longest", "itertools.pairwise"].contains n && vs[0]? == some (rawInt _)) = true then _ else _) Q E s
           rw [if_neg (by intro h; rw [hn, Bool.false_and] at h; cases h)]
           exact wpAny_pure hQ))

/-- the list at a, as it stands at each turn (a loop may append to it) -/
def Itl (K : PySem.W.Frag) (a : Addr) : It :=
  ⟨fun i H => ∃ xs x, SqL K H a xs ∧ xs[i]? = some x, fun i H x H' => H' = H ∧ ∀ xs, SqL K H a xs → xs[i]? = some x, fun i H => ∃ xs, SqL K H a xs ∧ xs.length ≤ i⟩
/-- lo, lo + 1, .. (n of them) -/
def Itr (lo : Int) (n : Nat) : It := ⟨fun i _ => i < n, fun i H x H' => H' = H ∧ x = .int (lo + i), fun i _ => n ≤ i⟩
theorem turn_list {P : Program} {w : World} {K : PySem.W.Frag} {tg : Expr} (a it : Addr) : Turn P w K tg (Itl K a) [it] it (fun i h => h.IsListIter it a i) where
  mem := by simp
  obj := fun i h st b hb => by
    have e : b = it := by simpa using hb
    subst e
    obtain ⟨o, e, c, d⟩ := st
    exact ⟨o, e, fun v z => by rw [d] at z; cases z⟩
  keep := fun i h h' st k => st.at fun o e => k it (by simp) o e
  item := by
    intro X hP hw hK hc i pins s σ H E I hf st hg
    subst hP hw hK
    obtain ⟨xs, x, hq, hx⟩ := hg
    obtain ⟨its, rv, p, hz⟩ := I.list hq
    obtain ⟨u, hu, ru⟩ := rv.get hx
    obtain ⟨f0, f1, f2, f3, f4, f5⟩ := hf it (by simp)
    refine wpAny_pyNext_list_item st p.isList (x := u) (by simpa using hu) fun h' st' sb => ?_
    have I1 : Inv X pins σ H { s with heap := h' } := I.turned (t' := s.toks) (fun b o hb e => (sb.2 b hb).trans e) f0 f1 f3 f4 f5
    obtain ⟨o, e, c, d⟩ := id st'
    exact ⟨u, rfl, go_of (s := { s with heap := h' }) e c d (by decide) ⟨x, H, I1, ru, ⟨rfl, fun ys hy => by rw [I.list_inj hy hq]; exact hx⟩, st', fun b hb => (hf b hb).1⟩⟩
  done := by
    intro X hP hw hK hc i pins s σ H E I hf st hg
    subst hP hw hK
    obtain ⟨xs, hq, hx⟩ := hg
    obtain ⟨its, rv, p, hz⟩ := I.list hq
    obtain ⟨f0, f1, f2, f3, f4, f5⟩ := hf it (by simp)
    have hl := rv.length
    exact wpAny_pyNext_list_end (I.ok.hd hc) st p.isList (by simp; omega) fun h' eb => ⟨rfl, I.turned (t' := s.toks) (fun b o hb e => eb b o hb e) f0 f1 f3 f4 f5⟩
  self := fun _ _ _ _ _ st h => wpAny_pyIter_listiter st h
theorem turn_range {P : Program} {w : World} {K : PySem.W.Frag} {tg : Expr} (it : Addr) (lo : Int) (n : Nat) : Turn P w K tg (Itr lo n) [it] it (fun i h => IsRangeIter h it (lo + (i : Nat) * 1) ((n : Int) - (i : Nat)) 1) where
  mem := by simp
  obj := fun i h st b hb => by
    have e : b = it := by simpa using hb
    subst e
    exact ⟨_, st, fun v z => by
      have z' : Data.fields _ = Data.cell v := z
      cases z'⟩
  keep := fun i h h' st k => k it (by simp) _ st
  item := by
    intro X hP hw hK hc i pins s σ H E I hf st hg
    subst hP hw hK
    obtain ⟨f0, f1, f2, f3, f4, f5⟩ := hf it (by simp)
    have W := Walks.range (prog := X.prog) (w := X.w) (I.ok.hd hc) it lo 1 n
    refine W.item i s _ _ hg st fun v h' tk hv st' kk => ?_
    obtain ⟨t, rfl⟩ := hv
    have I1 : Inv X pins σ H { s with heap := h', toks := tk } := I.turned (fun b o hb e => kk b o (by simpa using hb) e) f0 f1 f3 f4 f5
    refine ⟨_, rfl, go_of (s := { s with heap := h', toks := tk }) (n := "range_iterator") st' rfl rfl (by decide) ⟨.int (lo + i), H, I1, ⟨t, ?_⟩, ⟨rfl, rfl⟩, st', fun b hb => (hf b hb).1⟩⟩
    rw [Int.mul_one]
  done := by
    intro X hP hw hK hc i pins s σ H E I hf st hg
    subst hP hw hK
    obtain ⟨f0, f1, f2, f3, f4, f5⟩ := hf it (by simp)
    exact wpAny_pyNext_range_end (I.ok.hd hc) st (by have : n ≤ i := hg; omega) fun h' eb => ⟨rfl, I.turned (t' := s.toks) (fun b o hb e => eb b o hb e) f0 f1 f3 f4 f5⟩
  self := fun _ _ _ _ _ st h => wpAny_pyIter_rangeiter st h
end L2

namespace L2
open PySem PySem.Spec PyProof.Rows
section
variable {X : Cx} {tg : Expr}
def iList (K : PySem.W.Frag) (tl : TE) : TI := fun σ H R => tl σ H fun x H1 => ∃ a, x = .ref a ∧ (∃ xs, SqL K H1 a xs) ∧ R (Itl K a) H1
theorem pi_list {l : Expr} {tl : TE} (hl : PE X l tl) : PI X tg l (iList X.K tl) := by
  intro pins s σ H R I h
  refine thn (hl pins s σ H _ I h) fun v s1 ⟨x, H1, I1, r1, q1⟩ => ?_
  obtain ⟨a, e, ⟨xs, hq⟩, q⟩ := q1
  subst e
  cases r1
  obtain ⟨its, rv, p, hz⟩ := I1.list hq
  refine wpAny_pyIter_list p.isList ?_
  refine ⟨s1.heap.objs.size, [s1.heap.objs.size], _, _, H1, rfl, I1.kept (t' := s1.toks) fun b o e => Heap.get?_push_of_some _ e, turn_list a _, ⟨_, Heap.get?_push_size _ rfl, rfl, rfl⟩, fun b hb => ?_, q⟩
  have e : b = s1.heap.objs.size := by simpa using hb
  subst e
  exact I1.fpOk (Nat.le_refl _) (I1.hok.fresh (Nat.le_refl _))
/-- a range object just made, walked -/
theorem range_it {pins : List (Addr × Obj)} {σ : St} {H : Hp} {s : Shared} {R : It → Hp → Prop} {E : Value → Shared → Prop} {lo hi : Int} {t u v : Tok} {tk : Nat} (I : Inv X pins σ H s) (h1 : -(2 ^ 62) ≤ lo) (h2 : lo < 2 ^ 62) (h3 : -(2 ^ 62) ≤ hi) (h4 : hi < 2 ^ 62)
    (q : R (Itr lo (hi - lo).toNat) H) : wpAny (model X.prog X.w) X.A (pyIter (.ref s.heap.objs.size)) (PIE X pins σ tg R) E { s with heap := s.heap.push { cls := .type "range", data := .fields #[.int lo t, .int hi u, .int 1 v] }, toks := tk } := by
  refine wpAny_pyIter_range (IsRange.new ..) (small_one h1 h2 h3 h4) ?_
  have I1 : Inv X pins σ H { s with heap := s.heap.push { cls := .type "range", data := .fields #[.int lo t, .int hi u, .int 1 v] }, toks := tk } := I.kept fun b o e => Heap.get?_push_of_some _ e
  refine ⟨(s.heap.push { cls := .type "range", data := .fields #[.int lo t, .int hi u, .int 1 v] }).objs.size, [(s.heap.push { cls := .type "range", data := .fields #[.int lo t, .int hi u, .int 1 v] }).objs.size], _, _, H, rfl,
    I1.kept (t' := tk) fun b o e => Heap.get?_push_of_some _ e, turn_range _ lo (hi - lo).toNat, ?_, fun b hb => ?_, q⟩
  · have e1 : lo + ((0 : Nat) : Int) * 1 = lo := by simp
    have e2 : (((hi - lo).toNat : Nat) : Int) - ((0 : Nat) : Int) = Builtin.Range.rangeSize lo hi 1 := by rw [rangeSize_one]; split <;> omega
    show IsRangeIter _ _ (lo + ((0 : Nat) : Int) * 1) ((((hi - lo).toNat : Nat) : Int) - ((0 : Nat) : Int)) 1
    rw [e1, e2]
    exact Heap.get?_push_size _ rfl
  · have e : b = (s.heap.push { cls := .type "range", data := .fields #[.int lo t, .int hi u, .int 1 v] }).objs.size := by simpa using hb
    subst e
    exact I1.fpOk (Nat.le_refl _) (I1.hok.fresh (Nat.le_refl _))
def iRng1 (ta : TA) : TI := fun σ H R => ta σ H fun vs H1 => ∃ j : Int, vs = [.int j] ∧ -(2 ^ 62) ≤ j ∧ j < 2 ^ 62 ∧ R (Itr 0 j.toNat) H1
theorem pi_range1 {a : Expr} {ta : TA} {p pos : Pos} (hg : Gl X "range") (hm : X.mg "range" = none) (ha : PA X [a] ta) (hs : starEach [a] X.env = [(false, eval a X.env)] := by rfl) : PI X tg (.Call (.Name "range" p) [a] [] pos) (iRng1 ta) := by
  intro pins s σ H R I h
  refine Call_ (ld_blt I hg hm boot_range (PyProof.Rows.callWith_type1 (thn (ha pos pins s σ H _ I h) fun us s1 ⟨vs, H1, I1, r1, q1⟩ => ?_) hs rfl))
  obtain ⟨j, e, q1, q2, q⟩ := q1
  subst e
  cases r1 with
  | cons r rr =>
    cases rr
    obtain ⟨t, rfl⟩ := r
    exact call_range_1 (range_it I1 (by omega) (by omega) q1 q2 (by simpa using q))
/-! ### for -/
/-- W: the invariant by the turn and a measure; N: what the body is to reach -/
def tFor (wi : TI) (g : TG) (tb : TS) : TS := fun D σ H => wi σ H fun J H1 => ∃ W : Nat → Nat → St → Hp → Prop, (∃ m, W 0 m σ H1) ∧ ∀ i m σ H, W i m σ H →
  (J.stop i H ∧ D.nx σ H) ∨ (J.go i H ∧ ∃ N : St → Hp → Prop, (∀ σ' H', N σ' H' → ∃ m', m' < m ∧ W (i + 1) m' σ' H') ∧ ∀ x H', J.yld i H x H' → g x σ H' fun σ2 H2 => tb { D with nx := N, ct := N, bk := D.nx } σ2 H2)
/-- the records at fp as they stand -/
def pinsAt (fp : List Addr) (h : Heap) : List (Addr × Obj) := fp.filterMap fun b => (h.get? b).map fun o => (b, o)
theorem mem_pinsAt {fp : List Addr} {h : Heap} {b : Addr} {o : Obj} (hb : b ∈ fp) (e : h.get? b = some o) : (b, o) ∈ pinsAt fp h := List.mem_filterMap.mpr ⟨b, hb, by rw [e]; rfl⟩
theorem of_pinsAt {fp : List Addr} {h : Heap} {p : Addr × Obj} (hp : p ∈ pinsAt fp h) : p.1 ∈ fp ∧ h.get? p.1 = some p.2 := by
  obtain ⟨b, hb, e⟩ := List.mem_filterMap.mp hp
  cases q : h.get? b with
  | none => rw [q] at e; cases e
  | some o =>
    rw [q] at e
    have e' : (b, o) = p := Option.some.inj e
    subst e'
    exact ⟨hb, q⟩
theorem Inv.pinned {pins : List (Addr × Obj)} {σ : St} {H : Hp} {s : Shared} {fp : List Addr} (I : Inv X pins σ H s) (hf : ∀ b ∈ fp, FpOk X pins H b) (ho : ∀ b ∈ fp, ∃ o, s.heap.get? b = some o ∧ ∀ v, o.data ≠ .cell v) : Inv X (pins ++ pinsAt fp s.heap) σ H s :=
  I.pins_of fun p hp => (List.mem_append.mp hp).elim (fun z => I.pin p (List.mem_append_right _ z)) fun z => by
    obtain ⟨hb, e⟩ := of_pinsAt z
    obtain ⟨f0, f1, f2, _⟩ := hf p.1 hb
    obtain ⟨o, e', d⟩ := ho p.1 hb
    rw [e] at e'; cases e'
    exact ⟨e, f0, f1, f2, d⟩
theorem Inv.unpinned {pins pl : List (Addr × Obj)} {σ : St} {H : Hp} {s : Shared} (I : Inv X (pins ++ pl) σ H s) : Inv X pins σ H s := I.pins_of fun p hp => I.pin p (List.mem_append_right _ (List.mem_append_left _ hp))
theorem ps_for {iter : Expr} {body : List Stmt} {wi : TI} {g : TG} {tb : TS} {pos : Pos} (hp : PassesOwn (model X.prog X.w) X.A X.env X.xe) (hc : X.calm = true) (hi : PI X tg iter wi) (hg : PG X tg g) (hb : PSs X body tb)
    (hs : ∀ x, foldedSetIterable iter X.env x = pure x := by intro _; rfl) : PS X (.For tg iter body [] pos) (tFor wi g tb) := by
  intro pins s σ H D I h
  refine wpAny_For (thn (hi pins s σ H _ I h) fun v s1 h1 => thn h1 fun itv s2 h2 => ?_) hs
  obtain ⟨it, fp, tn, J, H2, e, I2, T, st2, f2, W, ⟨m0, w0⟩, turn⟩ := h2
  subst e
  -- what stays true of the iterator's objects through the loop
  have stat : ∀ {H' : Hp}, (∀ b ∈ fp, H' b = none) → ∀ b ∈ fp, FpOk X pins H' b := fun hn b hb => ⟨hn b hb, (f2 b hb).2⟩
  refine codeAny_forLoop_any (fun n s' => ∃ i σ' H', Inv X pins σ' H' s' ∧ tn i s'.heap ∧ (∀ b ∈ fp, H' b = none) ∧ W i n σ' H') ?_ m0 ⟨0, σ, H2, I2, st2, fun b hb => (f2 b hb).1, w0⟩
  rintro n s3 ⟨i, σ3, H3, I3, st3, fr3, w3⟩
  rcases turn i n σ3 H3 w3 with ⟨stop, qn⟩ | ⟨go, N, hN, step⟩
  · refine wpAny_passesOwn hp (thn (T.done X rfl rfl rfl hc i pins s3 σ3 H3 X.xe I3 (stat fr3) st3 stop) fun r s4 ⟨hr, I4⟩ => ?_)
    subst hr
    exact wpAny_execs_nil ⟨σ3, H3, I4, qn⟩
  · refine wpAny_passesOwn hp (thn (T.item X rfl rfl rfl hc i pins s3 σ3 H3 X.xe I3 (stat fr3) st3 go) fun r s4 ⟨u, hr, h4⟩ => ?_)
    subst hr
    refine wpAny_passesOwn hp (thn h4 fun _ s5 ⟨x, H5, I5, r5, y5, st5, fr5⟩ => ?_)
    have I5' := I5.pinned (stat fr5) (T.obj _ _ st5)
    refine wpAny_passesOwn hp (thn (hg _ s5 σ3 H5 x u _ I5' r5 (step x H5 y5)) fun _ s6 ⟨σ6, H6, I6, q6⟩ => ?_)
    refine wpAny_passesOwn hp (thn (hb _ s6 σ6 H6 _ I6 q6) fun f s7 q7 => ?_)
    have again : ∀ {σ7 : St} {H7 : Hp}, Inv X (pins ++ pinsAt fp s5.heap) σ7 H7 s7 → N σ7 H7 → ∃ m, m < n ∧ ∃ i σ' H', Inv X pins σ' H' s7 ∧ tn i s7.heap ∧ (∀ b ∈ fp, H' b = none) ∧ W i m σ' H' := fun {σ7 H7} I7 n7 => by
      obtain ⟨m', hm, w7⟩ := hN σ7 H7 n7
      refine ⟨m', hm, i + 1, σ7, H7, I7.unpinned, T.keep _ _ _ st5 fun b hb o e => (I7.pin (b, o) (List.mem_append_right _ (List.mem_append_right _ (mem_pinsAt hb e)))).1, fun b hb => ?_, w7⟩
      obtain ⟨o, e, d⟩ := T.obj _ _ st5 b hb
      exact (I7.pin (b, o) (List.mem_append_right _ (List.mem_append_right _ (mem_pinsAt hb e)))).2.1
    cases f with
    | next => obtain ⟨σ7, H7, I7, n7⟩ := q7; exact again I7 n7
    | cont => obtain ⟨σ7, H7, I7, n7⟩ := q7; exact again I7 n7
    | brk => obtain ⟨σ7, H7, I7, q7⟩ := q7; exact ⟨σ7, H7, I7.unpinned, q7⟩
    | ret v => obtain ⟨x7, σ7, H7, I7, r7, q7⟩ := q7; exact ⟨x7, σ7, H7, I7.unpinned, r7, q7⟩
end

/-! ### the forms one uses -/
/-- over a list that the body leaves as it is -/
theorem for_list {K : PySem.W.Frag} {a : Addr} {xs : List V} {g : TG} {tb : TS} {D : Ends} {σ : St} {H : Hp} (Pv : Nat → St → Hp → Prop) (h0 : Pv 0 σ H) (hl : ∀ i σ H, i ≤ xs.length → Pv i σ H → SqL K H a xs)
    (hs : ∀ i x σ H, xs[i]? = some x → Pv i σ H → g x σ H fun σ2 H2 => tb { D with nx := Pv (i + 1), ct := Pv (i + 1), bk := D.nx } σ2 H2) (hd : ∀ σ H, Pv xs.length σ H → D.nx σ H) :
    ∃ W : Nat → Nat → St → Hp → Prop, (∃ m, W 0 m σ H) ∧ ∀ i m σ H, W i m σ H →
      ((Itl K a).stop i H ∧ D.nx σ H) ∨ ((Itl K a).go i H ∧ ∃ N : St → Hp → Prop, (∀ σ' H', N σ' H' → ∃ m', m' < m ∧ W (i + 1) m' σ' H') ∧ ∀ x H', (Itl K a).yld i H x H' → g x σ H' fun σ2 H2 => tb { D with nx := N, ct := N, bk := D.nx } σ2 H2) := by
  refine ⟨fun i m σ H => m = xs.length - i ∧ i ≤ xs.length ∧ Pv i σ H, ⟨xs.length, by simp, Nat.zero_le _, h0⟩, ?_⟩
  rintro i m σ H ⟨rfl, hi, p⟩
  have q := hl i σ H hi p
  by_cases hlt : i < xs.length
  · refine .inr ⟨⟨xs, xs[i], q, by simp [hlt]⟩, Pv (i + 1), fun σ' H' p' => ⟨xs.length - (i + 1), by omega, rfl, hlt, p'⟩, fun x H' y => ?_⟩
    obtain ⟨e, y⟩ := y
    subst e
    exact hs i x σ _ (y xs q) p
  · have e : i = xs.length := by omega
    subst e
    exact .inl ⟨⟨xs, q, Nat.le_refl _⟩, hd σ H p⟩
theorem for_range {lo : Int} {n : Nat} {g : TG} {tb : TS} {D : Ends} {σ : St} {H : Hp} (Pv : Nat → St → Hp → Prop) (h0 : Pv 0 σ H)
    (hs : ∀ i σ H, i < n → Pv i σ H → g (.int (lo + i)) σ H fun σ2 H2 => tb { D with nx := Pv (i + 1), ct := Pv (i + 1), bk := D.nx } σ2 H2) (hd : ∀ σ H, Pv n σ H → D.nx σ H) :
    ∃ W : Nat → Nat → St → Hp → Prop, (∃ m, W 0 m σ H) ∧ ∀ i m σ H, W i m σ H →
      ((Itr lo n).stop i H ∧ D.nx σ H) ∨ ((Itr lo n).go i H ∧ ∃ N : St → Hp → Prop, (∀ σ' H', N σ' H' → ∃ m', m' < m ∧ W (i + 1) m' σ' H') ∧ ∀ x H', (Itr lo n).yld i H x H' → g x σ H' fun σ2 H2 => tb { D with nx := N, ct := N, bk := D.nx } σ2 H2) := by
  refine ⟨fun i m σ H => m = n - i ∧ i ≤ n ∧ Pv i σ H, ⟨n, by simp, Nat.zero_le _, h0⟩, ?_⟩
  rintro i m σ H ⟨rfl, hi, p⟩
  by_cases hlt : i < n
  · refine .inr ⟨hlt, Pv (i + 1), fun σ' H' p' => ⟨n - (i + 1), by omega, rfl, hlt, p'⟩, fun x H' y => ?_⟩
    obtain ⟨e, y⟩ := y
    subst e y
    exact hs i σ _ hlt p
  · have e : i = n := by omega
    subst e
    exact .inl ⟨Nat.le_refl _, hd σ H p⟩
/-- while, by a word and a measure of the state -/
theorem while_by {c : TT} {tb : TS} {D : Ends} {σ : St} {H : Hp} (Pv : St → Hp → Prop) (μ : St → Hp → Nat) (h0 : Pv σ H)
    (hs : ∀ σ H, Pv σ H → c σ H fun b H1 => if b = true then tb { D with nx := fun σ' H' => Pv σ' H' ∧ μ σ' H' < μ σ H, ct := fun σ' H' => Pv σ' H' ∧ μ σ' H' < μ σ H, bk := D.nx } σ H1 else D.nx σ H1)
    (mono : ∀ σ H Q Q', (∀ b H1, Q b H1 → Q' b H1) → c σ H Q → c σ H Q') : tWhile c tb D σ H := by
  refine ⟨fun m σ H => m = μ σ H ∧ Pv σ H, ⟨_, rfl, h0⟩, ?_⟩
  rintro m σ H ⟨rfl, p⟩
  refine mono σ H _ _ (fun b H1 q => ?_) (hs σ H p)
  cases b with
  | true => exact ⟨_, fun σ' H' ⟨p', l⟩ => ⟨_, l, rfl, p'⟩, q⟩
  | false => exact q
end L2

namespace L2
open PySem PySem.Spec PyProof.Rows

abbrev R2 := V → V → Hp → VK → Prop
/-- a two-place operation on values: f is binaryOp op, inplaceOp op or compareOp op -/
def OpR (X : Cx) (f : Value → Value → Sem Value) (r : R2) : Prop :=
  ∀ (pins : List (Addr × Obj)) (s : Shared) (σ : St) (H : Hp) (x y : V) (v u : Value) (Q : VK), Inv X pins σ H s → RelV x v → RelV y u → r x y H Q →
    wpAny (model X.prog X.w) X.A (f v u) (EP X pins σ Q) X.xe s
/-- a one-place operation -/
def UnR (X : Cx) (f : Value → Sem Value) (r : V → Hp → VK → Prop) : Prop :=
  ∀ (pins : List (Addr × Obj)) (s : Shared) (σ : St) (H : Hp) (x : V) (v : Value) (Q : VK), Inv X pins σ H s → RelV x v → r x H Q →
    wpAny (model X.prog X.w) X.A (f v) (EP X pins σ Q) X.xe s
/-- a call of a value that is known (a builtin, a type) with values -/
def CallR (X : Cx) (f : Value) (r : List V → Hp → VK → Prop) : Prop :=
  ∀ (pins : List (Addr × Obj)) (s : Shared) (σ : St) (H : Hp) (xs : List V) (us : List Value) (Q : VK), Inv X pins σ H s → Vals xs us → r xs H Q →
    wpAny (model X.prog X.w) X.A (call f us) (EP X pins σ Q) X.xe s
def tOp (r : R2) (ta tb : TE) : TE := fun σ H Q => ta σ H fun x H1 => tb σ H1 fun y H2 => r x y H2 Q
def tUn (r : V → Hp → VK → Prop) (ta : TE) : TE := fun σ H Q => ta σ H fun x H1 => r x H1 Q
/-- ints in, under C, and a value out -/
def rI (C : Int → Int → Prop) (g : Int → Int → V) : R2 := fun x y H Q => ∃ i j, x = .int i ∧ y = .int j ∧ C i j ∧ Q (g i j) H
def rI0 (g : Int → Int → V) : R2 := fun x y H Q => ∃ i j, x = .int i ∧ y = .int j ∧ Q (g i j) H
def rU (g : Int → V) : V → Hp → VK → Prop := fun x H Q => ∃ i, x = .int i ∧ Q (g i) H

section
variable {X : Cx} {a b c : Expr} {ta tb tc : TE} {pos : Pos}

theorem binT (ha : PE X a ta) (hb : PE X b tb) {pins : List (Addr × Obj)} {s : Shared} {σ : St} {H : Hp} {R : V → V → Hp → Prop} (I : Inv X pins σ H s)
    (h : ta σ H fun x H1 => tb σ H1 fun y H2 => R x y H2) {Q : Value → Shared → Prop} {f : Value → Value → Sem Value}
    (hf : ∀ v u s2 x y H2, Inv X pins σ H2 s2 → RelV x v → RelV y u → R x y H2 → wpAny (model X.prog X.w) X.A (f v u) Q X.xe s2) :
    wpAny (model X.prog X.w) X.A (eval a X.env) (fun v s₁ => wpAny (model X.prog X.w) X.A (eval b X.env) (fun u s₂ => wpAny (model X.prog X.w) X.A (f v u) Q X.xe s₂) X.xe s₁) X.xe s := by
  refine thn (ha pins s σ H _ I h) fun v s1 ⟨x, H1, I1, r1, q1⟩ => ?_
  refine thn (hb pins s1 σ H1 _ I1 q1) fun u s2 ⟨y, H2, I2, r2, q2⟩ => ?_
  exact hf v u s2 x y H2 I2 r1 r2 q2

theorem pe_op {op : Operator} {r : R2} (ho : OpR X (binaryOp op) r) (ha : PE X a ta) (hb : PE X b tb) : PE X (.BinOp a op b pos) (tOp r ta tb) := by
  intro pins s σ H Q I h
  exact wpAny_BinOp (binT ha hb I h fun v u s2 x y H2 I2 rx ry q => ho pins s2 σ H2 x y v u Q I2 rx ry q)
theorem pe_un {op : UnaryOp} {r : V → Hp → VK → Prop} (ho : UnR X (unaryOp op) r) (ha : PE X a ta) : PE X (.UnaryOp op a pos) (tUn r ta) := by
  intro pins s σ H Q I h
  exact UnaryOp_ (thn (ha pins s σ H _ I h) fun v s1 ⟨x, H1, I1, r1, q1⟩ => ho pins s1 σ H1 x v Q I1 r1 q1)
/-! ### ints -/
theorem opI {f : Value → Value → Sem Value} {C : Int → Int → Prop} {g : Int → Int → Int}
    (rule : ∀ (i j : Int) (t u : Tok) (s : Shared) (Q : Value → Shared → Prop) (E : Value → Shared → Prop), C i j → Q (.int (g i j) s.toks) { s with toks := s.toks + 1 } → wpAny (model X.prog X.w) X.A (f (.int i t) (.int j u)) Q E s) :
    OpR X f (rI C fun i j => .int (g i j)) := by
  intro pins s σ H x y v u Q I rx ry h
  obtain ⟨i, j, rfl, rfl, hc, q⟩ := h
  obtain ⟨t, rfl⟩ := rx
  obtain ⟨t', rfl⟩ := ry
  exact rule i j t t' s _ _ hc ⟨.int (g i j), H, I.tok _, ⟨_, rfl⟩, q⟩
theorem opI0 {f : Value → Value → Sem Value} {g : Int → Int → Int}
    (rule : ∀ (i j : Int) (t u : Tok) (s : Shared) (Q : Value → Shared → Prop) (E : Value → Shared → Prop), Q (.int (g i j) s.toks) { s with toks := s.toks + 1 } → wpAny (model X.prog X.w) X.A (f (.int i t) (.int j u)) Q E s) :
    OpR X f (rI0 fun i j => .int (g i j)) := by
  intro pins s σ H x y v u Q I rx ry h
  obtain ⟨i, j, rfl, rfl, q⟩ := h
  obtain ⟨t, rfl⟩ := rx
  obtain ⟨t', rfl⟩ := ry
  exact rule i j t t' s _ _ ⟨.int (g i j), H, I.tok _, ⟨_, rfl⟩, q⟩
theorem opB0 {f : Value → Value → Sem Value} {g : Int → Int → Bool}
    (rule : ∀ (i j : Int) (t u : Tok) (s : Shared) (Q : Value → Shared → Prop) (E : Value → Shared → Prop), Q (.bool (g i j)) s → wpAny (model X.prog X.w) X.A (f (.int i t) (.int j u)) Q E s) :
    OpR X f (rI0 fun i j => .bl (g i j)) := by
  intro pins s σ H x y v u Q I rx ry h
  obtain ⟨i, j, rfl, rfl, q⟩ := h
  obtain ⟨t, rfl⟩ := rx
  obtain ⟨t', rfl⟩ := ry
  exact rule i j t t' s _ _ ⟨.bl (g i j), H, I, rfl, q⟩

def CMul (i j : Int) : Prop := (-(2 ^ 64) < i ∧ i < 2 ^ 64) ∨ (-(2 ^ 64) < j ∧ j < 2 ^ 64)
theorem CMul.ok {i j : Int} (h : CMul i j) : IntMulOk i j := by
  rcases h with ⟨h1, h2⟩ | ⟨h1, h2⟩
  · exact .of_left (intBits_le_64 h1 h2)
  · exact .of_right (intBits_le_64 h1 h2)
theorem op_add : OpR X (binaryOp .Add) (rI0 fun i j => .int (i + j)) := opI0 fun _ _ _ _ _ _ _ q => add_int q
theorem op_sub : OpR X (binaryOp .Sub) (rI0 fun i j => .int (i - j)) := opI0 fun _ _ _ _ _ _ _ q => sub_int q
theorem op_mul : OpR X (binaryOp .Mult) (rI CMul fun i j => .int (i * j)) := opI fun _ _ _ _ _ _ _ hc q => mul_int q hc.ok
theorem unI {f : Value → Sem Value} {g : Int → Int}
    (rule : ∀ (i : Int) (t : Tok) (s : Shared) (Q : Value → Shared → Prop) (E : Value → Shared → Prop), Q (.int (g i) s.toks) { s with toks := s.toks + 1 } → wpAny (model X.prog X.w) X.A (f (.int i t)) Q E s) :
    UnR X f (rU fun i => .int (g i)) := by
  intro pins s σ H x v Q I rx h
  obtain ⟨i, rfl, q⟩ := h
  obtain ⟨t, rfl⟩ := rx
  exact rule i t s _ _ ⟨.int (g i), H, I.tok _, ⟨_, rfl⟩, q⟩
theorem un_neg : UnR X (unaryOp .USub) (rU fun i => .int (-i)) := unI fun _ _ _ _ _ q => neg_int q
/-! ### bools among ints: n += (a < b) -/
end

/-! ### comparisons -/
/-- the scalars that == tells apart as data does -/
def scal : V → V → Bool
  | .non, .non => true | .non, .int _ => true | .int _, .non => true | .non, .bl _ => true | .bl _, .non => true | .non, .str _ => true | .str _, .non => true
  | .int _, .int _ => true | .bl _, .bl _ => true | .str _, .str _ => true | .byt _, .byt _ => true
  | .int _, .str _ => true | .str _, .int _ => true | .bl _, .str _ => true | .str _, .bl _ => true
  | _, _ => false
def rEq : R2 := fun x y H Q => scal x y = true ∧ Q (.bl (decide (x = y))) H
def rNe : R2 := fun x y H Q => scal x y = true ∧ Q (.bl (!decide (x = y))) H

theorem dec_int {i j : Int} : decide (V.int i = V.int j) = (i == j) := by
  rw [Bool.eq_iff_iff]
  simp
theorem dec_bl {i j : Bool} : decide (V.bl i = V.bl j) = (i == j) := by
  rw [Bool.eq_iff_iff]
  simp
theorem dec_str {i j : Str} : decide (V.str i = V.str j) = (i == j) := by
  rw [Bool.eq_iff_iff]
  simp
theorem dec_byt {i j : Array UInt8} : decide (V.byt i = V.byt j) = (i.toList == j.toList) := by
  rw [Bool.eq_iff_iff]
  cases i
  cases j
  simp

section
variable {X : Cx} {a b c : Expr} {ta tb tc : TE} {pos : Pos}
theorem fin_bl {pins : List (Addr × Obj)} {σ : St} {H : Hp} {s : Shared} {Q : VK} {k k' : Bool} (I : Inv X pins σ H s) (q : Q (.bl k) H) (e : k = k') : EP X pins σ Q (.bool k') s := by
  subst e
  exact ⟨.bl k, H, I, rfl, q⟩
theorem op_eq : OpR X (compareOp .Eq) rEq := by
  intro pins s σ H x y v u Q I rx ry h
  obtain ⟨hs, q⟩ := h
  cases x with
  | non =>
    cases rx
    cases y with
    | non => cases ry; exact PySem.EqNone.eq_none_none (fin_bl I q (by simp))
    | bl j => cases ry; exact PySem.EqNone.eq_none_bool (fin_bl I q (by simp))
    | int j => obtain ⟨t', rfl⟩ := ry; exact PySem.EqNone.eq_none_int (fin_bl I q (by simp))
    | str j => obtain ⟨t', rfl⟩ := ry; exact PySem.EqNone.eq_none_str (fin_bl I q (by simp))
    | _ => exact absurd (show false = true from hs) Bool.false_ne_true
  | bl i =>
    cases rx
    cases y with
    | non => cases ry; exact PySem.EqNone.eq_bool_none (fin_bl I q (by simp))
    | bl j => cases ry; exact eq_bool (fin_bl I q dec_bl)
    | str j => obtain ⟨t', rfl⟩ := ry; exact PySem.EqMixed.eq_bool_str (fin_bl I q (by simp))
    | _ => exact absurd (show false = true from hs) Bool.false_ne_true
  | int i =>
    obtain ⟨t, rfl⟩ := rx
    cases y with
    | non => cases ry; exact PySem.EqNone.eq_int_none (fin_bl I q (by simp))
    | int j => obtain ⟨t', rfl⟩ := ry; exact eq_int (fin_bl I q dec_int)
    | str j => obtain ⟨t', rfl⟩ := ry; exact PySem.EqMixed.eq_int_str (fin_bl I q (by simp))
    | _ => exact absurd (show false = true from hs) Bool.false_ne_true
  | str i =>
    obtain ⟨t, rfl⟩ := rx
    cases y with
    | non => cases ry; exact PySem.EqNone.eq_str_none (fin_bl I q (by simp))
    | bl j => cases ry; exact PySem.EqMixed.eq_str_bool (fin_bl I q (by simp))
    | int j => obtain ⟨t', rfl⟩ := ry; exact PySem.EqMixed.eq_str_int (fin_bl I q (by simp))
    | str j => obtain ⟨t', rfl⟩ := ry; exact eq_str (fin_bl I q dec_str)
    | _ => exact absurd (show false = true from hs) Bool.false_ne_true
  | byt i =>
    obtain ⟨t, rfl⟩ := rx
    cases y with
    | byt j => obtain ⟨t', rfl⟩ := ry; exact PySem.W.eq_bytes (fin_bl I q dec_byt)
    | _ => exact absurd (show false = true from hs) Bool.false_ne_true
  | _ => cases y <;> exact absurd (show false = true from hs) Bool.false_ne_true
theorem op_ne : OpR X (compareOp .NotEq) rNe := by
  intro pins s σ H x y v u Q I rx ry h
  obtain ⟨hs, q⟩ := h
  cases x with
  | non =>
    cases rx
    cases y with
    | non => cases ry; exact PySem.EqNone.ne_none_none (fin_bl I q (by simp))
    | bl j => cases ry; exact PySem.EqNone.ne_none_bool (fin_bl I q (by simp))
    | int j => obtain ⟨t', rfl⟩ := ry; exact PySem.EqNone.ne_none_int (fin_bl I q (by simp))
    | str j => obtain ⟨t', rfl⟩ := ry; exact PySem.EqNone.ne_none_str (fin_bl I q (by simp))
    | _ => exact absurd (show false = true from hs) Bool.false_ne_true
  | bl i =>
    cases rx
    cases y with
    | non => cases ry; exact PySem.EqNone.ne_bool_none (fin_bl I q (by simp))
    | bl j => cases ry; exact ne_bool (fin_bl I q (congrArg not dec_bl))
    | str j => obtain ⟨t', rfl⟩ := ry; exact PySem.EqMixed.ne_bool_str (fin_bl I q (by simp))
    | _ => exact absurd (show false = true from hs) Bool.false_ne_true
  | int i =>
    obtain ⟨t, rfl⟩ := rx
    cases y with
    | non => cases ry; exact PySem.EqNone.ne_int_none (fin_bl I q (by simp))
    | int j => obtain ⟨t', rfl⟩ := ry; exact ne_int (fin_bl I q (congrArg not dec_int))
    | str j => obtain ⟨t', rfl⟩ := ry; exact PySem.EqMixed.ne_int_str (fin_bl I q (by simp))
    | _ => exact absurd (show false = true from hs) Bool.false_ne_true
  | str i =>
    obtain ⟨t, rfl⟩ := rx
    cases y with
    | non => cases ry; exact PySem.EqNone.ne_str_none (fin_bl I q (by simp))
    | bl j => cases ry; exact PySem.EqMixed.ne_str_bool (fin_bl I q (by simp))
    | int j => obtain ⟨t', rfl⟩ := ry; exact PySem.EqMixed.ne_str_int (fin_bl I q (by simp))
    | str j => obtain ⟨t', rfl⟩ := ry; exact ne_str (fin_bl I q (congrArg not dec_str))
    | _ => exact absurd (show false = true from hs) Bool.false_ne_true
  | byt i =>
    obtain ⟨t, rfl⟩ := rx
    cases y with
    | byt j => obtain ⟨t', rfl⟩ := ry; exact PySem.W.ne_bytes (fin_bl I q (congrArg not dec_byt))
    | _ => exact absurd (show false = true from hs) Bool.false_ne_true
  | _ => cases y <;> exact absurd (show false = true from hs) Bool.false_ne_true

theorem op_lt : OpR X (compareOp .Lt) (rI0 fun i j => .bl (decide (i < j))) := opB0 fun _ _ _ _ _ _ _ q => lt_int q
theorem op_le : OpR X (compareOp .LtE) (rI0 fun i j => .bl (decide (i ≤ j))) := opB0 fun _ _ _ _ _ _ _ q => le_int q
theorem op_gt : OpR X (compareOp .Gt) (rI0 fun i j => .bl (decide (j < i))) := opB0 fun _ _ _ _ _ _ _ q => gt_int q
theorem op_ge : OpR X (compareOp .GtE) (rI0 fun i j => .bl (decide (j ≤ i))) := opB0 fun _ _ _ _ _ _ _ q => ge_int q
/-- two rules for one operation: by cases -/
theorem OpR.or {f : Value → Value → Sem Value} {r r' : R2} (h : OpR X f r) (h' : OpR X f r') : OpR X f (fun x y H Q => r x y H Q ∨ r' x y H Q) := by
  intro pins s σ H x y v u Q I rx ry q
  rcases q with q | q
  · exact h pins s σ H x y v u Q I rx ry q
  · exact h' pins s σ H x y v u Q I rx ry q

theorem nomark (b : Expr) {op : CmpOp} (h : op ≠ .In := by decide) (h2 : op ≠ .NotIn := by decide) : behindInMarks op b = false := by
  have e1 : (op == CmpOp.In) = false := by cases op <;> first | rfl | exact absurd rfl h
  have e2 : (op == CmpOp.NotIn) = false := by cases op <;> first | rfl | exact absurd rfl h2
  cases b <;> simp [behindInMarks, e1, e2]
/-- a comparison as a value; hm: nomark b, or (for in, not in) by with_unfolding_all rfl -/
theorem pe_cmpR {op : CmpOp} {r : R2} (ho : OpR X (compareOp op) r) (ha : PE X a ta) (hb : PE X b tb) (hm : behindInMarks op b = false) : PE X (.Compare a [op] [b] pos) (tOp r ta tb) := by
  intro pins s σ H Q I h
  exact wpAny_Compare1 (binT ha hb I h fun v u s2 x y H2 I2 rx ry q => ho pins s2 σ H2 x y v u Q I2 rx ry q) hm
/-- a reading of a value as a test -/
def tTest (t : TE) : TT := fun σ H Q => t σ H fun x H' => ∃ k, x = .bl k ∧ Q k H'
theorem pt_cmpR {op : CmpOp} {r : R2} (ho : OpR X (compareOp op) r) (ha : PE X a ta) (hb : PE X b tb) (hm : behindInMarks op b = false) : PT X (.Compare a [op] [b] pos) (tTest (tOp r ta tb)) := by
  intro pins s σ H Q I h
  refine wpAny_isTrue_Compare1 (thn (ha pins s σ H _ I h) fun v s1 ⟨x, H1, I1, r1, q1⟩ => thn (hb pins s1 σ H1 _ I1 q1) fun u s2 ⟨y, H2, I2, r2, q2⟩ =>
    thn (ho pins s2 σ H2 x y v u _ I2 r1 r2 q2) fun c s3 ⟨z, H3, I3, r3, k, e, q3⟩ => ?_) hm
  subst e
  cases r3
  exact wpAny_truthy_bool ⟨H3, I3, q3⟩
/-! ### truth -/
theorem line63 : (sizeLine : Nat) < 2 ^ 63 := by rw [sizeLine_eq]; decide
/-! ### strs and bytes -/
/-! ### scalar builtins, by CallR -/
theorem vals1 {x : V} {us : List Value} (r : Vals [x] us) : ∃ u, us = [u] ∧ RelV x u := by
  cases r with
  | cons r1 r2 => cases r2; exact ⟨_, rfl, r1⟩
theorem vals2 {x y : V} {us : List Value} (r : Vals [x, y] us) : ∃ u w', us = [u, w'] ∧ RelV x u ∧ RelV y w' := by
  cases r with
  | cons r1 r2 =>
    cases r2 with
    | cons r3 r4 => cases r4; exact ⟨_, _, rfl, r1, r3⟩
theorem call_abs : CallR X (.builtin "abs") (fun xs H Q => ∃ i, xs = [.int i] ∧ Q (.int (if i < 0 then -i else i)) H) := by
  intro pins s σ H xs us Q I r h
  obtain ⟨i, rfl, q⟩ := h
  obtain ⟨u, rfl, t, rfl⟩ := vals1 r
  exact call_abs_int fun u tk => ⟨.int (if i < 0 then -i else i), H, I.tok _, ⟨_, rfl⟩, q⟩
theorem call_max2 (hc : X.calm = true) : CallR X (.builtin "max") (fun xs H Q => ∃ i j, xs = [.int i, .int j] ∧ Q (.int (if j > i then j else i)) H) := by
  intro pins s σ H xs us Q I r h
  obtain ⟨i, j, rfl, q⟩ := h
  obtain ⟨u, w', rfl, ⟨t, rfl⟩, ⟨t', rfl⟩⟩ := vals2 r
  refine max_two_ints (I.ok.hd hc) fun h' tk k => ⟨_, H, I.kept k, ?_, q⟩
  by_cases hj : j > i
  · rw [if_pos hj, if_pos hj]; exact ⟨_, rfl⟩
  · rw [if_neg hj, if_neg hj]; exact ⟨_, rfl⟩
theorem call_min2 (hc : X.calm = true) : CallR X (.builtin "min") (fun xs H Q => ∃ i j, xs = [.int i, .int j] ∧ Q (.int (if j < i then j else i)) H) := by
  intro pins s σ H xs us Q I r h
  obtain ⟨i, j, rfl, q⟩ := h
  obtain ⟨u, w', rfl, ⟨t, rfl⟩, ⟨t', rfl⟩⟩ := vals2 r
  refine min_two_ints (I.ok.hd hc) fun h' tk k => ⟨_, H, I.kept k, ?_, q⟩
  by_cases hj : j < i
  · rw [if_pos hj, if_pos hj]; exact ⟨_, rfl⟩
  · rw [if_neg hj, if_neg hj]; exact ⟨_, rfl⟩
end
end L2

namespace L2
open PySem PySem.Spec PyProof.Rows

/-! ### an instance, its attributes a map -/
structure ObjM (h : Heap) (x dx C : Addr) (mA : Str → Option Value) : Prop where
  obj : h.get? x = some (PySem.W.instObj C dx)
  ns : h.Ns1 dx mA
  ne : dx ≠ x

theorem lookIn_ns {h : Heap} {dx : Addr} {mA : Str → Option Value} (n : h.Ns1 dx mA) : ∃ od, h.get? dx = some od ∧ ∀ name, PySem.W.lookIn name od = some (mA name) := by
  obtain ⟨o, es, ep, ho, hd, hk, _, hm⟩ := n
  refine ⟨o, ho, fun name => ?_⟩
  have e := hm name
  unfold nsFind findBy at e
  rw [← Array.find?_toList] at e
  unfold PySem.W.lookIn
  rw [hd]
  dsimp only
  split
  · rename_i y q
    rw [q] at e
    exact congrArg some e
  · rename_i q
    rw [q] at e
    have a : es.toList.any (·.refKey) = false := by
      rw [List.any_eq_false]
      intro y hy
      obtain ⟨z, t, hkey⟩ := hk y (Array.mem_toList_iff.mp hy)
      simp [DictEntry.refKey, hkey]
    have a' : ¬ es.toList.any (·.refKey) = true := by rw [a]; exact Bool.false_ne_true
    rw [if_neg a']
    exact congrArg some e

theorem ObjM.look {h : Heap} {x dx C : Addr} {mA : Str → Option Value} (I : ObjM h x dx C mA) : ∃ od, PySem.W.InstAt h x (PySem.W.instObj C dx) C (some od) ∧ ∀ name, PySem.W.lookIn name od = some (mA name) :=
  let ⟨od, ho, hl⟩ := lookIn_ns I.ns
  ⟨od, ⟨I.obj, rfl, rfl, ho⟩, hl⟩

section
variable {prog : Program} {w : World} {A : Around} {E : Value → Shared → Prop} {s : Shared} {K : PySem.W.Frag} {x dx C f : Addr} {mA : Str → Option Value} {name : Str} {v : Value}

theorem get_map {expr : Bool} {Q : Value → Shared → Prop} (X : K.In s.heap) (I : ObjM s.heap x dx C mA) (hg : PySem.W.plainGet K C name = true) (hh : PySem.W.hasDictIn K C = true)
    (ha : PySem.W.findIn K (.ref C) name = some none) (hv : mA name = some v) (hv' : PySem.W.handedIn v = true) (h : Q v { s with toks := s.toks + 1 }) :
    wpAny (model prog w) A (getAttr (.ref x) name expr) Q E s := by
  obtain ⟨od, J, hl⟩ := I.look
  exact PySem.W.get_value X J (PySem.W.plainGet_of hg).1 (PySem.W.findObj_own hh ha rfl (by rw [hl, hv])) hv' h

theorem get_meth {pl : Sem Bool} {Q : Value × List Value → Shared → Prop} (X : K.In s.heap) (I : ObjM s.heap x dx C mA) (hg : PySem.W.plainGet K C name = true)
    (hf : PySem.W.findIn K (.ref C) name = some (some (.ref f))) (ht : PySem.W.isFn K (.ref f) = true) (hv : mA name = none) (h : Q (.ref f, [.ref x]) s) :
    wpAny (model prog w) A (getMethod (.ref x) name pl) Q E s := by
  obtain ⟨od, J, hl⟩ := I.look
  exact PySem.W.method_fn X J (PySem.W.plainGet_of hg).1 (PySem.W.plainGet_of hg).2 hf (beq_iff_eq.mp ht) (by show (PySem.W.lookIn name od).map (·.isSome) = some false; rw [hl, hv]; rfl) h

theorem set_map {ns : List Str} {Q : Unit → Shared → Prop} (X : K.In s.heap) (I : ObjM s.heap x dx C mA)
    (hs : PySem.W.findIn K (.ref C) "__setattr__" = some (some (.builtin "object.__setattr__"))) (hp : PySem.W.plainOver K C = true) (ht : PySem.W.takerIn K C name = some none) (hh : PySem.W.hasDictIn K C = true)
    (hw : PySem.Within mA ns) (hsz : ns.length ≤ sizeLine)
    (h : ∀ h', ObjM h' x dx C (fun y => if y = name then some v else mA y) → Heap.SameBut dx s.heap h' → Q () { s with heap := h', toks := s.toks + 2 }) :
    wpAny (model prog w) A (setAttr (.ref x) name v) Q E s := by
  obtain ⟨od, J, hl⟩ := I.look
  refine PySem.W.set_plain X J hs (PySem.W.osa_open (s := { s with toks := s.toks + 1 }) (r := none) X J hp ht fun b => ?_)
  obtain ⟨cd, hc, hd'⟩ := PySem.W.any_some hh
  have hx : s.heap.get? x = some ⟨.ref C, some dx, .plain, #[]⟩ := I.obj
  refine wpAny_bind (wpAny_pure (wpAny_bind (wpAny_bind (wpAny_loadPart hx (wpAny_bind (PySem.W.Looks.here (s := { s with toks := s.toks + 1 }) (PySem.W.looks_clsIn X hc) ?_))))))
  rw [hd']
  refine wpAny_pure (a := some dx) (wpAny_bind (wpAny_pure (wpAny_bind ?_)))
  refine wpAny_nsSet1 (s := { s with toks := s.toks + 1 }) I.ns fun h' hn2 hs2 => ?_
  obtain ⟨oD, esD, epD, hoD, hdD, hcD⟩ := hn2.count (PySem.Within.cons name v hw)
  refine wpAny_bind (wpAny_lookBehind hoD (by rw [hdD]; exact pastItsLine_dict (Nat.le_trans hcD (by rw [List.length_cons]; omega))) ?_)
  exact wpAny_pure (h _ ⟨(hs2.2 _ (Ne.symm I.ne)).trans I.obj, hn2, I.ne⟩ hs2)

/-- C(..): the dict at the heap's end, the instance behind it; then its __init__ -/
theorem make_map {R : Result → Shared → Prop} {vs : List Value} {kw : List (Str × Value)} (X : K.In s.heap) (hm : PySem.W.makesIn K C = true)
    (hi : PySem.W.findIn K (.ref C) "__init__" = some (some (.ref f))) (hf : PySem.W.typeIn K (.ref f) = some (.type "function"))
    (h : codeAny (model prog w) (A.under (.builtin "type.__call__" ⟨.ref C :: vs, kw⟩)) (.call (.ref f) ⟨.ref (s.heap.objs.size + 1) :: vs, kw⟩) (PySem.W.InitBack (s.heap.objs.size + 1) R)
      { s with heap := (s.heap.push PySem.W.emptyDict).push (PySem.W.instObj C s.heap.objs.size) }) :
    codeAny (model prog w) A (.call (.ref C) ⟨vs, kw⟩) R s := by
  obtain ⟨hh, g, d, t, os⟩ := s
  exact PySem.W.make_core (PySem.W.makes_of X hm) (PySem.W.looks_findIn X hi) (fun self => PySem.W.bind_fn X self hf) (.inl rfl) h
end

/-! ### the attributes as a list of pairs -/
def putF (f : Str) (v : V) : List (Str × V) → List (Str × V)
  | [] => [(f, v)]
  | (g, x) :: r => if g = f then (g, v) :: r else (g, x) :: putF f v r
theorem lookup_putF (f g : Str) (v : V) : ∀ fs : List (Str × V), (putF f v fs).lookup g = if g = f then some v else fs.lookup g
  | [] => by
    show List.lookup g [(f, v)] = _
    by_cases h : g = f
    · have hb : (g == f) = true := beq_iff_eq.mpr h
      simp only [List.lookup, hb, if_pos h]
    · have hb : (g == f) = false := beq_eq_false_iff_ne.mpr h
      simp only [List.lookup, hb, if_neg h]
  | (k, x) :: r => by
    have ih := lookup_putF f g v r
    rw [show putF f v ((k, x) :: r) = (if k = f then (k, v) :: r else (k, x) :: putF f v r) from rfl]
    by_cases hk : k = f
    · rw [if_pos hk]
      by_cases h : g = k
      · have hb : (g == k) = true := beq_iff_eq.mpr h
        simp only [List.lookup, hb, if_pos (h.trans hk)]
      · have hb : (g == k) = false := beq_eq_false_iff_ne.mpr h
        simp only [List.lookup, hb, if_neg (fun e : g = f => h (e.trans hk.symm))]
    · rw [if_neg hk]
      by_cases h : g = k
      · have hb : (g == k) = true := beq_iff_eq.mpr h
        simp only [List.lookup, hb, if_neg (fun e : g = f => hk (h.symm.trans e))]
      · have hb : (g == k) = false := beq_eq_false_iff_ne.mpr h
        simp only [List.lookup, hb]
        exact ih
theorem keys_putF (f : Str) (v : V) : ∀ fs : List (Str × V), f ∈ (putF f v fs).map (·.1) ∧ ∀ g, g ∈ fs.map (·.1) → g ∈ (putF f v fs).map (·.1)
  | [] => ⟨by simp [putF], fun g h => by simp at h⟩
  | (k, x) :: r => by
    obtain ⟨i1, i2⟩ := keys_putF f v r
    rw [show putF f v ((k, x) :: r) = (if k = f then (k, v) :: r else (k, x) :: putF f v r) from rfl]
    by_cases hk : k = f
    · rw [if_pos hk]
      subst hk
      exact ⟨by simp, fun g h => by simpa using h⟩
    · rw [if_neg hk]
      refine ⟨?_, fun g h => ?_⟩
      · rw [List.map_cons]
        exact List.mem_cons_of_mem _ i1
      · rw [List.map_cons] at h ⊢
        rcases List.mem_cons.mp h with e | e
        · exact List.mem_cons.mpr (.inl e)
        · exact List.mem_cons_of_mem _ (i2 g e)
theorem length_putF (f : Str) (v : V) : ∀ fs : List (Str × V), (putF f v fs).length ≤ fs.length + 1
  | [] => by simp [putF]
  | (k, x) :: r => by
    have ih := length_putF f v r
    rw [show putF f v ((k, x) :: r) = (if k = f then (k, v) :: r else (k, x) :: putF f v r) from rfl]
    by_cases hk : k = f
    · rw [if_pos hk, List.length_cons, List.length_cons]; omega
    · rw [if_neg hk, List.length_cons, List.length_cons]; omega

theorem RelO.some_of {v : V} {o : Option Value} (r : RelO (some v) o) : ∃ u, o = some u ∧ RelV v u := by
  cases o with
  | none => exact (show False from r).elim
  | some u => exact ⟨u, rfl, r⟩
theorem RelO.none_of {o : Option Value} (r : RelO none o) : o = none := by
  cases o with
  | none => rfl
  | some u => exact (show False from r).elim
theorem handed_of {v : V} {u : Value} (r : RelV v u) : PySem.W.handedIn u = true := by
  cases v with
  | non => cases (show u = Value.none from r); rfl
  | bl b => cases (show u = Value.bool b from r); rfl
  | int i => obtain ⟨t, e⟩ := (show ∃ t, u = Value.int i t from r); cases e; rfl
  | str x => obtain ⟨t, e⟩ := (show ∃ t, u = Value.str x t from r); cases e; rfl
  | byt b => obtain ⟨t, e⟩ := (show ∃ t, u = Value.bytes b t from r); cases e; rfl
  | flt b => obtain ⟨t, e⟩ := (show ∃ t, u = Value.float b t from r); cases e; rfl
  | ref a => cases (show u = Value.ref a from r); rfl
  | ty n => cases (show u = Value.type n from r); rfl

section
variable {P : Program} {w : World} {H H' : Hp} {h h' : Heap} {a C dx : Addr} {fs fs' : List (Str × V)}
theorem ins_get (hok : HOk P w H h) (e : H a = some (.ins C dx fs)) : ∃ mA, ObjM h a dx C mA ∧ (∀ f, RelO (fs.lookup f) (mA f)) ∧ PySem.Within mA (fs.map (·.1)) ∧ fs.length ≤ 1000 ∧ H dx = some (.own a) := by
  obtain ⟨d, z, ne, ob, mA, n, r, q⟩ := (show ObjOk P w H h a (.ins C dx fs) from hok a _ e)
  exact ⟨mA, ⟨ob, n, ne⟩, r, q, z, d⟩
end

/-! ### what of the text a class must have -/
structure Cls (K : PySem.W.Frag) (C : Addr) : Prop where
  pg : PySem.W.plainGet K C Str.empty = true
  hd : PySem.W.hasDictIn K C = true
  po : PySem.W.plainOver K C = true
  sa : PySem.W.findIn K (.ref C) "__setattr__" = some (some (.builtin "object.__setattr__"))
theorem Cls.get {K : PySem.W.Frag} {C : Addr} (c : Cls K C) (f : Str) : PySem.W.plainGet K C f = true := c.pg
/-- no class of it has the name -/
def NoAttr (K : PySem.W.Frag) (C : Addr) (f : Str) : Prop := PySem.W.findIn K (.ref C) f = some none
theorem NoAttr.taker {K : PySem.W.Frag} {C : Addr} {f : Str} (n : NoAttr K C f) : PySem.W.takerIn K C f = some none := by
  unfold PySem.W.takerIn
  rw [show PySem.W.findIn K (.ref C) f = some none from n]
  rfl
/-- a method: a plain def of the class or of one above it -/
structure Meth (K : PySem.W.Frag) (C : Addr) (m : Str) (f : Addr) : Prop where
  at_ : PySem.W.findIn K (.ref C) m = some (some (.ref f))
  fn : PySem.W.isFn K (.ref f) = true
  kp : PySem.W.keepIn K (.ref f) = true

section
variable {X : Cx} {pins : List (Addr × Obj)} {σ : St} {H : Hp} {s : Shared} {a C dx : Addr} {fs : List (Str × V)} {f : Str} {v : V} {A : Around} {E : Value → Shared → Prop}

theorem getattr_ok {b : Bool} {Q : Value → Shared → Prop} (I : Inv X pins σ H s) (e : H a = some (.ins C dx fs)) (c : Cls X.K C) (n : NoAttr X.K C f) (l : fs.lookup f = some v)
    (h : ∀ u s', Inv X pins σ H s' → RelV v u → Q u s') : wpAny (model X.prog X.w) A (getAttr (.ref a) f b) Q E s := by
  obtain ⟨mA, O, r, _, _, _⟩ := ins_get I.hok e
  obtain ⟨u, hu, ru⟩ := RelO.some_of (v := v) (o := mA f) (by rw [← l]; exact r f)
  exact get_map I.kIn O (c.get f) c.hd n hu (handed_of ru) (h u _ (I.tok _) ru)

theorem getmeth_ok {m : Str} {g : Addr} {pl : Sem Bool} {Q : Value × List Value → Shared → Prop} (I : Inv X pins σ H s) (e : H a = some (.ins C dx fs)) (c : Cls X.K C) (k : Meth X.K C m g) (l : fs.lookup m = none)
    (h : Q (.ref g, [.ref a]) s) : wpAny (model X.prog X.w) A (getMethod (.ref a) m pl) Q E s := by
  obtain ⟨mA, O, r, _, _, _⟩ := ins_get I.hok e
  have hn : mA m = none := RelO.none_of (by rw [← l]; exact r m)
  exact get_meth I.kIn O (c.get m) k.at_ k.fn hn h

theorem setattr_ok {y : V} {u : Value} {Q : Unit → Shared → Prop} (I : Inv X pins σ H s) (e : H a = some (.ins C dx fs)) (c : Cls X.K C) (n : NoAttr X.K C f) (hl : fs.length < 1000) (ry : RelV y u)
    (h : ∀ s', Inv X pins σ (upd H a (.ins C dx (putF f y fs))) s' → Q () s') : wpAny (model X.prog X.w) A (setAttr (.ref a) f u) Q E s := by
  obtain ⟨mA, O, r, wi, _, ho⟩ := ins_get I.hok e
  have hz : (fs.map (·.1)).length ≤ sizeLine := by rw [List.length_map, sizeLine_eq]; omega
  refine set_map I.kIn O c.sa c.po n.taker c.hd wi hz fun h' O' sb => h _ ?_
  have hd : ∃ o, h'.get? dx = some o := let ⟨o, _, _, e', _⟩ := O'.ns; ⟨o, e'⟩
  refine I.write (x := a) (e := dx) (by rw [e]; exact True.intro) (.inr ho) (fun b q hb z => (sb.2 b hb).trans z) hd ?_
  refine ⟨by rw [upd_ne O.ne]; exact ho, ?_, O.ne, O'.obj, _, O'.ns, fun g => ?_, fun g hg => ?_⟩
  · have := length_putF f y fs; omega
  · show RelO ((putF f y fs).lookup g) (if g = f then some u else mA g)
    rw [lookup_putF]
    by_cases q : g = f
    · rw [if_pos q, if_pos q]; exact ry
    · rw [if_neg q, if_neg q]; exact r g
  · by_cases q : g = f
    · rw [q]; exact (keys_putF f y fs).1
    · refine (keys_putF f y fs).2 g (wi g fun z => hg ?_)
      show (if g = f then some u else mA g) = none
      rw [if_neg q]; exact z

/-- a new instance, tracked, without attributes -/
theorem Inv.made (I : Inv X pins σ H s) : Inv X pins σ (upd (upd H s.heap.objs.size (.own (s.heap.objs.size + 1))) (s.heap.objs.size + 1) (.ins C s.heap.objs.size []))
    { s with heap := (s.heap.push PySem.W.emptyDict).push (PySem.W.instObj C s.heap.objs.size) } := by
  have e1 : (s.heap.push PySem.W.emptyDict).get? s.heap.objs.size = some PySem.W.emptyDict := Heap.get?_push_size s.heap rfl
  have e2 : ((s.heap.push PySem.W.emptyDict).push (PySem.W.instObj C s.heap.objs.size)).get? (s.heap.objs.size + 1) = some (PySem.W.instObj C s.heap.objs.size) := by
    have := Heap.get?_push_size (s.heap.push PySem.W.emptyDict) (o := PySem.W.instObj C s.heap.objs.size) rfl
    rwa [Heap.size_push] at this
  have e3 : (s.heap.push PySem.W.emptyDict).Ns s.heap.objs.size (fun _ => none) := ⟨PySem.W.emptyDict, #[], _, e1, rfl, (fun e he => absurd he (by simp)), fun _ => rfl⟩
  have I1 := I.laid (a := s.heap.objs.size) (o := .own (s.heap.objs.size + 1)) (h' := s.heap.push PySem.W.emptyDict) (t' := s.toks) (fun b u q => Heap.get?_push_of_some _ q) (Nat.le_refl _) ⟨_, e1⟩
  refine I1.laid (a := s.heap.objs.size + 1) (o := .ins C s.heap.objs.size []) (t' := s.toks) (fun b u q => Heap.get?_push_of_some _ q) (Nat.le_of_eq (Heap.size_push _ _)) ?_
  have ne : s.heap.objs.size ≠ s.heap.objs.size + 1 := Nat.ne_of_lt (Nat.lt_succ_self _)
  refine ⟨by rw [upd_ne ne, upd_same], Nat.zero_le _, ne, e2, fun _ => none, (Heap.Ns1.of_empty e3).at fun o q => Heap.get?_push_of_some _ q, fun _ => True.intro, fun y hy => absurd rfl hy⟩

/-- e.f where nothing but the object is asked: through attributeBase (super) and the last hold -/
theorem attr_of {prog : Program} {w : World} {env : Env} {e : Expr} {f : Str} {pos : Pos} {s : Shared} {Q : Value → Shared → Prop} (hb : attributeBase e f env (eval e env) = eval e env)
    (h : wpAny (model prog w) A (eval e env) (fun o s₁ => wpAny (model prog w) A (getAttr o f true) Q E s₁) E s) : wpAny (model prog w) A (eval (.Attribute e f pos) env) Q E s :=
  Attribute_any_ h (by rw [arm_eval_Attribute, hb])
end

/-! ### readings and rules -/
/-- e.f, an attribute of the instance -/
def tFld (K : PySem.W.Frag) (ta : TE) (f : Str) : TE := fun σ H Q => ta σ H fun x H1 => ∃ a C dx fs v, x = .ref a ∧ H1 a = some (.ins C dx fs) ∧ Cls K C ∧ NoAttr K C f ∧ fs.lookup f = some v ∧ Q v H1
/-- e.f = value -/
def sFld (K : PySem.W.Frag) (ta tv : TE) (f : Str) : TS := fun D σ H => tv σ H fun y H1 => ta σ H1 fun x H2 => ∃ a C dx fs, x = .ref a ∧ H2 a = some (.ins C dx fs) ∧ Cls K C ∧ NoAttr K C f ∧ fs.length < 1000 ∧
  D.nx σ (upd H2 a (.ins C dx (putF f y fs)))
section
variable {X : Cx} {o e value : Expr} {f : Str} {pos pos' tpos : Pos} {ta tv : TE}
theorem pe_fld (he : PE X e ta) (hb : attributeBase e f X.env (eval e X.env) = eval e X.env) : PE X (.Attribute e f pos) (tFld X.K ta f) := by
  intro pins s σ H Q I h
  refine attr_of hb (thn (he pins s σ H _ I h) fun u s1 ⟨x, H1, I1, rx, a, C, dx, fs, v, ex, ea, c, n, l, q⟩ => ?_)
  subst ex
  obtain rfl : u = Value.ref a := rx
  exact getattr_ok I1 ea c n l fun u' s2 I2 ru => ⟨v, H1, I2, ru, q⟩
theorem ps_fld (ha : PE X o ta) (hv : PE X value tv) (hs : swapsWith value (some (.Attribute o f pos')) pos.line X.env = pure false) : PS X (.Assign [.Attribute o f pos'] value pos) (sFld X.K ta tv f) := by
  intro pins s σ H D I h
  refine plainObj_wpAny_Assign_Attribute (thn (hv pins s σ H _ I h) fun u s1 ⟨y, H1, I1, ry, q⟩ => thn (ha pins s1 σ H1 _ I1 q) fun ov s2 ⟨x, H2, I2, rx, a, C, dx, fs, ex, ea, c, n, l, q2⟩ => ?_) hs
  subst ex
  obtain rfl : ov = Value.ref a := rx
  exact setattr_ok I2 ea c n l ry fun s3 I3 => ⟨σ, _, I3, q2⟩
/-- what is between an instance and its method: the tree of a method call -/
theorem methcall_of {pl : Sem Bool} {m : Str} {apos : Pos} {args : List Expr} {pins : List (Addr × Obj)} {s : Shared} {σ : St} {H : Hp} {Q : Value → Shared → Prop} {te : TE} (he : PE X e te) (I : Inv X pins σ H s)
    (h : te σ H fun x H1 => ∃ a C dx fs g, x = .ref a ∧ H1 a = some (.ins C dx fs) ∧ Cls X.K C ∧ Meth X.K C m g ∧ fs.lookup m = none ∧
      ∀ s1, Inv X pins σ H1 s1 → wpAny (model X.prog X.w) X.A (callWith pos (.ref g) [.ref a] (backTo pos (starEach args X.env)) (backToKw pos (keywordEach [] X.env))) Q X.xe s1)
    (ht : eval (.Call (.Attribute e m apos) args [] pos) X.env = (do
      let ov ← eval e X.env
      standAt apos.atName
      let (f, first) ← holding [ov] (getMethod ov m pl)
      callWith pos f first (backTo pos (starEach args X.env)) (backToKw pos (keywordEach [] X.env)))) :
    wpAny (model X.prog X.w) X.A (eval (.Call (.Attribute e m apos) args [] pos) X.env) Q X.xe s := by
  refine PySem.W.methodCall_KW (pl := pl) (thn (he pins s σ H _ I h) fun u s1 ⟨x, H1, I1, rx, a, C, dx, fs, g, ex, ea, c, k, l, q⟩ => ?_) ht
  subst ex
  obtain rfl : u = Value.ref a := rx
  exact getmeth_ok I1 ea c k l (q s1 I1)
end

/-! ### isinstance -/
section
variable {X : Cx} {pins : List (Addr × Obj)} {σ : St} {H : Hp} {s : Shared} {A : Around} {E : Value → Shared → Prop} {Q : Value → Shared → Prop} {c : Value} {b : Bool}
end
end L2

namespace L2
open PySem PySem.Spec PyProof.Rows

/-! ### room -/
structure Room (k : Nat) (A : Around) : Prop where
  hd : A.handled = none
  dp : A.depth + 3 * k + 5 < recursionLimit
  un : A.units + 16 * k + 200 < cLine
theorem Room.mono {j k : Nat} {A : Around} (r : Room k A) (h : j ≤ k) : Room j A := ⟨r.hd, by have := r.dp; omega, by have := r.un; omega⟩
theorem Room.deeper {k : Nat} {A : Around} (r : Room (k + 1) A) (env : Env) : Room k (A.deeper env) :=
  ⟨r.hd, by have := r.dp; show A.depth + 1 + 3 * k + 5 < _; omega, by have := r.un; show A.units + 3 + 16 * k + 200 < _; omega⟩
theorem Room.in1 {k : Nat} {A : Around} (r : Room (k + 1) A) : Room k A.in1 :=
  ⟨r.hd, by have := r.dp; show A.depth + 3 * k + 5 < _; omega, by have := r.un; show A.units + 1 + 16 * k + 200 < _; omega⟩
theorem make_depth {A : Around} {C : Addr} {us : List Value} {kw : List (Str × Value)} : (A.under (.builtin "type.__call__" ⟨.ref C :: us, kw⟩)).depth = A.depth + 1 := by
  first | rfl | simp [Around.under, Code.weight, Code.isCreation, Code.isGuard, Code.isCaller, Code.frames, Code.isFrame, guardIds]
theorem make_units {A : Around} {C : Addr} {us : List Value} {kw : List (Str × Value)} : (A.under (.builtin "type.__call__" ⟨.ref C :: us, kw⟩)).units = A.units + 1 := by
  first | rfl | simp [Around.under, Code.cUnits, Code.frames, Code.isFrame]
theorem Room.make {k : Nat} {A : Around} (r : Room (k + 1) A) (C : Addr) (us : List Value) (kw : List (Str × Value)) : Room k (A.under (.builtin "type.__call__" ⟨.ref C :: us, kw⟩)) :=
  ⟨r.hd, by have := r.dp; rw [make_depth]; omega, by have := r.un; rw [make_units]; omega⟩
theorem Room.depth {k : Nat} {A : Around} (r : Room k A) : A.depth < recursionLimit := by have := r.dp; omega
theorem Room.units {k : Nat} {A : Around} (r : Room k A) : A.units + 64 < cLine := by have := r.un; omega
/-! ### argument lists and displays -/
def tNil : TA := fun _ H Q => Q [] H
def tCons (ta : TE) (tr : TA) : TA := fun σ H Q => ta σ H fun x H1 => tr σ H1 fun xs H2 => Q (x :: xs) H2
section
variable {X : Cx} {e : Expr} {es : List Expr} {te : TE} {t : TA} {pos : Pos}
theorem pa_nil : PA X [] tNil := fun _ _ _ _ H Q I h => Calls.spliced_nil ⟨[], H, I, .nil, h⟩
theorem pa_cons (ha : PE X e te) (hr : PA X es t) (hs : starEach (e :: es) X.env = (false, eval e X.env) :: starEach es X.env := by rfl) : PA X (e :: es) (tCons te t) := by
  intro pos pins s σ H Q I h
  rw [hs]
  show wpAny _ _ (spliced ((false, eval e X.env) :: backTo pos (starEach es X.env))) _ _ s
  refine Calls.spliced_cons (thn (ha pins s σ H _ I h) fun u s1 ⟨x, H1, I1, r1, q1⟩ => ?_)
  exact thn (hr pos pins s1 σ H1 _ I1 q1) fun us s2 ⟨xs, H2, I2, r2, q2⟩ => ⟨x :: xs, H2, I2, .cons r1 r2, q2⟩

/-- a tuple, a list of written items -/
def tTup (t : TA) : TE := fun σ H Q => t σ H fun xs H1 => xs.length ≤ sizeLine ∧ ∀ p, H1 p = none → Q (.ref p) (upd H1 p (.tup xs))
def tLst (t : TA) : TE := fun σ H Q => t σ H fun xs H1 => xs.length ≤ sizeLine ∧ ∀ p, H1 p = none → Q (.ref p) (upd H1 p (.lst xs))
theorem pe_tup {x1} (h : PA X es t) : PE X (.Tuple es x1 pos) (tTup t) := by
  intro pins s σ H Q I hq
  refine wpAny_Tuple_spliced (thn (h pos pins s σ H _ I hq) fun us s1 ⟨xs, H1, I1, r, z, q⟩ => ⟨by rw [← r.length]; exact z, ?_⟩)
  have hf : H1 s1.heap.objs.size = none := I1.hok.fresh (Nat.le_refl _)
  refine ⟨.ref s1.heap.objs.size, upd H1 s1.heap.objs.size (.tup xs), I1.laid (t' := s1.toks) (fun b u e => Heap.get?_push_of_some _ e) (Nat.le_refl _) ?_, rfl, q _ hf⟩
  exact ⟨z, us, r, ⟨_, Heap.get?_push_size _ rfl, rfl, _, rfl⟩⟩
theorem pe_lst (h : PA X es t) : PE X (.List es pos) (tLst t) := by
  intro pins s σ H Q I hq
  refine wpAny_List_spliced (thn (h pos pins s σ H _ I hq) fun us s1 ⟨xs, H1, I1, r, z, q⟩ => ⟨by rw [← r.length]; exact z, ?_⟩)
  have hf : H1 s1.heap.objs.size = none := I1.hok.fresh (Nat.le_refl _)
  refine ⟨.ref s1.heap.objs.size, upd H1 s1.heap.objs.size (.lst xs), I1.laid (t' := s1.toks) (fun b u e => Heap.get?_push_of_some _ e) (Nat.le_refl _) ?_, rfl, q _ hf⟩
  exact ⟨z, us, 0, r, Heap.get?_push_size _ rfl⟩
end

/-! ### what a def promises -/
/-- a def's promise: the bound arguments in the parameters' order, the heap, the wanted end, the wanted exception -/
abbrev Sp := List V → Hp → VK → XK → Prop
/-- how an exception lies behind a call (file 08 gives it): the callers' frames, abstract heap and state ahead of the call, the wish, the exception, the state -/
abbrev CXT := List Env → Hp → Shared → XK → Value → Shared → Prop

/-- the state at a call -/
structure Env0 (P : Program) (w : World) (K : PySem.W.Frag) (mg : Str → Option Value) (base : Heap) (A : Around) (outer : List Env) (s : Shared) (H : Hp) : Prop where
  frames : A.frames = some outer
  mod : Mod K mg base
  bs : ∀ b o, base.get? b = some o → s.heap.get? b = some o ∧ H b = none
  bsz : base.objs.size ≤ s.heap.objs.size
  funs : s.heap.FunFrames base outer
  frf : ∀ b ∈ frs outer, H b = none
  hok : HOk P w H s.heap
  bare : AllBare s.gens
/-- a call's end -/
def CE (outer : List Env) (P : Program) (w : World) (H : Hp) (s : Shared) (Q : VK) (u : Value) (s' : Shared) : Prop :=
  ∃ v H', s'.os = s.os ∧ AllBare s'.gens ∧ Un (frs outer) [] H H' s.heap s'.heap ∧ HOk P w H' s'.heap ∧ RelV v u ∧ Q v H'
def CR (CX : CXT) (outer : List Env) (P : Program) (w : World) (H : Hp) (s : Shared) (Q : VK) (E : XK) (r : Result) (s' : Shared) : Prop :=
  match r with
  | .ok (.ret u) => CE outer P w H s Q u s'
  | .ok _ => False
  | .error e => CX outer H s E e s'
structure FnOk (P : Program) (w : World) (K : PySem.W.Frag) (mg : Str → Option Value) (base : Heap) (CX : CXT) (k : Nat) (f : Addr) (fd : FuncData) (ps : List Str) (sp : Sp) : Prop where
  len : ∀ vs H Q E, sp vs H Q E → vs.length = ps.length
  run : ∀ (A : Around) (outer : List Env) (s : Shared) (H : Hp) (args : Args) (us : List Value) (vs : List V) (Q : VK) (E : XK), Room k A → Env0 P w K mg base A outer s H → BindsTo s fd args (ps.zip us) → Vals vs us → sp vs H Q E →
    codeAny (model P w) A (.call (.ref f) args) (CR CX outer P w H s Q E) s
theorem FnOk.mono {P : Program} {w : World} {K : PySem.W.Frag} {mg : Str → Option Value} {base : Heap} {CX : CXT} {j k : Nat} {f : Addr} {fd : FuncData} {ps : List Str} {sp : Sp} (F : FnOk P w K mg base CX j f fd ps sp) (h : j ≤ k) :
    FnOk P w K mg base CX k f fd ps sp := ⟨F.len, fun A outer s H args us vs Q E hr => F.run A outer s H args us vs Q E (hr.mono h)⟩
theorem Env0.make {P : Program} {w : World} {K : PySem.W.Frag} {mg : Str → Option Value} {base : Heap} {A : Around} {outer : List Env} {s : Shared} {H : Hp} (e : Env0 P w K mg base A outer s H) (C : Addr) (us : List Value) (kw : List (Str × Value)) :
    Env0 P w K mg base (A.under (.builtin "type.__call__" ⟨.ref C :: us, kw⟩)) outer s H := ⟨by first | exact e.frames | (simpa [Around.under, Code.envs, Code.isFrame, pushEnvs] using e.frames), e.mod, e.bs, e.bsz, e.funs, e.frf, e.hok, e.bare⟩
theorem Env0.in1 {P : Program} {w : World} {K : PySem.W.Frag} {mg : Str → Option Value} {base : Heap} {A : Around} {outer : List Env} {s : Shared} {H : Hp} (e : Env0 P w K mg base A outer s H) :
    Env0 P w K mg base A.in1 outer s H := ⟨e.frames, e.mod, e.bs, e.bsz, e.funs, e.frf, e.hok, e.bare⟩

section
variable {X : Cx} {pins : List (Addr × Obj)} {σ : St} {H : Hp} {s s' : Shared}
/-- from a body: what a callee wants -/
theorem Inv.env0 (I : Inv X pins σ H s) : Env0 X.prog X.w X.K X.mg X.base X.A X.stack s H :=
  ⟨I.ok.frames, I.ok.mod, I.bs, Nat.le_trans I.ok.bsz I.sz, I.stack, I.stkFree, I.hok, I.bare⟩
/-- behind a call -/
theorem Inv.after {Q : VK} {u : Value} (I : Inv X pins σ H s) (h : CE X.stack X.prog X.w H s Q u s') : EP X pins σ Q u s' := by
  obtain ⟨v, H', os, bare, un, hok, r, q⟩ := h
  obtain ⟨hh, g, d, t, os'⟩ := s'
  obtain rfl : os' = s.os := os
  exact ⟨v, H', I.call (h' := hh) (g' := g) (d' := d) (t' := t) (ch := []) un hok bare (fun b z => absurd z (by simp)), r, q⟩
end

/-! ### calls -/
/-- f(..): the written arguments, then the defaults dvs; E: what is wanted of an exception -/
def tCall (sp : Sp) (dvs : List V) (E : XK) (t : TA) : TE := fun σ H Q => t σ H fun vs H1 => sp (vs ++ dvs) H1 Q E
/-- o.m(..) of an instance of the class at C -/
def tMeth (C : Addr) (m : Str) (sp : Sp) (dvs : List V) (E : XK) (ta : TE) (t : TA) : TE := fun σ H Q => ta σ H fun x H1 => ∃ a dx fs, x = .ref a ∧ H1 a = some (.ins C dx fs) ∧ fs.lookup m = none ∧
  t σ H1 fun vs H2 => sp (x :: (vs ++ dvs)) H2 Q E
/-- C(..): a new instance and its dict, then __init__ -/
def tMake (C : Addr) (sp : Sp) (dvs : List V) (E : XK) (t : TA) : TE := fun σ H Q => t σ H fun vs H1 => ∀ x dx, H1 x = none → H1 dx = none → dx ≠ x →
  sp (.ref x :: (vs ++ dvs)) (upd (upd H1 dx (.own x)) x (.ins C dx [])) (fun v H2 => v = .non ∧ Q (.ref x) H2) E

/-- how the parameters are bound: us the positional arguments, kw the keywords' values by name, ds the defaults that fill up -/
def Binds (K : PySem.W.Frag) (fd : FuncData) (ps : List Str) (ds : List Value) : Prop :=
  ∀ (s : Shared) (us : List Value), K.In s.heap → (us ++ ds).length = ps.length → BindsTo s fd ⟨us, []⟩ (ps.zip (us ++ ds))
/-- every parameter is given -/
theorem Binds.all {K : PySem.W.Frag} {fd : FuncData} {ps : List Str} (h : ∀ us : List Value, us.length = ps.length → bindArgs fd ⟨us, []⟩ = pure (ps.zip us)) : Binds K fd ps [] := fun s us _ hl => by
  rw [List.append_nil] at hl ⊢
  exact .of_eq (h us hl)

/-- an exception of a callee reaches what this body wants of exceptions -/
def Passes (CX : CXT) (X : Cx) (E : XK) : Prop := ∀ (pins : List (Addr × Obj)) (σ : St) (H : Hp) (s : Shared) (e : Value) (s' : Shared), Inv X pins σ H s → CX X.stack H s E e s' → X.xe e s'

section
variable {X : Cx} {CX : CXT} {k : Nat} {f C : Addr} {fd : FuncData} {ps : List Str} {sp : Sp} {dvs : List V} {ds : List Value} {E : XK} {x m : Str} {p pos apos : Pos} {e o : Expr} {es : List Expr} {ta : TE} {t : TA}

/-- the callee runs -/
theorem run_fn {pins : List (Addr × Obj)} {σ : St} {H : Hp} {s : Shared} {Q : VK} {us : List Value} {vs : List V} (F : FnOk X.prog X.w X.K X.mg X.base CX k f fd ps sp) (hr : Room k X.A) (hb : Binds X.K fd ps ds) (hd : Vals dvs ds) (hx : Passes CX X E)
    (I : Inv X pins σ H s) (r : Vals vs us) (h : sp (vs ++ dvs) H Q E) : wpAny (model X.prog X.w) X.A (call (.ref f) us) (EP X pins σ Q) X.xe s := by
  have r2 : Vals (vs ++ dvs) (us ++ ds) := r.append hd
  have hl : (us ++ ds).length = ps.length := by rw [← r2.length]; exact F.len _ _ _ _ h
  refine wpAny_call (codeAny_mono (F.run X.A X.stack s H ⟨us, []⟩ (us ++ ds) (vs ++ dvs) Q E hr I.env0 (hb s us I.kIn hl) r2 h) fun r s' hq => ?_)
  cases r with
  | error e => exact hx pins σ H s e s' I hq
  | ok fl =>
    cases fl with
    | ret u => exact I.after hq
    | next => exact False.elim hq
    | brk => exact False.elim hq
    | cont => exact False.elim hq

theorem pe_call (F : FnOk X.prog X.w X.K X.mg X.base CX k f fd ps sp) (hr : Room k X.A) (hg : Gl X x) (hm : X.mg x = some (.ref f)) (hk : PySem.W.keepIn X.K (.ref f) = true) (hb : Binds X.K fd ps ds) (hd : Vals dvs ds) (hx : Passes CX X E)
    (ha : PA X (e :: es) t) (hdb : (x == ("__debug__" : Str)) = false := by decide) (he : starEach (e :: es) X.env = (false, eval e X.env) :: starEach es X.env := by rfl) (hpl : (backTo pos (starEach es X.env)).any (·.1) = false := by rfl) :
    PE X (.Call (.Name x p) (e :: es) [] pos) (tCall sp dvs E t) := by
  intro pins s σ H Q I h
  refine wpAny_Call_Name_kw (ld_glob I hg hm ?_ hdb)
  refine PySem.W.callWith_K (h₀ := X.base) I.ok.mod.kin hk (thn (ha pos pins s σ H _ I h) fun us s1 ⟨vs, H1, I1, r, q⟩ => ⟨I1.kIn, ?_⟩) he hpl
  exact run_fn F hr hb hd hx I1 r q
/-- o.m(e, ..) -/
theorem pe_meth {pl : Sem Bool} (he : PE X o ta) (c : Cls X.K C) (hm : Meth X.K C m f) (F : FnOk X.prog X.w X.K X.mg X.base CX k f fd ps sp) (hr : Room k X.A) (hb : Binds X.K fd ps ds) (hd : Vals dvs ds) (hx : Passes CX X E) (ha : PA X (e :: es) t)
    (hst : starEach (e :: es) X.env = (false, eval e X.env) :: starEach es X.env := by rfl) (hpl : (backTo pos (starEach es X.env)).any (·.1) = false := by rfl)
    (ht : eval (.Call (.Attribute o m apos) (e :: es) [] pos) X.env = (do
      let ov ← eval o X.env
      standAt apos.atName
      let (f, first) ← holding [ov] (getMethod ov m pl)
      callWith pos f first (backTo pos (starEach (e :: es) X.env)) (backToKw pos (keywordEach [] X.env))) := by rfl) :
    PE X (.Call (.Attribute o m apos) (e :: es) [] pos) (tMeth C m sp dvs E ta t) := by
  intro pins s σ H Q I h
  refine PySem.W.methodCall_KW (pl := pl) (thn (he pins s σ H _ I h) fun u s1 ⟨x, H1, I1, rx, a, dx, fs, ex, ea, l, q⟩ => ?_) ht
  subst ex
  obtain rfl : u = Value.ref a := rx
  refine getmeth_ok I1 ea c hm l ?_
  refine PySem.W.callWith_K (first := [.ref a]) (h₀ := X.base) I.ok.mod.kin hm.kp (thn (ha pos pins s1 σ H1 _ I1 q) fun us s2 ⟨vs, H2, I2, r, q2⟩ => ⟨I2.kIn, ?_⟩) hst hpl
  exact run_fn (us := .ref a :: us) (vs := .ref a :: vs) F hr hb hd hx I2 (.cons rfl r) q2
/-- o.m() -/
theorem pe_meth0 {pl : Sem Bool} (he : PE X o ta) (c : Cls X.K C) (hm : Meth X.K C m f) (F : FnOk X.prog X.w X.K X.mg X.base CX k f fd ps sp) (hr : Room k X.A) (hb : Binds X.K fd ps ds) (hd : Vals dvs ds) (hx : Passes CX X E)
    (ht : eval (.Call (.Attribute o m apos) [] [] pos) X.env = (do
      let ov ← eval o X.env
      standAt apos.atName
      let (f, first) ← holding [ov] (getMethod ov m pl)
      callWith pos f first (backTo pos (starEach [] X.env)) (backToKw pos (keywordEach [] X.env))) := by rfl) :
    PE X (.Call (.Attribute o m apos) [] [] pos) (tMeth C m sp dvs E ta tNil) := by
  intro pins s σ H Q I h
  refine PySem.W.methodCall_KW (pl := pl) (thn (he pins s σ H _ I h) fun u s1 ⟨x, H1, I1, rx, a, dx, fs, ex, ea, l, q⟩ => ?_) ht
  subst ex
  obtain rfl : u = Value.ref a := rx
  refine getmeth_ok I1 ea c hm l ?_
  exact PySem.W.callWith_K0 (first := [.ref a]) I1.kIn hm.kp (run_fn (us := [.ref a]) (vs := [.ref a]) F hr hb hd hx I1 (.cons rfl .nil) q)

/-- what a class must have to be made -/
structure Mk (K : PySem.W.Frag) (C f : Addr) : Prop where
  makes : PySem.W.makesIn K C = true
  init : PySem.W.findIn K (.ref C) "__init__" = some (some (.ref f))
  fn : PySem.W.isFn K (.ref f) = true
  kp : PySem.W.keepIn K (.ref C) = true

theorem run_make {pins : List (Addr × Obj)} {σ : St} {H : Hp} {s : Shared} {Q : VK} {us : List Value} {vs : List V} (M : Mk X.K C f) (F : FnOk X.prog X.w X.K X.mg X.base CX k f fd ps sp) (hr : Room (k + 1) X.A) (hb : Binds X.K fd ps ds) (hd : Vals dvs ds)
    (hx : Passes CX X E) (I : Inv X pins σ H s) (r : Vals vs us)
    (h : ∀ x dx, H x = none → H dx = none → dx ≠ x → sp (.ref x :: (vs ++ dvs)) (upd (upd H dx (.own x)) x (.ins C dx [])) (fun v H2 => v = .non ∧ Q (.ref x) H2) E) :
    wpAny (model X.prog X.w) X.A (call (.ref C) us) (EP X pins σ Q) X.xe s := by
  have hq := h (s.heap.objs.size + 1) s.heap.objs.size (I.hok.fresh (Nat.le_succ _)) (I.hok.fresh (Nat.le_refl _)) (Nat.ne_of_lt (Nat.lt_succ_self _))
  have I2 := Inv.made (C := C) I
  have r2 : Vals (V.ref (s.heap.objs.size + 1) :: (vs ++ dvs)) (Value.ref (s.heap.objs.size + 1) :: (us ++ ds)) := .cons rfl (r.append hd)
  have hl : (Value.ref (s.heap.objs.size + 1) :: us ++ ds).length = ps.length := by
    have e := r2.length
    rw [F.len _ _ _ _ hq] at e
    exact e.symm
  refine wpAny_call (make_map (f := f) I.kIn M.makes M.init (beq_iff_eq.mp M.fn) (codeAny_mono (F.run _ X.stack _ _ ⟨Value.ref (s.heap.objs.size + 1) :: us, []⟩ (Value.ref (s.heap.objs.size + 1) :: (us ++ ds)) _ _ E (hr.make C us [])
    (I2.env0.make C us []) (hb _ (Value.ref (s.heap.objs.size + 1) :: us) I2.kIn hl) r2 hq) fun r s' hq' => ?_))
  cases r with
  | error e => exact hx pins σ _ _ e s' I2 hq'
  | ok fl =>
    cases fl with
    | ret u =>
      obtain ⟨v, H', I3, rv, ev, q3⟩ := I2.after hq'
      subst ev
      exact ⟨rv, ⟨V.ref (s.heap.objs.size + 1), H', I3, rfl, q3⟩⟩
    | next => exact False.elim hq'
    | brk => exact False.elim hq'
    | cont => exact False.elim hq'
theorem pe_make0 (M : Mk X.K C f) (F : FnOk X.prog X.w X.K X.mg X.base CX k f fd ps sp) (hr : Room (k + 1) X.A) (hg : Gl X x) (hm : X.mg x = some (.ref C)) (hb : Binds X.K fd ps ds) (hd : Vals dvs ds) (hx : Passes CX X E)
    (hdb : (x == ("__debug__" : Str)) = false := by decide) : PE X (.Call (.Name x p) [] [] pos) (tMake C sp dvs E tNil) := by
  intro pins s σ H Q I h
  refine wpAny_Call_Name_kw (ld_glob I hg hm ?_ hdb)
  exact PySem.W.callWith_K0 I.kIn M.kp (run_make (us := []) M F hr hb hd hx I .nil h)
end

/-! ### keywords -/
section
variable {X : Cx} {CX : CXT} {k : Nat} {f C : Addr} {fd : FuncData} {ps ks : List Str} {sp : Sp} {E : XK} {x m : Str} {p pos apos kpos : Pos} {e o : Expr} {es : List Expr} {kws : List Keyword} {te ta : TE} {t tk : TA} {nm : Option Str}
variable {g : List Value → List Value → List Value} {gV : List V → List V → List V}
end

/-! ### a def's body keeps its promise -/
/-- names: the parameters first -/
structure FnScope (N P : List Str) (sc : Scope) : Prop where
  kind : sc.kind = .function
  co : sc.isCoroutine = false
  gen : sc.isGenerator = false
  nd : N.Nodup
  pre : N.take P.length = P
  par : ∀ x ∈ P, sc.names.lookup x = some .local ∨ sc.names.lookup x = some .cell
  nofree : ∀ y ∈ sc.names, y.2 ≠ .free

theorem bindL_out {kindOf : Str → Option NameKind} {x : Str} : ∀ {binds : List (Str × Value)} {m : Str → Option Value}, (∀ v, (x, v) ∉ binds) → bindL kindOf binds m x = m x
  | [], _, _ => rfl
  | (n, v) :: r, m, h => by
    unfold bindL
    rw [bindL_out fun w hw => h w (List.mem_cons_of_mem _ hw)]
    split
    · have : x ≠ n := by rintro rfl; exact h v List.mem_cons_self
      simp [this]
    · rfl
theorem bindC_out {kindOf : Str → Option NameKind} {x : Str} : ∀ {binds : List (Str × Value)} {m : Str → Option Value}, (∀ v, (x, v) ∉ binds) → bindC kindOf binds m x = m x
  | [], _, _ => rfl
  | (n, v) :: r, m, h => by
    unfold bindC
    rw [bindC_out fun w hw => h w (List.mem_cons_of_mem _ hw)]
    split
    · rfl
    · have : x ≠ n := by rintro rfl; exact h v List.mem_cons_self
      simp [this]
theorem bindL_get {kindOf : Str → Option NameKind} {x : Str} {v : Value} : ∀ {P : List Str} {vs : List Value} {i : Nat} {m : Str → Option Value}, P.Nodup → P[i]? = some x → vs[i]? = some v → kindOf x = some .local →
    bindL kindOf (P.zip vs) m x = some v
  | [], _, _, _, _, h, _, _ => by simp at h
  | _ :: _, [], _, _, _, _, h, _ => by simp at h
  | p :: P, w :: vs, 0, m, nd, h1, h2, hk => by
    simp at h1 h2; subst h1; subst h2
    show bindL kindOf ((p, w) :: P.zip vs) m p = _
    unfold bindL
    rw [bindL_out fun v hv => (List.nodup_cons.mp nd).1 (List.of_mem_zip hv).1, if_pos hk]
    simp
  | p :: P, w :: vs, i + 1, m, nd, h1, h2, hk => by
    show bindL kindOf ((p, w) :: P.zip vs) m x = _
    unfold bindL
    exact bindL_get (i := i) (List.nodup_cons.mp nd).2 (by simpa using h1) (by simpa using h2) hk
theorem bindC_get {kindOf : Str → Option NameKind} {x : Str} {v : Value} : ∀ {P : List Str} {vs : List Value} {i : Nat} {m : Str → Option Value}, P.Nodup → P[i]? = some x → vs[i]? = some v → kindOf x ≠ some .local →
    bindC kindOf (P.zip vs) m x = some v
  | [], _, _, _, _, h, _, _ => by simp at h
  | _ :: _, [], _, _, _, _, h, _ => by simp at h
  | p :: P, w :: vs, 0, m, nd, h1, h2, hk => by
    simp at h1 h2; subst h1; subst h2
    show bindC kindOf ((p, w) :: P.zip vs) m p = _
    unfold bindC
    rw [bindC_out fun v hv => (List.nodup_cons.mp nd).1 (List.of_mem_zip hv).1, if_neg hk]
    simp
  | p :: P, w :: vs, i + 1, m, nd, h1, h2, hk => by
    show bindC kindOf ((p, w) :: P.zip vs) m x = _
    unfold bindC
    exact bindC_get (i := i) (List.nodup_cons.mp nd).2 (by simpa using h1) (by simpa using h2) hk

/-- the names' values at the entry -/
def start (N : List Str) (vs : List V) : St := vs.map some ++ List.replicate (N.length - vs.length) none

/-- the context of a def's body, at its entry; an exception leaves the frame, then lies as CX says -/
def cxOf (CX : CXT) (P : Program) (w : World) (K : PySem.W.Frag) (mg : Str → Option Value) (base : Heap) (N : List Str) (qual : Str) (scope : Scope) (f : Addr) (cd : Value) (A : Around) (outer : List Env) (s : Shared) (H : Hp) (E : XK) : Cx where
  prog := P
  w := w
  K := K
  mg := mg
  base := base
  A := A.deeper (envOfC qual scope s.heap.objs.size f cd)
  N := N
  s_0 := s
  H_0 := H
  env := envOfC qual scope s.heap.objs.size f cd
  outer := outer
  stack := envOfC qual scope s.heap.objs.size f cd :: outer
  ex := []
  calm := true
  fn := fun _ => true
  pn := []
  xe := fun e s' => wpAny (model P w) (A.deeper (envOfC qual scope s.heap.objs.size f cd)) (leaving (envOfC qual scope s.heap.objs.size f cd) e) (fun _ s'' => CX outer H s E e s'') (fun e' s'' => CX outer H s E e' s'') s'

theorem cell_has {sc : Scope} {n : Nat} {x : Str} (h : sc.names.lookup x = some .cell) : ∃ c, (cellsFrom n sc.names []).lookup x = some c := by
  have q := PySem.W.cellsFrom_some sc.names n [] (.inl h)
  exact Option.isSome_iff_exists.mp q

theorem inv_start {CX : CXT} {P : Program} {w : World} {K : PySem.W.Frag} {mg : Str → Option Value} {base : Heap} {N ps : List Str} {qual : Str} {scope : Scope} {f : Addr} {cd : Value} {A : Around} {outer : List Env} {s s1 : Shared} {H : Hp} {E : XK} {us : List Value} {vs : List V}
    (S : FnScope N ps scope) (hd : A.handled = none) (e0 : Env0 P w K mg base A outer s H) (hl : vs.length = ps.length) (r : Vals vs us)
    (x : InCallC s s.heap.objs.size (bindL (envOfC qual scope s.heap.objs.size f cd).kindOf (ps.zip us) fun _ => none) (cellsFrom (s.heap.objs.size + 1) scope.names []) (bindC (envOfC qual scope s.heap.objs.size f cd).kindOf (ps.zip us) fun _ => none) s1) :
    Inv (cxOf CX P w K mg base N qual scope f cd A outer s H E) [] (start N vs) H s1 := by
  have hpl : ps.length ≤ N.length := by have := congrArg List.length S.pre; rw [List.length_take] at this; omega
  obtain ⟨h1, tk, rfl, hk⟩ := x.done
  have noA : ∀ b : Addr, b ∉ (cxOf CX P w K mg base N qual scope f cd A outer s H E).ex := fun b z => absurd (show b ∈ ([] : List Addr) from z) (by simp)
  refine ⟨⟨e0.mod, S.kind, rfl, rfl, Nat.le_refl _, fun y z c h1 h2 => ?_, fun y hy => ?_, fun y c _ h => ?_, fun _ => hd, Around.frames_deeper e0.frames, .inr ⟨rfl, rfl⟩, fun b z => absurd z (noA b), e0.bs, e0.bsz, fun b _ _ => noA b, fun b z => absurd z (noA b), e0.funs, e0.frf⟩,
    rfl, e0.bare, Un.kept hk, ⟨_, x.toInCall.ns, fun i y v h1 h2 h3 => ?_⟩, fun y c h => ⟨_, x.cell y c h⟩, e0.hok.fresh (Nat.le_refl _), fun y c h => ?_, fun p hp => absurd (show p ∈ ([] : List (Addr × Obj)) from hp) (by simp), e0.hok.kept hk, ?_⟩
  · exact name_of_addr x.apart (PySem.mem_of_lookup h1) (PySem.mem_of_lookup h2)
  · have hy : scope.names.lookup y = some .cell ∨ scope.names.lookup y = some .free := hy
    rcases hy with hy | hy
    · exact cell_has hy
    · exact absurd rfl (S.nofree _ (PySem.mem_of_lookup hy))
  · exact Nat.le_of_lt (x.above y c (PySem.mem_of_lookup h))
  · have hi : i < vs.length := by
      unfold start at h2
      by_cases hi : i < vs.length
      · exact hi
      · rw [List.getElem?_append_right (by simpa using hi)] at h2
        rw [List.getElem?_replicate] at h2
        split at h2 <;> cases h2
    have ha : vs[i]? = some v := by
      unfold start at h2
      rw [List.getElem?_append_left (by simpa using hi), List.getElem?_map] at h2
      cases e : vs[i]? with
      | none => rw [e] at h2; cases h2
      | some a => rw [e] at h2; cases h2; rfl
    obtain ⟨u, hu, rv⟩ := r.get ha
    have hp : ps[i]? = some y := by
      rw [← S.pre, List.getElem?_take_of_lt (by omega)]; exact h1
    have ndP : ps.Nodup := by rw [← S.pre]; exact S.nd.sublist (List.take_sublist _ _)
    refine ⟨u, rv, ?_⟩
    rcases S.par y (List.mem_of_getElem? hp) with k | k
    · exact .inl ⟨k, bindL_get ndP hp hu k⟩
    · obtain ⟨c, e⟩ := cell_has (n := s.heap.objs.size + 1) k
      refine .inr ⟨.inl k, c, e, ?_⟩
      have q := x.cell y c e
      rw [bindC_get ndP hp hu (by show scope.names.lookup y ≠ _; rw [k]; decide)] at q
      exact q
  · exact e0.hok.fresh (Nat.le_of_lt (x.above y c (PySem.mem_of_lookup h)))
  · unfold start
    show _ = N.length
    rw [List.length_append, List.length_map, List.length_replicate]
    omega

/-- THE RULE: a def (or a method) of the text, by its body. The body's reading t is chosen for each entry; it is run at the parameters' values -/
theorem fn_of {CX : CXT} {P : Program} {w : World} {K : PySem.W.Frag} {mg : Str → Option Value} {base : Heap} {k : Nat} {f : Addr} {name qual : Str} {params : Arguments} {body : List Stmt} {scope : Scope} {dV kV doc pm cdv ct oc : Value} {an od : Option Addr}
    {osl : Array (Option Value)} {N ps : List Str} {sp : Sp} (lk : K.lookup f = some ⟨oc, od, .func (PySem.W.fnOf name qual params body scope dV kV doc pm an cdv ct), osl⟩) (hcd : PySem.W.codeIn K cdv qual = true) (S : FnScope N ps scope)
    (len : ∀ vs H Q E, sp vs H Q E → vs.length = ps.length)
    (hbody : ∀ (A : Around) (outer : List Env) (s : Shared) (H : Hp) (vs : List V) (Q : VK) (E : XK), Room k (A.deeper (envOfC qual scope s.heap.objs.size f cdv)) → sp vs H Q E →
      ∃ t, PSs (cxOf CX P w K mg base N qual scope f cdv A outer s H E) body t ∧ t { nx := fun _ H' => Q .non H', rt := Q } (start N vs) H) :
    FnOk P w K mg base CX (k + 1) f (PySem.W.fnOf name qual params body scope dV kV doc pm an cdv ct) ps sp := by
  refine ⟨len, fun A outer s H args us vs Q E hr e0 hb r hsp => ?_⟩
  have hl := len _ _ _ _ hsp
  have KX : K.In s.heap := e0.mod.kin.keeps fun b o e => (e0.bs b o e).1
  have lim : s.heap.NoLimit := e0.mod.nolimit.keeps fun b o e => (e0.bs b o e).1
  have hkind : ∀ y ∈ ps.zip us, scope.names.lookup y.1 = some .local ∨ (scope.names.lookup y.1 = some .cell ∧ ((cellsFrom (s.heap.objs.size + 1) scope.names []).lookup y.1).isSome = true) := fun ⟨n, v⟩ hy => by
    rcases S.par n (List.of_mem_zip hy).1 with q | q
    · exact .inl q
    · exact .inr ⟨q, PySem.W.cellsFrom_some _ _ _ (.inl q)⟩
  refine codeAny_call_function hr.depth (KX _ _ lk) rfl S.co S.gen rfl (PySem.W.codeRec_of KX hcd) (hb _ _ _ _ ?_)
  refine wpAny_newFunctionEnv_cells S.kind hkind fun env he s1 x => ?_
  subst he
  refine ⟨lim.keeps x.toInCall.keep, codeAny_func ?_⟩
  obtain ⟨t, ht, hq⟩ := hbody A outer s H vs Q E (hr.deeper _) hsp
  have I : Inv (cxOf CX P w K mg base N qual scope f cdv A outer s H E) [] (start N vs) H s1 := inv_start S hr.hd e0 hl r x
  refine wpAny_mono (ht [] s1 (start N vs) H _ I hq) (fun fl s' hs => ?_) fun e s' hs => hs
  have fin : ∀ {σ' : St} {H' : Hp} {v : V} {u : Value}, Inv (cxOf CX P w K mg base N qual scope f cdv A outer s H E) [] σ' H' s' → RelV v u → Q v H' → CE outer P w H s Q u s' :=
    fun {σ' H' v u} J rv q => ⟨v, H', J.os, J.bare, J.base, J.hok, rv, q⟩
  cases fl with
  | ret u =>
    obtain ⟨v, σ', H', J, rv, q⟩ := hs
    exact fin J rv q
  | next =>
    obtain ⟨σ', H', J, q⟩ := hs
    exact fin (v := V.non) (u := Value.none) J rfl q
  | brk =>
    obtain ⟨_, _, _, q⟩ := hs
    exact False.elim q
  | cont =>
    obtain ⟨_, _, _, q⟩ := hs
    exact False.elim q
end L2

namespace L2
open PySem PySem.Spec PyProof.Rows
section
variable {X : Cx} {x : Str} {p pos : Pos} {e : Expr} {es : List Expr} {t : TA} {id T : String} {r : List V → Hp → VK → Prop}

def tCB (r : List V → Hp → VK → Prop) (t : TA) : TE := fun σ H Q => t σ H fun vs H1 => r vs H1 Q
/-- f(e, ..), f a built-in function -/
theorem pe_callB (hc : CallR X (.builtin id) r) (hg : Gl X x) (hm : X.mg x = none) (hv : bootBuiltins x = some (.builtin id)) (ha : PA X (e :: es) t) (hn : x ≠ "__name__" := by decide) (hdb : (x == ("__debug__" : Str)) = false := by decide)
    (he : starEach (e :: es) X.env = (false, eval e X.env) :: starEach es X.env := by rfl) (hpl : (backTo pos (starEach es X.env)).any (·.1) = false := by rfl) : PE X (.Call (.Name x p) (e :: es) [] pos) (tCB r t) := by
  intro pins s σ H Q I h
  refine wpAny_Call_Name_kw (ld_blt I hg hm hv ?_ hn hdb)
  exact PyProof.Rows.callWith_builtin1 (thn (ha pos pins s σ H _ I h) fun us s1 ⟨vs, H1, I1, r1, q1⟩ => hc pins s1 σ H1 vs us Q I1 r1 q1) he hpl
/-- T(e, ..), T a built-in type -/
theorem pe_callTy (hc : CallR X (.type T) r) (hg : Gl X x) (hm : X.mg x = none) (hv : bootBuiltins x = some (.type T)) (ha : PA X (e :: es) t) (hn : x ≠ "__name__" := by decide) (hdb : (x == ("__debug__" : Str)) = false := by decide)
    (he : starEach (e :: es) X.env = (false, eval e X.env) :: starEach es X.env := by rfl) (hpl : (backTo pos (starEach es X.env)).any (·.1) = false := by rfl) : PE X (.Call (.Name x p) (e :: es) [] pos) (tCB r t) := by
  intro pins s σ H Q I h
  refine wpAny_Call_Name_kw (ld_blt I hg hm hv ?_ hn hdb)
  exact PyProof.Rows.callWith_type1 (thn (ha pos pins s σ H _ I h) fun us s1 ⟨vs, H1, I1, r1, q1⟩ => hc pins s1 σ H1 vs us Q I1 r1 q1) he hpl
end
end L2

namespace HT
open PySem PyProof.Rows

section
open PySem.SeqAt
open PySem.AutoSeq1 (wpAny_loadPart')
open PySem.MeetsSeq PySem.MeetsSeq2 PySem.MeetsSeq3

end

section
variable {prog : Program} {w : World} {A : Around} {E : Value → Shared → Prop} {s : Shared}

/-! ### t[a:b], not the whole -/
/-- a slice's bound as a place among n (d where it is left out) -/
def sIx (n d : Nat) : Option Int → Nat
  | none => d
  | some v => if v < 0 then (v + (n : Int)).toNat else min v.toNat n
theorem sIx_none (n d : Nat) : sIx n d none = d := rfl
theorem sIx_nat (n d k : Nat) : sIx n d (some (k : Int)) = min k n := by
  show (if (k : Int) < 0 then ((k : Int) + (n : Int)).toNat else min (k : Int).toNat n) = min k n
  rw [if_neg (by omega), Int.toNat_natCast]
end
end HT

namespace L2
open PySem PySem.Spec PyProof.Rows

/-! ### the parts of a slice -/
abbrev TO := St → Hp → (Option Int → Hp → Prop) → Prop
/-- a slice's part (left out, or an int) -/
def PO (X : Cx) (e : Option Expr) (t : TO) : Prop :=
  ∀ (pins : List (Addr × Obj)) (s : Shared) (σ : St) (H : Hp) (Q : Option Int → Hp → Prop), Inv X pins σ H s → t σ H Q →
    wpAny (model X.prog X.w) X.A (evalPart e X.env) (fun u s' => ∃ o H', Inv X pins σ H' s' ∧ IsPart u o ∧ Q o H') X.xe s
def tNoPart : TO := fun _ H Q => Q none H
def tPart (t : TE) : TO := fun σ H Q => t σ H fun x H1 => ∃ i, x = .int i ∧ Q (some i) H1

section
variable {X : Cx} {e : Expr} {te : TE} {lo hi : Option Expr} {tl th : TO} {pos p2 : Pos}

theorem po_none : PO X none tNoPart := by
  intro pins s σ H Q I h
  rw [evalPart_none]
  exact wpAny_pure ⟨none, H, I, .none, h⟩
theorem po_some (h : PE X e te) : PO X (some e) (tPart te) := by
  intro pins s σ H Q I hw
  rw [evalPart_some]
  refine thn (h pins s σ H _ I hw) fun u s1 ⟨x, H1, I1, r1, q1⟩ => ?_
  obtain ⟨i, rfl, q⟩ := q1
  obtain ⟨t, rfl⟩ := r1
  exact ⟨some i, H1, I1, .int i t, q⟩

/-- what a slice of a value is, by values: the slice object stands at sl -/
def SlR (X : Cx) (r : V → Option Int → Option Int → Hp → VK → Prop) : Prop :=
  ∀ (pins : List (Addr × Obj)) (s : Shared) (σ : St) (H : Hp) (x : V) (v vl vu : Value) (lo hi : Option Int) (sl : Addr) (Q : VK), Inv X pins σ H s → RelV x v → s.heap.IsSliceOf sl vl vu .none → IsPart vl lo → IsPart vu hi → r x lo hi H Q →
    ∃ T id, typeLookup (.type T) "__getitem__" = pure (some (.builtin id)) ∧ s.TypeIs v T ∧ wpAny (model X.prog X.w) X.A (getItem v (.ref sl)) (EP X pins σ Q) X.xe s
theorem SlR.or {r r' : V → Option Int → Option Int → Hp → VK → Prop} (h : SlR X r) (h' : SlR X r') : SlR X (fun x lo hi H Q => r x lo hi H Q ∨ r' x lo hi H Q) := by
  intro pins s σ H x v vl vu lo hi sl Q I rx hs pl pu q
  rcases q with q | q
  · exact h pins s σ H x v vl vu lo hi sl Q I rx hs pl pu q
  · exact h' pins s σ H x v vl vu lo hi sl Q I rx hs pl pu q
def tSl (r : V → Option Int → Option Int → Hp → VK → Prop) (te : TE) (tl th : TO) : TE := fun σ H Q => te σ H fun x H1 => tl σ H1 fun l H2 => th σ H2 fun u H3 => r x l u H3 Q
/-- a[lo:hi], any a -/
theorem pe_slice {r : V → Option Int → Option Int → Hp → VK → Prop} (hr : SlR X r) (he : PE X e te) (hl : PO X lo tl) (hu : PO X hi th) : PE X (.Subscript e (.Slice lo hi none p2) pos) (tSl r te tl th) := by
  intro pins s σ H Q I h
  refine Subscript_ (thn (he pins s σ H _ I h) fun v s1 ⟨x, H1, I1, r1, q1⟩ => ?_)
  refine wpAny_Slice (thn (hl pins s1 σ H1 _ I1 q1) fun vl s2 ⟨l, H2, I2, pl, q2⟩ => thn (hu pins s2 σ H2 _ I2 q2) fun vu s3 ⟨u, H3, I3, pu, q3⟩ => ?_)
  rw [evalPart_none]
  refine wpAny_pure ?_
  have I4 : Inv X pins σ H3 { s3 with heap := s3.heap.push { cls := .type "slice", data := .fields #[vl, vu, .none] } } := I3.kept (t' := s3.toks) fun b ob q => Heap.get?_push_of_some _ q
  obtain ⟨T, id, hT, ht, hg⟩ := hr pins { s3 with heap := s3.heap.push { cls := .type "slice", data := .fields #[vl, vu, .none] } } σ H3 x v vl vu l u s3.heap.objs.size Q I4 r1 (Heap.IsSliceOf.new ..) pl pu q3
  show wpAny (model X.prog X.w) X.A (subscriptTail e (.Slice lo hi none p2) v (.ref s3.heap.objs.size)) (EP X pins σ Q) X.xe { s3 with heap := s3.heap.push { cls := .type "slice", data := .fields #[vl, vu, .none] } }
  exact tail_any (ops := [.ref s3.heap.objs.size, v]) ht hT hg (by with_unfolding_all rfl)

/-- the items of xs[lo:hi] -/
def cutV (xs : List V) (lo hi : Option Int) : List V := (xs.drop (HT.sIx xs.length 0 lo)).take (HT.sIx xs.length xs.length hi - HT.sIx xs.length 0 lo)
theorem cutV_length (xs : List V) (lo hi : Option Int) : (cutV xs lo hi).length ≤ xs.length := by
  unfold cutV
  rw [List.length_take, List.length_drop]
  omega
/-! ### t < u, t + u -/
end
end L2

namespace L2
open PySem PySem.Spec PyProof.Rows

/-! ### places -/
/-- the place that an index of any sign means -/
def ixN (n : Nat) (i : Int) : Option Nat := if 0 ≤ i then (if i < n then some i.toNat else none) else if -(n : Int) ≤ i then some (i + n).toNat else none
def atI {α : Type} (xs : List α) (i : Int) : Option α := (ixN xs.length i).bind fun j => xs[j]?
theorem ixN_seq {n : Nat} {i : Int} {j : Nat} (h : ixN n i = some j) : seqIndex? i n = some j ∧ j < n ∧ -(n : Int) ≤ i ∧ i < n := by
  unfold ixN at h
  by_cases h0 : 0 ≤ i
  · rw [if_pos h0] at h
    by_cases h1 : i < n
    · rw [if_pos h1] at h
      have e : i.toNat = j := Option.some.inj h
      exact ⟨by rw [seqIndex_of h0 h1, e], by omega, by omega, h1⟩
    · rw [if_neg h1] at h; cases h
  · rw [if_neg h0] at h
    by_cases h1 : -(n : Int) ≤ i
    · rw [if_pos h1] at h
      have e : (i + n).toNat = j := Option.some.inj h
      exact ⟨by rw [seqIndex_neg (by omega) h1, e], by omega, h1, by omega⟩
    · rw [if_neg h1] at h; cases h
theorem atI_get {α : Type} {xs : List α} {i : Int} {v : α} (h : atI xs i = some v) : ∃ j, seqIndex? i xs.length = some j ∧ xs[j]? = some v ∧ j < xs.length ∧ -(xs.length : Int) ≤ i ∧ i < xs.length := by
  unfold atI at h
  cases e : ixN xs.length i with
  | none => rw [e] at h; cases h
  | some j =>
    rw [e] at h
    obtain ⟨h1, h2, h3, h4⟩ := ixN_seq e
    exact ⟨j, h1, h, h2, h3, h4⟩
theorem atI_nat {α : Type} {xs : List α} {j : Nat} {v : α} (h : xs[j]? = some v) : atI xs (j : Int) = some v := by
  have hj : j < xs.length := (List.getElem?_eq_some_iff.mp h).1
  have e : ixN xs.length (j : Int) = some j := by
    unfold ixN
    rw [if_pos (by omega), if_pos (by omega)]; simp
  unfold atI; rw [e]; exact h
theorem atI_last {α : Type} (xs : List α) (v : α) : atI (xs ++ [v]) (-1) = some v := by
  have hl : (xs ++ [v]).length = xs.length + 1 := by simp
  have e : ixN (xs ++ [v]).length (-1) = some xs.length := by
    unfold ixN
    rw [hl, if_neg (by decide), if_pos (by omega)]
    congr 1
    omega
  unfold atI
  rw [e]
  show (xs ++ [v])[xs.length]? = some v
  simp

/-! ### what may be subscripted -/
/-- what stands as an index of a plain subscript -/
def PlainIx (b : Expr) : Prop := ∀ o i, subscripted b false o i = operate [o, i] (getItem o i)
/-- a subscript by values -/
def IxR (X : Cx) (r : R2) : Prop :=
  ∀ (value slice : Expr) (pins : List (Addr × Obj)) (s : Shared) (σ : St) (H : Hp) (x y : V) (v u : Value) (Q : VK), Inv X pins σ H s → RelV x v → RelV y u → r x y H Q →
    subscripted slice false v u = operate [v, u] (getItem v u) → wpAny (model X.prog X.w) X.A (subscriptTail value slice v u) (EP X pins σ Q) X.xe s
/-- a call of a builtin's method by values: the receiver, the arguments -/
def MtR (X : Cx) (id : String) (r : V → List V → Hp → VK → Prop) : Prop :=
  ∀ (pins : List (Addr × Obj)) (s : Shared) (σ : St) (H : Hp) (x : V) (xs : List V) (v : Value) (us : List Value) (Q : VK), Inv X pins σ H s → RelV x v → Vals xs us → r x xs H Q →
    wpAny (model X.prog X.w) X.A (call (.builtin id) (v :: us)) (EP X pins σ Q) X.xe s
section
variable {X : Cx} {a b : Expr} {ta tb : TE} {pos : Pos}
theorem IxR.or {r r' : R2} (h : IxR X r) (h' : IxR X r') : IxR X (fun x y H Q => r x y H Q ∨ r' x y H Q) := by
  intro value slice pins s σ H x y v u Q I rx ry q hs
  rcases q with q | q
  · exact h value slice pins s σ H x y v u Q I rx ry q hs
  · exact h' value slice pins s σ H x y v u Q I rx ry q hs
theorem MtR.or {id : String} {r r' : V → List V → Hp → VK → Prop} (h : MtR X id r) (h' : MtR X id r') : MtR X id (fun x xs H Q => r x xs H Q ∨ r' x xs H Q) := by
  intro pins s σ H x xs v us Q I rx rs q
  rcases q with q | q
  · exact h pins s σ H x xs v us Q I rx rs q
  · exact h' pins s σ H x xs v us Q I rx rs q
/-- a[b] -/
theorem pe_ix {r : R2} (hr : IxR X r) (ha : PE X a ta) (hb : PE X b tb) (hs : PlainIx b) : PE X (.Subscript a b pos) (tOp r ta tb) := by
  intro pins s σ H Q I h
  exact Subscript_ (binT ha hb I h fun v u s2 x y H2 I2 rx ry q => hr a b pins s2 σ H2 x y v u Q I2 rx ry q (hs _ _))

def rIxL (K : PySem.W.Frag) : R2 := fun x y H Q => ∃ p xs i v, x = .ref p ∧ y = .int i ∧ SqL K H p xs ∧ atI xs i = some v ∧ Q v H
theorem ix_list : IxR X (rIxL X.K) := by
  intro value slice pins s σ H x y v u Q I rx ry h hs
  obtain ⟨p, xs, i, z, rfl, rfl, hq, he, q⟩ := h
  cases rx
  obtain ⟨t, rfl⟩ := ry
  obtain ⟨its, r, pl, hz⟩ := I.list hq
  obtain ⟨j, h1, h2, h3, h4, h5⟩ := atI_get he
  obtain ⟨w, ew, rw'⟩ := r.get h2
  have hl := r.length
  have hn := line63
  have fin : EP X pins σ Q w s := ⟨z, H, I, rw', q⟩
  by_cases h0 : 0 ≤ i
  · have hj : i.toNat = j := by
      rw [seqIndex_of h0 h5] at h1
      exact Option.some.inj h1
    exact item_listR pl.isList h0 (by omega) (by rw [hj]; simpa using ew) fin hs
  · have hj : (i + (its.toArray.size : Int)).toNat = j := by
      rw [seqIndex_neg (by omega) h4] at h1
      rw [List.size_toArray, ← hl]
      exact Option.some.inj h1
    exact subscriptTail_builtinR (x := w) pl.isList.typeIs slot_list_getitem.lookup
      (wpAny_getItem_list_neg (Q := fun r s' => r = w ∧ EP X pins σ Q r s') pl.isList (by omega) (by rw [List.size_toArray] <;> omega) (by omega) (by rw [hj]; simpa using ew) ⟨rfl, fin⟩) hs
/-! ### xs[i] = v, any sign -/
/-- the list's object behind a store -/
theorem mapSeq_set (its : List Value) (n j : Nat) (u : Value) : Obj.mapSeq (·.setIfInBounds j u) { cls := .type "list", data := .seq its.toArray n } = { cls := .type "list", data := .seq (its.set j u).toArray n } := by
  simp [Obj.mapSeq]
theorem Inv.lst {pins : List (Addr × Obj)} {σ : St} {H : Hp} {s : Shared} {p : Addr} {xs : List V} (I : Inv X pins σ H s) (h : H p = some (.lst xs)) :
    ∃ (its : List Value) (n : Nat), Vals xs its ∧ s.heap.get? p = some { cls := .type "list", data := .seq its.toArray n } ∧ xs.length ≤ sizeLine := by
  obtain ⟨z, its, n, r, e⟩ := I.hok p _ h
  exact ⟨its, n, r, e, z⟩
/-- the list at p is written by an update of its object -/
theorem Inv.lstUpd {pins : List (Addr × Obj)} {σ : St} {H : Hp} {s : Shared} {p : Addr} {xs ys : List V} {its its' : List Value} {n n' : Nat} {f : Obj → Obj} (I : Inv X pins σ H s) (h : H p = some (.lst xs))
    (ho : s.heap.get? p = some { cls := .type "list", data := .seq its.toArray n }) (hf : f { cls := .type "list", data := .seq its.toArray n } = { cls := .type "list", data := .seq its'.toArray n' }) (r : Vals ys its') (hz : ys.length ≤ sizeLine) (t : Nat) :
    Inv X pins σ (upd H p (.lst ys)) { s with heap := s.heap.update p f, toks := t } := by
  have e : (s.heap.update p f).get? p = some { cls := .type "list", data := .seq its'.toArray n' } := by
    rw [Heap.get?_update_self f ho (by rw [hf] <;> rfl), hf]
  refine I.write (x := p) (e := p) (by rw [h]; trivial) (.inl rfl) (fun b u hb q => (Heap.get?_update_other _ _ (Ne.symm hb)).trans q) ⟨_, e⟩ ?_
  exact ⟨hz, its', n', r, e⟩
def rSetL : V → V → V → Hp → (Hp → Prop) → Prop := fun o i v H Q => ∃ p xs k j, o = .ref p ∧ i = .int k ∧ H p = some (.lst xs) ∧ ixN xs.length k = some j ∧ Q (upd H p (.lst (xs.set j v)))
theorem set_list : PSet X rSetL := by
  intro pins s σ H o i v ov iv u Q I ro ri rv h
  obtain ⟨p, xs, k, j, rfl, rfl, hp, hj, q⟩ := h
  cases ro
  obtain ⟨t, rfl⟩ := ri
  obtain ⟨its, n, r, ho, hz⟩ := I.lst hp
  obtain ⟨h1, h2, h3, h4⟩ := ixN_seq hj
  have hl := r.length
  have hn := line63
  have I' : Inv X pins σ (upd H p (.lst (xs.set j v))) { s with heap := s.heap.update p (Obj.mapSeq (·.setIfInBounds j u)) } :=
    I.lstUpd hp ho (mapSeq_set its n j u) (r.set rv j) (by rw [List.length_set]; exact hz) s.toks
  by_cases h0 : 0 ≤ k
  · have hk : k.toNat = j := by
      rw [seqIndex_of h0 h4] at h1
      exact Option.some.inj h1
    exact PySem.W.ki_setAt ho h0 (by omega) (by rw [List.size_toArray, ← hl]; exact h4) (by rw [hk]; exact ⟨_, I', q⟩)
  · have hk : (k + (its.toArray.size : Int)).toNat = j := by
      rw [seqIndex_neg (by omega) h3] at h1
      rw [List.size_toArray, ← hl]
      exact Option.some.inj h1
    exact PySem.W.ki_setBack ho (by omega) (by rw [List.size_toArray, ← hl]; exact h3) (by omega) (by rw [hk]; exact ⟨_, I', q⟩)

/-! ### slices -/
theorem slice_bounds (lo hi : Option Int) (n : Nat) : (sliceBounds lo hi none n).1 = ((HT.sIx n 0 lo : Nat) : Int) ∧ (sliceBounds lo hi none n).2.1 = ((HT.sIx n n hi : Nat) : Int) ∧ (sliceBounds lo hi none n).2.2 = 1 := by
  refine ⟨?_, ?_, rfl⟩
  · cases lo with
    | none => simp [sliceBounds, HT.sIx]
    | some i =>
      simp only [sliceBounds, HT.sIx, Option.getD_none, show (1 : Int) > 0 by decide, if_true]
      by_cases h : i < 0
      · simp only [h, if_true] <;> omega
      · simp only [h, if_false] <;> omega
  · cases hi with
    | none => simp [sliceBounds, HT.sIx]
    | some i =>
      simp only [sliceBounds, HT.sIx, Option.getD_none, show (1 : Int) > 0 by decide, if_true]
      by_cases h : i < 0
      · simp only [h, if_true] <;> omega
      · simp only [h, if_false] <;> omega
theorem slicePick_cut (its : List Value) (lo hi : Option Int) : slicePick its.toArray lo hi none = ((its.drop (HT.sIx its.length 0 lo)).take (HT.sIx its.length its.length hi - HT.sIx its.length 0 lo)).toArray := by
  obtain ⟨h1, h2, h3⟩ := slice_bounds lo hi its.toArray.size
  unfold slicePick
  rw [h1, h2, h3]
  simp only [sliceRange_one, pick_run, List.size_toArray] <;> rfl
/-- xs[lo:hi] of a list: a new list -/
def rSlL (K : PySem.W.Frag) : V → Option Int → Option Int → Hp → VK → Prop := fun x lo hi H Q => ∃ a xs, x = .ref a ∧ SqL K H a xs ∧ ∀ p, H p = none → Q (.ref p) (upd H p (.lst (cutV xs lo hi)))
theorem sl_list : SlR X (rSlL X.K) := by
  intro pins s σ H x v vl vu lo hi sl Q I rx hs pl pu h
  obtain ⟨a, xs, rfl, hx, q⟩ := h
  cases rx
  obtain ⟨its, r, ht, hz⟩ := I.list hx
  have hlen := r.length
  refine ⟨"list", _, slot_list_getitem.lookup, ht.isList.typeIs, ?_⟩
  refine wpAny_getItem_list_slice ht.isList hs pl pu .none (by simp) ?_ (by rw [List.size_toArray] <;> omega)
  rw [slicePick_cut, ← hlen]
  refine ⟨.ref s.heap.objs.size, _, I.laid (t' := s.toks) (o := .lst (cutV xs lo hi)) (fun b ob q => Heap.get?_push_of_some _ q) (Nat.le_refl _) ?_, rfl, q _ (I.hok.fresh (Nat.le_refl _))⟩
  exact ⟨Nat.le_trans (cutV_length xs lo hi) hz, _, 0, (r.drop (HT.sIx xs.length 0 lo)).take (HT.sIx xs.length xs.length hi - HT.sIx xs.length 0 lo), Heap.get?_push_size _ rfl⟩

/-! ### in, not in: flat items -/
def flatV : V → Bool
  | .non => true
  | .bl _ => true
  | .int _ => true
  | .str _ => true
  | _ => false
/-- == of flat values -/
def eqV : V → V → Bool
  | .non, .non => true
  | .bl a, .bl b => a == b
  | .bl a, .int b => (if a then 1 else 0) == b
  | .int a, .bl b => a == (if b then 1 else 0)
  | .int a, .int b => a == b
  | .str a, .str b => a == b
  | _, _ => false
theorem eqAt_V {A : Around} {s : Shared} {y x : V} {u v : Value} (ry : RelV y u) (rx : RelV x v) (fy : flatV y = true) (fx : flatV x = true) : SeqAt.EqAt A s u v (eqV y x) := by
  cases y with
  | non =>
    cases ry
    cases x with
    | non => cases rx; exact SeqAt.EqAt.same _
    | bl b => cases rx; exact SeqAt.EqAt.none_bool b
    | int b => obtain ⟨t, rfl⟩ := rx; exact SeqAt.EqAt.none_int b t
    | str b => obtain ⟨t, rfl⟩ := rx; exact SeqAt.EqAt.none_str b t
    | _ => exact absurd (show false = true from fx) Bool.false_ne_true
  | bl a =>
    cases ry
    cases x with
    | non => cases rx; exact SeqAt.EqAt.bool_none a
    | bl b => cases rx; exact SeqAt.EqAt.bool_bool a b
    | int b => obtain ⟨t, rfl⟩ := rx; exact SeqAt.EqAt.bool_int a b t
    | str b => obtain ⟨t, rfl⟩ := rx; exact SeqAt.EqAt.bool_str a b t
    | _ => exact absurd (show false = true from fx) Bool.false_ne_true
  | int a =>
    obtain ⟨t', rfl⟩ := ry
    cases x with
    | non => cases rx; exact SeqAt.EqAt.int_none a t'
    | bl b => cases rx; exact SeqAt.EqAt.int_bool a t' b
    | int b => obtain ⟨t, rfl⟩ := rx; exact SeqAt.EqAt.int_int a t' b t
    | str b => obtain ⟨t, rfl⟩ := rx; exact SeqAt.EqAt.int_str a t' b t
    | _ => exact absurd (show false = true from fx) Bool.false_ne_true
  | str a =>
    obtain ⟨t', rfl⟩ := ry
    cases x with
    | non => cases rx; exact SeqAt.EqAt.str_none a t'
    | bl b => cases rx; exact SeqAt.EqAt.str_bool a t' b
    | int b => obtain ⟨t, rfl⟩ := rx; exact SeqAt.EqAt.str_int a t' b t
    | str b => obtain ⟨t, rfl⟩ := rx; exact SeqAt.EqAt.str_str a t' b t
    | _ => exact absurd (show false = true from fx) Bool.false_ne_true
  | _ => exact absurd (show false = true from fy) Bool.false_ne_true
/-- the items' answers, read off the values (a value's own answer does not lean on its token) -/
def eqU (x : V) (u : Value) : Bool := match u with
  | .none => eqV .non x
  | .bool b => eqV (.bl b) x
  | .int i _ => eqV (.int i) x
  | .str z _ => eqV (.str z) x
  | _ => false
theorem eqU_of {x y : V} {u : Value} (r : RelV y u) (f : flatV y = true) : eqU x u = eqV y x := by
  cases y with
  | non => cases r; rfl
  | bl b => cases r; rfl
  | int i => obtain ⟨t, rfl⟩ := r; rfl
  | str z => obtain ⟨t, rfl⟩ := r; rfl
  | _ => exact absurd (show false = true from f) Bool.false_ne_true
theorem any_eqU {x : V} : ∀ {xs : List V} {us : List Value}, Vals xs us → xs.all flatV = true → us.any (eqU x) = xs.any fun y => eqV y x
  | _, _, .nil, _ => rfl
  | y :: xs, u :: us, .cons r t, f => by
    rw [List.all_cons, Bool.and_eq_true] at f
    rw [List.any_cons, List.any_cons, eqU_of r f.1, any_eqU t f.2]
theorem mem_eqAt {A : Around} {s : Shared} {x : V} {v : Value} (rx : RelV x v) (fx : flatV x = true) : ∀ {xs : List V} {us : List Value}, Vals xs us → xs.all flatV = true → ∀ u ∈ us, SeqAt.EqAt A s u v (eqU x u)
  | _, _, .nil, _ => fun u hu => by cases hu
  | y :: xs, u :: us, .cons r t, f => fun u' hu => by
    rw [List.all_cons, Bool.and_eq_true] at f
    rcases List.mem_cons.mp hu with rfl | hu
    · rw [eqU_of r f.1]; exact eqAt_V r rx f.1 fx
    · exact mem_eqAt rx fx t f.2 u' hu
def inV (x : V) (xs : List V) : Bool := xs.any fun y => eqV y x
/-- x in a list or tuple of flat items -/
def rIn (K : PySem.W.Frag) (neg : Bool) : R2 := fun x y H Q => ∃ p xs, y = .ref p ∧ (SqL K H p xs ∨ SqT K H p xs) ∧ flatV x = true ∧ xs.all flatV = true ∧ Q (.bl (if neg then !inV x xs else inV x xs)) H
theorem op_in_seq : OpR X (compareOp .In) (rIn X.K false) := by
  intro pins s σ H x y v u Q I rx ry h
  obtain ⟨p, xs, rfl, hq, fx, fs, q⟩ := h
  cases ry
  rcases hq with hq | hq
  · obtain ⟨its, r, pl, hz⟩ := I.list hq
    refine SeqAt.in_listAt (eqU x) pl.isList (fun w hw => mem_eqAt rx fx r fs w (by simpa using hw)) ⟨.bl _, H, I, rfl, ?_⟩
    rw [show its.toArray.any (eqU x) = its.any (eqU x) by simp, any_eqU r fs]
    exact q
  · obtain ⟨its, r, pl, hz⟩ := I.tuple hq
    refine SeqAt.in_tupleAt (eqU x) pl (fun w hw => mem_eqAt rx fx r fs w (by simpa using hw)) ⟨.bl _, H, I, rfl, ?_⟩
    rw [show its.toArray.any (eqU x) = its.any (eqU x) by simp, any_eqU r fs]
    exact q
/-! ### len, list(x), tuple(x) of any list or tuple that is read -/
theorem call_len_seq : CallR X (.builtin "len") (fun xs H Q => ∃ p ys, xs = [.ref p] ∧ (SqL X.K H p ys ∨ SqT X.K H p ys) ∧ Q (.int ys.length) H) := by
  intro pins s σ H xs us Q I r h
  obtain ⟨p, ys, rfl, hq, q⟩ := h
  obtain ⟨u, rfl, rx⟩ := vals1 r
  cases rx
  have hn := line63
  rcases hq with hq | hq
  · obtain ⟨its, r', pl, hz⟩ := I.list hq
    have hlen := r'.length
    exact Calls.call_len_list pl.isList (by simp only [List.size_toArray] <;> omega) ⟨.int ys.length, H, I.tok _, ⟨s.toks + 1, by rw [List.size_toArray, hlen]⟩, q⟩
  · obtain ⟨its, r', pl, hz⟩ := I.tuple hq
    have hlen := r'.length
    exact len_tuple pl (by simp only [List.size_toArray] <;> omega) ⟨.int ys.length, H, I.tok _, ⟨s.toks + 1, by rw [List.size_toArray, hlen]⟩, q⟩
theorem CallR.or {f : Value} {r r' : List V → Hp → VK → Prop} (h : CallR X f r) (h' : CallR X f r') : CallR X f (fun xs H Q => r xs H Q ∨ r' xs H Q) := by
  intro pins s σ H xs us Q I rs q
  rcases q with q | q
  · exact h pins s σ H xs us Q I rs q
  · exact h' pins s σ H xs us Q I rs q
theorem call_list_of : CallR X (.type "list") (fun xs H Q => ∃ p ys, xs = [.ref p] ∧ (SqL X.K H p ys ∨ SqT X.K H p ys) ∧ ∀ l, H l = none → Q (.ref l) (upd H l (.lst ys))) := by
  intro pins s σ H xs us Q I r h
  obtain ⟨p, ys, rfl, hq, q⟩ := h
  obtain ⟨u, rfl, rx⟩ := vals1 r
  cases rx
  have fin : ∀ (its : List Value), Vals ys its → ys.length ≤ sizeLine → ∀ (h' : Heap) (c' : Nat), (∀ b o', s.heap.get? b = some o' → h'.get? b = some o') →
      h'.get? s.heap.objs.size = some { cls := .type "list", dict := none, data := .seq its.toArray c', slots := #[] } → EP X pins σ Q (.ref s.heap.objs.size) { s with heap := h' } := fun its r' hz h' c' kp e =>
    ⟨.ref s.heap.objs.size, _, I.laid (t' := s.toks) kp (Nat.le_refl _) (show ObjOk X.prog X.w _ h' _ (.lst ys) from ⟨hz, its, c', r', e⟩), rfl, q _ (I.hok.fresh (Nat.le_refl _))⟩
  rcases hq with hq | hq
  · obtain ⟨its, r', pl, hz⟩ := I.list hq
    have hlen := r'.length
    obtain ⟨o, ho, hc, n, hd⟩ := pl.isList
    exact call_list_seq p (.inl rfl) ho hc hd (fun h' c' kp e => fin its r' hz h' c' kp e) (by simp only [List.size_toArray] <;> omega)
  · obtain ⟨its, r', pl, hz⟩ := I.tuple hq
    have hlen := r'.length
    obtain ⟨o, ho, hc, n, hd⟩ := pl
    exact call_list_seq p (.inr rfl) ho hc hd (fun h' c' kp e => fin its r' hz h' c' kp e) (by simp only [List.size_toArray] <;> omega)
/-! ### the call of a builtin's method: o.m(..) -/
/-- the value is of that builtin type -/
def tyV (K : PySem.W.Frag) (T : String) (x : V) (H : Hp) : Prop := match x with
  | .str _ => T = "str"
  | .int _ => T = "int"
  | .ref p => (T = "list" ∧ ∃ xs, SqL K H p xs) ∨ (T = "tuple" ∧ ∃ o, K.lookup p = some o ∧ o.cls = .type "tuple" ∧ o.dict = none) ∨
      (T = "dict" ∧ ((∃ kvs, H p = some (.dK kvs)) ∨ ∃ kvs, H p = some (.dT kvs))) ∨ (T = "set" ∧ ∃ S n, H p = some (.set S n))
  | _ => False
theorem tyV_is {pins : List (Addr × Obj)} {σ : St} {H : Hp} {s : Shared} {T : String} {x : V} {v : Value} (I : Inv X pins σ H s) (r : RelV x v) (ty : tyV X.K T x H) :
    s.TypeIs v T ∧ ∀ a, v = .ref a → ∃ ob, s.heap.get? a = some ob ∧ ob.dict = none := by
  cases x with
  | str z =>
    obtain ⟨t, rfl⟩ := r
    cases (show T = "str" from ty)
    exact ⟨typeIs_str s z t, fun _ e => nomatch e⟩
  | int i =>
    obtain ⟨t, rfl⟩ := r
    cases (show T = "int" from ty)
    exact ⟨typeIs_int s i t, fun _ e => nomatch e⟩
  | ref p =>
    cases r
    rcases ty with ⟨rfl, xs, hq⟩ | ⟨rfl, o, hk, hc, hd⟩ | ⟨rfl, hk⟩ | ⟨rfl, S, n, hk⟩
    · obtain ⟨its, _, pl, _⟩ := I.list hq
      refine ⟨pl.isList.typeIs, fun a e => ?_⟩
      cases e
      obtain ⟨o, n, e, c, hd, _⟩ := pl
      exact ⟨o, e, hd⟩
    · refine ⟨⟨o, I.kIn p o hk, hc⟩, fun a e => ?_⟩
      cases e
      exact ⟨o, I.kIn _ o hk, hd⟩
    · have z : ∃ o, s.heap.get? p = some o ∧ o.ExactDict := by
        rcases hk with ⟨kvs, hk⟩ | ⟨kvs, hk⟩
        · obtain ⟨_, _, _, _, o, _, _, e, ex, _⟩ := I.hok p _ hk
          exact ⟨o, e, ex⟩
        · obtain ⟨_, _, _, _, o, _, _, e, ex, _⟩ := I.hok p _ hk
          exact ⟨o, e, ex⟩
      obtain ⟨o, e, ex⟩ := z
      refine ⟨⟨o, e, ex.1⟩, fun a e2 => ?_⟩
      cases e2
      exact ⟨o, e, ex.2.1⟩
    · obtain ⟨o, _, _, _, e, ex, _⟩ := I.hok p _ hk
      refine ⟨⟨o, e, ex.1⟩, fun a e2 => ?_⟩
      cases e2
      exact ⟨o, e, ex.2.1⟩
  | _ => exact False.elim ty
def tBM (K : PySem.W.Frag) (T : String) (r : V → List V → Hp → VK → Prop) (to : TE) (t : TA) : TE := fun σ H Q => to σ H fun x H1 => tyV K T x H1 ∧ t σ H1 fun xs H2 => r x xs H2 Q
variable {o e : Expr} {es : List Expr} {to : TE} {t : TA} {name : Str} {apos cpos : Pos} {T id : String} {r : V → List V → Hp → VK → Prop}
theorem pe_bm (pa : PlainAttrs T) (slot : Slot T name id) (hty : typeOf (.builtin id) = pure (.type "method_descriptor")) (hm : MtR X id r) (ho : PE X o to) (ha : PA X (e :: es) t)
    (hbase : attributeBase o name X.env (eval o X.env) = eval o X.env := by rfl)
    (hfew : ((backTo cpos (starEach (e :: es) X.env)).all (fun x => !x.1) && (backToKw cpos (keywordEach [] X.env)).all (fun x => x.1.isSome)
      && decide ((e :: es).length + ([] : List Keyword).length + (if ([] : List Keyword).isEmpty then 0 else 1) < 30)) = true := by rfl)
    (hline : (apos.endLine == cpos.line) = true := by rfl) (hs : starEach (e :: es) X.env = (false, eval e X.env) :: starEach es X.env := by rfl) (hplain : (backTo cpos (starEach es X.env)).any (·.1) = false := by rfl) :
    PE X (.Call (.Attribute o name apos) (e :: es) [] cpos) (tBM X.K T r to t) := by
  intro pins s σ H Q I h
  refine wpAny_Call_method_late hbase hfew hline rfl (thn (ho pins s σ H _ I h) fun v s1 ⟨x, H1, I1, r1, ty, q1⟩ => ?_)
  obtain ⟨h1, h2⟩ := tyV_is I1 r1 ty
  refine ⟨T, id, pa, slot, hty, h1, h2, ?_⟩
  have hA := ha cpos pins s1 σ H1 _ I1 q1
  rw [hs] at hA ⊢
  refine Calls.callWith_builtin (by show (false || (backTo cpos (starEach es X.env)).any (·.1)) = false; rw [hplain] <;> rfl) (Calls.evalArgs_plain ?_)
  exact thn hA fun us s2 ⟨vs, H2, I2, r2, q2⟩ => hm pins s2 σ H2 x vs v us Q I2 r1 r2 q2
/- xs.append(e), list.index on a module's tuple .. are MtR facts of 06m -/
end
end L2

namespace L2
open PySem PySem.Spec PyProof.Rows

def MtM (X : Cx) (id : String) (r : V → List V → Hp → VK → Prop) : Prop :=
  ∀ (pins : List (Addr × Obj)) (s : Shared) (σ : St) (H : Hp) (x : V) (xs : List V) (v : Value) (us : List Value) (Q : VK), Inv X pins σ H s → RelV x v → Vals xs us → r x xs H Q →
    wpAny (model X.prog X.w) X.A (call (.builtin id) (v :: us)) (EP X pins σ Q) X.xe s

/-! ### lists of values -/
theorem Vals.one : ∀ {x : V} {us : List Value}, Vals [x] us → ∃ u, us = [u] ∧ RelV x u
  | _, _, .cons r .nil => ⟨_, rfl, r⟩
theorem Vals.two : ∀ {x y : V} {us : List Value}, Vals [x, y] us → ∃ u v, us = [u, v] ∧ RelV x u ∧ RelV y v
  | _, _, _, .cons r (.cons q .nil) => ⟨_, _, rfl, r, q⟩
theorem Vals.zero : ∀ {us : List Value}, Vals [] us → us = []
  | _, .nil => rfl
theorem Vals.rep {xs : List V} {us : List Value} (h : Vals xs us) : ∀ k : Nat, Vals (List.replicate k xs).flatten (List.replicate k us).flatten
  | 0 => .nil
  | k + 1 => by
    rw [List.replicate_succ, List.replicate_succ, List.flatten_cons, List.flatten_cons]
    exact Vals.append h (Vals.rep h k)
theorem foldl_rep (its : List Value) : ∀ (k : Nat) (acc : List Value),
    List.foldl (fun x1 x2 => x1 ++ x2) acc.toArray (List.replicate k its.toArray) = (acc ++ (List.replicate k its).flatten).toArray
  | 0, acc => by simp
  | k + 1, acc => by
    have e : acc.toArray ++ its.toArray = (acc ++ its).toArray := by simp
    have e2 : (acc ++ its) ++ (List.replicate k its).flatten = acc ++ (List.replicate (k + 1) its).flatten := by
      rw [List.replicate_succ, List.flatten_cons, List.append_assoc]
    rw [← e2, ← foldl_rep its k (acc ++ its), ← e, List.replicate_succ, List.foldl_cons]

section
variable {X : Cx} {pins : List (Addr × Obj)} {σ : St} {H : Hp} {s : Shared} {l b : Addr} {xs ys zs : List V}

/-! ### the two steps: a tracked list is rewritten, a new list is laid -/
theorem Inv.lset {its its' : List Value} {n : Nat} {f : Array Value → Array Value} {t' : Nat} (I : Inv X pins σ H s) (hH : H l = some (.lst xs))
    (e : s.heap.get? l = some { cls := .type "list", data := .seq its.toArray n }) (hf : f its.toArray = its'.toArray) (hv : Vals ys its') (hz : ys.length ≤ sizeLine) :
    Inv X pins σ (upd H l (.lst ys)) { s with heap := s.heap.update l (Obj.mapSeq f), toks := t' } := by
  have q := PySem.IsL.update e f
  rw [hf] at q
  refine I.write (x := l) (e := l) (by rw [hH]; exact trivial) (.inl rfl) (fun b' u hb hu => (Heap.get?_update_other s.heap (Obj.mapSeq f) (Ne.symm hb)).trans hu) ⟨_, q⟩ ?_
  exact ⟨hz, its', _, hv, q⟩
theorem Inv.lnew {its : List Value} {t' : Nat} (I : Inv X pins σ H s) (hv : Vals ys its) (hz : ys.length ≤ sizeLine) :
    Inv X pins σ (upd H s.heap.objs.size (.lst ys)) { s with heap := s.heap.push { cls := .type "list", data := .seq its.toArray }, toks := t' } :=
  I.laid (fun _ _ q => Heap.get?_push_of_some _ q) (Nat.le_refl _) ⟨hz, its, 0, hv, Heap.get?_push_size _ rfl⟩
theorem Inv.fresh (I : Inv X pins σ H s) : H s.heap.objs.size = none := I.hok.fresh (Nat.le_refl _)
theorem Inv.lstM (I : Inv X pins σ H s) (hH : H l = some (.lst xs)) : xs.length ≤ sizeLine ∧ ∃ (its : List Value) (n : Nat), Vals xs its ∧ xs.length = its.length ∧ s.heap.get? l = some { cls := .type "list", data := .seq its.toArray n } := by
  obtain ⟨z, its, n, r, e⟩ := I.hok l _ hH
  exact ⟨z, its, n, r, r.length, e⟩

theorem notLongL {n : Nat} (h : n ≤ sizeLine) : Builtin.List.listTooLong n = false := by
  unfold Builtin.List.listTooLong
  exact decide_eq_false (by omega)
end

section
variable {X : Cx}

/-! ### methods -/
def rAppend : V → List V → Hp → VK → Prop := fun x vs H Q => ∃ l xs y, x = .ref l ∧ vs = [y] ∧ H l = some (.lst xs) ∧ xs.length < sizeLine ∧ Q .non (upd H l (.lst (xs ++ [y])))
theorem mt_append : MtM X "list.append" rAppend := by
  intro pins s σ H x vs v us Q I rx rv h
  obtain ⟨l, xs, y, rfl, rfl, hH, hz, q⟩ := h
  cases rx
  obtain ⟨u, rfl, ru⟩ := rv.one
  obtain ⟨z, its, n, r, hl, e⟩ := I.lstM hH
  refine call_meets F.slot_list_append ⟨_, e, rfl⟩ F.entry_list_append (F.args_list_append_2 _ _) (PySem.list_append l its.toArray n u (by rw [List.size_toArray]; omega)) ⟨e, ?_⟩
  refine ⟨.non, _, I.lset (its' := its ++ [u]) hH e (by simp) (r.append (.cons ru .nil)) ?_, rfl, q⟩
  rw [List.length_append, List.length_singleton]
  omega

def rExtend : V → List V → Hp → VK → Prop := fun x vs H Q => ∃ l b xs zs, x = .ref l ∧ vs = [.ref b] ∧ H l = some (.lst xs) ∧ H b = some (.lst zs) ∧ xs.length + zs.length ≤ sizeLine ∧ Q .non (upd H l (.lst (xs ++ zs)))
theorem mt_extend : MtM X "list.extend" rExtend := by
  intro pins s σ H x vs v us Q I rx rv h
  obtain ⟨l, b, xs, zs, rfl, rfl, hH, hB, hz, q⟩ := h
  cases rx
  obtain ⟨u, rfl, ru⟩ := rv.one
  cases ru
  obtain ⟨z, its, n, r, hl, e⟩ := I.lstM hH
  obtain ⟨z2, its2, n2, r2, hl2, e2⟩ := I.lstM hB
  have hsz : its.toArray.size + its2.toArray.size ≤ sizeLine := by rw [List.size_toArray, List.size_toArray]; omega
  have hlong : ¬ (!its.toArray.isEmpty && Builtin.List.listTooLong (its.toArray.size + its2.toArray.size)) = true := by
    rw [notLongL hsz, Bool.and_false]
    exact Bool.false_ne_true
  refine call_meets F.slot_list_extend ⟨_, e, rfl⟩ F.entry_list_extend (F.args_list_extend_2 _ _)
    (AutoSeq1.list_extend_list_list_0 l its.toArray n b its2.toArray n2 hlong (by rw [List.size_toArray]; omega) (by omega)) ⟨e, e2, ?_⟩
  refine ⟨.non, _, I.lset (its' := its ++ its2) hH e (by simp) (r.append r2) ?_, rfl, q⟩
  rw [List.length_append]
  omega

/-! ### list + list, list += list, list * int -/
def rCat : R2 := fun x y H Q => ∃ l b xs zs, x = .ref l ∧ y = .ref b ∧ H l = some (.lst xs) ∧ H b = some (.lst zs) ∧ xs.length + zs.length ≤ sizeLine ∧ ∀ p, H p = none → Q (.ref p) (upd H p (.lst (xs ++ zs)))
theorem op_cat : OpR X (binaryOp .Add) rCat := by
  intro pins s σ H x y v u Q I rx ry h
  obtain ⟨l, b, xs, zs, rfl, rfl, hH, hB, hz, q⟩ := h
  cases rx
  cases ry
  obtain ⟨z, its, n, r, hl, e⟩ := I.lstM hH
  obtain ⟨z2, its2, n2, r2, hl2, e2⟩ := I.lstM hB
  refine PySem.P.add_list e e2 ?_ (by rw [List.size_toArray, List.size_toArray]; omega)
  have ea : its.toArray ++ its2.toArray = (its ++ its2).toArray := by simp
  rw [ea]
  exact ⟨.ref _, _, I.lnew (t' := s.toks) (r.append r2) (by rw [List.length_append]; omega), rfl, q _ I.fresh⟩
/-- a list times an int (a negative one is nothing) -/
def rRep : R2 := fun x y H Q => ∃ l k xs, x = .ref l ∧ y = .int k ∧ H l = some (.lst xs) ∧ -(2 ^ 63) ≤ k ∧ k < 2 ^ 63 ∧ xs.length * k.toNat ≤ sizeLine ∧
  ∀ p, H p = none → Q (.ref p) (upd H p (.lst (List.replicate k.toNat xs).flatten))
theorem len_rep {α : Type} (xs : List α) (k : Nat) : (List.replicate k xs).flatten.length = k * xs.length := by
  induction k with
  | zero => simp
  | succ k ih => rw [List.replicate_succ, List.flatten_cons, List.length_append, ih, Nat.succ_mul, Nat.add_comm]
theorem op_rep : OpR X (binaryOp .Mult) rRep := by
  intro pins s σ H x y v u Q I rx ry h
  obtain ⟨l, k, xs, rfl, rfl, hH, h1, h2, hz, q⟩ := h
  cases rx
  obtain ⟨t, rfl⟩ := ry
  obtain ⟨z, its, n, r, hl, e⟩ := I.lstM hH
  have hlen : its.toArray.size * k.toNat ≤ sizeLine := by rw [List.size_toArray, ← hl]; exact hz
  have hcap : ¬ its.toArray.size * k.toNat > (2 ^ 63 - 1) / 8 := by
    have : (sizeLine : Nat) ≤ (2 ^ 63 - 1) / 8 := by decide
    omega
  have hfit : ¬ (!Builtin.List.listFitsIndex k) = true := by
    rw [fitsIndex_both h1 h2]
    exact Bool.false_ne_true
  have hlong : ¬ Builtin.List.listTooLong (its.toArray.size * k.toNat) = true := by
    rw [notLongL hlen]
    exact Bool.false_ne_true
  have hnew : List.foldl (fun x1 x2 => x1 ++ x2) #[] (List.replicate (if its.toArray.isEmpty = true then 0 else k.toNat) its.toArray) = (List.replicate k.toNat its).flatten.toArray := by
    have f0 : ∀ m : Nat, List.foldl (fun x1 x2 => x1 ++ x2) #[] (List.replicate m its.toArray) = (List.replicate m its).flatten.toArray := fun m => by
      have := foldl_rep its m []
      rw [List.nil_append] at this
      exact this
    rw [f0]
    cases its with
    | nil => simp
    | cons a r' => rw [if_neg (by simp)]
  refine wpAny_binaryOp_repeat_ref (T := "list") (U := "int") (by decide) ⟨_, e, rfl⟩ (fun s' => typeIs_int s' k t) noFill_list_mul F.fills_int_mul F.slot_int_rmul repeat_list F.slot_int_index.lookup
    (call_meets F.slot_int_rmul (typeIs_int s k t) F.entry_int_rmul (F.args_int_rmul_2 _ _) (int___rmul___int_list k t l its.toArray n)
      ⟨e, rfl, ⟨_, e, rfl⟩, call_meets F.slot_list_mul ⟨_, e, rfl⟩ F.entry_list_mul (F.args_list_mul_2 _ _) (AutoListH.list___mul___list_int_3 l its.toArray n k t hfit hcap hlong) ⟨e, ?_⟩⟩)
  rw [hnew]
  exact ⟨.ref _, _, I.lnew (t' := s.toks) (r.rep k.toNat) (by rw [len_rep, Nat.mul_comm]; exact hz), rfl, q _ I.fresh⟩

/-! ### del xs[i] -/
end

/-! ### xs[a:b] = ys -/
section
variable {prog : Program} {w : World} {A : Around} {E : Value → Shared → Prop} {s : Shared}
end

section
variable {X : Cx}
end
end L2

namespace L2
open PySem PySem.Spec PyProof.Rows

theorem Vals.ints : ∀ {ns : List Int} {us : List Value}, Vals (ns.map V.int) us → IntsAre us ns
  | [], us, h => by
    rw [List.map_nil] at h
    cases h
    exact IntsAre.nil
  | n :: ns, us, h => by
    rw [List.map_cons] at h
    cases h with
    | cons r t =>
      obtain ⟨k, rfl⟩ := r
      exact IntsAre.cons n k (Vals.ints t)
theorem Vals.strs : ∀ {xs : List Str} {us : List Value}, Vals (xs.map V.str) us → StrsAre us xs
  | [], us, h => by
    rw [List.map_nil] at h
    cases h
    exact StrsAre.nil
  | x :: xs, us, h => by
    rw [List.map_cons] at h
    cases h with
    | cons r t =>
      obtain ⟨k, rfl⟩ := r
      exact StrsAre.cons x k (Vals.strs t)
theorem Vals.bls : ∀ {bs : List Bool} {us : List Value}, Vals (bs.map V.bl) us → us = bs.map Value.bool
  | [], us, h => by
    rw [List.map_nil] at h
    cases h
    rfl
  | b :: bs, us, h => by
    rw [List.map_cons] at h
    cases h with
    | cons r t =>
      cases r
      rw [Vals.bls t, List.map_cons]
theorem Vals.ref1 {a : Addr} {us : List Value} (r : Vals [V.ref a] us) : us = [Value.ref a] := by
  cases r with
  | cons r t =>
    cases t
    cases r
    rfl
/-! ### the library's walks over a list of ints, kept objects alone -/
section
variable {prog : Program} {w : World} {A : Around} {E : Value → Shared → Prop} {s : Shared} {l : Addr} {its : List Value} {ns : List Int} {Q : Value → Shared → Prop}
theorem sum_raw (hh : A.handled = none) (hl : s.heap.IsList l its.toArray) (hi : IntsAre its ns)
    (h : ∀ h' tk t', (∀ b o, s.heap.get? b = some o → h'.get? b = some o) → Q (.int ns.sum t') { s with heap := h', toks := tk }) : wpAny (model prog w) A (call (.builtin "sum") [.ref l]) Q E s := by
  obtain ⟨xs, e⟩ := hi.allInts.items
  have hn : numsOf (intItems xs).toList = ns := by rw [← e]; exact hi.numsOf
  rw [nums_intItems] at hn
  rw [e] at hl
  refine PySem.sum_intListG hh hl fun h' tk t' hk => ?_
  have := h h' tk t' hk
  rw [preSum_eq, List.take_of_length_le (by simp), hn]; exact this
theorem max_raw (hh : A.handled = none) (hl : s.heap.IsList l its.toArray) (hi : IntsAre its ns) (hne : 0 < ns.length)
    (h : ∀ h' tk M t', (∀ b o, s.heap.get? b = some o → h'.get? b = some o) → M ∈ ns → (∀ a, a ∈ ns → a ≤ M) → Q (.int M t') { s with heap := h', toks := tk }) : wpAny (model prog w) A (call (.builtin "max") [.ref l]) Q E s := by
  obtain ⟨xs, e⟩ := hi.allInts.items
  have hn : numsOf (intItems xs).toList = ns := by rw [← e]; exact hi.numsOf
  rw [nums_intItems] at hn
  subst hn
  rw [e] at hl
  have hsz : 0 < xs.size := by simpa using hne
  refine PySem.max_intList hh hl hsz fun v h' tk hv hk => ?_
  obtain ⟨t, rfl⟩ := intItems_at hv
  obtain ⟨h1, h2⟩ := argBest_gt (numAt xs) (xs.size - 1)
  refine h h' tk _ t hk ?_ fun a ha => ?_
  · rw [numAt_eq]; exact PySem.getD_mem (by rw [List.length_map, Array.length_toList]; omega)
  · obtain ⟨j, hj, rfl⟩ := mem_getD ha
    rw [List.length_map, Array.length_toList] at hj
    rw [← numAt_eq]; exact h2 j (by omega)
theorem min_raw (hh : A.handled = none) (hl : s.heap.IsList l its.toArray) (hi : IntsAre its ns) (hne : 0 < ns.length)
    (h : ∀ h' tk M t', (∀ b o, s.heap.get? b = some o → h'.get? b = some o) → M ∈ ns → (∀ a, a ∈ ns → M ≤ a) → Q (.int M t') { s with heap := h', toks := tk }) : wpAny (model prog w) A (call (.builtin "min") [.ref l]) Q E s := by
  obtain ⟨xs, e⟩ := hi.allInts.items
  have hn : numsOf (intItems xs).toList = ns := by rw [← e]; exact hi.numsOf
  rw [nums_intItems] at hn
  subst hn
  rw [e] at hl
  have hsz : 0 < xs.size := by simpa using hne
  refine PySem.min_intList hh hl hsz fun v h' tk hv hk => ?_
  obtain ⟨t, rfl⟩ := intItems_at hv
  obtain ⟨h1, h2⟩ := argBest_lt (numAt xs) (xs.size - 1)
  refine h h' tk _ t hk ?_ fun a ha => ?_
  · rw [numAt_eq]; exact PySem.getD_mem (by rw [List.length_map, Array.length_toList]; omega)
  · obtain ⟨j, hj, rfl⟩ := mem_getD ha
    rw [List.length_map, Array.length_toList] at hj
    rw [← numAt_eq]; exact h2 j (by omega)
end

/-! ### the calls, by values (CallR of 03t; MtR of 06l) -/
section
variable {X : Cx}
/-- sum(xs) of a list of ints -/
def rSum (K : PySem.W.Frag) : List V → Hp → VK → Prop := fun vs H Q => ∃ (a : Addr) (ns : List Int), vs = [V.ref a] ∧ SqL K H a (ns.map V.int) ∧ Q (.int ns.sum) H
/-- max(xs), min(xs) of a list of ints -/
def rMax (K : PySem.W.Frag) : List V → Hp → VK → Prop := fun vs H Q => ∃ (a : Addr) (ns : List Int), vs = [V.ref a] ∧ SqL K H a (ns.map V.int) ∧ 0 < ns.length ∧ ∀ m, m ∈ ns → (∀ y, y ∈ ns → y ≤ m) → Q (.int m) H
def rMin (K : PySem.W.Frag) : List V → Hp → VK → Prop := fun vs H Q => ∃ (a : Addr) (ns : List Int), vs = [V.ref a] ∧ SqL K H a (ns.map V.int) ∧ 0 < ns.length ∧ ∀ m, m ∈ ns → (∀ y, y ∈ ns → m ≤ y) → Q (.int m) H
theorem cr_sum (hc : X.calm = true) : CallR X (.builtin "sum") (rSum X.K) := by
  intro pins s σ H vs us Q I r h
  obtain ⟨a, ns, rfl, hs, q⟩ := h
  obtain ⟨its, rv, hl, _⟩ := I.list hs
  rw [Vals.ref1 r]
  exact sum_raw (I.ok.hd hc) hl.isList rv.ints fun h' tk t' hk => ⟨.int _, H, I.kept hk, ⟨_, rfl⟩, q⟩
theorem cr_max (hc : X.calm = true) : CallR X (.builtin "max") (rMax X.K) := by
  intro pins s σ H vs us Q I r h
  obtain ⟨a, ns, rfl, hs, hne, q⟩ := h
  obtain ⟨its, rv, hl, _⟩ := I.list hs
  rw [Vals.ref1 r]
  exact max_raw (I.ok.hd hc) hl.isList rv.ints hne fun h' tk m t' hk h1 h2 => ⟨.int _, H, I.kept hk, ⟨_, rfl⟩, q m h1 h2⟩
theorem cr_min (hc : X.calm = true) : CallR X (.builtin "min") (rMin X.K) := by
  intro pins s σ H vs us Q I r h
  obtain ⟨a, ns, rfl, hs, hne, q⟩ := h
  obtain ⟨its, rv, hl, _⟩ := I.list hs
  rw [Vals.ref1 r]
  exact min_raw (I.ok.hd hc) hl.isList rv.ints hne fun h' tk m t' hk h1 h2 => ⟨.int _, H, I.kept hk, ⟨_, rfl⟩, q m h1 h2⟩

/-! sorted, sort (fewer than 64 items: the library's own bound) -/
end

/-! ### list.index, flat items -/
section
variable {X : Cx}
def rIndex (K : PySem.W.Frag) : V → List V → Hp → VK → Prop := fun x xs H Q => ∃ (a : Addr) (ys : List V) (y : V) (j : Nat) (z : V), x = V.ref a ∧ xs = [y] ∧ SqL K H a ys ∧ flatV y = true ∧ ys.all flatV = true ∧ ys[j]? = some z ∧ eqV z y = true ∧
  (∀ (m : Nat) (z' : V), m < j → ys[m]? = some z' → eqV z' y = false) ∧ Q (.int (j : Nat)) H
theorem flat_at {ys : List V} (f : ys.all flatV = true) {j : Nat} {z : V} (h : ys[j]? = some z) : flatV z = true := List.all_eq_true.mp f z (List.mem_of_getElem? h)
theorem mt_index : MtR X "list.index" (rIndex X.K) := by
  intro pins s σ H x xs v us Q I rx rxs h
  obtain ⟨a, ys, y, j, z, rfl, rfl, hs, fy, fys, hz, hzj, hno, q⟩ := h
  cases rx
  cases rxs with
  | cons ry rt =>
    rename_i uy ut
    cases rt
    obtain ⟨its, rv, ⟨⟨cls, dd, data, sl⟩, n, ho, hc, hdn, hd⟩, hlen⟩ := I.list hs
    simp only at hc hd
    subst hc hd
    obtain ⟨u, hu, ru⟩ := rv.get hz
    obtain ⟨hjl, hje⟩ := List.getElem?_eq_some_iff.mp hu
    have hvl := rv.length
    have hj : j < its.toArray.size := by simpa using hjl
    have hsl := sizeLine_eq
    refine call_meets PySem.F.slot_list_index ⟨_, ho, rfl⟩ PySem.F.entry_list_index (PySem.F.args_list_index_2 _ _)
      (SeqAt.list_indexAt a its.toArray n dd sl uy (eqU y) j hj (by omega) ?_ ?_) ⟨ho, fun u' hu' => mem_eqAt ry fy rv fys u' (by simpa using hu'), ?_⟩
    · have e1 : its.toArray[j] = u := by simpa using hje
      rw [e1, eqU_of ru (flat_at fys hz)]
      exact hzj
    · intro m hm hmj
      have hml : m < its.length := by simpa using hm
      have hmy : m < ys.length := by omega
      have hy' : ys[m]? = some ys[m] := List.getElem?_eq_getElem hmy
      obtain ⟨u2, hu2, ru2⟩ := rv.get hy'
      obtain ⟨_, hme⟩ := List.getElem?_eq_some_iff.mp hu2
      have e1 : its.toArray[m] = u2 := by simpa using hme
      rw [e1, eqU_of ru2 (flat_at fys hy')]
      exact hno m _ hmj hy'
    · exact ⟨.int (j : Nat), H, I.tok _, ⟨_, rfl⟩, q⟩
end

/-! ### type(x) of an own instance; is, is not of a module's class -/
section
variable {X : Cx}
end

/-! ### any(xs), all(xs) of a list of bools -/
theorem iter_any {prog : Program} {w : World} {A : Around} {E : Value → Shared → Prop} {s : Shared} {l : Addr} {items : Array Value} {Q : Value → Shared → Prop} (hl : s.heap.IsList l items)
    (h : ∀ s₂ : Shared, s₂ = { s with heap := s.heap.push { cls := .type "list_iterator", data := .fields #[.ref l, .int 0 0] } } →
      (s₂.heap.IsListIter s.heap.objs.size l 0 ∧ s₂.heap.IsList l items) → l ≠ s.heap.objs.size → Q (.ref s.heap.objs.size) s₂) : wpAny (model prog w) A (pyIter (.ref l)) Q E s := by
  have hlt : l < s.heap.objs.size := by obtain ⟨_, e, _⟩ := hl; exact Heap.lt_size e
  exact wpAny_pyIter_list hl (h _ rfl ⟨⟨_, Heap.get?_push_size _ rfl, rfl, rfl⟩, hl.push _⟩ (Nat.ne_of_lt hlt))
theorem truth_bools {prog : Program} {w : World} {A : Around} {bs : List Bool} {its : List Value} (e : its = bs.map Value.bool) :
    TruthOf prog w A (fun i v => its.toArray[i]? = some v) (fun i => bs.getD i false) := fun i v s Q E hv hq => by
  have hv' : its[i]? = some v := by simpa using hv
  rw [e, List.getElem?_map] at hv'
  obtain ⟨b, hb, rfl⟩ := Option.map_eq_some_iff.mp hv'
  have hg : bs.getD i false = b := by rw [List.getD_eq_getElem?_getD, hb] <;> rfl
  have hq' : Q (bs.getD i false) s := hq
  rw [hg] at hq'
  exact wpAny_truthy_bool hq'
theorem any_range : ∀ bs : List Bool, (List.range bs.length).any (fun i => bs.getD i false) = bs.any id
  | [] => rfl
  | b :: bs => by
    rw [List.length_cons, List.range_succ_eq_map, List.any_cons, List.any_map, List.any_cons, ← any_range bs]
    all_goals rfl
theorem all_range : ∀ bs : List Bool, (List.range bs.length).all (fun i => bs.getD i false) = bs.all id
  | [] => rfl
  | b :: bs => by
    rw [List.length_cons, List.range_succ_eq_map, List.all_cons, List.all_map, List.all_cons, ← all_range bs]
    all_goals rfl
section
variable {X : Cx}
def rAll (K : PySem.W.Frag) : List V → Hp → VK → Prop := fun vs H Q => ∃ (a : Addr) (bs : List Bool), vs = [V.ref a] ∧ SqL K H a (bs.map V.bl) ∧ Q (.bl (bs.all id)) H
theorem cr_all (hc : X.calm = true) : CallR X (.builtin "all") (rAll X.K) := by
  intro pins s σ H vs us Q I r h
  obtain ⟨a, bs, rfl, hs, q⟩ := h
  obtain ⟨its, rv, hl, _⟩ := I.list hs
  rw [Vals.ref1 r]
  have hb := rv.bls
  refine call_all_walk (iter_any hl.isList fun s₂ e2 st hne => ?_)
  subst e2
  refine ⟨_, _, _, _, _, _, _, rfl, Walks.list (A := X.A.in1) (I.ok.hd hc) _ a hne its.toArray, st, truth_bools hb, fun h' tk hk => ?_⟩
  refine ⟨.bl _, H, I.kept fun b o eo => hk b o (fun hmem => ?_) (Heap.get?_push_of_some _ eo), ?_, q⟩
  · rcases List.mem_cons.mp hmem with e1 | hmem
    · exact absurd (e1 ▸ Heap.lt_size eo) (Nat.lt_irrefl _)
    · cases hmem
  · show Value.bool _ = Value.bool _
    rw [← all_range, hb, List.size_toArray, List.length_map]
end

/-! ### == and != of data at any depth: none, bools, ints, texts, lists, tuples -/
mutual
inductive Dp (K : PySem.W.Frag) (H : Hp) : V → PyData → Prop
  | non : Dp K H .non .none
  | bl (b : Bool) : Dp K H (.bl b) (.bool b)
  | int (i : Int) : Dp K H (.int i) (.int i)
  | str (x : Str) : Dp K H (.str x) (.str x)
  | lst {a : Addr} {xs : List V} {ds : List PyData} : SqL K H a xs → DpAll K H xs ds → Dp K H (.ref a) (.list ds)
  | tup {a : Addr} {xs : List V} {ds : List PyData} : SqT K H a xs → DpAll K H xs ds → Dp K H (.ref a) (.tuple ds)
inductive DpAll (K : PySem.W.Frag) (H : Hp) : List V → List PyData → Prop
  | nil : DpAll K H [] []
  | cons {v : V} {vs : List V} {d : PyData} {ds : List PyData} : Dp K H v d → DpAll K H vs ds → DpAll K H (v :: vs) (d :: ds)
end
section
variable {X : Cx} {pins : List (Addr × Obj)} {σ : St} {H : Hp} {s : Shared}
mutual
theorem Dp.reads (I : Inv X pins σ H s) : ∀ (d : PyData) (v : V) (u : Value), Dp X.K H v d → RelV v u → ∃ as, Reads s.heap u d as
  | .none, _, _, h, r => by
    cases h
    cases r
    exact ⟨_, Reads.none⟩
  | .bool b, _, _, h, r => by
    cases h
    cases r
    exact ⟨_, Reads.bool b⟩
  | .int i, _, _, h, r => by
    cases h
    obtain ⟨t, rfl⟩ := r
    exact ⟨_, Reads.int i t⟩
  | .str x, _, _, h, r => by
    cases h
    obtain ⟨t, rfl⟩ := r
    exact ⟨_, Reads.str x t⟩
  | .list ds, _, _, h, r => by
    cases h with
    | lst hs ha =>
      cases r
      obtain ⟨its, rv, ⟨o, n, ho, hc, _, hd⟩, _⟩ := I.list hs
      obtain ⟨as, hr⟩ := Dp.readsAll I ds _ its ha rv
      exact ⟨_, Reads.list ho hc hd hr⟩
  | .tuple ds, _, _, h, r => by
    cases h with
    | tup hs ha =>
      cases r
      obtain ⟨its, rv, ⟨o, ho, hc, n, hd⟩, _⟩ := I.tuple hs
      obtain ⟨as, hr⟩ := Dp.readsAll I ds _ its ha rv
      exact ⟨_, Reads.tuple ho hc hd hr⟩
  | .dict _, _, _, h, _ => by cases h
theorem Dp.readsAll (I : Inv X pins σ H s) : ∀ (ds : List PyData) (vs : List V) (us : List Value), DpAll X.K H vs ds → Vals vs us → ∃ as, ReadsAll s.heap us ds as
  | [], _, _, h, r => by
    cases h
    cases r
    exact ⟨_, ReadsAll.nil⟩
  | d :: ds, _, _, h, r => by
    cases h with
    | cons h1 h2 =>
      cases r with
      | cons r1 r2 =>
        obtain ⟨as, q1⟩ := Dp.reads I d _ _ h1 r1
        obtain ⟨bs, q2⟩ := Dp.readsAll I ds _ _ h2 r2
        exact ⟨_, ReadsAll.cons q1 q2⟩
end
end
section
variable {X : Cx}
end
end L2

namespace L2
open PySem PySem.Spec PyProof.Rows
abbrev CellAt (h : Heap) (c : Addr) (v : Option Value) : Prop := h.IsCell c v
def relS (scope sc : Scope) : Scope :=
  { scope with names := scope.names.map fun (n, k) => if (k == .free && sc.kind == .function && sc.names.lookup n == some .cell) then (n, .cell) else (n, k) }

def cloFrom (cells : List (Str × Addr)) : List (Str × NameKind) → List (Str × Addr) → List (Str × Addr)
  | [], acc => acc
  | (n, k) :: r, acc => if k == .free then cloFrom cells r ((n, (cells.lookup n).getD 0) :: acc) else cloFrom cells r acc

theorem closure_loop (env : Env) (f : Str × NameKind → List (Str × Addr) → Sem (ForInStep (List (Str × Addr))))
    (hf : ∀ n k c, f (n, k) c = if k == .free then (do let a ← cellOf env n; pure (.yield ((n, a) :: c))) else pure (.yield c)) :
    ∀ (names : List (Str × NameKind)) (acc : List (Str × Addr)), (∀ y ∈ names, y.2 = .free → ∃ c, env.cells.lookup y.1 = some c) → forIn names acc f = pure (cloFrom env.cells names acc)
  | [], acc, _ => by rw [List.forIn_nil]; rfl
  | (n, k) :: r, acc, h => by
    rw [List.forIn_cons, hf]
    have ih := fun acc => closure_loop env f hf r acc fun y hy => h y (List.mem_cons_of_mem _ hy)
    unfold cloFrom
    by_cases hk : (k == NameKind.free) = true
    · rw [if_pos hk, if_pos hk]
      obtain ⟨c, hc⟩ := h (n, k) List.mem_cons_self (by simpa using hk)
      have e : cellOf env n = pure c := by unfold cellOf; rw [hc]
      rw [e]
      have e2 : (env.cells.lookup n).getD 0 = c := by rw [hc]; rfl
      rw [e2]
      exact ih _
    · rw [if_neg hk, if_neg hk]
      exact ih _
theorem closure_ok {scope : Scope} {env : Env} (h : ∀ y ∈ scope.names, y.2 = .free → ∃ c, env.cells.lookup y.1 = some c) : closureFor scope env = pure (cloFrom env.cells scope.names []) := by
  simp only [closureFor]
  rw [closure_loop env _ (fun n k c => rfl) scope.names [] h]
  rfl

theorem mem_lookup {α : Type} : ∀ {l : List (Str × α)} {n : Str} {c : α}, (n, c) ∈ l → ∃ c', l.lookup n = some c'
  | (k, v) :: r, n, c, h => by
    rw [List.lookup_cons]
    cases hb : n == k with
    | true => exact ⟨_, rfl⟩
    | false =>
      rcases List.mem_cons.mp h with e | h
      · cases e; simp at hb
      · exact mem_lookup h

theorem cloFrom_mem {cells : List (Str × Addr)} : ∀ {names : List (Str × NameKind)} {acc : List (Str × Addr)} {n : Str} {c : Addr}, (n, c) ∈ cloFrom cells names acc → (n, c) ∈ acc ∨ ((n, .free) ∈ names ∧ c = (cells.lookup n).getD 0)
  | [], _, _, _, h => .inl h
  | (m, k) :: r, acc, n, c, h => by
    unfold cloFrom at h
    split at h
    · rename_i hk
      have hk : k = .free := by simpa using hk
      rcases cloFrom_mem h with h | ⟨h1, h2⟩
      · rcases List.mem_cons.mp h with e | h
        · cases e; exact .inr ⟨hk ▸ List.mem_cons_self, rfl⟩
        · exact .inl h
      · exact .inr ⟨List.mem_cons_of_mem _ h1, h2⟩
    · rcases cloFrom_mem h with h | ⟨h1, h2⟩
      · exact .inl h
      · exact .inr ⟨List.mem_cons_of_mem _ h1, h2⟩
theorem cloFrom_acc {cells : List (Str × Addr)} : ∀ {names : List (Str × NameKind)} {acc : List (Str × Addr)} {p : Str × Addr}, p ∈ acc → p ∈ cloFrom cells names acc
  | [], _, _, h => h
  | (m, k) :: r, acc, p, h => by
    unfold cloFrom
    split
    · exact cloFrom_acc (List.mem_cons_of_mem _ h)
    · exact cloFrom_acc h
theorem cloFrom_has {cells : List (Str × Addr)} : ∀ {names : List (Str × NameKind)} {acc : List (Str × Addr)} {n : Str}, (n, .free) ∈ names → (n, (cells.lookup n).getD 0) ∈ cloFrom cells names acc
  | (m, k) :: r, acc, n, h => by
    unfold cloFrom
    rcases List.mem_cons.mp h with e | h
    · cases e
      exact cloFrom_acc List.mem_cons_self
    · split
      · exact cloFrom_has h
      · exact cloFrom_has h

theorem cells_mem : ∀ {names : List (Str × NameKind)} {h : Heap} {acc : List (Str × Addr)} {x : Str} {c : Addr}, (x, c) ∈ cellsFrom h.objs.size names acc →
    (x, c) ∈ acc ∨ ((x, .cell) ∈ names ∧ h.objs.size ≤ c ∧ CellAt (pushCells h names) c none)
  | [], _, _, _, _, h => .inl h
  | (n, k) :: r, h, acc, x, c, hm => by
    unfold cellsFrom at hm
    unfold pushCells
    split at hm
    · rename_i hk
      rw [if_pos hk]
      have hk : k = .cell := by simpa using hk
      rw [← Heap.size_push h { cls := .type "cell", data := .cell none }] at hm
      rcases cells_mem hm with hm | ⟨h1, h2, h3⟩
      · rcases List.mem_cons.mp hm with e | hm
        · cases e
          exact .inr ⟨hk ▸ List.mem_cons_self, Nat.le_refl _, _, pushCells_keeps r _ _ _ (Heap.get?_push_size _ rfl), rfl⟩
        · exact .inl hm
      · rw [Heap.size_push] at h2
        exact .inr ⟨List.mem_cons_of_mem _ h1, Nat.le_of_succ_le h2, h3⟩
    · rename_i hk
      rw [if_neg hk]
      rcases cells_mem hm with hm | ⟨h1, h2, h3⟩
      · exact .inl hm
      · exact .inr ⟨List.mem_cons_of_mem _ h1, h2, h3⟩
theorem cells_acc : ∀ {names : List (Str × NameKind)} {n : Nat} {acc : List (Str × Addr)} {p : Str × Addr}, p ∈ acc → p ∈ cellsFrom n names acc
  | [], _, _, _, h => h
  | (m, k) :: r, n, acc, p, h => by
    unfold cellsFrom
    split
    · exact cells_acc (List.mem_cons_of_mem _ h)
    · exact cells_acc h
theorem cells_has : ∀ {names : List (Str × NameKind)} {n : Nat} {acc : List (Str × Addr)} {x : Str}, (x, .cell) ∈ names → ∃ c, (x, c) ∈ cellsFrom n names acc
  | (m, k) :: r, n, acc, x, h => by
    unfold cellsFrom
    rcases List.mem_cons.mp h with e | h
    · cases e
      exact ⟨n, cells_acc List.mem_cons_self⟩
    · split
      · exact cells_has h
      · exact cells_has h
theorem cells_inj : ∀ {names : List (Str × NameKind)} {h : Heap} {acc : List (Str × Addr)} {x y : Str} {c : Addr}, (∀ p ∈ acc, p.2 < h.objs.size) → (∀ x y c, (x, c) ∈ acc → (y, c) ∈ acc → x = y) →
    (x, c) ∈ cellsFrom h.objs.size names acc → (y, c) ∈ cellsFrom h.objs.size names acc → x = y
  | [], _, _, _, _, _, _, hi, h1, h2 => hi _ _ _ h1 h2
  | (n, k) :: r, h, acc, x, y, c, hl, hi, h1, h2 => by
    unfold cellsFrom at h1 h2
    split at h1
    · rename_i hk
      rw [if_pos hk] at h2
      rw [← Heap.size_push h { cls := .type "cell", data := .cell none }] at h1 h2
      refine cells_inj (h := h.push _) (fun p hp => ?_) (fun x y c a b => ?_) h1 h2
      · rw [Heap.size_push]
        rcases List.mem_cons.mp hp with rfl | hp
        · exact Nat.lt_succ_self _
        · exact Nat.lt_succ_of_lt (hl p hp)
      · rcases List.mem_cons.mp a with e | a <;> rcases List.mem_cons.mp b with e' | b
        · cases e; cases e'; rfl
        · cases e; exact absurd (hl _ b) (Nat.lt_irrefl _)
        · cases e'; exact absurd (hl _ a) (Nat.lt_irrefl _)
        · exact hi _ _ _ a b
    · rename_i hk
      rw [if_neg hk] at h2
      exact cells_inj hl hi h1 h2

theorem newEnv_comp {M : Model} {A : Around} {E : Value → Shared → Prop} {s : Shared} {scope : Scope} {globals : Addr} {closure : List (Str × Addr)} {qual : Str} {func : Option Addr} {code : Value} {around : Env} {builtins : Addr} {Q : Env → Shared → Prop}
    (h : Q (newEnv scope s.heap.objs.size globals (cellsFrom (s.heap.objs.size + 1) scope.names closure) qual func code (some around) builtins)
      { s with heap := pushCells (s.heap.push { cls := .type "dict", data := .dict #[] }) scope.names }) :
    wpAny M A (newFunctionEnv scope globals closure [] qual func code (some around) builtins) Q E s := by
  simp only [newFunctionEnv, Option.isSome_some, if_true]
  refine wpAny_bind (wpAny_alloc ?_)
  refine wpAny_bind (wpAny_layCells _ (fun n k c => rfl) scope.names closure _ _ ?_)
  rw [show ({ s with heap := s.heap.push { cls := .type "dict", data := .dict #[] } } : Shared).heap.objs.size = s.heap.objs.size + 1 from Heap.size_push ..]
  rw [List.forIn_nil]
  exact wpAny_bind (wpAny_pure (wpAny_pure h))

/-- every name of the written scope, in the scope that runs -/
theorem lookup_relS {sc : Scope} : ∀ {names : List (Str × NameKind)} {x : Str} {k : NameKind},
    (names.map fun (n, k) => if (k == NameKind.free && sc.kind == .function && sc.names.lookup n == some .cell) then (n, NameKind.cell) else (n, k)).lookup x = some k →
    ∃ k', names.lookup x = some k' ∧ (k = k' ∨ (k' = .free ∧ k = .cell))
  | [], _, _, h => by simp at h
  | (n, k₀) :: r, x, k, h => by
    have ih := @lookup_relS sc r x k
    have h' : List.lookup x ((if (k₀ == NameKind.free && sc.kind == .function && sc.names.lookup n == some .cell) = true then (n, NameKind.cell) else (n, k₀)) :: (r.map _)) = some k := h
    cases hx : x == n with
    | true =>
      simp only [List.lookup_cons, hx]
      by_cases hc : (k₀ == NameKind.free && sc.kind == .function && sc.names.lookup n == some .cell) = true
      · rw [if_pos hc] at h'
        simp only [List.lookup_cons, hx] at h'
        cases h'
        simp only [Bool.and_eq_true, beq_iff_eq] at hc
        exact ⟨k₀, rfl, .inr ⟨hc.1.1, rfl⟩⟩
      · rw [if_neg hc] at h'
        simp only [List.lookup_cons, hx] at h'
        cases h'
        exact ⟨_, rfl, .inl rfl⟩
    | false =>
      simp only [List.lookup_cons, hx]
      by_cases hc : (k₀ == NameKind.free && sc.kind == .function && sc.names.lookup n == some .cell) = true
      · rw [if_pos hc] at h'
        simp only [List.lookup_cons, hx] at h'
        exact ih h'
      · rw [if_neg hc] at h'
        simp only [List.lookup_cons, hx] at h'
        exact ih h'
/-- the names of a comprehension's block: its own (with their places in N), or captured -/
structure BlkOk (N : List Str) (sc scope : Scope) (own : List (Str × Nat)) : Prop where
  kind : scope.kind = .function
  uniq : ∀ y ∈ scope.names, scope.names.lookup y.1 = some y.2
  ix : ∀ p ∈ own, N[p.2]? = some p.1
  free : ∀ y ∈ scope.names, y.2 = .free → sc.names.lookup y.1 = some .cell ∨ sc.names.lookup y.1 = some .free
  own : ∀ y ∈ scope.names, y.2 = .local ∨ y.2 = .cell → y.1 ∈ own.map (·.1) ∨ y.1 ∉ N
/-- the slots of the block's own names forgotten -/
def wipe (σ : St) : List Nat → St
  | [] => σ
  | v :: vs => (wipe σ vs).set v none
theorem wipe_length (σ : St) : ∀ vs : List Nat, (wipe σ vs).length = σ.length
  | [] => rfl
  | v :: vs => by unfold wipe; rw [List.length_set, wipe_length σ vs]
theorem wipe_some {σ : St} {i : Nat} {x : V} : ∀ {vs : List Nat}, (wipe σ vs)[i]? = some (some x) → σ[i]? = some (some x) ∧ i ∉ vs
  | [], h => ⟨h, by simp⟩
  | v :: vs, h => by
    unfold wipe at h
    by_cases hi : v = i
    · subst hi
      by_cases hv : v < (wipe σ vs).length
      · rw [List.getElem?_set_self hv] at h; cases h
      · rw [List.getElem?_eq_none (by simpa using hv)] at h; cases h
    · rw [List.getElem?_set_ne hi] at h
      obtain ⟨h1, h2⟩ := wipe_some h
      exact ⟨h1, by simp only [List.mem_cons, not_or]; exact ⟨fun e => hi e.symm, h2⟩⟩

/-- the context of a block that starts at s, its iterator's objects at fp -/
abbrev Cx.blk (X : Cx) (s : Shared) (H : Hp) (scope : Scope) (cenv : Env) (fp : List Addr) : Cx := { X with s_0 := s, H_0 := H, env := cenv, outer := X.stack, ex := fp, fn := fun x => scope.names.lookup x == some .cell, pn := [], xe := fun _ _ => False }
section
variable {X : Cx} {pins : List (Addr × Obj)} {σ : St} {H : Hp} {s : Shared}
theorem block_start {scope : Scope} {own : List (Str × Nat)} {fp : List Addr} (I : Inv X pins σ H s) (ok : BlkOk X.N X.env.scope scope own) (hN : X.N.Nodup) (hfp : ∀ b ∈ fp, FpOk X pins H b ∧ b < s.heap.objs.size) :
    Inv (X.blk s H scope (compEnvC scope (cellsFrom (s.heap.objs.size + 1) scope.names (cloFrom X.env.cells scope.names [])) s.heap.objs.size X.env) fp) [] (wipe σ (own.map (·.2))) H { s with heap := pushCells (s.heap.push { cls := .type "dict", data := .dict #[] }) scope.names } := by
  have hfree : ∀ y ∈ scope.names, y.2 = .free → ∃ c, X.env.cells.lookup y.1 = some c := fun y hy e => by
    rcases ok.free y hy e with k | k
    · exact I.ok.has _ (.inl k)
    · exact I.ok.has _ (.inr k)
  generalize hcenv : compEnvC scope (cellsFrom (s.heap.objs.size + 1) scope.names (cloFrom X.env.cells scope.names [])) s.heap.objs.size X.env = cenv
  have kp : ∀ b o, s.heap.get? b = some o → (pushCells (s.heap.push { cls := .type "dict", data := .dict #[] }) scope.names).get? b = some o := fun b o e => pushCells_keeps _ _ _ _ (Heap.get?_push_of_some _ e)
  have hL : cenv.locals = s.heap.objs.size := by rw [← hcenv]; rfl
  have hcl : cenv.cells = cellsFrom (s.heap.objs.size + 1) scope.names (cloFrom X.env.cells scope.names []) := by rw [← hcenv]; rfl
  have hsc : cenv.scope = relS scope X.env.scope := by rw [← hcenv]; rfl
  rw [← Heap.size_push s.heap { cls := .type "dict", data := .dict #[] }] at hcl
  have cm : ∀ {y c}, (y, c) ∈ cloFrom X.env.cells scope.names [] → X.env.cells.lookup y = some c ∧ c < s.heap.objs.size := fun {y c} hm => by
    rcases cloFrom_mem hm with hm | ⟨h1, rfl⟩
    · cases hm
    · obtain ⟨c, hc⟩ := hfree _ h1 rfl
      rw [hc]
      obtain ⟨w, z⟩ := I.cell _ _ hc
      exact ⟨rfl, z.lt⟩
  have mem : ∀ {y c}, cenv.cells.lookup y = some c → (X.env.cells.lookup y = some c ∧ c < s.heap.objs.size) ∨ (s.heap.objs.size + 1 ≤ c ∧ CellAt (pushCells (s.heap.push { cls := .type "dict", data := .dict #[] }) scope.names) c none) := fun {y c} e => by
    rw [hcl] at e
    rcases cells_mem (PySem.mem_of_lookup e) with hm | ⟨_, h2, h3⟩
    · exact .inl (cm hm)
    · rw [Heap.size_push] at h2; exact .inr ⟨h2, h3⟩
  have look : ∀ {y}, scope.names.lookup y = some .free → ∃ c, cenv.cells.lookup y = some c ∧ X.env.cells.lookup y = some c := fun {y} hl => by
    have hy : (y, NameKind.free) ∈ scope.names := PySem.mem_of_lookup hl
    obtain ⟨c', e'⟩ := mem_lookup (cells_acc (names := scope.names) (n := (s.heap.push { cls := .type "dict", data := .dict #[] }).objs.size) (cloFrom_has (cells := X.env.cells) (acc := []) hy))
    rw [← hcl] at e'
    refine ⟨c', e', ?_⟩
    rw [hcl] at e'
    rcases cells_mem (PySem.mem_of_lookup e') with hm | ⟨h1, _, _⟩
    · exact (cm hm).1
    · have := ok.uniq _ h1
      rw [hl] at this; cases this
  have okB : (X.blk s H scope cenv fp).Ok := by
    refine ⟨I.ok.mod, by show cenv.scope.kind = _; rw [hsc]; exact ok.kind, by show cenv.globals = _; rw [← hcenv]; exact I.ok.glob, by show cenv.builtins = _; rw [← hcenv]; exact I.ok.blt, by show s.heap.objs.size ≤ cenv.locals; rw [hL]; exact Nat.le_refl _,
      fun y z c e1 e2 => ?_, fun y hy => ?_, fun y c z e => ?_, I.ok.hd, I.ok.frames, .inl rfl, fun b hb => ⟨?_, fun y c e z => ?_⟩, I.bs, Nat.le_trans I.ok.bsz I.sz, fun b o e hb => ?_, fun b hb z => ?_, I.stack, I.stkFree⟩
    · have e1 : cenv.cells.lookup y = some c := e1
      have e2 : cenv.cells.lookup z = some c := e2
      rw [hcl] at e1 e2
      refine cells_inj (fun p hp => ?_) (fun y z c a b => I.ok.inj y z c (cm a).1 (cm b).1) (PySem.mem_of_lookup e1) (PySem.mem_of_lookup e2)
      rw [Heap.size_push]
      exact Nat.lt_succ_of_lt (cm (y := p.1) (c := p.2) hp).2
    · show ∃ c, cenv.cells.lookup y = some c
      have key : ∀ k, cenv.kindOf y = some k → (k = .cell ∨ k = .free) → ∃ c, cenv.cells.lookup y = some c := fun k hk hk' => by
        unfold Env.kindOf at hk
        rw [hsc] at hk
        obtain ⟨k', e, r⟩ := lookup_relS hk
        have : k' = .cell ∨ k' = .free := by
          rcases r with rfl | ⟨rfl, _⟩
          · exact hk'
          · exact .inr rfl
        rcases this with rfl | rfl
        · obtain ⟨c, hm⟩ := cells_has (n := (s.heap.push { cls := .type "dict", data := .dict #[] }).objs.size) (acc := cloFrom X.env.cells scope.names []) (PySem.mem_of_lookup e)
          obtain ⟨c', e'⟩ := mem_lookup hm
          exact ⟨c', by rw [hcl]; exact e'⟩
        · obtain ⟨c, h1, _⟩ := look e
          exact ⟨c, h1⟩
      rcases hy with hy | hy
      · exact key _ hy (.inl rfl)
      · exact key _ hy (.inr rfl)
    · have z : (scope.names.lookup y == some NameKind.cell) = true := z
      have z : scope.names.lookup y = some .cell := by simpa using z
      have e : cenv.cells.lookup y = some c := e
      rw [hcl] at e
      rcases cells_mem (PySem.mem_of_lookup e) with hm | ⟨_, h2, _⟩
      · rcases cloFrom_mem hm with hm | ⟨h1, _⟩
        · cases hm
        · have q := ok.uniq _ h1
          rw [z] at q; cases q
      · rw [Heap.size_push] at h2
        exact Nat.le_of_succ_le h2
    · show b ≠ cenv.locals
      rw [hL]; exact Nat.ne_of_lt (hfp b hb).2
    · have e : cenv.cells.lookup y = some c := e
      rcases mem e with ⟨h1, _⟩ | ⟨h1, _⟩
      · exact (hfp b hb).1.2.2.2.2.1 y c h1 z
      · have h2 : s.heap.objs.size + 1 ≤ b := by rw [← z]; exact h1
        exact absurd (Nat.lt_of_lt_of_le (hfp b hb).2 (Nat.le_of_succ_le h2)) (Nat.lt_irrefl _)
    · rcases (hfp b hb).1.2.2.2.1 with z | z
      · exact I.ok.noex b o e z
      · exact absurd (Nat.lt_of_lt_of_le (Heap.lt_size e) (Nat.le_trans I.ok.bsz z)) (Nat.lt_irrefl _)
    · rcases List.mem_cons.mp (I.stkSub b z) with z | z
      · exact (hfp b hb).1.2.1 z
      · exact (hfp b hb).1.2.2.1 z
  refine ⟨okB, rfl, I.bare, Un.kept kp, ⟨fun _ => none, ?_, fun i y av e1 e2 e3 => ?_⟩, fun y c e => ?_, ?_, fun y c e => ?_, fun p hp => ?_, I.hok.kept kp, by rw [wipe_length]; exact I.len⟩
  · show Heap.Ns _ cenv.locals _
    rw [hL]
    exact Heap.Ns.keeps (Heap.Ns.new ..) fun b o e => pushCells_keeps _ _ _ _ e
  · obtain ⟨e2, hne⟩ := wipe_some e2
    have hfr : scope.names.lookup y = some .free ∧ (cenv.kindOf y = some .cell ∨ cenv.kindOf y = some .free) := by
      have key : ∀ k, cenv.scope.names.lookup y = some k → k = .local ∨ k = .cell ∨ k = .free → scope.names.lookup y = some .free ∧ (cenv.kindOf y = some .cell ∨ cenv.kindOf y = some .free) := fun k hk hk' => by
        have hk0 := hk
        rw [hsc] at hk
        obtain ⟨k', e, r⟩ := lookup_relS hk
        have no : ¬ (k' = .local ∨ k' = .cell) := fun hh => by
          rcases ok.own _ (PySem.mem_of_lookup e) hh with e' | e'
          · obtain ⟨p, hp, hpy⟩ := List.mem_map.mp e'
            have e3 := ok.ix p hp
            have : p.1 = y := hpy
            rw [this] at e3
            exact hne (List.mem_map.mpr ⟨p, hp, nodup_ix hN e3 e1⟩)
          · exact e' (List.mem_of_getElem? e1)
        rcases r with rfl | ⟨rfl, rfl⟩
        · rcases hk' with rfl | rfl | rfl
          · exact absurd (.inl rfl) no
          · exact absurd (.inr rfl) no
          · exact ⟨e, .inr hk0⟩
        · exact ⟨e, .inl hk0⟩
      have e3 : Vis cenv.scope y := e3
      rcases e3 with e3 | e3 | e3
      · exact key _ e3 (.inl rfl)
      · exact key _ e3 (.inr (.inl rfl))
      · exact key _ e3 (.inr (.inr rfl))
    obtain ⟨m, hn, hl⟩ := I.loc
    have hvis : Vis X.env.scope y := (ok.free _ (PySem.mem_of_lookup hfr.1) rfl).elim (fun k => .inr (.inl k)) (fun k => .inr (.inr k))
    obtain ⟨w, r, q⟩ := hl i y av e1 e2 hvis
    refine ⟨w, r, .inr ⟨hfr.2, ?_⟩⟩
    obtain ⟨c, h1, h2⟩ := look hfr.1
    rcases q with ⟨k, _⟩ | ⟨_, c', e', z⟩
    · have k : X.env.scope.names.lookup y = some .local := k
      rcases ok.free _ (PySem.mem_of_lookup hfr.1) rfl with k' | k' <;> rw [show X.env.scope.names.lookup y = _ from k'] at k <;> cases k
    · rw [h2] at e'; cases e'
      exact ⟨c, h1, z.keeps kp⟩
  · have e : cenv.cells.lookup y = some c := e
    rcases mem e with ⟨h1, _⟩ | ⟨_, z⟩
    · obtain ⟨w, z⟩ := I.cell y c h1
      exact ⟨w, z.keeps kp⟩
    · exact ⟨_, z⟩
  · show H cenv.locals = none
    rw [hL]; exact I.hok.fresh (Nat.le_refl _)
  · have e : cenv.cells.lookup y = some c := e
    rcases mem e with ⟨h1, _⟩ | ⟨h1, _⟩
    · exact I.freeC y c h1
    · exact I.hok.fresh (Nat.le_of_succ_le h1)
  · exact absurd (show p ∈ ([] : List (Addr × Obj)) ++ [] from hp) (by simp)

/-- an item appended to a tracked list -/
theorem app_ok {E : Value → Shared → Prop} {D : Addr} {xs : List V} {y : V} {v : Value} {Q : Value → Shared → Prop} (I : Inv X pins σ H s) (hD : H D = some (.lst xs)) (hz : xs.length < sizeLine) (r : RelV y v)
    (h : ∀ s', Inv X pins σ (upd H D (.lst (xs ++ [y]))) s' → Q .none s') : wpAny (model X.prog X.w) X.A (call (.builtin "list.append") [.ref D, v]) Q E s := by
  obtain ⟨hz', its, n, ri, e⟩ := I.hok D _ hD
  have hl := ri.length
  refine append_at (hsz := by rw [List.size_toArray]; omega) e fun h' sb ho' => ?_
  refine h { s with heap := h' } (I.write (t' := s.toks) (by rw [hD]; trivial) (.inl rfl) (fun b u hb q => (sb.2 b hb).trans q) ⟨_, ho'⟩ ⟨by rw [List.length_append]; exact hz, its ++ [v], n + 1, ri.append (.cons r .nil), ?_⟩)
  rw [ho']
  simp

/-- a clause's tests -/
def PTs (X : Cx) (ifs : List Expr) (t : TT) : Prop :=
  ∀ (pins : List (Addr × Obj)) (s : Shared) (σ : St) (H : Hp) (Q : Bool → Hp → Prop), Inv X pins σ H s → t σ H Q →
    wpAny (model X.prog X.w) X.A (forIn ifs true fun c r => if r = true then do let ok ← isTrue c X.env (eval c X.env); pure (ForInStep.yield ok) else pure (ForInStep.yield r)) (TP X pins σ Q) X.xe s
def tYes : TT := fun _ H Q => Q true H
theorem pts_nil : PTs X [] tYes := fun _ _ _ H _ I h => wpAny_tests_nil ⟨H, I, h⟩
theorem pts_one {c : Expr} {t : TT} (h : PT X c t) : PTs X [c] t := fun pins s σ H Q I hw => wpAny_tests_one (h pins s σ H Q I hw)
end

theorem thnF {α : Type} {t : Sem α} {Q Q' : α → Shared → Prop} {M : Model} {A : Around} {E : Value → Shared → Prop} {s : Shared} (h : wpAny M A t Q (fun _ _ => False) s) (hQ : ∀ a s, Q a s → Q' a s) : wpAny M A t Q' E s := wpAny_mono h hQ fun _ _ z => False.elim z

/-- the loop of a list comprehension's block, the target of any form (codeAny_compLoop_tests asks a target that no tuple goes to; statement and proof follow it, PyProof/CompMap.lean:41-61, with the step letOwnedTupleGo kept) -/
theorem compLoop_any {prog : Program} {w : World} {A : Around} {R : Result → Shared → Prop} {s : Shared} {elt target iter : Expr} {ifs : List Expr} {scope : Scope} {pos : Pos} {it acc : Value} {env : Env} (I : Nat → Shared → Prop)
    (turn : ∀ n s, I n s → wpAny (model prog w) A (pyNext it) (fun r s₁ => match r with
      | none => R (.ok .next) s₁
      | some v => wpAny (model prog w) A (letOwnedTupleGo target it v) (fun _ s₁' => wpAny (model prog w) A (assign target env v) (fun _ s₂ =>
          wpAny (model prog w) A (forIn ifs true fun c r => if r = true then do let ok ← isTrue c env (eval c env); pure (ForInStep.yield ok) else pure (ForInStep.yield r)) (fun ok s₃ =>
            if ok = true then wpAny (model prog w) A (eval elt env) (fun x s₄ =>
              wpAny (model prog w) A (call (.builtin "list.append") [acc, x]) (fun _ s₅ => ∃ m, m < n ∧ I m s₅) (notedBy (model prog w) A env fun e s' => R (.error e) s') s₄) (notedBy (model prog w) A env fun e s' => R (.error e) s') s₃
            else ∃ m, m < n ∧ I m s₃) (notedBy (model prog w) A env fun e s' => R (.error e) s') s₂) (notedBy (model prog w) A env fun e s' => R (.error e) s') s₁') (notedBy (model prog w) A env fun e s' => R (.error e) s') s₁) (notedBy (model prog w) A env fun e s' => R (.error e) s') s)
    (n : Nat) (h : I n s) :
    codeAny (model prog w) A (.compLoop (.ListComp elt [⟨target, iter, ifs, 0⟩] scope pos) 0 it acc env) R s := by
  refine codeAny_loop rfl I (fun n s hI => ?_) n h
  show wpAny _ A ((compTurn (.ListComp elt [⟨target, iter, ifs, 0⟩] scope pos) 0 it acc env).onRaise (fun x => do noteFrame x env; theTreesLotGoes x)) _ _ s
  refine wpAny_noted ?_
  rw [compTurn_list]
  refine wpAny_bind (wpAny_standAt (wpAny_bind (wpAny_mono (turn n s hI) (fun r s₁ h₁ => ?_) fun _ _ h' => h')))
  cases r with
  | none => exact wpAny_pure h₁
  | some v =>
    refine wpAny_bind (wpAny_mono h₁ (fun _ s₁' h₁' => ?_) fun _ _ h' => h')
    refine wpAny_bind (wpAny_mono h₁' (fun _ s₂ h₂ => wpAny_bind (wpAny_mono h₂ (fun ok s₃ h₃ => ?_) fun _ _ h' => h')) fun _ _ h' => h')
    cases ok with
    | false => exact wpAny_pure ⟨rfl, h₃⟩
    | true =>
      exact wpAny_bind (wpAny_bind (wpAny_mono h₃ (fun x s₄ h₄ => wpAny_bind (wpAny_mono h₄ (fun _ s₅ h₅ => wpAny_pure (wpAny_pure ⟨rfl, h₅⟩)) fun _ _ h' => h')) fun _ _ h' => h'))

section
variable {X : Cx}
/-- [elt for target in iter if ..]: D the new list; W by the turn and a measure, Nx what a turn is to reach -/
def tLc (wi : TI) (g : TG) (tt : TT) (te : TE) (vs : List Nat) : TE := fun σ H Q => wi σ H fun J H1 => ∀ D, H1 D = none → ∃ W : Nat → Nat → Hp → Prop, (∃ m, W 0 m (upd H1 D (.lst []))) ∧ ∀ i m H, W i m H →
  (J.stop i H ∧ Q (.ref D) H) ∨ (J.go i H ∧ ∃ Nx : Hp → Prop, (∀ H', Nx H' → ∃ m', m' < m ∧ W (i + 1) m' H') ∧ ∀ x H', J.yld i H x H' → g x (wipe σ vs) H' fun σ2 H2 => wipe σ2 vs = wipe σ vs ∧ tt σ2 H2 fun b H3 =>
    if b = true then te σ2 H3 fun y H4 => ∃ acc, H4 D = some (.lst acc) ∧ acc.length < sizeLine ∧ Nx (upd H4 D (.lst (acc ++ [y]))) else Nx H3)
theorem lc_core {pins : List (Addr × Obj)} {s : Shared} {σ : St} {H : Hp} {Q : VK} {elt tg iter : Expr} {ifs : List Expr} {scope : Scope} {own : List (Str × Nat)} {pos pos' : Pos} {wi : TI} {g : TG} {tt : TT} {te : TE} {use : Option (Value → Sem Unit)} {Qf : Value → Shared → Prop}
    (hc : X.calm = true) (hN : X.N.Nodup) (I : Inv X pins σ H s) (hi : PI X tg iter wi) (ok : BlkOk X.N X.env.scope scope own)
    (hg : ∀ (s : Shared) (H : Hp) (C : Addr) (cl : List (Str × Addr)) (fp : List Addr), PG (X.blk s H scope (compEnvC scope cl C X.env) fp) tg g) (ht : ∀ (s : Shared) (H : Hp) (C : Addr) (cl : List (Str × Addr)) (fp : List Addr), PTs (X.blk s H scope (compEnvC scope cl C X.env) fp) ifs tt)
    (he : ∀ (s : Shared) (H : Hp) (C : Addr) (cl : List (Str × Addr)) (fp : List Addr), PE (X.blk s H scope (compEnvC scope cl C X.env) fp) elt te) (hs : ∀ x, foldedSetIterable iter X.env x = pure x)
    (h : tLc wi g tt te (own.map (·.2)) σ H Q)
    (hRR : ∀ D C s' m H', Inv X pins σ H' s' → Q (.ref D) H' → s'.heap.Ns C m → FpOk X pins H' C → compPost (model X.prog X.w) X.A X.xe use Qf (.ref D) C (.ok .next) s') :
    wpAny (model X.prog X.w) X.A (comprehension (.ListComp elt [⟨tg, iter, ifs, 0⟩] scope pos) scope X.env pos' (newList []) false (eval iter X.env) use) Qf X.xe s := by
  have hfree : ∀ y ∈ scope.names, y.2 = .free → ∃ c, X.env.cells.lookup y.1 = some c := fun y hy e => by
    rcases ok.free y hy e with k | k
    · exact I.ok.has _ (.inl k)
    · exact I.ok.has _ (.inr k)
  refine wpAny_comprehension_free (use := use) rfl hs (closure_ok hfree) ok.kind (fun y hy e => by rw [ok.uniq y hy, e])
    (thn (hi pins s σ H _ I h) fun xv s1 hx => thn hx fun itv s2 h2 => ?_)
  obtain ⟨it, fp, tn, J, H2, e, I2, T, st2, f2, q⟩ := h2
  subst e
  refine wpAny_newObj_type (newEnv_comp ?_) (by show 0 ≤ sizeLine; decide)
  generalize hD : s2.heap.objs.size = D
  have hDn : H2 D = none := I2.hok.fresh (Nat.le_of_eq hD)
  obtain ⟨W, ⟨m0, w0⟩, turn⟩ := q D hDn
  -- the new list
  generalize hs3 : ({ s2 with heap := s2.heap.push { cls := .type "list", data := .seq ([] : List Value).toArray } } : Shared) = s3
  have I3 : Inv X pins σ (upd H2 D (.lst [])) s3 := by
    rw [← hs3]
    refine I2.laid (t' := s2.toks) (fun b o e => Heap.get?_push_of_some _ e) (Nat.le_of_eq hD) ⟨Nat.zero_le _, [], 0, .nil, ?_⟩
    rw [← hD]
    exact Heap.get?_push_size _ rfl
  have h3 : s3.heap = s2.heap.push { cls := .type "list", data := .seq ([] : List Value).toArray } := by rw [← hs3]
  have sz : ∀ b ∈ fp, b < s2.heap.objs.size := fun b hb => by
    obtain ⟨o, e, _⟩ := T.obj _ _ st2 b hb
    exact Heap.lt_size e
  have f3 : ∀ b ∈ fp, FpOk X pins (upd H2 D (.lst [])) b ∧ b < s3.heap.objs.size := fun b hb => by
    have hlt := sz b hb
    refine ⟨⟨?_, (f2 b hb).2⟩, by rw [h3, Heap.size_push]; exact Nat.lt_succ_of_lt hlt⟩
    rw [upd_ne (by rw [← hD]; exact Nat.ne_of_lt hlt)]
    exact (f2 b hb).1
  have st3 : tn 0 s3.heap := T.keep _ _ _ st2 fun b _ o e => by rw [h3]; exact Heap.get?_push_of_some _ e
  have I4 := block_start I3 ok hN f3
  have pg := hg s3 (upd H2 D (.lst [])) s3.heap.objs.size (cellsFrom (s3.heap.objs.size + 1) scope.names (cloFrom X.env.cells scope.names [])) fp
  have pt := ht s3 (upd H2 D (.lst [])) s3.heap.objs.size (cellsFrom (s3.heap.objs.size + 1) scope.names (cloFrom X.env.cells scope.names [])) fp
  have pe := he s3 (upd H2 D (.lst [])) s3.heap.objs.size (cellsFrom (s3.heap.objs.size + 1) scope.names (cloFrom X.env.cells scope.names [])) fp
  show codeAny _ _ (.compStart (.ListComp elt [⟨tg, iter, ifs, 0⟩] scope pos) 0 (.ref it) (.ref D) (compEnvC scope (cellsFrom (s3.heap.objs.size + 1) scope.names (cloFrom X.env.cells scope.names [])) s3.heap.objs.size X.env)) (compPost (model X.prog X.w) X.A X.xe use Qf (.ref D) s3.heap.objs.size) { s3 with heap := pushCells (s3.heap.push { cls := .type "dict", data := .dict #[] }) scope.names }
  have nfp : ∀ b ∈ fp, (upd H2 D (.lst [])) b = none := fun b hb => (f3 b hb).1.1
  generalize hce : compEnvC scope (cellsFrom (s3.heap.objs.size + 1) scope.names (cloFrom X.env.cells scope.names [])) s3.heap.objs.size X.env = ce at I4 pg pt pe ⊢
  have cL : ce.locals = s3.heap.objs.size := by subst hce; rfl
  generalize hH3 : upd H2 D (.lst []) = H3 at I3 I4 pg pt pe w0 nfp f3
  generalize hs4 : ({ s3 with heap := pushCells (s3.heap.push { cls := .type "dict", data := .dict #[] }) scope.names } : Shared) = s4 at I4 ⊢
  have st4 : tn 0 s4.heap := T.keep _ _ _ st3 fun b _ o e => by rw [← hs4]; exact pushCells_keeps _ _ _ _ (Heap.get?_push_of_some _ e)
  have stat : ∀ {σ' : St} {H' : Hp} {s' : Shared}, Inv (X.blk s3 H3 scope ce fp) [] σ' H' s' → (∀ b ∈ fp, H' b = none) → ∀ b ∈ fp, FpOk (X.blk s3 H3 scope ce fp) [] H' b := fun {σ' H' s'} I' hn b hb =>
    ⟨hn b hb, (I'.ok.exf b hb).1, I'.ok.exfs b hb, .inl hb, fun x c e => (I'.ok.exf b hb).2 x c e, fun p hp => absurd (show p ∈ ([] : List (Addr × Obj)) ++ [] from hp) (by simp)⟩
  have loop : codeAny (model X.prog X.w) X.A (.compLoop (.ListComp elt [⟨tg, iter, ifs, 0⟩] scope pos) 0 (.ref it) (.ref D) ce) (compPost (model X.prog X.w) X.A X.xe use Qf (.ref D) s3.heap.objs.size) s4 := by
    refine compLoop_any (fun n s' => ∃ i H', Inv (X.blk s3 H3 scope ce fp) [] (wipe σ (own.map (·.2))) H' s' ∧ tn i s'.heap ∧ (∀ b ∈ fp, H' b = none) ∧ W i n H') ?_ m0 ⟨0, H3, I4, st4, nfp, w0⟩
    rintro n s5 ⟨i, H5, I5, st5, n5, w5⟩
    rcases turn i n H5 w5 with ⟨stop, qq⟩ | ⟨go, Nx, hNx, step⟩
    · have td := T.done (X.blk s3 H3 scope ce fp) rfl rfl rfl hc i [] s5 _ H5 (fun _ _ => False) I5 (stat I5 n5) st5 stop
      refine thnF td fun r s6 ⟨hr, I6⟩ => ?_
      subst hr
      -- back in the def's context
      have I7 : Inv X pins σ H5 s6 := I3.call' (ch := fp) I6.os I6.base I6.hok I6.bare fun b hb => ⟨(f3 b hb).1.2.2.2.1, (f3 b hb).1.2.1, (f3 b hb).1.2.2.2.2.1, (f3 b hb).1.2.2.2.2.2⟩
      have nC : H5 s3.heap.objs.size = none := by
        have z : H5 ce.locals = none := I6.free
        rw [cL] at z
        exact z
      obtain ⟨m, hn, _⟩ := I6.loc
      have hn : s6.heap.Ns ce.locals m := hn
      rw [cL] at hn
      exact hRR D s3.heap.objs.size s6 m H5 I7 qq hn (I3.fpOk (Nat.le_refl _) nC)
    · have ti := T.item (X.blk s3 H3 scope ce fp) rfl rfl rfl hc i [] s5 _ H5 (fun _ _ => False) I5 (stat I5 n5) st5 go
      refine thnF ti fun r s6 ⟨u, hr, h6⟩ => ?_
      subst hr
      refine thnF h6 fun _ s7 ⟨x, H7, I7, r7, y7, st7, n7⟩ => ?_
      have I7' := I7.pinned (stat I7 n7) (T.obj _ _ st7)
      refine thnF (pg _ s7 _ H7 x u _ I7' r7 (step x H7 y7)) fun _ s8 ⟨σ8, H8, I8, hw8, q8⟩ => ?_
      refine thnF (pt _ s8 σ8 H8 _ I8 q8) fun b s9 ⟨H9, I9, q9⟩ => ?_
      -- the turn's end
      have fin : ∀ {s' : Shared} {H' : Hp}, Inv (X.blk s3 H3 scope ce fp) ([] ++ pinsAt fp s7.heap) σ8 H' s' → Nx H' → ∃ m, m < n ∧ ∃ i H', Inv (X.blk s3 H3 scope ce fp) [] (wipe σ (own.map (·.2))) H' s' ∧ tn i s'.heap ∧ (∀ b ∈ fp, H' b = none) ∧ W i m H' := fun {s' H'} I' nx => by
        obtain ⟨m', hm, w'⟩ := hNx H' nx
        have pin' : ∀ b ∈ fp, ∀ o, s7.heap.get? b = some o → s'.heap.get? b = some o ∧ H' b = none := fun b hb o e =>
          let z := I'.pin (b, o) (List.mem_append_right _ (List.mem_append_right _ (mem_pinsAt hb e)))
          ⟨z.1, z.2.1⟩
        have hl : (wipe σ (own.map (·.2))).length = σ8.length := by rw [← hw8, wipe_length]
        refine ⟨m', hm, i + 1, H', (I'.unpinned (pins := [])).weak hl (fun j v e => ?_), T.keep _ _ _ st7 fun b hb o e => (pin' b hb o e).1, fun b hb => ?_, w'⟩
        · rw [← hw8] at e
          exact (wipe_some e).1
        · obtain ⟨o, e, _⟩ := T.obj _ _ st7 b hb
          exact (pin' b hb o e).2
      cases b with
      | false =>
        simp only [Bool.false_eq_true, if_false] at q9 ⊢
        exact fin I9 q9
      | true =>
        simp only [if_true] at q9 ⊢
        refine thnF (pe _ s9 σ8 H9 _ I9 q9) fun z s10 ⟨yv, H10, I10, r10, acc, hD10, hz10, nx⟩ => ?_
        exact app_ok (X := X.blk s3 H3 scope ce fp) I10 hD10 hz10 r10 fun s11 I11 => fin I11 nx
  exact codeAny_compStart_list loop (T.self X.A 0 _ _ _ st4 loop)
/-- as a value -/
theorem pe_lc {elt tg iter : Expr} {ifs : List Expr} {scope : Scope} {own : List (Str × Nat)} {pos : Pos} {wi : TI} {g : TG} {tt : TT} {te : TE} (hc : X.calm = true) (hN : X.N.Nodup) (hi : PI X tg iter wi) (ok : BlkOk X.N X.env.scope scope own)
    (hg : ∀ (s : Shared) (H : Hp) (C : Addr) (cl : List (Str × Addr)) (fp : List Addr), PG (X.blk s H scope (compEnvC scope cl C X.env) fp) tg g) (ht : ∀ (s : Shared) (H : Hp) (C : Addr) (cl : List (Str × Addr)) (fp : List Addr), PTs (X.blk s H scope (compEnvC scope cl C X.env) fp) ifs tt)
    (he : ∀ (s : Shared) (H : Hp) (C : Addr) (cl : List (Str × Addr)) (fp : List Addr), PE (X.blk s H scope (compEnvC scope cl C X.env) fp) elt te) (hs : ∀ x, foldedSetIterable iter X.env x = pure x := by intro _; rfl) :
    PE X (.ListComp elt [⟨tg, iter, ifs, 0⟩] scope pos) (tLc wi g tt te (own.map (·.2))) := by
  intro pins s σ H Q I h
  rw [eval_ListComp]
  refine lc_core hc hN I hi ok hg ht he hs h fun D C s' m H' I' q hn f => ⟨m, hn, fun h'' sb => ?_⟩
  obtain ⟨f0, f1, f2, f3, f4, f5⟩ := f
  exact ⟨.ref D, H', I'.turned (t' := s'.toks) (fun b o hb e => (sb.2 b hb).trans e) f0 f1 f3 f4 f5, rfl, q⟩
/-- name = [..] on one line, the name a local -/
theorem ps_setLc {i : Nat} {y : Str} {py : Pos} {elt tg iter : Expr} {ifs : List Expr} {scope : Scope} {own : List (Str × Nat)} {pos spos : Pos} {wi : TI} {g : TG} {tt : TT} {te : TE} (hc : X.calm = true) (hN : X.N.Nodup) (hy : X.N[i]? = some y) (hyl : X.env.scope.names.lookup y = some .local)
    (hsw : swapsWith (.ListComp elt [⟨tg, iter, ifs, 0⟩] scope pos) (some (.Name y py)) spos.line X.env = pure true) (hi : PI X tg iter wi) (ok : BlkOk X.N X.env.scope scope own)
    (hg : ∀ (s : Shared) (H : Hp) (C : Addr) (cl : List (Str × Addr)) (fp : List Addr), PG (X.blk s H scope (compEnvC scope cl C X.env) fp) tg g) (ht : ∀ (s : Shared) (H : Hp) (C : Addr) (cl : List (Str × Addr)) (fp : List Addr), PTs (X.blk s H scope (compEnvC scope cl C X.env) fp) ifs tt)
    (he : ∀ (s : Shared) (H : Hp) (C : Addr) (cl : List (Str × Addr)) (fp : List Addr), PE (X.blk s H scope (compEnvC scope cl C X.env) fp) elt te) (hs : ∀ x, foldedSetIterable iter X.env x = pure x := by intro _; rfl) :
    PS X (.Assign [.Name y py] (.ListComp elt [⟨tg, iter, ifs, 0⟩] scope pos) spos) (tAsg (tLc wi g tt te (own.map (·.2))) (gName i)) := by
  intro pins s σ H D I h
  rw [exec_Assign_Name_used _ _ _ _ hsw]
  refine wpAny_bind (wpAny_standAt (wpAny_bind ?_))
  show wpAny _ X.A (do let _ ← comprehension (.ListComp elt [⟨tg, iter, ifs, 0⟩] scope pos) scope X.env (firstIterPos [⟨tg, iter, ifs, 0⟩] pos) (newList []) false (eval iter X.env) (some (assign (.Name y py) X.env))) _ _ s
  have h : tLc wi g tt te (own.map (·.2)) σ H (fun x H1 => gName i x σ H1 D.nx) := h
  refine wpAny_bind (thn (lc_core (Qf := fun _ s' => SP X pins D .next s') hc hN I hi ok hg ht he hs h fun L C s' m H' I' q hn f => ?_) fun _ s' hq => wpAny_pure (wpAny_pure hq))
  show wpAny _ _ (assign (.Name y py) X.env (.ref L)) _ _ _
  refine wpAny_assign_Name (store_ok2 (v := V.ref L) I' hN hy (.inl hyl) rfl (fun s2 I2 ⟨a, sb, ha⟩ => ?_) (.inr hyl))
  obtain ⟨f0, f1, f2, f3, f4, f5⟩ := f
  have haC : C ≠ a := by
    rcases ha with z | z
    · rw [z]; exact f1
    · exact fun e => f4 y a z e.symm
  refine ⟨m, hn.sameBut sb haC, fun h3 sb3 => ?_⟩
  exact ⟨_, H', I2.turned (t' := s2.toks) (fun b o hb e => (sb3.2 b hb).trans e) f0 f1 f3 f4 f5, q⟩
end

/-! ### the forms one uses -/
/-- over a list that the block leaves as it is -/
theorem lc_list {K : PySem.W.Frag} {a : Addr} {xs : List V} {g : TG} {tt : TT} {te : TE} {vs : List Nat} {σ : St} {H1 : Hp} {D : Addr} {Qd : Hp → Prop} (Pv : Nat → Hp → Prop) (h0 : Pv 0 (upd H1 D (.lst []))) (hl : ∀ i H, i ≤ xs.length → Pv i H → SqL K H a xs)
    (hs : ∀ i x H, xs[i]? = some x → Pv i H → g x (wipe σ vs) H fun σ2 H2 => wipe σ2 vs = wipe σ vs ∧ tt σ2 H2 fun b H3 =>
      if b = true then te σ2 H3 fun y H4 => ∃ acc, H4 D = some (.lst acc) ∧ acc.length < sizeLine ∧ Pv (i + 1) (upd H4 D (.lst (acc ++ [y]))) else Pv (i + 1) H3) (hd : ∀ H, Pv xs.length H → Qd H) :
    ∃ W : Nat → Nat → Hp → Prop, (∃ m, W 0 m (upd H1 D (.lst []))) ∧ ∀ i m H, W i m H →
      ((Itl K a).stop i H ∧ Qd H) ∨ ((Itl K a).go i H ∧ ∃ Nx : Hp → Prop, (∀ H', Nx H' → ∃ m', m' < m ∧ W (i + 1) m' H') ∧ ∀ x H', (Itl K a).yld i H x H' → g x (wipe σ vs) H' fun σ2 H2 => wipe σ2 vs = wipe σ vs ∧ tt σ2 H2 fun b H3 =>
        if b = true then te σ2 H3 fun y H4 => ∃ acc, H4 D = some (.lst acc) ∧ acc.length < sizeLine ∧ Nx (upd H4 D (.lst (acc ++ [y]))) else Nx H3) := by
  refine ⟨fun i m H => m = xs.length - i ∧ i ≤ xs.length ∧ Pv i H, ⟨xs.length, by simp, Nat.zero_le _, h0⟩, ?_⟩
  rintro i m H ⟨rfl, hi, p⟩
  have q := hl i H hi p
  by_cases hlt : i < xs.length
  · refine .inr ⟨⟨xs, xs[i], q, by simp [hlt]⟩, Pv (i + 1), fun H' p' => ⟨xs.length - (i + 1), by omega, rfl, hlt, p'⟩, fun x H' y => ?_⟩
    obtain ⟨e, y⟩ := y
    subst e
    exact hs i x _ (y xs q) p
  · have e : i = xs.length := by omega
    subst e
    exact .inl ⟨⟨xs, q, Nat.le_refl _⟩, hd H p⟩
def blkC (N : List Str) (sc scope : Scope) (own : List (Str × Nat)) : Bool :=
  (match scope.kind with | .function => true | _ => false) && (scope.names.all fun y => decide (scope.names.lookup y.1 = some y.2)) && (own.all fun p => decide (N[p.2]? = some p.1)) &&
    (scope.names.all fun y => match y.2 with
      | .free => (match sc.names.lookup y.1 with | some .cell => true | some .free => true | _ => false)
      | .local => decide (y.1 ∈ own.map (·.1)) || decide (y.1 ∉ N)
      | .cell => decide (y.1 ∈ own.map (·.1)) || decide (y.1 ∉ N)
      | _ => true)
theorem blkOk_by {N : List Str} {sc scope : Scope} {own : List (Str × Nat)} (h : blkC N sc scope own = true) : BlkOk N sc scope own := by
  unfold blkC at h
  simp only [Bool.and_eq_true, List.all_eq_true, decide_eq_true_eq] at h
  obtain ⟨⟨⟨h1, h2⟩, h3⟩, h4⟩ := h
  refine ⟨?_, h2, h3, fun y hy e => ?_, fun y hy e => ?_⟩
  · split at h1
    · assumption
    · cases h1
  · have q := h4 y hy
    simp only [e] at q
    split at q <;> first | exact .inl (by assumption) | exact .inr (by assumption) | cases q
  · have q := h4 y hy
    rcases e with e | e <;> (simp only [e, Bool.or_eq_true, decide_eq_true_eq] at q; exact q)
end L2

namespace L2
open PySem PySem.Spec PyProof.Rows

section
variable {prog : Program} {w : World} {A : Around} {R : Result → Shared → Prop} {s : Shared} {elt t0 i0 t1 i1 : Expr} {ifs0 ifs1 : List Expr} {scope : Scope} {pos : Pos} {it acc : Value} {env : Env}
end

section
variable {X : Cx}
end
end L2

namespace L2
open PySem PySem.Spec PyProof.Rows

/-! ### lists of pairs as tables -/
section
variable {κ : Type} [DecidableEq κ]
def valV (kvs : List (κ × V)) (k : κ) : Option V := (kvs.find? fun kv => decide (kv.1 = k)).map (·.2)
/-- in its place, or at the end -/
def putK (kvs : List (κ × V)) (k : κ) (v : V) : List (κ × V) :=
  if (kvs.any fun kv => decide (kv.1 = k)) = true then kvs.map (fun kv => if kv.1 = k then (kv.1, v) else kv) else kvs ++ [(k, v)]
def dropK (kvs : List (κ × V)) (k : κ) : List (κ × V) := kvs.filter fun kv => decide (kv.1 ≠ k)

theorem valV_pos {p : κ × V} {r : List (κ × V)} {k : κ} (e : p.1 = k) : valV (p :: r) k = some p.2 := by simp [valV, List.find?_cons, e]
theorem valV_neg {p : κ × V} {r : List (κ × V)} {k : κ} (e : ¬ p.1 = k) : valV (p :: r) k = valV r k := by simp [valV, List.find?_cons, e]
theorem valV_any (k : κ) : ∀ kvs : List (κ × V), (kvs.any fun kv => decide (kv.1 = k)) = (valV kvs k).isSome
  | [] => rfl
  | p :: r => by
    rw [List.any_cons]
    by_cases e : p.1 = k
    · simp only [valV_pos e, decide_eq_true e, Bool.true_or, Option.isSome_some]
    · rw [valV_neg e, decide_eq_false e, Bool.false_or]; exact valV_any k r
theorem length_putK (kvs : List (κ × V)) (k : κ) (v : V) : (putK kvs k v).length ≤ kvs.length + 1 := by
  unfold putK
  split
  · rw [List.length_map]; omega
  · rw [List.length_append, List.length_cons, List.length_nil]; omega
theorem RelO.isSome_eq {o : Option V} {u : Option Value} (r : RelO o u) : o.isSome = u.isSome := by
  cases o with
  | none => cases u with
    | none => rfl
    | some _ => exact (show False from r).elim
  | some _ => cases u with
    | none => exact (show False from r).elim
    | some _ => rfl
theorem RelO.getD {o : Option V} {u : Option Value} {d : V} {d' : Value} (r : RelO o u) (rd : RelV d d') : RelV (o.getD d) (u.getD d') := by
  cases o with
  | none => cases u with
    | none => exact rd
    | some _ => exact (show False from r).elim
  | some _ => cases u with
    | none => exact (show False from r).elim
    | some _ => exact r

/-- raw tables of the same keys -/
theorem KV.val {kvs : List (κ × V)} {vs : List (κ × Value)} (r : KV kvs vs) (k : κ) : RelO (valV kvs k) (valueAt vs k) := by
  unfold KV at r
  induction r with
  | nil => exact True.intro
  | @cons p q ps qs h t ih =>
    obtain ⟨h1, h2⟩ := h
    by_cases e : p.1 = k
    · have e' : q.1 = k := h1.symm.trans e
      have b : valueAt (q :: qs) k = some q.2 := by simp [valueAt, List.find?_cons, e']
      rw [valV_pos e, b]; exact h2
    · have e' : ¬ q.1 = k := fun z => e (h1.trans z)
      have b : valueAt (q :: qs) k = valueAt qs k := by simp [valueAt, List.find?_cons, e']
      rw [valV_neg e, b]; exact ih
theorem KV.any {kvs : List (κ × V)} {vs : List (κ × Value)} (r : KV kvs vs) (k : κ) : (kvs.any fun kv => decide (kv.1 = k)) = vs.any fun kv => decide (kv.1 = k) := by
  unfold KV at r
  induction r with
  | nil => rfl
  | cons h t ih => rw [List.any_cons, List.any_cons, ih, h.1]
theorem KV.repl {kvs : List (κ × V)} {vs : List (κ × Value)} (r : KV kvs vs) (k : κ) {y : V} {u : Value} (ry : RelV y u) :
    KV (kvs.map fun kv => if kv.1 = k then (kv.1, y) else kv) (vs.map fun kv => if kv.1 = k then (kv.1, u) else kv) := by
  unfold KV at r ⊢
  induction r with
  | nil => exact .nil
  | @cons p q ps qs h t ih =>
    rw [List.map_cons, List.map_cons]
    refine .cons ?_ ih
    obtain ⟨h1, h2⟩ := h
    by_cases e : p.1 = k
    · rw [if_pos e, if_pos (h1.symm.trans e)]; exact ⟨h1, ry⟩
    · rw [if_neg e, if_neg (fun z => e (h1.trans z))]; exact ⟨h1, h2⟩
theorem KV.put {kvs : List (κ × V)} {vs : List (κ × Value)} (r : KV kvs vs) (k : κ) {y : V} {u : Value} (ry : RelV y u) : KV (putK kvs k y) (stored vs k u) := by
  unfold putK stored
  rw [r.any k]
  by_cases e : (vs.any fun kv => decide (kv.1 = k)) = true
  · rw [if_pos e, if_pos e]; exact r.repl k ry
  · rw [if_neg e, if_neg e]; exact Paired.snoc r ⟨rfl, ry⟩
theorem KV.drop {kvs : List (κ × V)} {vs : List (κ × Value)} (r : KV kvs vs) (k : κ) : KV (dropK kvs k) (without vs k) := by
  unfold KV at r ⊢
  unfold dropK without
  induction r with
  | nil => exact .nil
  | @cons p q ps qs h t ih =>
    obtain ⟨h1, h2⟩ := h
    rw [List.filter_cons, List.filter_cons]
    by_cases e : p.1 = k
    · have a : ¬ decide (p.1 ≠ k) = true := by simp [e]
      have b : ¬ decide (q.1 ≠ k) = true := by simp [h1.symm.trans e]
      rw [if_neg a, if_neg b]; exact ih
    · have e' : ¬ q.1 = k := fun z => e (h1.trans z)
      have a : decide (p.1 ≠ k) = true := by simp [e]
      have b : decide (q.1 ≠ k) = true := by simp [e']
      rw [if_pos a, if_pos b]; exact .cons ⟨h1, h2⟩ ih
theorem KV.keys {kvs : List (κ × V)} {vs : List (κ × Value)} (r : KV kvs vs) : kvs.map (·.1) = vs.map (·.1) := by
  unfold KV at r
  induction r with
  | nil => rfl
  | cons h t ih => rw [List.map_cons, List.map_cons, ih, h.1]
theorem KV.length {kvs : List (κ × V)} {vs : List (κ × Value)} (r : KV kvs vs) : kvs.length = vs.length := Paired.length r
end


/-! ### a tracked dict, its keys ints and texts or tuples of these -/
theorem kV_is {P : Program} {w : World} {k : Key} {u : Value} (r : RelV (kV k) u) : (mixKind P w).is k u = true := by
  cases k with
  | inl i => obtain ⟨t, e⟩ := (show ∃ t, u = Value.int i t from r); subst e; exact mixKind_int P w i t
  | inr x => obtain ⟨t, e⟩ := (show ∃ t, u = Value.str x t from r); subst e; exact mixKind_str P w x t
theorem items_are {P : Program} {w : World} : ∀ {ks : List Key} {us : List Value}, Vals (ks.map kV) us → ItemsAre (mixKind P w) ks us
  | [], _, r => by rw [List.map_nil] at r; cases r; exact .nil
  | k :: ks, _, r => by
    rw [List.map_cons] at r
    cases r with
    | cons h t => exact .cons (kV_is h) (items_are t)

/-- raw entries of a dict with tuple keys -/
abbrev KT (H : Hp) : List (List Key × V) → List (List Key × Addr × Value) → Prop := Paired fun p q => p.1 = q.1 ∧ H q.2.1 = some (.tup (p.1.map kV)) ∧ RelV p.2 q.2.2
theorem KT.val {H : Hp} {kvs : List (List Key × V)} {xs : List (List Key × Addr × Value)} (r : KT H kvs xs) (k : List Key) : RelO (valV kvs k) ((atKey xs k).map (·.2)) := by
  induction r with
  | nil => exact True.intro
  | @cons p q ps qs h t ih =>
    obtain ⟨h1, _, h2⟩ := h
    by_cases e : p.1 = k
    · have e' : q.1 = k := h1.symm.trans e
      have b : atKey (q :: qs) k = some q.2 := by simp [atKey, List.find?_cons, e']
      rw [valV_pos e, b]; exact h2
    · have e' : ¬ q.1 = k := fun z => e (h1.trans z)
      have b : atKey (q :: qs) k = atKey qs k := by simp [atKey, List.find?_cons, e']
      rw [valV_neg e, b]; exact ih
theorem KT.repl {H : Hp} {kvs : List (List Key × V)} {xs : List (List Key × Addr × Value)} (r : KT H kvs xs) (k : List Key) {y : V} {u : Value} (ry : RelV y u) :
    KT H (kvs.map fun kv => if kv.1 = k then (kv.1, y) else kv) (xs.map (putAt k u)) := by
  induction r with
  | nil => exact .nil
  | @cons p q ps qs h t ih =>
    rw [List.map_cons, List.map_cons]
    refine .cons ?_ ih
    obtain ⟨h1, h2, h3⟩ := h
    unfold putAt
    by_cases e : p.1 = k
    · rw [if_pos e, if_pos (h1.symm.trans e)]; exact ⟨h1, h2, ry⟩
    · rw [if_neg e, if_neg (fun z => e (h1.trans z))]; exact ⟨h1, h2, h3⟩
theorem KT.put {H : Hp} {kvs : List (List Key × V)} {xs : List (List Key × Addr × Value)} (r : KT H kvs xs) (k : List Key) {b : Addr} {y : V} {u : Value} (hb : H b = some (.tup (k.map kV))) (ry : RelV y u) :
    KT H (putK kvs k y) (storedH xs k b u) := by
  have e : (kvs.any fun kv => decide (kv.1 = k)) = (atKey xs k).isSome := by
    rw [valV_any, (r.val k).isSome_eq, Option.isSome_map]
  unfold putK storedH
  rw [e]
  by_cases q : (atKey xs k).isSome = true
  · rw [if_pos q, if_pos q]; exact r.repl k ry
  · rw [if_neg q, if_neg q]; exact Paired.snoc r ⟨rfl, hb, ry⟩
theorem KT.keeps {H H' : Hp} {kvs : List (List Key × V)} {xs : List (List Key × Addr × Value)} (r : KT H kvs xs) (ht : ∀ b ys, H b = some (.tup ys) → H' b = some (.tup ys)) : KT H' kvs xs :=
  Paired.mapP r fun _ _ z => ⟨z.1, ht _ _ z.2.1, z.2.2⟩

section
variable {P : Program} {w : World} {H : Hp} {h : Heap} {a : Addr}
theorem rd_of {u : HO} (ok : HOk P w H h) (e : Rd H a u) : ObjOk P w H h a u := e.ok ok
theorem dk_rd {kvs : List (Key × V)} (ok : HOk P w H h) (e : Rd H a (.dK kvs)) : kvs.length ≤ sizeLine ∧ (a == sysModules) = false ∧ ∃ vs, KV kvs vs ∧ h.DictOf (mixKind P w) a vs :=
  show ObjOk P w H h a (.dK kvs) from rd_of ok e
theorem dk_of {kvs : List (Key × V)} (ok : HOk P w H h) (e : H a = some (.dK kvs)) : kvs.length ≤ sizeLine ∧ (a == sysModules) = false ∧ ∃ vs, KV kvs vs ∧ h.DictOf (mixKind P w) a vs := dk_rd ok (.inl e)
/-- a tracked tuple of ints and texts is a key -/
theorem key_of {ks : List Key} (ok : HOk P w H h) (e : H a = some (.tup (ks.map kV))) : (tupleKind (mixKind P w)).is h ks a := by
  obtain ⟨_, its, r, o, h1, h2, n, h3⟩ := (show ObjOk P w H h a (.tup (ks.map kV)) from ok a _ e)
  exact ⟨o, its.toArray, n, h1, h2, h3, by simpa using items_are r⟩
theorem dt_rd {kvs : List (List Key × V)} (ok : HOk P w H h) (e : Rd H a (.dT kvs)) : kvs.length ≤ sizeLine ∧ (a == sysModules) = false ∧
    ∃ xs, KT H kvs xs ∧ h.DictOfH (tupleKind (mixKind P w)) a xs := by
  obtain ⟨z, y, xs, r, o, es, ep, h1, h2, h3, h4, h5⟩ := (show ObjOk P w H h a (.dT kvs) from rd_of ok e)
  refine ⟨z, y, xs, r, o, es, ep, h1, h2, h3, h4, fun x hx => ?_, h5⟩
  have all : ∀ {l : List (List Key × V)} {m : List (List Key × Addr × Value)}, KT H l m → ∀ x ∈ m, (tupleKind (mixKind P w)).is h x.1 x.2.1 := by
    intro l m q
    induction q with
    | nil => intro x hx; exact nomatch hx
    | @cons p q ps qs hq t ih =>
      intro x hx
      rcases List.mem_cons.mp hx with e | hx
      · subst e
        exact key_of ok (by rw [← hq.1]; exact hq.2.1)
      · exact ih x hx
  exact all r x hx
theorem dt_of {kvs : List (List Key × V)} (ok : HOk P w H h) (e : H a = some (.dT kvs)) : kvs.length ≤ sizeLine ∧ (a == sysModules) = false ∧
    ∃ xs, KT H kvs xs ∧ h.DictOfH (tupleKind (mixKind P w)) a xs := dt_rd ok (.inl e)
end

/-- what the dict at a holds at the key y -/
def DGet (H : Hp) (a : Addr) (y : V) (r : Option V) : Prop :=
  (∃ kvs k, Rd H a (.dK kvs) ∧ y = kV k ∧ r = valV kvs k) ∨ ∃ kvs k b, Rd H a (.dT kvs) ∧ y = .ref b ∧ H b = some (.tup (k.map kV)) ∧ r = valV kvs k
/-- the heap behind a[y] = v -/
def DPut (H : Hp) (a : Addr) (y v : V) (H' : Hp) : Prop :=
  (∃ kvs k, H a = some (.dK kvs) ∧ y = kV k ∧ kvs.length < sizeLine ∧ H' = upd H a (.dK (putK kvs k v))) ∨
  ∃ kvs k b, H a = some (.dT kvs) ∧ y = .ref b ∧ H b = some (.tup (k.map kV)) ∧ kvs.length < sizeLine ∧ H' = upd H a (.dT (putK kvs k v))
theorem DGet.k {H : Hp} {a : Addr} {kvs : List (Key × V)} {k : Key} (e : H a = some (.dK kvs)) : DGet H a (kV k) (valV kvs k) := .inl ⟨kvs, k, .inl e, rfl, rfl⟩
theorem DGet.t {H : Hp} {a b : Addr} {kvs : List (List Key × V)} {k : List Key} (e : H a = some (.dT kvs)) (eb : H b = some (.tup (k.map kV))) : DGet H a (.ref b) (valV kvs k) := .inr ⟨kvs, k, b, .inl e, rfl, eb, rfl⟩
theorem DPut.k {H : Hp} {a : Addr} {kvs : List (Key × V)} {k : Key} {v : V} (e : H a = some (.dK kvs)) (hl : kvs.length < sizeLine) : DPut H a (kV k) v (upd H a (.dK (putK kvs k v))) := .inl ⟨kvs, k, e, rfl, hl, rfl⟩
theorem DPut.t {H : Hp} {a b : Addr} {kvs : List (List Key × V)} {k : List Key} {v : V} (e : H a = some (.dT kvs)) (eb : H b = some (.tup (k.map kV))) (hl : kvs.length < sizeLine) :
    DPut H a (.ref b) v (upd H a (.dT (putK kvs k v))) := .inr ⟨kvs, k, b, e, rfl, eb, hl, rfl⟩


section
variable {X : Cx} {pins : List (Addr × Obj)} {σ : St} {H : Hp} {s : Shared} {a : Addr} {y v : V} {u r : Value} {o : Option V} {A : Around} {E : Value → Shared → Prop}

theorem Inv.big (I : Inv X pins σ H s) : sysModules < s.heap.objs.size := by
  have h : mainGlobals < s.heap.objs.size := (I.mod.glob.keeps I.bk).lt
  exact Nat.lt_trans (by decide) h

/-- y in d -/
theorem d_in {Q : Value → Shared → Prop} (hu : A.units + 1 < cLine) (I : Inv X pins σ H s) (g : DGet H a y o) (ry : RelV y u) (h : ∀ s', Inv X pins σ H s' → Q (.bool o.isSome) s') :
    wpAny (model X.prog X.w) A (compareOp .In u (.ref a)) Q E s := by
  rcases g with ⟨kvs, k, e, ey, l⟩ | ⟨kvs, k, b, e, ey, eb, l⟩
  · subst ey
    obtain ⟨z, hd, vs, rel, dd⟩ := dk_rd I.hok e
    refine wpAny_in_of (kV_is ry) hd dd.mapOf ?_
    rw [← (rel.val k).isSome_eq, ← l]
    exact h _ (I.tok _)
  · subst ey
    cases (show u = Value.ref b from ry)
    obtain ⟨z, hd, xs, rel, dd⟩ := dt_rd I.hok e
    refine wpAny_in_heap (tupleKind_room_in1 hu) (key_of I.hok eb) hd dd ?_
    have q := (rel.val k).isSome_eq
    rw [Option.isSome_map] at q
    rw [← q, ← l]
    exact h _ (I.tok _)
/-- a dict's object is replaced -/
theorem d_write {h' : Heap} {t' : Nat} {ob : HO} (I : Inv X pins σ H s) (mu : Mut (H a)) (hs : Heap.SameBut a s.heap h') (he : ∃ q, h'.get? a = some q) (new : ObjOk X.prog X.w (upd H a ob) h' a ob) :
    Inv X pins σ (upd H a ob) { s with heap := h', toks := t' } :=
  I.write (x := a) (e := a) mu (.inl rfl) (fun b q hb z => (hs.2 b hb).trans z) he new
theorem dk_new {P : Program} {w : World} {H' : Hp} {h' : Heap} {kvs : List (Key × V)} {vs : List (Key × Value)} (z : kvs.length ≤ sizeLine) (hd : (a == sysModules) = false) (rel : KV kvs vs) (dd : h'.DictOf (mixKind P w) a vs) :
    ObjOk P w H' h' a (.dK kvs) := ⟨z, hd, vs, rel, dd⟩
/-- d[y] = v -/
theorem d_setItem {H' : Hp} {Q : Unit → Shared → Prop} (hu : A.units + 1 < cLine) (I : Inv X pins σ H s) (g : DPut H a y v H') (ry : RelV y u) (rv : RelV v r) (h : ∀ s', Inv X pins σ H' s' → Q () s') :
    wpAny (model X.prog X.w) A (setItem (.ref a) u r) Q E s := by
  rcases g with ⟨kvs, k, e, ey, l, eH⟩ | ⟨kvs, k, b, e, ey, eb, l, eH⟩
  · subst ey eH
    obtain ⟨z, hd, vs, rel, dd⟩ := dk_of I.hok e
    have hz : vs.length ≤ sizeLine := by rw [← rel.length]; exact z
    have hl : (putK kvs k v).length ≤ sizeLine := by have := length_putK kvs k v; omega
    refine wpAny_setItem_pairs (hsz := hz) (kV_is ry) dd fun h' dd' hs => h _ ?_
    have he : ∃ q, h'.get? a = some q := let ⟨q, _, _, hq, _⟩ := dd'; ⟨q, hq⟩
    exact d_write I (by rw [e]; exact True.intro) hs he (dk_new hl hd (rel.put k rv) dd')
  · subst ey eH
    cases (show u = Value.ref b from ry)
    obtain ⟨z, hd, xs, rel, dd⟩ := dt_of I.hok e
    have hz : xs.length ≤ sizeLine := by rw [← Paired.length rel]; exact z
    have hl : (putK kvs k v).length ≤ sizeLine := by have := length_putK kvs k v; omega
    refine wpAny_setItem_heap (hsz := hz) (tupleKind_room_in1 hu) (key_of I.hok eb) dd fun h' dd' hs => h _ ?_
    obtain ⟨q, es, ep, hq, h2, h3, h4, _, h5⟩ := dd'
    refine d_write I (by rw [e]; exact True.intro) hs ⟨q, hq⟩ ⟨hl, hd, _, (rel.put k eb rv).keeps fun c ys ec => ?_, q, es, ep, hq, h2, h3, h4, h5⟩
    rw [upd_ne (ne_of ec e (fun z => nomatch z))]
    exact ec
end

section
variable {X : Cx} {pins : List (Addr × Obj)} {σ : St} {H : Hp} {s : Shared} {a : Addr} {kvs : List (Key × V)} {k : Key} {u : Value} {A : Around} {E : Value → Shared → Prop}
end


/-! ### readings and rules -/
/-- y in d, y not in d -/
def tDIn (ty td : TE) : TE := fun σ H Q => ty σ H fun y H1 => td σ H1 fun x H2 => ∃ a o, x = .ref a ∧ DGet H2 a y o ∧ Q (.bl o.isSome) H2
/-- d[y] = v -/
def sDPut (td ty tv : TE) : TS := fun D σ H => tv σ H fun v H1 => td σ H1 fun x H2 => ty σ H2 fun y H3 => ∃ a H4, x = .ref a ∧ DPut H3 a y v H4 ∧ D.nx σ H4
section
variable {X : Cx} {o i e value : Expr} {pos pos' tpos : Pos} {td ty tv : TE}
theorem pc_din (hu : X.A.units + 1 < cLine) (hi : PE X i ty) (ho : PE X o td) : PC X .In i o (tDIn ty td) := by
  intro pins s σ H Q I h
  refine thn (hi pins s σ H _ I h) fun iv s1 ⟨y, H1, I1, ry, q1⟩ => thn (ho pins s1 σ H1 _ I1 q1) fun u s2 ⟨x, H2, I2, rx, a, ov, ex, g, q2⟩ => ?_
  subst ex
  obtain rfl : u = Value.ref a := rx
  exact d_in hu I2 g ry fun s3 I3 => ⟨.bl ov.isSome, H2, I3, rfl, q2⟩
theorem ps_dput (hu : X.A.units + 1 < cLine) (ho : PE X o td) (hi : PE X i ty) (hv : PE X value tv) (hs : swapsWith value (some (.Subscript o i pos')) pos.line X.env = pure false) :
    PS X (.Assign [.Subscript o i pos'] value pos) (sDPut td ty tv) := by
  intro pins s σ H D I h
  refine wpAny_Assign_Subscript (thn (hv pins s σ H _ I h) fun r s1 ⟨v, H1, I1, rv, q1⟩ => thn (ho pins s1 σ H1 _ I1 q1) fun u s2 ⟨x, H2, I2, rx, q2⟩ => thn (hi pins s2 σ H2 _ I2 q2) fun iv s3 ⟨y, H3, I3, ry, a, H4, ex, g, q3⟩ => ?_) hs
  subst ex
  obtain rfl : u = Value.ref a := rx
  exact d_setItem hu I3 g ry rv fun s4 I4 => ⟨σ, H4, I4, q3⟩
end


/-! ### displays -/
theorem dk_empty {P : Program} {w : World} {H : Hp} (h : Heap) (hb : sysModules < h.objs.size) : ObjOk P w H (h.push { cls := .type "dict", data := .dict #[] }) h.objs.size (.dK []) :=
  ⟨Nat.zero_le _, beq_eq_false_iff_ne.mpr (Ne.symm (Nat.ne_of_lt hb)), [], .nil, Heap.DictOf.new h⟩
/-- {}, to be a dict of the kind that is wanted -/
def tDNewK : TE := fun _ H Q => ∀ p, H p = none → Q (.ref p) (upd H p (.dK []))
section
variable {X : Cx} {pos : Pos}
theorem pe_dnewK : PE X (.Dict [] [] pos) tDNewK := fun pins s σ H Q I h =>
  wpAny_Dict_empty ⟨.ref s.heap.objs.size, _, I.laid (a := s.heap.objs.size) (o := .dK []) (t' := s.toks) (fun _ _ q => Heap.get?_push_of_some _ q) (Nat.le_refl _) (dk_empty s.heap I.big), rfl, h _ (I.hok.fresh (Nat.le_refl _))⟩
end

/-- the pairs of a display, from the left -/
def tPairs : List (TE × TE) → St → Hp → (List (V × V) → Hp → Prop) → Prop
  | [], _, H, Q => Q [] H
  | (tk, tv) :: r, σ, H, Q => tk σ H fun x H1 => tv σ H1 fun y H2 => tPairs r σ H2 fun ps H3 => Q ((x, y) :: ps) H3
abbrev VV : List (V × V) → List (Value × Value) → Prop := Paired fun p q => RelV p.1 q.1 ∧ RelV p.2 q.2
def PPs (X : Cx) (pos : Pos) (keys : List (Option Expr)) (values : List Expr) (trs : List (TE × TE)) : Prop :=
  ∀ (pins : List (Addr × Obj)) (s : Shared) (σ : St) (H : Hp) (Q : List (V × V) → Hp → Prop), Inv X pins σ H s → tPairs trs σ H Q →
    wpAny (model X.prog X.w) X.A (evalPairs (pairTrees keys values X.env pos)) (fun vs s' => ∃ ps H', Inv X pins σ H' s' ∧ VV ps vs ∧ Q ps H') X.xe s
theorem pps_nil {X : Cx} {pos : Pos} : PPs X pos [] [] [] := fun pins s σ H Q I h => pairTrees_nil_walk ⟨[], H, I, .nil, h⟩
theorem pps_cons {X : Cx} {pos : Pos} {k v : Expr} {ks : List (Option Expr)} {vs : List Expr} {tk tv : TE} {trs : List (TE × TE)} (hk : PE X k tk) (hv : PE X v tv) (hr : PPs X pos ks vs trs) :
    PPs X pos (some k :: ks) (v :: vs) ((tk, tv) :: trs) := fun pins s σ H Q I h =>
  pairTrees_cons_walk (thn (hk pins s σ H _ I h) fun u s1 ⟨x, H1, I1, rx, q1⟩ => thn (hv pins s1 σ H1 _ I1 q1) fun w2 s2 ⟨y, H2, I2, ry, q2⟩ =>
    thn (hr pins s2 σ H2 _ I2 q2) fun ws s3 ⟨ps, H3, I3, rel, q3⟩ => ⟨(x, y) :: ps, H3, I3, .cons ⟨rx, ry⟩ rel, q3⟩)

def mergeK (kvs more : List (Key × V)) : List (Key × V) := more.foldl (fun acc kv => putK acc kv.1 kv.2) kvs
theorem KV.merge : ∀ {more : List (Key × V)} {rs : List (Key × Value)} {kvs : List (Key × V)} {vs : List (Key × Value)}, KV more rs → KV kvs vs → KV (mergeK kvs more) (merged vs rs) := by
  intro more rs kvs vs r
  unfold KV at r
  induction r generalizing kvs vs with
  | nil => intro q; exact q
  | @cons p q ps qs h t ih =>
    intro r0
    have e : KV (putK kvs p.1 p.2) (stored vs q.1 q.2) := by
      have := r0.put p.1 h.2
      rw [← h.1]; exact this
    exact ih e
theorem length_mergeK : ∀ (more kvs : List (Key × V)), (mergeK kvs more).length ≤ kvs.length + more.length
  | [], kvs => by show kvs.length ≤ kvs.length + 0; omega
  | p :: r, kvs => by
    have h1 := length_mergeK r (putK kvs p.1 p.2)
    have h2 := length_putK kvs p.1 p.2
    show (mergeK (putK kvs p.1 p.2) r).length ≤ _
    rw [List.length_cons]; omega
theorem carries_of {P : Program} {w : World} : ∀ {kvs : List (Key × V)} {ws : List (Value × Value)}, VV (kvs.map fun kv => (kV kv.1, kv.2)) ws → ∃ rs, Carries (mixKind P w) ws rs ∧ KV kvs rs
  | [], _, r => by rw [List.map_nil] at r; cases r; exact ⟨[], True.intro, .nil⟩
  | p :: kvs, _, r => by
    rw [List.map_cons] at r
    cases r with
    | @cons a b as bs h t =>
      obtain ⟨rs, c, q⟩ := carries_of (P := P) (w := w) t
      obtain ⟨b1, b2⟩ := b
      exact ⟨(p.1, b2) :: rs, ⟨kV_is h.1, rfl, c⟩, .cons ⟨rfl, h.2⟩ q⟩
/-- {k: v, ..} with keys ints and texts; the new dict stands empty while the pairs are made -/
def tDisp (trs : List (TE × TE)) : TE := fun σ H Q => ∀ p, H p = none → tPairs trs σ (upd H p (.dK [])) fun ps H2 => H2 p = some (.dK []) ∧ ∃ kvs : List (Key × V), ps = kvs.map (fun kv => (kV kv.1, kv.2)) ∧ kvs.length ≤ 15 ∧ Q (.ref p) (upd H2 p (.dK (mergeK [] kvs)))
theorem pe_disp {X : Cx} {pos : Pos} {keys : List (Option Expr)} {values : List Expr} {trs : List (TE × TE)} (h : PPs X pos keys values trs) (hall : keys.all (·.isSome) = true) (hl : keys.length = values.length) (h0 : keys ≠ [])
    (h15 : keys.length ≤ 15) : PE X (.Dict keys values pos) (tDisp trs) := by
  intro pins s σ H Q I q
  have hn := I.hok.fresh (Nat.le_refl s.heap.objs.size)
  have I1 := I.laid (a := s.heap.objs.size) (o := .dK []) (h' := s.heap.push { cls := .type "dict", data := .dict #[] }) (t' := s.toks) (fun _ _ q => Heap.get?_push_of_some _ q) (Nat.le_refl _) (dk_empty s.heap I.big)
  refine wpAny_Dict_walk (knd := mixKind X.prog X.w) hall hl h0 h15 (thn (h pins _ σ _ _ I1 (q _ hn)) fun ws s2 ⟨ps, H2, I2, rel, e, kvs, ep, lk, q2⟩ => ?_)
  subst ep
  obtain ⟨rs, c, rk⟩ := carries_of (P := X.prog) (w := X.w) rel
  obtain ⟨z, hd, vs0, r0, dd⟩ := dk_of I2.hok e
  cases r0
  refine ⟨rs, c, dd, fun h' dd' hs => ⟨.ref s.heap.objs.size, _, ?_, rfl, q2⟩⟩
  have hz : (mergeK [] kvs).length ≤ sizeLine := by
    have h1 := length_mergeK kvs []
    rw [List.length_nil] at h1
    rw [sizeLine_eq]; omega
  have he : ∃ q, h'.get? s.heap.objs.size = some q := let ⟨q, _, _, hq, _⟩ := dd'; ⟨q, hq⟩
  exact d_write I2 (by rw [e]; exact True.intro) hs he (dk_new hz hd (rk.merge .nil) dd')


/-! ### methods -/
section
variable {X : Cx} {pins : List (Addr × Obj)} {σ : St} {H : Hp} {s : Shared} {a : Addr} {y d : V} {u r : Value} {o : Option V} {A : Around} {E : Value → Shared → Prop}
end

section
variable {X : Cx} {o e f : Expr} {apos cpos : Pos} {td ty tx : TE}
end

/-! ### dict(d): a copy -/
section
variable {X : Cx} {pins : List (Addr × Obj)} {σ : St} {H : Hp} {s : Shared} {a : Addr} {kvs : List (Key × V)} {A : Around} {E : Value → Shared → Prop}
end


section
variable {X : Cx} {pins : List (Addr × Obj)} {σ : St} {H : Hp} {s : Shared} {a : Addr} {y : V} {u : Value} {A : Around} {E : Value → Shared → Prop}
end
end L2

namespace L2
open PySem PySem.Spec PyProof.Rows

section
variable {prog : Program} {w : World} {A : Around} {E : Value → Shared → Prop}
end

section
variable {X : Cx}
end
end L2

namespace L2
open PySem PySem.Spec PyProof.Rows

section
variable {X : Cx} {pins : List (Addr × Obj)} {σ : St} {H : Hp} {s : Shared} {h' : Heap}
/-- several records of ours have turned -/
theorem Inv.turnedL {t' : Nat} {ch : List Addr} (I : Inv X pins σ H s) (k : ∀ b o, b ∉ ch → s.heap.get? b = some o → h'.get? b = some o) (hf : ∀ b ∈ ch, FpOk X pins H b) : Inv X pins σ H { s with heap := h', toks := t' } := by
  have nit : ∀ b u, H b = some u → b ∉ ch := fun b u e z => by
    have q := (hf b z).1
    rw [q] at e; cases e
  refine I.step (g' := s.gens) (d' := s.drawn) (ch := ch) (fun b hb => ⟨(hf b hb).2.2.2.1, (hf b hb).2.1, (hf b hb).2.2.2.2.1, (hf b hb).2.2.2.2.2⟩) (fun b o _ _ hc e _ => k b o hc e) (fun b o _ _ hc e _ => ⟨o.slots, k b o hc e⟩)
    (fun _ _ _ _ n => n) (fun b o hc e => ⟨o, k b o hc e⟩) (fun _ _ e => e) (fun _ _ _ e => e) (fun b ps e => ⟨#[], by rw [e]; simp⟩) (fun m hm => ?_) (fun b u e => ?_) I.bare
  · obtain ⟨o, es, ep, ho, r⟩ := hm
    exact ⟨o, es, ep, k _ o (fun z => (hf _ z).2.1 rfl) ho, r⟩
  · refine (I.hok b u e).stay (fun c v hc q => k c v ?_ q) (fun _ q => q) fun _ _ q => q
    rcases hc with z | z
    · rw [z]; exact nit b u e
    · exact nit c _ z
/-- .. and one new object is laid -/
theorem Inv.turnedNew {t' : Nat} {ch : List Addr} {T : Addr} {ob : HO} (I : Inv X pins σ H s) (k : ∀ b o, b ∉ ch → s.heap.get? b = some o → h'.get? b = some o) (hf : ∀ b ∈ ch, FpOk X pins H b) (hT : s.heap.objs.size ≤ T)
    (new : ObjOk X.prog X.w (upd H T ob) h' T ob) : Inv X pins σ (upd H T ob) { s with heap := h', toks := t' } := by
  have hn : H T = none := I.hok.fresh hT
  have nit : ∀ b u, H b = some u → b ∉ ch := fun b u e z => by
    have q := (hf b z).1
    rw [q] at e; cases e
  refine I.step (g' := s.gens) (d' := s.drawn) (ch := ch) (fun b hb => ⟨(hf b hb).2.2.2.1, (hf b hb).2.1, (hf b hb).2.2.2.2.1, (hf b hb).2.2.2.2.2⟩) (fun b o _ _ hc e _ => k b o hc e) (fun b o _ _ hc e _ => ⟨o.slots, k b o hc e⟩)
    (fun b o _ e n => ?_) (fun b o hc e => ⟨o, k b o hc e⟩) (fun b xs e => ?_) (fun b o u e => ?_) (fun b ps e => ⟨#[], ?_⟩) (fun m hm => ?_) (fun b u e => ?_) I.bare
  · rw [upd_ne (Nat.ne_of_lt (Nat.lt_of_lt_of_le (Heap.lt_size e) hT))]; exact n
  · rw [upd_ne (ne_of_none e hn)]; exact e
  · rw [upd_ne (ne_of_none e hn)]; exact e
  · rw [upd_ne (ne_of_none e hn), e]; simp
  · obtain ⟨o, es, ep, ho, r⟩ := hm
    exact ⟨o, es, ep, k _ o (fun z => (hf _ z).2.1 rfl) ho, r⟩
  · by_cases hb : b = T
    · subst hb
      rw [upd_same] at e
      cases e
      exact new
    · rw [upd_ne hb] at e
      refine (I.hok b u e).stay (fun c v hc q => k c v ?_ q) (fun c q => by rw [upd_ne (ne_of_none q hn)]; exact q) fun c xs q => by rw [upd_ne (ne_of_none q hn)]; exact q
      rcases hc with z | z
      · rw [z]; exact nit b u e
      · exact nit c _ z

/-! ### locking a thing while a statement runs -/
theorem Inv.lock {d : Addr} {u : HO} (I : Inv X pins σ H s) (h : H d = some u) (mu : Mut (some u)) : ∃ od, Inv X pins σ (upd H d (.frz od u)) s := by
  have x := I.hok d u h
  have ex : ∃ od, s.heap.get? d = some od := by
    cases u with
    | lst xs => obtain ⟨_, _, _, _, e⟩ := x; exact ⟨_, e⟩
    | dK kvs => obtain ⟨_, _, _, _, o, _, _, e, _⟩ := x; exact ⟨o, e⟩
    | dT kvs => obtain ⟨_, _, _, _, o, _, _, e, _⟩ := x; exact ⟨o, e⟩
    | set S n => obtain ⟨o, _, _, _, e, _⟩ := x; exact ⟨o, e⟩
    | ins C dx fs => obtain ⟨_, _, _, e, _⟩ := x; exact ⟨_, e⟩
    | ext φ => obtain ⟨_, ⟨_, e⟩, _⟩ := x; exact ⟨_, e⟩
    | _ => exact False.elim mu
  obtain ⟨od, e⟩ := ex
  have new : ObjOk X.prog X.w (upd H d (.frz od u)) s.heap d (.frz od u) := by
    refine ⟨e, x.stay (fun b v _ q => q) (fun b q => ?_) fun b xs q => ?_⟩
    · rw [upd_ne (fun z => by rw [z, h] at q; cases q; exact mu)]; exact q
    · rw [upd_ne (fun z => by rw [z, h] at q; cases q; exact mu)]; exact q
  exact ⟨od, I.write (x := d) (e := d) (t' := s.toks) (h' := s.heap) (by rw [h]; exact mu) (.inl rfl) (fun b v _ q => q) ⟨od, e⟩ new⟩
theorem Inv.nofrz {d : Addr} {u : HO} (I : Inv X pins σ H s) (h : H d = some u) (mu : Mut (some u)) : ∀ o' u', X.H_0 d ≠ some (.frz o' u') := fun o' u' e => by
  have q := I.base.frzs d o' u' e
  rw [h] at q
  cases q
  exact mu
theorem Inv.unlock {d : Addr} {od : Obj} {u : HO} (I : Inv X pins σ H s) (h : H d = some (.frz od u)) (hn : ∀ o' u', X.H_0 d ≠ some (.frz o' u')) : Inv X pins σ (upd H d u) s := by
  have neH : ∀ b o, H b = some o → (∀ o' u', o ≠ .frz o' u') → b ≠ d := fun b o e hne z => by
    rw [z, h] at e
    cases e
    exact hne _ _ rfl
  have neN : ∀ b, H b = none → b ≠ d := fun b e z => by rw [z, h] at e; cases e
  refine ⟨I.ok, I.os, I.bare, ⟨I.base.keep, I.base.slot, fun b o e n hx => ?_, I.base.there, fun b xs e => ?_, fun b o x e => ?_, fun b ps e => ?_⟩, I.loc, I.cell, ?_, fun x c e => ?_, fun p hp => ?_, fun b o e => ?_, I.len⟩
  · rw [upd_ne (neN b (I.base.free b o e n hx))]; exact I.base.free b o e n hx
  · have q := I.base.tups b xs e
    rw [upd_ne (neH b _ q (fun _ _ z => nomatch z))]; exact q
  · have q := I.base.frzs b o x e
    rw [upd_ne (fun z => by rw [z] at e; exact hn _ _ e)]; exact q
  · obtain ⟨m, q⟩ := I.base.tbls b ps e
    exact ⟨m, by rw [upd_ne (neH b _ q (fun _ _ z => nomatch z))]; exact q⟩
  · rw [upd_ne (neN _ I.free)]; exact I.free
  · rw [upd_ne (neN c (I.freeC x c e))]; exact I.freeC x c e
  · obtain ⟨e, n, r⟩ := I.pin p hp
    exact ⟨e, by rw [upd_ne (neN _ n)]; exact n, r⟩
  · by_cases hb : b = d
    · rw [hb, upd_same] at e
      cases e
      rw [hb]
      obtain ⟨_, x⟩ := I.hok d _ h
      exact x.stay (fun c v _ q => q) (fun c q => by rw [upd_ne (neH c _ q (fun _ _ z => nomatch z))]; exact q) fun c xs q => by rw [upd_ne (neH c _ q (fun _ _ z => nomatch z))]; exact q
    · rw [upd_ne hb] at e
      exact (I.hok b o e).stay (fun c v _ q => q) (fun c q => by rw [upd_ne (neH c _ q (fun _ _ z => nomatch z))]; exact q) fun c xs q => by rw [upd_ne (neH c _ q (fun _ _ z => nomatch z))]; exact q
end
/-- the statement runs while the thing at d is locked (read, not written); d and what stands there are the reading's choice -/
def tLock (t : TS) : TS := fun D σ H => ∃ d u, H d = some u ∧ Mut (some u) ∧ ∀ od, t ⟨fun σ' H' => H' d = some (.frz od u) ∧ D.nx σ' (upd H' d u), fun v H' => H' d = some (.frz od u) ∧ D.rt v (upd H' d u), fun σ' H' => H' d = some (.frz od u) ∧ D.bk σ' (upd H' d u), fun σ' H' => H' d = some (.frz od u) ∧ D.ct σ' (upd H' d u)⟩ σ (upd H d (.frz od u))
def tLockE (t : TE) : TE := fun σ H Q => ∃ d u, H d = some u ∧ Mut (some u) ∧ ∀ od, t σ (upd H d (.frz od u)) fun v H' => H' d = some (.frz od u) ∧ Q v (upd H' d u)
section
variable {X : Cx}
theorem ps_lock {st : Stmt} {t : TS} (h : PS X st t) : PS X st (tLock t) := by
  intro pins s σ H D I hw
  obtain ⟨d, u, hd, mu, hw⟩ := hw
  obtain ⟨od, I1⟩ := I.lock hd mu
  refine thn (h pins s σ _ _ I1 (hw od)) fun f s1 q => ?_
  cases f with
  | next => obtain ⟨σ', H', I2, e, q⟩ := q; exact ⟨σ', _, I2.unlock e (I.nofrz hd mu), q⟩
  | brk => obtain ⟨σ', H', I2, e, q⟩ := q; exact ⟨σ', _, I2.unlock e (I.nofrz hd mu), q⟩
  | cont => obtain ⟨σ', H', I2, e, q⟩ := q; exact ⟨σ', _, I2.unlock e (I.nofrz hd mu), q⟩
  | ret v => obtain ⟨x, σ', H', I2, r, e, q⟩ := q; exact ⟨x, σ', _, I2.unlock e (I.nofrz hd mu), r, q⟩
theorem pe_lock {e : Expr} {t : TE} (h : PE X e t) : PE X e (tLockE t) := by
  intro pins s σ H Q I hw
  obtain ⟨d, u, hd, mu, hw⟩ := hw
  obtain ⟨od, I1⟩ := I.lock hd mu
  refine thn (h pins s σ _ _ I1 (hw od)) fun v s1 ⟨x, H1, I2, r, e2, q⟩ => ?_
  exact ⟨x, _, I2.unlock e2 (I.nofrz hd mu), r, q⟩

/-! ### one iterator just laid -/
theorem pi_one {tg : Expr} {pins : List (Addr × Obj)} {σ : St} {H : Hp} {s : Shared} {R : It → Hp → Prop} {J : It} {tn : Nat → Heap → Prop} {tk : Nat} (I : Inv X pins σ H s) (o : Obj)
    (T : Turn X.prog X.w X.K tg J [s.heap.objs.size] s.heap.objs.size tn) (st : tn 0 (s.heap.push o)) (q : R J H) : PIE X pins σ tg R (.ref s.heap.objs.size) { s with heap := s.heap.push o, toks := tk } := by
  refine ⟨s.heap.objs.size, [s.heap.objs.size], tn, J, H, rfl, I.kept fun b ob e => Heap.get?_push_of_some _ e, T, st, fun b hb => ?_, q⟩
  have e : b = s.heap.objs.size := by simpa using hb
  subst e
  exact I.fpOk (Nat.le_refl _) (I.hok.fresh (Nat.le_refl _))
end

/-! ### range with a step -/
/-- range(i, j, c): small bounds, n items -/
def RgC (i j c : Int) (n : Nat) : Prop := c ≠ 0 ∧ c.natAbs < 1073741824 ∧ Builtin.Range.small i j c = true ∧ Builtin.Range.rangeSize i j c = n
theorem RgC.neg {i j : Int} (ha : -(2 ^ 62) ≤ i) (ha' : i < 2 ^ 62) (hb : -(2 ^ 62) ≤ j) (hb' : j < 2 ^ 62) : RgC i j (-1) (i - j).toNat :=
  ⟨by decide, by decide, PySem.W.small_down ha ha' hb hb', PySem.W.rangeSize_downNat i j⟩
section
variable {X : Cx} {tg : Expr}
end
/-! ### reversed(list) -/
section
variable {X : Cx} {tg : Expr}
end

/-! ### a str -/
/-! ### a dict's keys: any dict's entries -/
section
variable {prog : Program} {w : World} {A : Around} {E : Value → Shared → Prop} {s : Shared}
theorem iter_keys {d : Addr} {o : Obj} {es : Array DictEntry} {ep : Nat} {Q : Value → Shared → Prop} (hd : (d == sysModules) = false) (ho : s.heap.get? d = some o) (hc : o.ExactDict) (hdat : o.data = .dict es ep)
    (hQ : Q (.ref s.heap.objs.size) { s with heap := s.heap.push { cls := .type "dict_keyiterator", data := .fields #[.ref d, .int 0 0, .int es.size 0, .int ep 0] } }) :
    wpAny (model prog w) A (pyIter (.ref d)) Q E s := by
  have hT : s.TypeIs (.ref d) "dict" := ⟨o, ho, hc.1⟩
  refine wpAny_pyIter_slot hT F.slot_dict_iter (wpAny_call_entry F.slot_dict_iter hT F.entry_dict_iter ?_ (F.args_dict_iter_1 _))
  unfold Builtin.«dict.__iter__»
  refine wpAny_bind ?_
  unfold Builtin.Dict.dictSlotNone
  refine wpAny_bind (wpAny_notOrdered_dict hT ?_)
  show wpAny _ _ (pure (Value.ref d)) _ _ s
  refine wpAny_pure ?_
  show wpAny _ _ (Builtin.Dict.showsAll d >>= _) _ _ s
  unfold Builtin.Dict.showsAll
  rw [if_neg (by rw [hd]; exact Bool.false_ne_true)]
  refine wpAny_bind (wpAny_pure ?_)
  refine wpAny_bind (wpAny_dictEntries ho hdat ?_)
  refine wpAny_bind (wpAny_dictEpoch ho hdat ?_)
  refine wpAny_bind (wpAny_newObj_type (wpAny_pure ⟨_, rfl, "dict_keyiterator", _, ⟨_, Heap.get?_push_size _ rfl, rfl⟩, F.slot_dict_keyiterator_next.lookup, ?_⟩))
  simpa [rawInt] using hQ
theorem next_key_item {it d : Addr} {i n ep : Nat} {od : Obj} {es : Array DictEntry} {en : DictEntry} {Q : Option Value → Shared → Prop} (hit : s.heap.IsKeyIter it d i n ep) (hod : s.heap.get? d = some od) (hdd : od.data = .dict es ep)
    (hsz : es.size = n) (hx : es[i]? = some en) (hQ : ∀ h', h'.IsKeyIter it d (i + 1) n ep → Heap.SameBut it s.heap h' → Q (some en.key) { s with heap := h' }) : wpAny (model prog w) A (pyNext (.ref it)) Q E s := by
  obtain ⟨o, ho, hc, hd⟩ := id hit
  unfold pyNext
  refine wpAny_bind (wpAny_attempt (wpAny_callSpecial?_slot (name := Str.ofString "__next__") hit.typeIs F.slot_dict_keyiterator_next
    (wpAny_call_entry F.slot_dict_keyiterator_next hit.typeIs F.entry_dict_keyiterator_next ?_ (F.args_dict_keyiterator_next_1 _))))
  refine wpAny_bind (wpAny_pure ?_)
  refine wpAny_bind ?_
  refine wpAny_bind ?_
  first | refine wpAny_bind (wpAny_typeNameOfWhole_keyiter hit.typeIs (wpAny_pure ?_)) | refine wpAny_bind (wpAny_typeNameOf_keyiter hit.typeIs (wpAny_pure ?_))
  refine wpAny_bind (wpAny_fieldsOf ho hd ?_)
  have hown : Builtin.Dict_items.ownsTuple "dict_keyiterator" = false := by decide
  simp only [hown, Bool.false_eq_true, if_false]
  show wpAny _ _ (if (Value.ref d == Value.none) = true then _ else _) _ _ s
  rw [if_neg (show ¬ ((Value.ref d == Value.none) = true) from Bool.false_ne_true)]
  refine wpAny_bind (wpAny_pure ?_)
  refine wpAny_bind (wpAny_dictEntries hod hdd ?_)
  rw [if_neg (by rw [hsz]; simp)]
  refine wpAny_bind (wpAny_pure ?_)
  refine wpAny_bind (wpAny_dictEpoch hod hdd ?_)
  rw [if_neg (by simp)]
  refine wpAny_pure ?_
  obtain ⟨hlt', hen⟩ := Array.getElem?_eq_some_iff.mp hx
  simp only [show ¬ ((i : Int) < 0) from by omega, if_false, Int.toNat_natCast, Array.getElem?_eq_getElem hlt']
  refine wpAny_bind ?_
  first | refine wpAny_bind (wpAny_typeNameOfWhole_keyiter hit.typeIs (wpAny_pure ?_)) | refine wpAny_bind (wpAny_typeNameOf_keyiter hit.typeIs (wpAny_pure ?_))
  refine wpAny_bind (wpAny_isOneOf_keyiter hit.typeIs ?_)
  show wpAny _ _ (setField (.ref it) 1 (rawInt ((i : Int) + 1)) >>= _) _ _ s
  refine wpAny_bind (wpAny_setField ho hd (by simp) ?_)
  have hit' : (s.heap.update it (Obj.mapFields (·.setIfInBounds 1 (rawInt ((i : Int) + 1))))).IsKeyIter it d (i + 1) n ep :=
    ⟨_, Heap.get?_update_self _ ho (Obj.isFreed_of_fields (Obj.data_mapFields hd _)), (Obj.cls_mapFields ..).trans hc, by rw [Obj.data_mapFields hd]; simp [rawInt]⟩
  refine wpAny_bind (wpAny_holding ?_)
  refine wpAny_bind (wpAny_isOneOf_keyiter (s := { s with heap := s.heap.update it (Obj.mapFields (·.setIfInBounds 1 (rawInt ((i : Int) + 1)))) }) hit'.typeIs ?_)
  show wpAny _ _ (pure es[i].key) _ _ _
  rw [hen]
  exact wpAny_pure (wpAny_pure ⟨_, rfl, wpAny_pure (hQ _ hit' (Heap.SameBut.update ..))⟩)
theorem next_key_end {it d : Addr} {i n ep : Nat} {od : Obj} {es : Array DictEntry} {Q : Option Value → Shared → Prop} (hh : A.handled = none) (hit : s.heap.IsKeyIter it d i n ep) (hod : s.heap.get? d = some od) (hdd : od.data = .dict es ep)
    (hsz : es.size = n) (hge : n ≤ i) (hQ : ∀ h', Heap.ExtBut it s.heap h' → Q none { s with heap := h' }) : wpAny (model prog w) A (pyNext (.ref it)) Q E s := by
  obtain ⟨o, ho, hc, hd⟩ := id hit
  unfold pyNext
  refine wpAny_bind (wpAny_attempt (wpAny_callSpecial?_slot (name := Str.ofString "__next__") hit.typeIs F.slot_dict_keyiterator_next
    (wpAny_call_entry F.slot_dict_keyiterator_next hit.typeIs F.entry_dict_keyiterator_next ?_ (F.args_dict_keyiterator_next_1 _))))
  refine wpAny_bind (wpAny_pure ?_)
  refine wpAny_bind ?_
  refine wpAny_bind ?_
  first | refine wpAny_bind (wpAny_typeNameOfWhole_keyiter hit.typeIs (wpAny_pure ?_)) | refine wpAny_bind (wpAny_typeNameOf_keyiter hit.typeIs (wpAny_pure ?_))
  refine wpAny_bind (wpAny_fieldsOf ho hd ?_)
  have hown : Builtin.Dict_items.ownsTuple "dict_keyiterator" = false := by decide
  simp only [hown, Bool.false_eq_true, if_false]
  show wpAny _ _ (if (Value.ref d == Value.none) = true then _ else _) _ _ s
  rw [if_neg (show ¬ ((Value.ref d == Value.none) = true) from Bool.false_ne_true)]
  refine wpAny_bind (wpAny_pure ?_)
  refine wpAny_bind (wpAny_dictEntries hod hdd ?_)
  rw [if_neg (by rw [hsz]; simp)]
  refine wpAny_bind (wpAny_pure ?_)
  refine wpAny_bind (wpAny_dictEpoch hod hdd ?_)
  rw [if_neg (by simp)]
  refine wpAny_pure ?_
  have hge' : es.size ≤ i := by rw [hsz]; exact hge
  simp only [show ¬ ((i : Int) < 0) from by omega, if_false, Int.toNat_natCast, Array.getElem?_eq_none hge']
  refine wpAny_bind ?_
  first | refine wpAny_bind (wpAny_typeNameOfWhole_keyiter hit.typeIs (wpAny_pure ?_)) | refine wpAny_bind (wpAny_typeNameOf_keyiter hit.typeIs (wpAny_pure ?_))
  show wpAny _ _ (setField (.ref it) 0 .none >>= _) _ _ s
  refine wpAny_bind (wpAny_setField ho hd (by simp) ?_)
  show wpAny _ _ (newExc (.type "StopIteration") [] >>= _) _ _ _
  refine wpAny_bind ?_
  simp only [newExc, newTuple]
  refine wpAny_bind (wpAny_newObj_type ?_ (by size_fits))
  refine wpAny_bind (m := firstArgMember _ _) (wpAny_of_eq (a := Value.none) (by first | rfl | (simp only [firstArgMember]; rfl)) ?_)
  refine wpAny_newObj_type ?_ (by size_fits)
  simp only [raiseNew]
  refine wpAny_bind (wpAny_handled ?_)
  rw [show A.in1.handled = none from hh]
  refine wpAny_bind (wpAny_pure (wpAny_throw ?_))
  refine wpAny_bind (wpAny_isInstance (T := "StopIteration") (b := true) ⟨_, Heap.get?_push_size _ rfl, rfl⟩ isSubtype_stop ?_)
  exact wpAny_pure (hQ _ (((Heap.SameBut.update ..).extBut.push _).push _))
end

/-! ### a locked dict -/
theorem kv_get {κ : Type} {kvs : List (κ × V)} {vs : List (κ × Value)} (h : KV kvs vs) : ∀ {i : Nat} {k : κ} {v : V}, kvs[i]? = some (k, v) → ∃ u, vs[i]? = some (k, u) ∧ RelV v u := by
  unfold KV at h
  induction h with
  | nil => intro i k v e; simp at e
  | @cons a b l₁ l₂ r t ih =>
    intro i k v e
    cases i with
    | zero =>
      simp only [List.getElem?_cons_zero, Option.some.injEq] at e
      subst e
      refine ⟨b.2, ?_, r.2⟩
      simp only [List.getElem?_cons_zero]
      exact congrArg some (Prod.ext r.1.symm rfl)
    | succ j =>
      simp only [List.getElem?_cons_succ] at e ⊢
      exact ih e
theorem paired_get {α β : Type} {G : α → β → Prop} {l₁ : List α} {l₂ : List β} (h : Paired G l₁ l₂) : ∀ {i : Nat} {a : α}, l₁[i]? = some a → ∃ b, l₂[i]? = some b ∧ G a b := by
  induction h with
  | nil => intro i a e; simp at e
  | @cons a b l₁ l₂ r t ih =>
    intro i a' e
    cases i with
    | zero =>
      simp only [List.getElem?_cons_zero, Option.some.injEq] at e
      subst e
      exact ⟨b, rfl, r⟩
    | succ j =>
      simp only [List.getElem?_cons_succ] at e ⊢
      exact ih e
theorem relV_key {k : Key} {u : Value} (h : keyIs k u = true) : RelV (kV k) u := by
  rcases keyIs_shape h with ⟨i, t, rfl, rfl⟩ | ⟨x, t, rfl, rfl⟩
  · exact ⟨t, rfl⟩
  · exact ⟨t, rfl⟩
section
variable {X : Cx} {pins : List (Addr × Obj)} {σ : St} {H : Hp} {s : Shared} {d : Addr} {o : Obj}
theorem Inv.frzK {kvs : List (Key × V)} (I : Inv X pins σ H s) (h : H d = some (.frz o (.dK kvs))) :
    (d == sysModules) = false ∧ s.heap.get? d = some o ∧ o.ExactDict ∧ ∃ (es : Array DictEntry) (ep : Nat) (vs : List (Key × Value)), o.data = .dict es ep ∧ es.size = kvs.length ∧ KV kvs vs ∧ s.heap.DictAt (mixKind X.prog X.w) d vs ep := by
  obtain ⟨hd, z, hs, vs, kv, o', es, ep, ho, hx, hdt, r⟩ := I.hok d _ h
  rw [hd] at ho
  cases ho
  refine ⟨hs, hd, hx, es, ep, vs, hdt, ?_, kv, o, es, hd, hx, hdt, r⟩
  have l1 := r.2.1.length
  have l2 : kvs.length = vs.length := Paired.length kv
  rw [Array.length_toList] at l1
  omega
/-- the same for tuple keys -/
theorem Inv.frzT {kvs : List (List Key × V)} (I : Inv X pins σ H s) (h : H d = some (.frz o (.dT kvs))) :
    (d == sysModules) = false ∧ s.heap.get? d = some o ∧ o.ExactDict ∧ ∃ (es : Array DictEntry) (ep : Nat), o.data = .dict es ep ∧ es.size = kvs.length ∧
      ∀ (i : Nat) (k : List Key) (v : V), kvs[i]? = some (k, v) → ∃ (en : DictEntry) (q : Addr), es[i]? = some en ∧ en.key = .ref q ∧ H q = some (.tup (k.map kV)) := by
  obtain ⟨hd, z, hs, xs, pr, o', es, ep, ho, hx, hdt, he, _⟩ := I.hok d _ h
  rw [hd] at ho
  cases ho
  refine ⟨hs, hd, hx, es, ep, hdt, ?_, fun i k v e => ?_⟩
  · have l1 : es.size = xs.length := size_of_entries he
    have l2 : kvs.length = xs.length := Paired.length pr
    omega
  · obtain ⟨b, hb, e1, e2, _⟩ := paired_get pr e
    have q := entry_at he i
    rw [hb] at q
    exact ⟨_, b.2.1, q, rfl, e2⟩
end

/-- the keys of the locked dict at d, in their order -/
def Itk (d : Addr) (o : Obj) (kvs : List (Key × V)) : It :=
  ⟨fun i H => H d = some (.frz o (.dK kvs)) ∧ i < kvs.length, fun i H x H' => H' = H ∧ ∃ k v, kvs[i]? = some (k, v) ∧ x = kV k, fun i H => H d = some (.frz o (.dK kvs)) ∧ kvs.length ≤ i⟩
/-- .. of tuple keys: the key's own tuple -/
def Itkt (d : Addr) (o : Obj) (kvs : List (List Key × V)) : It :=
  ⟨fun i H => H d = some (.frz o (.dT kvs)) ∧ i < kvs.length, fun i H x H' => H' = H ∧ ∃ (k : List Key) (v : V) (q : Addr), kvs[i]? = some (k, v) ∧ x = .ref q ∧ H q = some (.tup (k.map kV)), fun i H => H d = some (.frz o (.dT kvs)) ∧ kvs.length ≤ i⟩
theorem dict_ep {o : Obj} {es es' : Array DictEntry} {ep ep' : Nat} (h : o.data = .dict es ep) (h' : o.data = .dict es' ep') : es' = es ∧ ep' = ep := by
  rw [h] at h'
  cases h'
  exact ⟨rfl, rfl⟩
section
variable {P : Program} {w : World} {K : PySem.W.Frag} {tg : Expr} {d : Addr} {o : Obj} {es : Array DictEntry} {ep : Nat}
theorem turn_keys {kvs : List (Key × V)} (it : Addr) (hod : o.data = .dict es ep) : Turn P w K tg (Itk d o kvs) [it] it (fun i h => h.IsKeyIter it d i kvs.length ep) where
  mem := by simp
  obj := fun i h st b hb => by
    have e : b = it := by simpa using hb
    subst e
    obtain ⟨oi, e, c, dd⟩ := st
    exact ⟨oi, e, fun v z => by rw [dd] at z; cases z⟩
  keep := fun i h h' st k => st.at fun oi e => k it (by simp) oi e
  item := by
    intro X hP hw hK hc i pins s σ H E I hf st hg
    subst hP hw hK
    obtain ⟨hd, hi⟩ := hg
    obtain ⟨f0, f1, f2, f3, f4, f5⟩ := hf it (by simp)
    obtain ⟨hs, hgd, hx, es', ep', vs, hdt, hsz, kv, hm⟩ := I.frzK hd
    obtain ⟨rfl, rfl⟩ := dict_ep hod hdt
    obtain ⟨⟨k, v⟩, hkv⟩ : ∃ p, kvs[i]? = some p := ⟨kvs[i], List.getElem?_eq_getElem hi⟩
    obtain ⟨u, hu, ru⟩ := kv_get kv hkv
    have hl : kvs.length = vs.length := Paired.length kv
    rw [hl] at st
    refine wpAny_pyNext_dict_item st hm hu fun key h' hkey st' sb => ?_
    have I1 : Inv X pins σ H { s with heap := h' } := I.turned (t' := s.toks) (fun b ob hb e => (sb.2 b hb).trans e) f0 f1 f3 f4 f5
    obtain ⟨oi, e, c, dd⟩ := id st'
    refine ⟨key, rfl, go_of (s := { s with heap := h' }) e c dd (by decide) ⟨kV k, H, I1, relV_key (show keyIs k key = true from hkey), ⟨rfl, k, v, hkv, rfl⟩, ?_, fun b hb => (hf b hb).1⟩⟩
    show h'.IsKeyIter it d (i + 1) kvs.length _
    rw [hl]
    exact st'
  done := by
    intro X hP hw hK hc i pins s σ H E I hf st hg
    subst hP hw hK
    obtain ⟨hd, hi⟩ := hg
    obtain ⟨f0, f1, f2, f3, f4, f5⟩ := hf it (by simp)
    obtain ⟨hs, hgd, hx, es', ep', vs, hdt, hsz, kv, hm⟩ := I.frzK hd
    obtain ⟨rfl, rfl⟩ := dict_ep hod hdt
    exact next_key_end (I.ok.hd hc) st hgd hdt hsz hi fun h' eb => ⟨rfl, I.turned (t' := s.toks) (fun b ob hb e => eb b ob hb e) f0 f1 f3 f4 f5⟩
  self := fun A i s Q E st h => wpAny_pyIter_keyiter st h
theorem turn_keysT {kvs : List (List Key × V)} (it : Addr) (hod : o.data = .dict es ep) : Turn P w K tg (Itkt d o kvs) [it] it (fun i h => h.IsKeyIter it d i kvs.length ep) where
  mem := by simp
  obj := fun i h st b hb => by
    have e : b = it := by simpa using hb
    subst e
    obtain ⟨oi, e, c, dd⟩ := st
    exact ⟨oi, e, fun v z => by rw [dd] at z; cases z⟩
  keep := fun i h h' st k => st.at fun oi e => k it (by simp) oi e
  item := by
    intro X hP hw hK hc i pins s σ H E I hf st hg
    subst hP hw hK
    obtain ⟨hd, hi⟩ := hg
    obtain ⟨f0, f1, f2, f3, f4, f5⟩ := hf it (by simp)
    obtain ⟨hs, hgd, hx, es', ep', hdt, hsz, ent⟩ := I.frzT hd
    obtain ⟨rfl, rfl⟩ := dict_ep hod hdt
    obtain ⟨⟨k, v⟩, hkv⟩ : ∃ p, kvs[i]? = some p := ⟨kvs[i], List.getElem?_eq_getElem hi⟩
    obtain ⟨en, q, hen, hkey, hq⟩ := ent i k v hkv
    refine next_key_item st hgd hdt hsz hen fun h' st' sb => ?_
    have I1 : Inv X pins σ H { s with heap := h' } := I.turned (t' := s.toks) (fun b ob hb e => (sb.2 b hb).trans e) f0 f1 f3 f4 f5
    obtain ⟨oi, e, c, dd⟩ := id st'
    exact ⟨en.key, rfl, go_of (s := { s with heap := h' }) e c dd (by decide) ⟨.ref q, H, I1, hkey, ⟨rfl, k, v, q, hkv, rfl, hq⟩, st', fun b hb => (hf b hb).1⟩⟩
  done := by
    intro X hP hw hK hc i pins s σ H E I hf st hg
    subst hP hw hK
    obtain ⟨hd, hi⟩ := hg
    obtain ⟨f0, f1, f2, f3, f4, f5⟩ := hf it (by simp)
    obtain ⟨hs, hgd, hx, es', ep', hdt, hsz, ent⟩ := I.frzT hd
    obtain ⟨rfl, rfl⟩ := dict_ep hod hdt
    exact next_key_end (I.ok.hd hc) st hgd hdt hsz hi fun h' eb => ⟨rfl, I.turned (t' := s.toks) (fun b ob hb e => eb b ob hb e) f0 f1 f3 f4 f5⟩
  self := fun A i s Q E st h => by
    refine wpAny_pyIter_slot st.typeIs F.slot_dict_keyiterator_iter (wpAny_call_entry F.slot_dict_keyiterator_iter st.typeIs F.entry_dict_keyiterator_iter ?_ (F.args_dict_keyiterator_iter_1 _))
    show wpAny _ _ (ret (.ref it)) _ _ s
    exact wpAny_pure ⟨_, rfl, "dict_keyiterator", _, st.typeIs, F.slot_dict_keyiterator_next.lookup, h⟩
end

/-! ### for k in d, d.keys(), d.values(), d.items() -/
/-- the dict is locked (tLock, or by the caller) -/
def iKeys (td : TE) : TI := fun σ H R => td σ H fun x H1 => ∃ d o, x = .ref d ∧ ((∃ kvs, H1 d = some (.frz o (.dK kvs)) ∧ R (Itk d o kvs) H1) ∨ ∃ kvs, H1 d = some (.frz o (.dT kvs)) ∧ R (Itkt d o kvs) H1)
section
variable {X : Cx} {tg e : Expr} {td : TE} {apos cpos : Pos}
theorem pi_keys (he : PE X e td) : PI X tg e (iKeys td) := by
  intro pins s σ H R I h
  refine thn (he pins s σ H _ I h) fun u s1 ⟨x, H1, I1, rx, d, o, ex, q⟩ => ?_
  subst ex
  obtain rfl : u = Value.ref d := rx
  rcases q with ⟨kvs, hd, q⟩ | ⟨kvs, hd, q⟩
  · obtain ⟨hs, hgd, hx, es, ep, vs, hdt, hsz, kv, hm⟩ := I1.frzK hd
    refine iter_keys hs hgd hx hdt (pi_one (tk := s1.toks) I1 _ (turn_keys _ hdt) ⟨_, Heap.get?_push_size _ rfl, rfl, ?_⟩ q)
    rw [hsz] <;> rfl
  · obtain ⟨hs, hgd, hx, es, ep, hdt, hsz, ent⟩ := I1.frzT hd
    refine iter_keys hs hgd hx hdt (pi_one (tk := s1.toks) I1 _ (turn_keysT _ hdt) ⟨_, Heap.get?_push_size _ rfl, rfl, ?_⟩ q)
    rw [hsz] <;> rfl
end

/-! ### enumerate(list) -/
/-! ### zip(list, list) -/
theorem boot_zip5 : bootBuiltins "zip" = some (.type "zip") := by decide +kernel
/-- the lists at a and b as they stand at each turn, the items in new pairs -/
def Itz (K : PySem.W.Frag) (a b : Addr) : It :=
  ⟨fun i H => ∃ (xs ys : List V) (x y : V), SqL K H a xs ∧ SqL K H b ys ∧ xs[i]? = some x ∧ ys[i]? = some y,
    fun i H v H' => ∃ T x y, v = .ref T ∧ H T = none ∧ H' = upd H T (.tup [x, y]) ∧ (∀ xs, SqL K H a xs → xs[i]? = some x) ∧ ∀ ys, SqL K H b ys → ys[i]? = some y,
    fun i H => ∃ xs ys : List V, SqL K H a xs ∧ SqL K H b ys ∧ (xs.length ≤ i ∨ ys.length ≤ i)⟩
theorem turn_zip {P : Program} {w : World} {K : PySem.W.Frag} {elts : List Expr} {kk : Nat} {tpos : Pos} {a b z TI TO i1 i2 : Addr} (D : ZipApart z TI TO i1 i2 a b) :
    Turn P w K (.Tuple elts kk tpos) (Itz K a b) [z, TI, TO, i1, i2] z (fun i h => IsZip h z TI TO .none ∧ IsPair h TI (.ref i1) (.ref i2) ∧ (∃ x y, IsPair h TO x y) ∧ h.IsListIter i1 a i ∧ h.IsListIter i2 b i) where
  mem := by simp
  obj := fun i h st c hc => by
    obtain ⟨hz, hTI, ⟨x, y, hTO⟩, ⟨o1, e1, _, d1⟩, ⟨o2, e2, _, d2⟩⟩ := st
    have e' : c = z ∨ c = TI ∨ c = TO ∨ c = i1 ∨ c = i2 := by simpa using hc
    rcases e' with q | q | q | q | q
    · rw [q]; exact ⟨_, hz, fun v q => nomatch q⟩
    · rw [q]; exact ⟨_, hTI, fun v q => nomatch q⟩
    · rw [q]; exact ⟨_, hTO, fun v q => nomatch q⟩
    · rw [q]; exact ⟨o1, e1, fun v q => by rw [d1] at q; cases q⟩
    · rw [q]; exact ⟨o2, e2, fun v q => by rw [d2] at q; cases q⟩
  keep := fun i h h' st k => by
    obtain ⟨hz, hTI, ⟨x, y, hTO⟩, h1, h2⟩ := st
    exact ⟨k z (by simp) _ hz, k TI (by simp) _ hTI, ⟨x, y, k TO (by simp) _ hTO⟩, h1.at fun o q => k i1 (by simp) o q, h2.at fun o q => k i2 (by simp) o q⟩
  item := by
    intro X hP hw hK hc i pins s σ H E I hf st hg
    subst hP hw hK
    obtain ⟨hz, hTI, ⟨x0, y0, hTO⟩, h1, h2⟩ := st
    obtain ⟨xs, ys, x, y, hqx, hqy, hx, hy⟩ := hg
    obtain ⟨its, rv, p, _⟩ := I.list hqx
    obtain ⟨its2, rv2, p2, _⟩ := I.list hqy
    obtain ⟨u, hu, ru⟩ := rv.get hx
    obtain ⟨u2, hu2, ru2⟩ := rv2.get hy
    have hzl : z < s.heap.objs.size := Heap.lt_size hz
    refine wpAny_pyNext_zip_item D hz hTI hTO h1 h2 p.isList p2.isList (x := u) (y := u2) (by simpa using hu) (by simpa using hu2) fun h' z' TO' h1' h2' hT hsz hk => ?_
    refine ⟨_, rfl, wpAny_letOwnedTupleGo_zip (s := { s with heap := h' }) z' fun h'' z'' sb => ?_⟩
    have hT2 : h''.get? s.heap.objs.size = some { cls := .type "tuple", data := .seq #[u, u2] } := (sb.2 _ (Nat.ne_of_gt hzl)).trans hT
    have new : ObjOk X.prog X.w (upd H s.heap.objs.size (.tup [x, y])) h'' s.heap.objs.size (.tup [x, y]) :=
      ⟨by show 2 ≤ sizeLine; decide, [u, u2], .cons ru (.cons ru2 .nil), ⟨_, hT2, rfl, _, rfl⟩⟩
    have I1 : Inv X pins σ (upd H s.heap.objs.size (.tup [x, y])) { s with heap := h'' } :=
      I.turnedNew (t' := s.toks) (ch := [z, TI, TO, i1, i2]) (fun c o hb q => (sb.2 c (fun q' => hb (by simp [q']))).trans (hk c o (fun q' => hb (by simp [q'])) (fun q' => hb (by simp [q'])) (fun q' => hb (by simp [q'])) (fun q' => hb (by simp [q'])) q)) hf (Nat.le_refl _) new
    refine ⟨.ref s.heap.objs.size, _, I1, rfl, ⟨_, x, y, rfl, I.hok.fresh (Nat.le_refl _), rfl, fun l hl => by rw [I.list_inj hl hqx]; exact hx, fun l hl => by rw [I.list_inj hl hqy]; exact hy⟩, ⟨z'', ?_, ⟨u, u2, ?_⟩, ?_, ?_⟩, fun c hcm => ?_⟩
    · exact (sb.2 _ D.TIz).trans (hk _ _ D.TIz D.TITO D.TIi1 D.TIi2 hTI)
    · exact (sb.2 _ D.TOz).trans TO'
    · exact h1'.at fun o q => (sb.2 _ D.i1z).trans q
    · exact h2'.at fun o q => (sb.2 _ D.i2z).trans q
    · have hlt : c < s.heap.objs.size := by
        have e' : c = z ∨ c = TI ∨ c = TO ∨ c = i1 ∨ c = i2 := by simpa using hcm
        rcases e' with q | q | q | q | q
        · rw [q]; exact hzl
        · rw [q]; exact Heap.lt_size hTI
        · rw [q]; exact Heap.lt_size hTO
        · rw [q]; obtain ⟨_, e1, _⟩ := h1; exact Heap.lt_size e1
        · rw [q]; obtain ⟨_, e2, _⟩ := h2; exact Heap.lt_size e2
      rw [upd_ne (Nat.ne_of_lt hlt)]
      exact (hf c hcm).1
  done := by
    intro X hP hw hK hc i pins s σ H E I hf st hg
    subst hP hw hK
    obtain ⟨hz, hTI, ⟨x0, y0, hTO⟩, h1, h2⟩ := st
    obtain ⟨xs, ys, hqx, hqy, hend⟩ := hg
    obtain ⟨its, rv, p, _⟩ := I.list hqx
    obtain ⟨its2, rv2, p2, _⟩ := I.list hqy
    have l1 := rv.length
    have l2 := rv2.length
    have he : its.toArray[i]? = none ∨ its2.toArray[i]? = none := by
      rcases hend with q | q
      · exact .inl (by simp; omega)
      · exact .inr (by simp; omega)
    exact wpAny_pyNext_zip_end (I.ok.hd hc) D hz hTI hTO h1 h2 p.isList p2.isList he fun h' hk => ⟨rfl, I.turnedL (t' := s.toks) (ch := [z, TI, TO, i1, i2]) (fun c o hb q =>
      hk c o (fun q' => hb (by simp [q'])) (fun q' => hb (by simp [q'])) (fun q' => hb (by simp [q'])) (fun q' => hb (by simp [q'])) q) hf⟩
  self := fun A i s Q E st h => wpAny_pyIter_zip st.1 h
def iZip (K : PySem.W.Frag) (ta : TA) : TI := fun σ H R => ta σ H fun vs H1 => ∃ a b xs ys, vs = [.ref a, .ref b] ∧ SqL K H1 a xs ∧ SqL K H1 b ys ∧ R (Itz K a b) H1
theorem pi_zip {X : Cx} {e e2 : Expr} {ta : TA} {p pos tpos : Pos} {elts : List Expr} {kk : Nat} (hg : Gl X "zip") (hm : X.mg "zip" = none) (ha : PA X [e, e2] ta)
    (hs : starEach [e, e2] X.env = (false, eval e X.env) :: starEach [e2] X.env := by rfl) (hpl : (backTo pos (starEach [e2] X.env)).any (·.1) = false := by rfl) :
    PI X (.Tuple elts kk tpos) (.Call (.Name "zip" p) [e, e2] [] pos) (iZip X.K ta) := by
  intro pins s σ H R I h
  refine Call_ (ld_blt I hg hm boot_zip5 (PyProof.Rows.callWith_type1 (thn (ha pos pins s σ H _ I h) fun us s1 ⟨vs, H1, I1, r1, q1⟩ => ?_) hs hpl))
  obtain ⟨a, b, xs, ys, ex, hqx, hqy, q⟩ := q1
  subst ex
  cases r1 with
  | cons r rr =>
    cases rr with
    | cons r' rr =>
      cases rr
      cases r
      cases r'
      obtain ⟨its, rv, p1, _⟩ := I1.list hqx
      obtain ⟨its2, rv2, p2, _⟩ := I1.list hqy
      have la : a < s1.heap.objs.size := p1.lt
      have lb : b < s1.heap.objs.size := p2.lt
      refine call_zip_2 p1.isList p2.isList fun h' hz hTI hTO h1 h2 hsz hk => wpAny_pyIter_zip hz ?_
      have I2 : Inv X pins σ H1 { s1 with heap := h' } := I1.kept (t' := s1.toks) hk
      refine ⟨s1.heap.objs.size + 4, [s1.heap.objs.size + 4, s1.heap.objs.size + 2, s1.heap.objs.size + 3, s1.heap.objs.size, s1.heap.objs.size + 1], _, _, H1, rfl, I2, turn_zip (PySem.W.ktu_apart s1.heap.objs.size a b la lb), ⟨hz, hTI, ⟨_, _, hTO⟩, h1, h2⟩, fun c hcm => ?_, q⟩
      have e' : c = s1.heap.objs.size + 4 ∨ c = s1.heap.objs.size + 2 ∨ c = s1.heap.objs.size + 3 ∨ c = s1.heap.objs.size ∨ c = s1.heap.objs.size + 1 := by simpa using hcm
      have hle : s1.heap.objs.size ≤ c := by
        rcases e' with z | z | z | z | z
        · rw [z]; exact Nat.le_add_right _ _
        · rw [z]; exact Nat.le_add_right _ _
        · rw [z]; exact Nat.le_add_right _ _
        · rw [z]; exact Nat.le_refl _
        · rw [z]; exact Nat.le_add_right _ _
      exact I1.fpOk hle (I1.hok.fresh hle)
end L2

section 
namespace Bits
open PySem PyProof.Rows

end Bits
end 

section 
namespace TL
open PySem PySem.Builtin PySem.Builtin.Str PySem.StrLaws

abbrev tl (x : Str) : List Nat := x.cps.toList
/-! ### the list functions -/
/-- S stands at the head of l -/
def pre (S l : List Nat) : Bool := l.take S.length == S
/-- l cut at each S from the left; k signs are still to be passed over -/
def spl (S : List Nat) : Nat → List Nat → List Nat → List (List Nat)
  | _, acc, [] => [acc]
  | 0, acc, c :: r => if pre S (c :: r) = true then acc :: spl S (S.length - 1) [] r else spl S 0 (acc ++ [c]) r
  | k + 1, acc, _ :: r => spl S k acc r
/-- what stands before the first S, and behind it -/
def par (S : List Nat) : List Nat → List Nat → Option (List Nat × List Nat)
  | _, [] => none
  | acc, c :: r => if pre S (c :: r) = true then some (acc, (c :: r).drop S.length) else par S (acc ++ [c]) r

/-! ### the model's split and partition are these -/
/-! ### computing spl and par -/
/-! ### digits -/
/-! ### words: x.split() -/
end TL
end 

namespace L2
open PySem PySem.Spec PyProof.Rows

section
variable {X : Cx} {pins : List (Addr × Obj)} {σ : St} {H : Hp} {s : Shared} {Q : VK}
end

section
variable {X : Cx}

/-! ### of a text alone -/
/-! ### of a text and a text -/
end

section
variable {X : Cx} {o e : Expr} {to te : TE}
end
end L2

namespace L2
open PySem PySem.Spec PyProof.Rows

section
variable {X : Cx}
end

/-! ### slices of a text -/
theorem IsPart.raw {v : Value} {o : Option Int} (p : IsPart v o) : ∃ l : Option (Int × Tok), v = partValue l ∧ l.map (·.1) = o := by
  cases p with
  | none => exact ⟨none, rfl, rfl⟩
  | int i t => exact ⟨some (i, t), rfl, rfl⟩

end L2

section
set_option Elab.async false
set_option linter.all false
set_option maxRecDepth 100000
set_option maxHeartbeats 2000000
namespace L2
open PySem PySem.Spec PyProof.Rows
open PySem.W (WData Codec OpenSpec Well WellAll ReadsW ReadsAllW)
/-! ### an answer as data -/
mutual
/-- x stands for the datum d, lists and tuples all the way -/
inductive Dw (K : PySem.W.Frag) (H : Hp) : V → WData → Prop
  | non : Dw K H .non .none
  | bl (b : Bool) : Dw K H (.bl b) (.bool b)
  | int (i : Int) : Dw K H (.int i) (.int i)
  | str (x : Str) : Dw K H (.str x) (.str x)
  | byt (b : Array UInt8) : Dw K H (.byt b) (.bytes b.toList)
  | lst {a : Addr} {xs : List V} {ds : List WData} : SqL K H a xs → DwAll K H xs ds → Dw K H (.ref a) (.list ds)
  | tup {a : Addr} {xs : List V} {ds : List WData} : SqT K H a xs → DwAll K H xs ds → Dw K H (.ref a) (.tuple ds)
inductive DwAll (K : PySem.W.Frag) (H : Hp) : List V → List WData → Prop
  | nil : DwAll K H [] []
  | cons {v : V} {vs : List V} {d : WData} {ds : List WData} : Dw K H v d → DwAll K H vs ds → DwAll K H (v :: vs) (d :: ds)
end
theorem dw_ints {K : PySem.W.Frag} {H : Hp} : ∀ ns : List Int, DwAll K H (ns.map V.int) (ns.map WData.int)
  | [] => .nil
  | n :: r => .cons (.int n) (dw_ints r)
theorem ints_dw {K : PySem.W.Frag} {H : Hp} : ∀ (ns : List Int) (xs : List V), DwAll K H xs (ns.map WData.int) → xs = ns.map V.int
  | [], xs, h => by
    cases h
    rfl
  | n :: r, xs, h => by
    cases h with
    | cons h1 h2 =>
      cases h1
      rw [ints_dw r _ h2] <;> rfl
section
variable {P : Program} {w : World} {K : PySem.W.Frag} {H : Hp} {h : Heap} {R : PySem.W.WRecords} {cl : Str → Option Addr}
theorem sqL_at {a : Addr} {xs : List V} (hok : HOk P w H h) (KX : K.In h) (q : SqL K H a xs) : ∃ (its : List Value) (o : Obj) (n : Nat), Vals xs its ∧ h.get? a = some o ∧ o.cls = .type "list" ∧ o.data = .seq its.toArray n := by
  rcases q with q | ⟨o, its, n, e, hc, _, hd, _, hv⟩
  · obtain ⟨_, its, n, hv, e⟩ := (show ObjOk P w H h a (.lst xs) from q.ok hok)
    exact ⟨its, _, n, hv, e, rfl, rfl⟩
  · exact ⟨its.toList, o, n, hv, KX _ _ e, hc, by simp [hd]⟩
theorem sqT_at {a : Addr} {xs : List V} (hok : HOk P w H h) (KX : K.In h) (q : SqT K H a xs) : ∃ (its : List Value) (o : Obj) (n : Nat), Vals xs its ∧ h.get? a = some o ∧ o.cls = .type "tuple" ∧ o.data = .seq its.toArray n := by
  rcases q with q | ⟨o, its, n, e, hc, hd, _, hv⟩
  · obtain ⟨_, its, hv, o, e, hc, n, hd⟩ := (show ObjOk P w H h a (.tup xs) from q.ok hok)
    exact ⟨its, o, n, hv, e, hc, hd⟩
  · exact ⟨its.toList, o, n, hv, KX _ _ e, hc, by simp [hd]⟩
mutual
theorem Dw.reads (hok : HOk P w H h) (KX : K.In h) : ∀ (d : WData) (v : V) (u : Value), Dw K H v d → RelV v u → ∃ as, ReadsW R cl h u d as
  | .none, _, _, x, r => by
    cases x
    cases r
    exact ⟨_, ReadsW.none⟩
  | .bool b, _, _, x, r => by
    cases x
    cases r
    exact ⟨_, ReadsW.bool b⟩
  | .int i, _, _, x, r => by
    cases x
    obtain ⟨t, rfl⟩ := r
    exact ⟨_, ReadsW.int i t⟩
  | .str s, _, _, x, r => by
    cases x
    obtain ⟨t, rfl⟩ := r
    exact ⟨_, ReadsW.str s t⟩
  | .bytes b, _, _, x, r => by
    cases x
    obtain ⟨t, rfl⟩ := r
    exact ⟨_, ReadsW.bytes _ t⟩
  | .list ds, _, _, x, r => by
    cases x with
    | lst hs ha =>
      cases r
      obtain ⟨its, o, n, rv, ho, hc, hd⟩ := sqL_at hok KX hs
      obtain ⟨as, hr⟩ := Dw.readsAll hok KX ds _ its ha rv
      exact ⟨_, ReadsW.list ho hc hd hr⟩
  | .tuple ds, _, _, x, r => by
    cases x with
    | tup hs ha =>
      cases r
      obtain ⟨its, o, n, rv, ho, hc, hd⟩ := sqT_at hok KX hs
      obtain ⟨as, hr⟩ := Dw.readsAll hok KX ds _ its ha rv
      exact ⟨_, ReadsW.tuple ho hc hd hr⟩
  | .float _, _, _, x, _ => by cases x
  | .dict _, _, _, x, _ => by cases x
  | .bytearray _, _, _, x, _ => by cases x
  | .set _, _, _, x, _ => by cases x
  | .frozenset _, _, _, x, _ => by cases x
  | .obj _ _, _, _, x, _ => by cases x
theorem Dw.readsAll (hok : HOk P w H h) (KX : K.In h) : ∀ (ds : List WData) (vs : List V) (us : List Value), DwAll K H vs ds → Vals vs us → ∃ as, ReadsAllW R cl h us ds as
  | [], _, _, x, r => by
    cases x
    cases r
    exact ⟨_, ReadsAllW.nil⟩
  | d :: ds, _, _, x, r => by
    cases x with
    | cons h1 h2 =>
      cases r with
      | cons r1 r2 =>
        obtain ⟨as, q1⟩ := Dw.reads hok KX d _ _ h1 r1
        obtain ⟨bs, q2⟩ := Dw.readsAll hok KX ds _ _ h2 r2
        exact ⟨_, ReadsAllW.cons q1 q2⟩
end
end
/-! ### the arguments -/
mutual
/-- data that a codec tells -/
def plW : WData → Bool
  | .none => true
  | .bool _ => true
  | .int _ => true
  | .str _ => true
  | .bytes _ => true
  | .list xs => plWs xs
  | .tuple xs => plWs xs
  | _ => false
def plWs : List WData → Bool
  | [] => true
  | x :: r => plW x && plWs r
end
theorem plWs_map {α : Type} {f : α → WData} (h : ∀ a, plW (f a) = true) : ∀ l : List α, plWs (l.map f) = true
  | [] => rfl
  | x :: r => by
    show (plW (f x) && plWs (r.map f)) = true
    rw [h x, plWs_map h r] <;> rfl
theorem pl_enc : ∀ (c : Codec) (a : c.denote), plW (c.enc a) = true
  | .unit, _ => rfl
  | .bool, _ => rfl
  | .int _ _, _ => rfl
  | .nat _ _, _ => rfl
  | .u8, _ => rfl
  | .bytes _ _, _ => rfl
  | .text _ _ _ _, _ => rfl
  | .list _ _ c, a => plWs_map (fun x => pl_enc c x) a
  | .pair c d, a => by
    show (plW (c.enc a.1) && (plW (d.enc a.2) && true)) = true
    rw [pl_enc c a.1, pl_enc d a.2] <;> rfl
  | .triple c d e, a => by
    show (plW (c.enc a.1) && (plW (d.enc a.2.1) && (plW (e.enc a.2.2) && true))) = true
    rw [pl_enc c a.1, pl_enc d a.2.1, pl_enc e a.2.2] <;> rfl
  | .option c, none => rfl
  | .option c, some x => pl_enc c x
theorem pl_encAll : ∀ (cs : List Codec) (a : Codec.denoteAll cs), plWs (Codec.encAll cs a) = true
  | [], _ => rfl
  | c :: cs, a => by
    show (plW (c.enc a.1) && plWs (Codec.encAll cs a.2)) = true
    rw [pl_enc c a.1, pl_encAll cs a.2] <;> rfl
theorem weight_mem : ∀ {xs : List WData} {d : WData}, d ∈ xs → d.weight ≤ WData.weightAll xs
  | [], d, h => absurd h (by simp)
  | x :: r, d, h => by
    show d.weight ≤ x.weight + 1 + WData.weightAll r
    rcases List.mem_cons.mp h with e | m
    · rw [e]
      omega
    · have z := weight_mem m
      omega
def toV : Value → V
  | .none => .non
  | .bool b => .bl b
  | .int i _ => .int i
  | .str x _ => .str x
  | .bytes b _ => .byt b
  | .ref a => .ref a
  | _ => .non
/-- a value of the arguments, its objects among A -/
def OkU (A : List Addr) : Value → Prop
  | .none => True
  | .bool _ => True
  | .int _ _ => True
  | .str _ _ => True
  | .bytes _ _ => True
  | .ref a => a ∈ A
  | _ => False
theorem OkU.mono {A B : List Addr} (h : ∀ a ∈ A, a ∈ B) : ∀ {u : Value}, OkU A u → OkU B u := fun {u} x => by
  cases u with
  | ref a => exact h a x
  | none => trivial
  | bool b => trivial
  | int i t => trivial
  | str s t => trivial
  | bytes b t => trivial
  | _ => exact False.elim x
theorem relV_toV {A : List Addr} {u : Value} (x : OkU A u) : RelV (toV u) u := by
  cases u with
  | ref a => rfl
  | none => rfl
  | bool b => rfl
  | int i t => exact ⟨t, rfl⟩
  | str s t => exact ⟨t, rfl⟩
  | bytes b t => exact ⟨t, rfl⟩
  | _ => exact False.elim x
theorem vals_toV {A : List Addr} : ∀ {vs : List Value}, (∀ u ∈ vs, OkU A u) → Vals (vs.map toV) vs
  | [], _ => .nil
  | u :: r, h => .cons (relV_toV (h u (List.mem_cons_self ..))) (vals_toV fun x hx => h x (List.mem_cons_of_mem _ hx))
/-- an object of the arguments -/
def ArgOb (h : Heap) (A : List Addr) (a : Addr) : Prop := ∃ vs : List Value, vs.length ≤ sizeLine ∧ (∀ u ∈ vs, OkU A u) ∧
  (h.get? a = some { cls := .type "list", data := .seq vs.toArray } ∨ h.get? a = some { cls := .type "tuple", data := .seq vs.toArray })
theorem ArgOb.mono {h : Heap} {A B : List Addr} {a : Addr} (k : ∀ a ∈ A, a ∈ B) (x : ArgOb h A a) : ArgOb h B a := by
  obtain ⟨vs, h1, h2, h3⟩ := x
  exact ⟨vs, h1, fun u hu => (h2 u hu).mono k, h3⟩
theorem wellAll_len {P : Params} {h : Heap} : ∀ {vs : List Value} {ds : List WData}, WellAll P h vs ds → vs.length = ds.length
  | _, _, .nil => rfl
  | _, _, .cons _ b => by
    show _ + 1 = _ + 1
    rw [wellAll_len b]
theorem well_list {P : Params} {h : Heap} {v : Value} {ds : List WData} (x : Well P h v (.list ds)) : ∃ (a : Addr) (vs : List Value), v = .ref a ∧ h.get? a = some { cls := .type "list", data := .seq vs.toArray } ∧ WellAll P h vs ds := by
  cases x with
  | list ho hall => exact ⟨_, _, rfl, ho, hall⟩
theorem well_tuple {P : Params} {h : Heap} {v : Value} {ds : List WData} (x : Well P h v (.tuple ds)) : ∃ (a : Addr) (vs : List Value), v = .ref a ∧ h.get? a = some { cls := .type "tuple", data := .seq vs.toArray } ∧ WellAll P h vs ds := by
  cases x with
  | tuple ho hall => exact ⟨_, _, rfl, ho, hall⟩
theorem well_cons {P : Params} {h : Heap} {us : List Value} {d : WData} {ds : List WData} (x : WellAll P h us (d :: ds)) : ∃ (v : Value) (vs : List Value), us = v :: vs ∧ Well P h v d ∧ WellAll P h vs ds := by
  cases x with
  | cons a b => exact ⟨_, _, rfl, a, b⟩
theorem line_of {n : Nat} (h : n ≤ 1048576) : n ≤ sizeLine := Nat.le_trans h (by decide)
section
variable {P : Params} {h : Heap}
mutual
theorem area_one : ∀ (d : WData) (v : Value), Well P h v d → plW d = true → d.weight ≤ 1048576 → ∃ A : List Addr, OkU A v ∧ ∀ a ∈ A, ArgOb h A a
  | .none, _, x, _, _ => by
    cases x
    exact ⟨[], trivial, fun a m => absurd m (by simp)⟩
  | .bool b, _, x, _, _ => by
    cases x
    exact ⟨[], trivial, fun a m => absurd m (by simp)⟩
  | .int i, _, x, _, _ => by
    cases x
    exact ⟨[], trivial, fun a m => absurd m (by simp)⟩
  | .str s, _, x, _, _ => by
    cases x
    exact ⟨[], trivial, fun a m => absurd m (by simp)⟩
  | .bytes b, _, x, _, _ => by
    cases x
    exact ⟨[], trivial, fun a m => absurd m (by simp)⟩
  | .list ds, _, x, p, z => by
    obtain ⟨a, vs, rfl, ho, hall⟩ := well_list x
    have z2 : WData.weightAll ds ≤ 1048576 := z
    obtain ⟨A, h1, h2⟩ := area_all ds _ hall p fun d hd => Nat.le_trans (weight_mem hd) z2
    have k : ∀ b ∈ A, b ∈ a :: A := fun b hb => List.mem_cons_of_mem _ hb
    refine ⟨a :: A, List.mem_cons_self .., fun b hb => ?_⟩
    rcases List.mem_cons.mp hb with e | m
    · rw [e]
      exact ⟨vs, line_of (by rw [wellAll_len hall]; exact Nat.le_trans (PySem.W.length_le_weightAllW ds) z2), fun u hu => (h1 u hu).mono k, .inl ho⟩
    · exact (h2 b m).mono k
  | .tuple ds, _, x, p, z => by
    obtain ⟨a, vs, rfl, ho, hall⟩ := well_tuple x
    have z2 : WData.weightAll ds ≤ 1048576 := z
    obtain ⟨A, h1, h2⟩ := area_all ds _ hall p fun d hd => Nat.le_trans (weight_mem hd) z2
    have k : ∀ b ∈ A, b ∈ a :: A := fun b hb => List.mem_cons_of_mem _ hb
    refine ⟨a :: A, List.mem_cons_self .., fun b hb => ?_⟩
    rcases List.mem_cons.mp hb with e | m
    · rw [e]
      exact ⟨vs, line_of (by rw [wellAll_len hall]; exact Nat.le_trans (PySem.W.length_le_weightAllW ds) z2), fun u hu => (h1 u hu).mono k, .inr ho⟩
    · exact (h2 b m).mono k
  | .float _, _, _, p, _ => Bool.noConfusion (show false = true from p)
  | .dict _, _, _, p, _ => Bool.noConfusion (show false = true from p)
  | .bytearray _, _, _, p, _ => Bool.noConfusion (show false = true from p)
  | .set _, _, _, p, _ => Bool.noConfusion (show false = true from p)
  | .frozenset _, _, _, p, _ => Bool.noConfusion (show false = true from p)
  | .obj _ _, _, _, p, _ => Bool.noConfusion (show false = true from p)
theorem area_all : ∀ (ds : List WData) (vs : List Value), WellAll P h vs ds → plWs ds = true → (∀ d ∈ ds, d.weight ≤ 1048576) → ∃ A : List Addr, (∀ u ∈ vs, OkU A u) ∧ ∀ a ∈ A, ArgOb h A a
  | [], _, x, _, _ => by
    cases x
    exact ⟨[], fun u m => absurd m (by simp), fun a m => absurd m (by simp)⟩
  | d :: ds, _, x, p, z => by
    obtain ⟨v, vs, rfl, x1, x2⟩ := well_cons x
    have q : plW d = true ∧ plWs ds = true := Bool.and_eq_true_iff.mp p
    obtain ⟨A, a1, a2⟩ := area_one d v x1 q.1 (z d (List.mem_cons_self ..))
    obtain ⟨B, b1, b2⟩ := area_all ds vs x2 q.2 fun e he => z e (List.mem_cons_of_mem _ he)
    have kA : ∀ b ∈ A, b ∈ A ++ B := fun b hb => List.mem_append.mpr (.inl hb)
    have kB : ∀ b ∈ B, b ∈ A ++ B := fun b hb => List.mem_append.mpr (.inr hb)
    refine ⟨A ++ B, fun u hu => ?_, fun b hb => ?_⟩
    · rcases List.mem_cons.mp hu with e | m
      · rw [e]
        exact a1.mono kA
      · exact (b1 u m).mono kB
    · rcases List.mem_append.mp hb with m | m
      · exact (a2 b m).mono kA
      · exact (b2 b m).mono kB
end
end
/-- what is tracked of an argument's object -/
def hoOf (o : Obj) : Option HO := match o.data with
  | .seq vs _ => if (o.cls == Value.type "list") = true then some (.frz o (.lst (vs.toList.map toV))) else some (.frz o (.tup (vs.toList.map toV)))
  | _ => none
def argH (K : PySem.W.Frag) (h : Heap) (A : List Addr) : Hp := fun b => if b ∈ A then (if (K.lookup b).isNone = true then (h.get? b).bind hoOf else none) else none
/-- nothing is tracked but what is known to the object -/
def OnlyF (H : Hp) : Prop := ∀ b, H b = none ∨ ∃ o u, H b = some (.frz o u)
theorem hoOf_lst (vs : List Value) : hoOf { cls := .type "list", data := .seq vs.toArray } = some (.frz { cls := .type "list", data := .seq vs.toArray } (.lst (vs.map toV))) := by
  show (if (Value.type "list" == Value.type "list") = true then some (HO.frz { cls := .type "list", data := .seq vs.toArray } (.lst (vs.toArray.toList.map toV))) else some (HO.frz { cls := .type "list", data := .seq vs.toArray } (.tup (vs.toArray.toList.map toV)))) = _
  rw [if_pos (beq_self_eq_true _)]
theorem hoOf_tup (vs : List Value) : hoOf { cls := .type "tuple", data := .seq vs.toArray } = some (.frz { cls := .type "tuple", data := .seq vs.toArray } (.tup (vs.map toV))) := by
  show (if (Value.type "tuple" == Value.type "list") = true then some (HO.frz { cls := .type "tuple", data := .seq vs.toArray } (.lst (vs.toArray.toList.map toV))) else some (HO.frz { cls := .type "tuple", data := .seq vs.toArray } (.tup (vs.toArray.toList.map toV)))) = _
  rw [if_neg (by decide)]
section
variable {P : Program} {w : World} {K : PySem.W.Frag} {h : Heap} {A : List Addr}
theorem argH_at {b : Addr} {o : Obj} (hb : b ∈ A) (hk : K.lookup b = none) (e : h.get? b = some o) : argH K h A b = hoOf o := by
  unfold argH
  rw [if_pos hb, hk, if_pos (show (none : Option Obj).isNone = true from rfl), e] <;> rfl
theorem of_argH {b : Addr} {u : HO} (q : argH K h A b = some u) : b ∈ A ∧ K.lookup b = none := by
  unfold argH at q
  by_cases hb : b ∈ A
  · rw [if_pos hb] at q
    cases hk : K.lookup b with
    | none => exact ⟨hb, rfl⟩
    | some o =>
      rw [hk, if_neg (by simp)] at q
      cases q
  · rw [if_neg hb] at q
    cases q
/-- what stands tracked -/
theorem argH_is (ar : ∀ a ∈ A, ArgOb h A a) {b : Addr} {u : HO} (q : argH K h A b = some u) : K.lookup b = none ∧ ∃ vs : List Value, vs.length ≤ sizeLine ∧ (∀ u ∈ vs, OkU A u) ∧
    ((h.get? b = some { cls := .type "list", data := .seq vs.toArray } ∧ u = .frz { cls := .type "list", data := .seq vs.toArray } (.lst (vs.map toV))) ∨
     (h.get? b = some { cls := .type "tuple", data := .seq vs.toArray } ∧ u = .frz { cls := .type "tuple", data := .seq vs.toArray } (.tup (vs.map toV)))) := by
  obtain ⟨hb, hk⟩ := of_argH q
  obtain ⟨vs, h1, h2, h3⟩ := ar b hb
  refine ⟨hk, vs, h1, h2, ?_⟩
  rcases h3 with e | e
  · rw [argH_at hb hk e, hoOf_lst] at q
    exact .inl ⟨e, (Option.some.inj q).symm⟩
  · rw [argH_at hb hk e, hoOf_tup] at q
    exact .inr ⟨e, (Option.some.inj q).symm⟩
theorem argH_only (ar : ∀ a ∈ A, ArgOb h A a) : OnlyF (argH K h A) := fun b => by
  cases q : argH K h A b with
  | none => exact .inl rfl
  | some u =>
    obtain ⟨_, vs, _, _, ⟨_, e⟩ | ⟨_, e⟩⟩ := argH_is ar q
    · exact .inr ⟨_, _, by rw [e]⟩
    · exact .inr ⟨_, _, by rw [e]⟩
theorem argH_ok (ar : ∀ a ∈ A, ArgOb h A a) : HOk P w (argH K h A) h := fun b u q => by
  obtain ⟨_, vs, h1, h2, ⟨e, rfl⟩ | ⟨e, rfl⟩⟩ := argH_is ar q
  · exact ⟨e, by rw [List.length_map]; exact h1, vs, _, vals_toV h2, e⟩
  · exact ⟨e, by rw [List.length_map]; exact h1, vs, vals_toV h2, _, e, rfl, _, rfl⟩
theorem seq_inj {c c' : Value} {vs us : List Value} (e : (some { cls := c, data := .seq vs.toArray } : Option Obj) = some { cls := c', data := .seq us.toArray }) : c = c' ∧ vs = us := by
  have e1 := Option.some.inj e
  have e2 : c = c' := congrArg Obj.cls e1
  have e3 : Data.seq vs.toArray = Data.seq us.toArray := congrArg Obj.data e1
  injection e3 with e4
  refine ⟨e2, ?_⟩
  have e5 := congrArg Array.toList e4
  simpa using e5
/-- a list argument -/
theorem argL (KX : K.In h) (ar : ∀ a ∈ A, ArgOb h A a) {a : Addr} {vs : List Value} (ha : a ∈ A) (e : h.get? a = some { cls := .type "list", data := .seq vs.toArray }) : (∀ u ∈ vs, OkU A u) ∧ SqL K (argH K h A) a (vs.map toV) := by
  obtain ⟨us, h1, h2, h3⟩ := ar a ha
  have hu : us = vs := by
    rcases h3 with q | q
    · rw [e] at q
      exact (seq_inj q).2.symm
    · rw [e] at q
      exact absurd (Value.type.inj (seq_inj q).1) (by decide)
  subst hu
  refine ⟨h2, ?_⟩
  cases hk : K.lookup a with
  | none => exact .inl (.inr ⟨_, by rw [argH_at ha hk e, hoOf_lst]⟩)
  | some o =>
    have e2 := KX a o hk
    rw [e] at e2
    obtain rfl := Option.some.inj e2
    exact .inr ⟨_, us.toArray, _, hk, rfl, rfl, rfl, by rw [List.size_toArray]; exact h1, by simpa using vals_toV h2⟩
theorem argT (KX : K.In h) (ar : ∀ a ∈ A, ArgOb h A a) {a : Addr} {vs : List Value} (ha : a ∈ A) (e : h.get? a = some { cls := .type "tuple", data := .seq vs.toArray }) : (∀ u ∈ vs, OkU A u) ∧ SqT K (argH K h A) a (vs.map toV) := by
  obtain ⟨us, h1, h2, h3⟩ := ar a ha
  have hu : us = vs := by
    rcases h3 with q | q
    · rw [e] at q
      exact absurd (Value.type.inj (seq_inj q).1) (by decide)
    · rw [e] at q
      exact (seq_inj q).2.symm
  subst hu
  refine ⟨h2, ?_⟩
  cases hk : K.lookup a with
  | none => exact .inl (.inr ⟨_, by rw [argH_at ha hk e, hoOf_tup]⟩)
  | some o =>
    have e2 := KX a o hk
    rw [e] at e2
    obtain rfl := Option.some.inj e2
    exact .inr ⟨_, us.toArray, _, hk, rfl, rfl, by rw [List.size_toArray]; exact h1, by simpa using vals_toV h2⟩
mutual
theorem dw_one {Pm : Params} (KX : K.In h) (ar : ∀ a ∈ A, ArgOb h A a) : ∀ (d : WData) (v : Value), Well Pm h v d → plW d = true → OkU A v → Dw K (argH K h A) (toV v) d
  | .none, _, x, _, _ => by
    cases x
    exact .non
  | .bool b, _, x, _, _ => by
    cases x
    exact .bl b
  | .int i, _, x, _, _ => by
    cases x
    exact .int i
  | .str s, _, x, _, _ => by
    cases x
    exact .str s
  | .bytes b, _, x, _, _ => by
    cases x
    have z := Dw.byt (K := K) (H := argH K h A) b.toArray
    exact z
  | .list ds, _, x, p, hu => by
    obtain ⟨a, vs, rfl, ho, hall⟩ := well_list x
    obtain ⟨h2, hs⟩ := argL KX ar hu ho
    exact .lst hs (dw_all KX ar ds _ hall p h2)
  | .tuple ds, _, x, p, hu => by
    obtain ⟨a, vs, rfl, ho, hall⟩ := well_tuple x
    obtain ⟨h2, hs⟩ := argT KX ar hu ho
    exact .tup hs (dw_all KX ar ds _ hall p h2)
  | .float _, _, _, p, _ => Bool.noConfusion (show false = true from p)
  | .dict _, _, _, p, _ => Bool.noConfusion (show false = true from p)
  | .bytearray _, _, _, p, _ => Bool.noConfusion (show false = true from p)
  | .set _, _, _, p, _ => Bool.noConfusion (show false = true from p)
  | .frozenset _, _, _, p, _ => Bool.noConfusion (show false = true from p)
  | .obj _ _, _, _, p, _ => Bool.noConfusion (show false = true from p)
theorem dw_all {Pm : Params} (KX : K.In h) (ar : ∀ a ∈ A, ArgOb h A a) : ∀ (ds : List WData) (vs : List Value), WellAll Pm h vs ds → plWs ds = true → (∀ u ∈ vs, OkU A u) → DwAll K (argH K h A) (vs.map toV) ds
  | [], _, x, _, _ => by
    cases x
    exact .nil
  | d :: ds, _, x, p, hu => by
    obtain ⟨v, vs, rfl, x1, x2⟩ := well_cons x
    have q : plW d = true ∧ plWs ds = true := Bool.and_eq_true_iff.mp p
    exact .cons (dw_one KX ar d v x1 q.1 (hu _ (List.mem_cons_self ..))) (dw_all KX ar ds vs x2 q.2 fun u m => hu u (List.mem_cons_of_mem _ m))
end
end
/-! ### the call -/
theorem spec_call {P : Program} {w : World} {K : PySem.W.Frag} {mg mb : Str → Option Value} {CX : CXT} {k : Nat} {fa : Addr} {fd : FuncData} {ps : List Str} {sp : Sp} {s₁ : Shared} {vals : List Value} {ds : List WData} {R : PySem.W.WRecords} {cl : Str → Option Addr} {d0 : WData}
    (KX : K.In s₁.heap) (hns : s₁.heap.Ns mainGlobals mg) (hb : s₁.heap.Ns builtinsNs mb) (hbb : ∀ x : Str, x ≠ "__name__" → mb x = bootBuiltins x) (hlim : s₁.heap.NoLimit) (hg : s₁.gens = #[])
    (hwl : WellAll w.params s₁.heap vals ds) (hpl : plWs ds = true) (hwt : ∀ d ∈ ds, d.weight ≤ 1048576) (hr : Room k callerA)
    (F : ∀ base : Heap, K.In base → base.Ns mainGlobals mg → FnOk P w K mg base CX k fa fd ps sp) (hbind : ∀ (s : Shared) (us : List Value), us.length = ps.length → BindsTo s fd ⟨us, []⟩ (ps.zip us)) (hlen : ds.length = ps.length)
    (hsp : ∀ (H : Hp) (xs : List V), OnlyF H → DwAll K H xs ds → sp xs H (fun v H' => Dw K H' v d0) fun _ _ _ => False)
    (hCX : ∀ H e s', CX [] H s₁ (fun _ _ _ => False) e s' → False) :
    codeAny (model P w) callerA (.call (.ref fa) ⟨vals, []⟩) (fun r s' => ∃ u as, r = .ok (.ret u) ∧ ReadsW R cl s'.heap u d0 as ∧ OldK s₁.heap s'.heap ∧ s'.os = s₁.os ∧ AllBare s'.gens) s₁ := by
  obtain ⟨A, ho, ar⟩ := area_all ds vals hwl hpl hwt
  have hO : OnlyF (argH K s₁.heap A) := argH_only ar
  have hok : HOk P w (argH K s₁.heap A) s₁.heap := argH_ok ar
  have hS := dw_all KX ar ds vals hwl hpl ho
  have hV := vals_toV ho
  have hK : ∀ b u, argH K s₁.heap A b = some u → K.lookup b = none := fun b u q => (argH_is ar q).1
  have noA : ∀ {b : Addr} {o : Obj} {es : Array DictEntry} {ep : Nat}, s₁.heap.get? b = some o → o.data = .dict es ep → argH K s₁.heap A b = none := fun {b o es ep} e d => by
    cases q : argH K s₁.heap A b with
    | none => rfl
    | some u =>
      obtain ⟨_, vs, _, _, ⟨e2, _⟩ | ⟨e2, _⟩⟩ := argH_is ar q
      · rw [e2] at e
        cases e
        have d' : Data.seq vs.toArray _ = Data.dict es ep := d
        cases d'
      · rw [e2] at e
        cases e
        have d' : Data.seq vs.toArray _ = Data.dict es ep := d
        cases d'
  generalize argH K s₁.heap A = H at hO hok hS hK noA
  have base_of : ∀ {b : Addr} {o : Obj}, s₁.heap.get? b = some o → H b = none → (hidT s₁.heap H).get? b = some o := fun e n => hidT_get e n
  have nsK : ∀ {b : Addr} {m : Str → Option Value}, s₁.heap.Ns b m → (hidT s₁.heap H).Ns b m := fun {b m} ⟨o, es, ep, e, d, r⟩ => ⟨o, es, ep, base_of e (noA e d), d, r⟩
  have nK : ∀ b o, K.lookup b = some o → H b = none := fun b o e => by
    cases q : H b with
    | none => rfl
    | some u =>
      rw [hK b u q] at e
      cases e
  have hKb : K.In (hidT s₁.heap H) := fun b o e => base_of (KX b o e) (nK b o e)
  have hM : Mod K mg (hidT s₁.heap H) := ⟨hKb, nsK hns, ⟨mb, nsK hb, hbb⟩, let ⟨mc, h1, h2⟩ := hlim; ⟨mc, nsK h1, h2⟩⟩
  have e0 : Env0 P w K mg (hidT s₁.heap H) callerA [] s₁ H := ⟨rfl, hM, fun b o e => of_hidT e, Nat.le_of_eq (hidT_size _ _), trivial, fun b hb => absurd (show b ∈ ([] : List Addr) from hb) (by simp), hok, .of_eq hg⟩
  have hl : vals.length = ps.length := by rw [wellAll_len hwl]; exact hlen
  refine codeAny_mono ((F _ hKb (nsK hns)).run callerA [] s₁ H ⟨vals, []⟩ vals (vals.map toV) _ _ hr e0 (hbind s₁ vals hl) hV (hsp H _ hO hS)) fun r s' x => ?_
  cases r with
  | error e => exact (hCX H e s' x).elim
  | ok fl =>
    cases fl with
    | next => exact False.elim x
    | brk => exact False.elim x
    | cont => exact False.elim x
    | ret u =>
      obtain ⟨v, H', os, bare, un, hok', r', q⟩ := x
      have kept : ∀ b o, s₁.heap.get? b = some o → s'.heap.get? b = some o := fun b o e => by
        cases q2 : H b with
        | none => exact un.keep b o e q2 (by intro z; exact absurd (show b ∈ ([] : List Addr) from z) (by simp)) (by simp)
        | some u2 =>
          rcases hO b with z | ⟨ob, u3, z⟩
          · rw [q2] at z
            cases z
          · have z2 := un.frzs b ob _ z
            obtain ⟨e1, _⟩ := hok b _ z
            obtain ⟨e2, _⟩ := hok' b _ z2
            rw [e] at e1
            cases e1
            exact e2
      have KX' : K.In s'.heap := fun b o e => kept b o (KX b o e)
      obtain ⟨as, hrd⟩ := Dw.reads (R := R) (cl := cl) hok' KX' d0 v u q r'
      exact ⟨u, as, rfl, hrd, OldK.of_keep kept, os, bare⟩
/-! ### the row -/
theorem layable_weight {ds : List WData} (h : WData.layableAll ds = true) : ∀ d ∈ ds, d.weight ≤ 1048576 := fun d hd =>
  (PySem.W.layableW_iff.mp (List.all_eq_true.mp h d hd)).2.2
theorem encAll_len : ∀ (cs : List Codec) (a : Codec.denoteAll cs), (Codec.encAll cs a).length = cs.length
  | [], _ => rfl
  | c :: cs, a => by
    show (Codec.encAll cs a.2).length + 1 = cs.length + 1
    rw [encAll_len cs a.2]
/-- the goal that k_headS leaves (case hc), from the promise of the row's def: whatever the arguments that the codecs let and the row asks for, the def gives what stands for enc (f ..) -/
theorem walk_spec {r : OpenSpec} {k : Nat} {q : Program} {loose : List Str} {XP : (Str → Option Value) → Heap → Prop} {YP : World → Heap → Prop} {d : DefRec} {K : Params → PySem.W.Frag} {CX : World → CXT} {ps : List Str} {sp : World → Sp}
    (hwell : r.wellSaid = true) (hdf : d.params.defaults = []) (hlen : r.args.length = ps.length) (hr : Room k callerA)
    (hY : ∀ (w : World) (h : Heap), YP w h → (K w.params).In h)
    (F : ∀ (w : World) (mg : Str → Option Value) (fa : Addr) (h : Heap), YP w h → (K w.params).In h → h.Ns mainGlobals mg → mg d.name = some (.ref fa) →
      ∃ fd : FuncData, (∀ (s : Shared) (us : List Value), us.length = ps.length → BindsTo s fd ⟨us, []⟩ (ps.zip us)) ∧
        ∀ base : Heap, (K w.params).In base → base.Ns mainGlobals mg → FnOk r.prog w (K w.params) mg base (CX w) k fa fd ps (sp w))
    (hsp : ∀ (w : World) (H : Hp) (xs : List V) (a : Codec.denoteAll r.args), OnlyF H → Codec.withinAll r.args a = true → Codec.app r.args r.asked a = true → DwAll (K w.params) H xs (Codec.encAll r.args a) →
      sp w xs H (fun v H' => Dw (K w.params) H' v (r.ret.enc (Codec.app r.args r.f a))) fun _ _ _ => False)
    (hCX : ∀ (w : World) (H : Hp) (s : Shared) (e : Value) (s' : Shared), CX w [] H s (fun _ _ _ => False) e s' → False) :
    PySem.W.WalkOS q loose XP YP r d [] (fun f vs => PySem.call f vs) := by
  intro w s_0 s₁ mg mb G Y fa o pm cd doc dV kV ho hd hcd hD hmg hg args vals as hpre hlay hrd hwl hlo
  obtain ⟨a, e1, e2⟩ := PySem.W.os_pre_some hpre
  obtain ⟨e3, hwi⟩ := Codec.encAll_of_decAll r.args args a e1
  subst e3
  have KX := hY w _ Y
  obtain ⟨fd, hb, hF⟩ := F w mg fa _ Y KX G.T.g hmg
  refine PySem.W.enter_call (codeAny_mono (spec_call (R := []) (cl := classAt s_0.heap) (d0 := r.ret.enc (Codec.app r.args r.f a)) KX G.T.g G.T.b G.T.builtins G.T.nolimit hg hwl (pl_encAll _ _) (layable_weight hlay) hr hF hb (by rw [encAll_len]; exact hlen)
    (fun H xs hO hS => hsp w H xs a hO hwi e2 hS) fun H e s' => hCX w H s₁ e s') fun r' s' hq => ?_)
  obtain ⟨u, as', rfl, h1, h2, h3, h4⟩ := hq
  exact ⟨.inl ⟨u, _, as', rfl, fun _ => rfl, h1, (OpenSpec.post_iff hwell hwi _ _).mpr rfl, fun z => Bool.noConfusion (show false = true from z)⟩, h2, h3, h4⟩
/-- the same where the promise hangs on the written part alone -/
theorem walk_specK {r : OpenSpec} {k : Nat} {q : Program} {loose : List Str} {XP : (Str → Option Value) → Heap → Prop} {YP : World → Heap → Prop} {d : DefRec} {K : Params → PySem.W.Frag} {CX : CXT} {ps : List Str} {sp : PySem.W.Frag → Sp}
    (hwell : r.wellSaid = true) (hdf : d.params.defaults = []) (hlen : r.args.length = ps.length) (hr : Room k callerA)
    (hY : ∀ (w : World) (h : Heap), YP w h → (K w.params).In h)
    (F : ∀ (w : World) (mg : Str → Option Value) (fa : Addr) (h : Heap), YP w h → (K w.params).In h → h.Ns mainGlobals mg → mg d.name = some (.ref fa) →
      ∃ fd : FuncData, (∀ (s : Shared) (us : List Value), us.length = ps.length → BindsTo s fd ⟨us, []⟩ (ps.zip us)) ∧
        ∀ base : Heap, (K w.params).In base → base.Ns mainGlobals mg → FnOk r.prog w (K w.params) mg base CX k fa fd ps (sp (K w.params)))
    (hsp : ∀ (K : PySem.W.Frag) (H : Hp) (xs : List V) (a : Codec.denoteAll r.args), OnlyF H → Codec.withinAll r.args a = true → Codec.app r.args r.asked a = true → DwAll K H xs (Codec.encAll r.args a) →
      sp K xs H (fun v H' => Dw K H' v (r.ret.enc (Codec.app r.args r.f a))) fun _ _ _ => False)
    (hCX : ∀ (H : Hp) (s : Shared) (e : Value) (s' : Shared), CX [] H s (fun _ _ _ => False) e s' → False) :
    PySem.W.WalkOS q loose XP YP r d [] (fun f vs => PySem.call f vs) :=
  walk_spec (K := K) (CX := fun _ => CX) (sp := fun w => sp (K w.params)) hwell hdf hlen hr hY F (fun w H xs a h1 h2 h3 h4 => hsp (K w.params) H xs a h1 h2 h3 h4) fun _ H s e s' => hCX H s e s'
end L2
end
/-! SHORT WORDS over the layer: a def of the text, its body, what a loop and a test want. -/
namespace L2
open PySem PySem.Spec PyProof.Rows

/-! ### the text by places -/
/-- the j-th statement of a class's body -/
def inClass (s : Stmt) (j : Nat) : Stmt := match s with
  | .ClassDef _ _ _ body _ _ _ _ _ _ _ => body.getD j (.Pass ⟨0, 0, 0, 0⟩)
  | _ => .Pass ⟨0, 0, 0, 0⟩
def defArgs (s : Stmt) : Arguments := match s with
  | .FunctionDef _ a _ _ _ _ _ _ _ _ => a
  | _ => { posonlyargs := [], args := [], vararg := none, kwonlyargs := [], kw_defaults := [], kwarg := none, defaults := [] }
def defBody (s : Stmt) : List Stmt := match s with
  | .FunctionDef _ _ b _ _ _ _ _ _ _ => b
  | _ => []
def defScope (s : Stmt) : Scope := match s with
  | .FunctionDef _ _ _ _ _ _ sc _ _ _ => sc
  | _ => { kind := .function, names := [], isGenerator := false, isCoroutine := false }

/-! ### no exception leaves a def -/
abbrev CX0 : CXT := fun _ _ _ _ _ _ => False
abbrev E0 : XK := fun _ _ _ => False
theorem pass0 {X : Cx} : Passes CX0 X E0 := fun _ _ _ _ _ _ _ h => h.elim

/-! ### a def (or method) of the text as it stands behind the top -/
structure Fun (K : PySem.W.Frag) (x qual : Str) (st : Stmt) (f : Addr) (fd : FuncData) : Prop where
  ex : ∃ (oc : Value) (od : Option Addr) (kV doc pm : Value) (an : Option Addr) (cdv ct : Value) (osl : Array (Option Value)),
    fd = PySem.W.fnOf x qual (defArgs st) (defBody st) (defScope st) .none kV doc pm an cdv ct ∧ K.lookup f = some ⟨oc, od, .func fd, osl⟩ ∧ PySem.W.codeIn K cdv qual = true
  kp : PySem.W.keepIn K (.ref f) = true
section
variable {P : Program} {w : World} {K : PySem.W.Frag} {mg : Str → Option Value} {base : Heap}
/-- THE RULE for a def: its body as a term of rules, and the reading of that term -/
theorem Fun.ok {x qual : Str} {st : Stmt} {f : Addr} {fd : FuncData} {N ps : List Str} {k : Nat} {sp : Sp} (F : Fun K x qual st f fd) (S : FnScope N ps (defScope st)) (len : ∀ vs H Q E, sp vs H Q E → vs.length = ps.length)
    (hbody : ∀ (cdv : Value) (A : Around) (outer : List Env) (s : Shared) (H : Hp) (vs : List V) (Q : VK) (E : XK), Room k (A.deeper (envOfC qual (defScope st) s.heap.objs.size f cdv)) → sp vs H Q E →
      ∃ t, PSs (cxOf CX0 P w K mg base N qual (defScope st) f cdv A outer s H E).nox (defBody st) t ∧ t { nx := fun _ H' => Q .non H', rt := Q } (start N vs) H) : FnOk P w K mg base CX0 (k + 1) f fd ps sp := by
  obtain ⟨oc, od, kV, doc, pm, an, cdv, ct, osl, rfl, lk, hcd⟩ := F.ex
  refine fn_of lk hcd S len fun A outer s H vs Q E hr hsp => ?_
  obtain ⟨t, h, q⟩ := hbody cdv A outer s H vs Q E hr hsp
  exact ⟨t, h.nox, q⟩
/-- how its arguments bind (no defaults): h is «fun _ _ _ _ _ _ us hl => match us, hl with | [_, _], _ => rfl», one _ a parameter -/
theorem Fun.binds {x qual : Str} {st : Stmt} {f : Addr} {fd : FuncData} {ps : List Str} (F : Fun K x qual st f fd)
    (h : ∀ (kV doc pm : Value) (an : Option Addr) (cdv ct : Value) (us : List Value), us.length = ps.length → bindArgs (PySem.W.fnOf x qual (defArgs st) (defBody st) (defScope st) .none kV doc pm an cdv ct) ⟨us, []⟩ = pure (ps.zip us)) : Binds K fd ps [] := by
  obtain ⟨oc, od, kV, doc, pm, an, cdv, ct, osl, rfl, lk, hcd⟩ := F.ex
  exact .all (h kV doc pm an cdv ct)
theorem fun_mk {x qual : Str} {st : Stmt} {f : Addr} {oc : Value} {od an : Option Addr} {osl : Array (Option Value)} {kV doc pm cdv ct : Value} (l : K.lookup f = some ⟨oc, od, .func (PySem.W.fnOf x qual (defArgs st) (defBody st) (defScope st) .none kV doc pm an cdv ct), osl⟩)
    (c : PySem.W.codeIn K cdv qual = true) (k : PySem.W.keepIn K (.ref f) = true) : Fun K x qual st f (PySem.W.fnOf x qual (defArgs st) (defBody st) (defScope st) .none kV doc pm an cdv ct) := ⟨⟨oc, od, kV, doc, pm, an, cdv, ct, osl, rfl, l, c⟩, k⟩
end
theorem hu_of {A : Around} {k : Nat} (hr : Room k A) : A.units + 1 < cLine := Nat.lt_of_le_of_lt (Nat.add_le_add_left (by decide : 1 ≤ 64) _) hr.units
theorem small1000 {n : Nat} (h : n ≤ 1000) : n < sizeLine := Nat.lt_of_le_of_lt h (by decide)

/-! ### expressions in short: the name that stands in the i-th slot -/
section
variable {X : Cx}
theorem pv (i : Nat) {x : Str} {pos : Pos} (hN : X.N[i]? = some x := by rfl) (hv : Vis X.env.scope x := by first | exact Or.inl rfl | exact Or.inr (Or.inl rfl) | exact Or.inr (Or.inr rfl)) (hd : (x == ("__debug__" : Str)) = false := by decide)
    (hcd : (x == ("__classdict__" : Str)) = false := by decide) : PE X (.Name x pos) (tVar i) := pe_var hN hv hd hcd
end

/-! ### tests -/
theorem iteF {A B : Prop} (h : B) : if false = true then A else B := by
  rw [if_neg Bool.false_ne_true]
  exact h
theorem iteT {A B : Prop} (h : A) : if true = true then A else B := by
  rw [if_pos rfl]
  exact h
theorem ite2 {c A B : Prop} [Decidable c] (h1 : c → A) (h2 : ¬ c → B) : if c then A else B := by
  by_cases h : c
  · rw [if_pos h]
    exact h1 h
  · rw [if_neg h]
    exact h2 h
/-! ### heaps -/
/-- all that was tracked is as it was -/
def Same (H H' : Hp) : Prop := ∀ b o, H b = some o → H' b = some o
theorem Same.refl (H : Hp) : Same H H := fun _ _ h => h
theorem Same.trans {H H1 H2 : Hp} (a : Same H H1) (b : Same H1 H2) : Same H H2 := fun c o h => b c o (a c o h)
theorem Same.free {H H' : Hp} (e : Same H H') {l : Addr} (h : H' l = Option.none) : H l = Option.none := by
  cases q : H l with
  | none => rfl
  | some o =>
    rw [e l o q] at h
    cases h
theorem Same.seq {K : PySem.W.Frag} {H H' : Hp} {a : Addr} {xs : List V} (e : Same H H') (h : SqL K H a xs) : SqL K H' a xs := by
  rcases h with (h | ⟨o, h⟩) | h
  · exact .inl (.inl (e _ _ h))
  · exact .inl (.inr ⟨o, e _ _ h⟩)
  · exact .inr h

/-! ### a dict's pairs: keys that differ -/
section
variable {κ : Type} [DecidableEq κ]
end
/-! ### lists -/
theorem at_of {xs : List V} {z : Int} {j : Nat} {v : V} (e : z = (j : Int)) (h : xs[j]? = some v) : atI xs z = some v := by
  rw [e]
  exact atI_nat h
/-- a new instance and its __init__ leave all that was tracked as it was -/
theorem Same.made {H H1 : Hp} {x dx C : Addr} (nx : H x = Option.none) (nd : H dx = Option.none) (k : ∀ b o, (upd (upd H dx (.own x)) x (.ins C dx [])) b = some o → b ≠ x → H1 b = some o) : Same H H1 := fun b o e =>
  k b o (by rw [upd_ne (ne_of_none e nx), upd_ne (ne_of_none e nd)]; exact e) (ne_of_none e nx)
end L2


namespace FM
open Uw73
/-! ### directions and places, by number -/
/-- the direction of rod i -/
def dirAt (hs : List Nat) : Nat → Int
  | 0 => 1
  | i + 1 => if hs.getD i 0 = 1 then -(dirAt hs i) else dirAt hs i
/-- the place of joint i -/
def placeAt (rs hs : List Nat) : Nat → Int
  | 0 => 0
  | i + 1 => placeAt rs hs i + dirAt hs i * ((rs.getD i 0 : Nat) : Int)
theorem dir_sq (hs : List Nat) : ∀ i, dirAt hs i = 1 ∨ dirAt hs i = -1
  | 0 => .inl rfl
  | i + 1 => by
    show (if hs.getD i 0 = 1 then -(dirAt hs i) else dirAt hs i) = 1 ∨ (if hs.getD i 0 = 1 then -(dirAt hs i) else dirAt hs i) = -1
    by_cases e : hs.getD i 0 = 1
    · rw [if_pos e]
      rcases dir_sq hs i with h | h <;> rw [h] <;> decide
    · rw [if_neg e]
      exact dir_sq hs i
theorem getD_drop {α : Type} (l : List α) (k i : Nat) (d : α) : (l.drop k).getD i d = l.getD (k + i) d := by
  simp [List.getD_eq_getElem?_getD, List.getElem?_drop]
theorem dir_shift (hs : List Nat) (k : Nat) : ∀ i, dirAt hs (k + i) = dirAt hs k * dirAt (hs.drop k) i
  | 0 => by show dirAt hs k = dirAt hs k * 1; omega
  | i + 1 => by
    show (if hs.getD (k + i) 0 = 1 then -(dirAt hs (k + i)) else dirAt hs (k + i)) = dirAt hs k * (if (hs.drop k).getD i 0 = 1 then -(dirAt (hs.drop k) i) else dirAt (hs.drop k) i)
    rw [getD_drop, dir_shift hs k i]
    by_cases e : hs.getD (k + i) 0 = 1
    · rw [if_pos e, if_pos e, Int.mul_neg]
    · rw [if_neg e, if_neg e]
theorem place_shift (rs hs : List Nat) (k : Nat) : ∀ i, placeAt rs hs (k + i) = placeAt rs hs k + dirAt hs k * placeAt (rs.drop k) (hs.drop k) i
  | 0 => by show placeAt rs hs k = placeAt rs hs k + dirAt hs k * 0; omega
  | i + 1 => by
    show placeAt rs hs (k + i) + dirAt hs (k + i) * ((rs.getD (k + i) 0 : Nat) : Int) = placeAt rs hs k + dirAt hs k * (placeAt (rs.drop k) (hs.drop k) i + dirAt (hs.drop k) i * (((rs.drop k).getD i 0 : Nat) : Int))
    rw [getD_drop, place_shift rs hs k i, dir_shift hs k i, Int.mul_add, Int.mul_assoc]
    omega
theorem headD_getD {α : Type} (l : List α) (d : α) : l.headD d = l.getD 0 d := by cases l <;> rfl
theorem joints_from : ∀ (rs : List Nat) (hs : List Nat) (p d : Int), jointsFrom p d rs hs = (List.range (rs.length + 1)).map fun i => p + d * placeAt rs hs i
  | [], hs, p, d => by
    show [p] = [p + d * 0]
    simp
  | r :: rs, hs, p, d => by
    show p :: jointsFrom (p + d * (r : Int)) (if hs.headD 0 = 1 then -d else d) rs hs.tail = _
    rw [joints_from rs hs.tail]
    rw [List.length_cons, List.range_succ_eq_map (n := rs.length + 1), List.map_cons, List.map_map]
    refine List.cons_eq_cons.mpr ⟨by show p = p + d * 0; omega, ?_⟩
    refine List.map_congr_left fun i _ => ?_
    show p + d * (r : Int) + (if hs.headD 0 = 1 then -d else d) * placeAt rs hs.tail i = p + d * placeAt (r :: rs) hs (i + 1)
    have e := place_shift (r :: rs) hs 1 i
    rw [Nat.add_comm i 1, e]
    show _ = p + d * ((0 + 1 * ((r : Nat) : Int)) + (if hs.getD 0 0 = 1 then -1 else 1) * placeAt rs (hs.drop 1) i)
    rw [headD_getD, List.drop_one]
    by_cases q : hs.getD 0 0 = 1
    · rw [if_pos q, if_pos q, Int.mul_add, Int.neg_mul, Int.neg_mul, Int.one_mul, Int.one_mul, Int.mul_neg, Int.zero_add]; omega
    · rw [if_neg q, if_neg q, Int.mul_add, Int.one_mul, Int.one_mul, Int.zero_add]; omega
/-- THE JOINTS, by number -/
theorem joints_eq (rs hs : List Nat) : joints rs hs = (List.range (rs.length + 1)).map (placeAt rs hs) := by
  unfold joints
  rw [joints_from]
  refine List.map_congr_left fun i _ => ?_
  omega
theorem joints_len (rs hs : List Nat) : (joints rs hs).length = rs.length + 1 := by rw [joints_eq]; simp
theorem joints_at {rs hs : List Nat} {i : Nat} (h : i ≤ rs.length) : (joints rs hs)[i]? = some (placeAt rs hs i) := by
  rw [joints_eq, List.getElem?_map, List.getElem?_range (by omega)]
  rfl
/-! ### the least, the greatest -/
theorem foldl_min : ∀ (l : List Int) (a : Int), (l.foldl min a = a ∨ l.foldl min a ∈ l) ∧ l.foldl min a ≤ a ∧ ∀ y ∈ l, l.foldl min a ≤ y
  | [], a => ⟨.inl rfl, Int.le_refl _, fun _ h => nomatch h⟩
  | x :: l, a => by
    have ⟨h1, h2, h3⟩ := foldl_min l (min a x)
    rw [List.foldl_cons]
    refine ⟨?_, by omega, fun y hy => ?_⟩
    · rcases h1 with h | h
      · rw [h]
        by_cases q : a ≤ x
        · exact .inl (by omega)
        · exact .inr (by rw [show min a x = x by omega]; exact List.mem_cons_self)
      · exact .inr (List.mem_cons_of_mem _ h)
    · rcases List.mem_cons.mp hy with rfl | h
      · omega
      · exact h3 y h
theorem foldl_max : ∀ (l : List Int) (a : Int), (l.foldl max a = a ∨ l.foldl max a ∈ l) ∧ a ≤ l.foldl max a ∧ ∀ y ∈ l, y ≤ l.foldl max a
  | [], a => ⟨.inl rfl, Int.le_refl _, fun _ h => nomatch h⟩
  | x :: l, a => by
    have ⟨h1, h2, h3⟩ := foldl_max l (max a x)
    rw [List.foldl_cons]
    refine ⟨?_, by omega, fun y hy => ?_⟩
    · rcases h1 with h | h
      · rw [h]
        by_cases q : x ≤ a
        · exact .inl (by omega)
        · exact .inr (by rw [show max a x = x by omega]; exact List.mem_cons_self)
      · exact .inr (List.mem_cons_of_mem _ h)
    · rcases List.mem_cons.mp hy with rfl | h
      · omega
      · exact h3 y h
theorem nfoldl_min : ∀ (l : List Nat) (a : Nat), (l.foldl min a = a ∨ l.foldl min a ∈ l) ∧ l.foldl min a ≤ a ∧ ∀ y ∈ l, l.foldl min a ≤ y
  | [], a => ⟨.inl rfl, Nat.le_refl _, fun _ h => nomatch h⟩
  | x :: l, a => by
    have ⟨h1, h2, h3⟩ := nfoldl_min l (min a x)
    rw [List.foldl_cons]
    refine ⟨?_, by omega, fun y hy => ?_⟩
    · rcases h1 with h | h
      · rw [h]
        by_cases q : a ≤ x
        · exact .inl (by omega)
        · exact .inr (by rw [show min a x = x by omega]; exact List.mem_cons_self)
      · exact .inr (List.mem_cons_of_mem _ h)
    · rcases List.mem_cons.mp hy with rfl | h
      · omega
      · exact h3 y h
theorem nfoldl_max : ∀ (l : List Nat) (a : Nat), (l.foldl max a = a ∨ l.foldl max a ∈ l) ∧ a ≤ l.foldl max a ∧ ∀ y ∈ l, y ≤ l.foldl max a
  | [], a => ⟨.inl rfl, Nat.le_refl _, fun _ h => nomatch h⟩
  | x :: l, a => by
    have ⟨h1, h2, h3⟩ := nfoldl_max l (max a x)
    rw [List.foldl_cons]
    refine ⟨?_, by omega, fun y hy => ?_⟩
    · rcases h1 with h | h
      · rw [h]
        by_cases q : x ≤ a
        · exact .inl (by omega)
        · exact .inr (by rw [show max a x = x by omega]; exact List.mem_cons_self)
      · exact .inr (List.mem_cons_of_mem _ h)
    · rcases List.mem_cons.mp hy with rfl | h
      · omega
      · exact h3 y h
theorem low_is {l : List Int} {m : Int} (h : m ∈ l) (hm : ∀ y ∈ l, m ≤ y) : low l = m := by
  unfold low
  cases l with
  | nil => cases h
  | cons x r =>
    have ⟨h1, h2, h3⟩ := foldl_min (x :: r) ((x :: r).headD 0)
    have g1 := h3 m h
    rcases h1 with q | q
    · have e := hm x List.mem_cons_self
      rw [q] at g1 ⊢
      have : (x :: r).headD 0 = x := rfl
      omega
    · have e := hm _ q
      omega
theorem high_is {l : List Int} {m : Int} (h : m ∈ l) (hm : ∀ y ∈ l, y ≤ m) : high l = m := by
  unfold high
  cases l with
  | nil => cases h
  | cons x r =>
    have ⟨h1, h2, h3⟩ := foldl_max (x :: r) ((x :: r).headD 0)
    have g1 := h3 m h
    rcases h1 with q | q
    · have e := hm x List.mem_cons_self
      rw [q] at g1 ⊢
      have : (x :: r).headD 0 = x := rfl
      omega
    · have e := hm _ q
      omega
theorem spread_is {rs hs : List Nat} {a b : Int} (ha : a ∈ joints rs hs) (hA : ∀ y ∈ joints rs hs, y ≤ a) (hb : b ∈ joints rs hs) (hB : ∀ y ∈ joints rs hs, b ≤ y) : ((spread rs hs : Nat) : Int) = a - b := by
  unfold spread
  dsimp only
  rw [high_is ha hA, low_is hb hB]
  have := hB a ha
  omega
/-- the greatest of some counts -/
theorem most_is {l : List Nat} {m : Int} (h : m ∈ l.map fun (n : Nat) => (n : Int)) (hm : ∀ y ∈ l.map fun (n : Nat) => (n : Int), y ≤ m) : ((l.foldl max 0 : Nat) : Int) = m := by
  obtain ⟨n, hn, rfl⟩ := List.mem_map.mp h
  have ⟨h1, h2, h3⟩ := nfoldl_max l 0
  have g := h3 n hn
  rcases h1 with q | q
  · rw [q] at g ⊢; omega
  · have e := hm _ (List.mem_map.mpr ⟨_, q, rfl⟩)
    omega
/-! ### the ways -/
theorem mem_rows : ∀ {n : Nat} {l : List Nat}, l ∈ rows n ↔ l.length = n ∧ ∀ x ∈ l, x ≤ 1
  | 0, l => by
    show l ∈ [[]] ↔ _
    constructor
    · intro h
      rw [List.mem_singleton.mp h]
      exact ⟨rfl, fun _ h => nomatch h⟩
    · rintro ⟨h, _⟩
      rw [List.length_eq_zero_iff.mp h]
      exact List.mem_singleton.mpr rfl
  | n + 1, l => by
    show l ∈ [0, 1].flatMap (fun h => (rows n).map fun l => h :: l) ↔ _
    rw [List.mem_flatMap]
    constructor
    · rintro ⟨h, hh, hl⟩
      obtain ⟨r, hr, rfl⟩ := List.mem_map.mp hl
      have ⟨e, q⟩ := mem_rows.mp hr
      refine ⟨by rw [List.length_cons, e], fun x hx => ?_⟩
      rcases List.mem_cons.mp hx with rfl | hx
      · rcases List.mem_cons.mp hh with rfl | hh
        · omega
        · rw [List.mem_singleton.mp hh]; omega
      · exact q x hx
    · rintro ⟨h, q⟩
      cases l with
      | nil => cases h
      | cons x r =>
        have hx := q x List.mem_cons_self
        refine ⟨x, ?_, List.mem_map.mpr ⟨r, mem_rows.mpr ⟨Nat.succ.inj h, fun y hy => q y (List.mem_cons_of_mem _ hy)⟩, rfl⟩⟩
        rcases (show x = 0 ∨ x = 1 by omega) with e | e <;> simp [e]
/-- the ways grown at their end -/
theorem rows_snoc : ∀ (n : Nat), rows (n + 1) = (rows n).flatMap fun w => [w ++ [0], w ++ [1]]
  | 0 => rfl
  | n + 1 => by
    show [0, 1].flatMap (fun h => (rows (n + 1)).map fun l => h :: l) = ([0, 1].flatMap (fun h => (rows n).map fun l => h :: l)).flatMap fun w => [w ++ [0], w ++ [1]]
    rw [List.flatMap_assoc]
    congr 1
    funext h
    rw [rows_snoc n, List.map_flatMap, List.flatMap_map]
    congr 1
theorem rows_length : ∀ n, (rows n).length = 2 ^ n
  | 0 => rfl
  | n + 1 => by
    show ([0, 1].flatMap fun h => (rows n).map fun l => h :: l).length = _
    rw [List.length_flatMap]
    simp [rows_length n]
    omega
theorem rows_ne (n : Nat) : rows n ≠ [] := fun h => by
  have e := rows_length n
  rw [h] at e
  have : 0 < 2 ^ n := Nat.two_pow_pos n
  simp at e
  omega
/-! ### the best of some ways -/
theorem least_is {f : List Nat → Nat} {l : List (List Nat)} {m : Nat} (h : m ∈ l.map f) (hm : ∀ y ∈ l.map f, m ≤ y) : leastOf f l = some m := by
  cases l with
  | nil => cases h
  | cons x r =>
    show some ((r.map f).foldl min (f x)) = some m
    have ⟨h1, h2, h3⟩ := nfoldl_min (r.map f) (f x)
    congr 1
    rw [List.map_cons] at h hm
    have g : (r.map f).foldl min (f x) ≤ m := by
      rcases List.mem_cons.mp h with rfl | h
      · exact h2
      · exact h3 m h
    have g2 : m ≤ (r.map f).foldl min (f x) := by
      rcases h1 with q | q
      · rw [q]; exact hm _ List.mem_cons_self
      · exact hm _ (List.mem_cons_of_mem _ q)
    omega
theorem best_none {f : List Nat → Nat} : best f [] = none := rfl
theorem best_is {f : List Nat → Nat} {l : List (List Nat)} {m : Nat} (h : m ∈ l.map f) (hm : ∀ y ∈ l.map f, m ≤ y) : best f l = some (m, (l.filter fun x => f x == m).length, (l.filter fun x => f x == m).headD []) := by
  unfold best
  rw [least_is h hm]
  rfl
/-- the first that has it -/
theorem head_filter {α : Type} {p : α → Bool} {d : α} : ∀ {l : List α} {j : Nat} {x : α}, l[j]? = some x → p x = true → (∀ (i : Nat) (y : α), i < j → l[i]? = some y → p y = false) → (l.filter p).headD d = x
  | [], j, x, h, _, _ => by simp at h
  | a :: l, 0, x, h, hp, _ => by
    have e : a = x := Option.some.inj h
    subst e
    rw [List.filter_cons, if_pos hp]
    rfl
  | a :: l, j + 1, x, h, hp, hn => by
    have e := hn 0 a (Nat.zero_lt_succ _) rfl
    rw [List.filter_cons, if_neg (by rw [e]; exact Bool.false_ne_true)]
    exact head_filter (l := l) (j := j) h hp fun i y hi hy => hn (i + 1) y (Nat.succ_lt_succ hi) hy
theorem count_map {α : Type} [BEq α] [LawfulBEq α] (f : List Nat → α) (m : α) : ∀ (l : List (List Nat)), (l.map f).count m = (l.filter fun x => f x == m).length
  | [] => rfl
  | a :: l => by
    rw [List.map_cons, List.count_cons, count_map f m l, List.filter_cons]
    by_cases e : (f a == m) = true
    · rw [if_pos e, if_pos e]; rfl
    · rw [if_neg e, if_neg e]; rfl
/-! ### two joints, and the rods between them -/
theorem dir_take (hs : List Nat) (n : Nat) : ∀ i, i ≤ n → dirAt (hs.take n) i = dirAt hs i
  | 0, _ => rfl
  | i + 1, h => by
    show (if (hs.take n).getD i 0 = 1 then -(dirAt (hs.take n) i) else dirAt (hs.take n) i) = (if hs.getD i 0 = 1 then -(dirAt hs i) else dirAt hs i)
    rw [dir_take hs n i (by omega)]
    have e : (hs.take n).getD i 0 = hs.getD i 0 := by simp [List.getD_eq_getElem?_getD, List.getElem?_take, show i < n by omega]
    rw [e]
theorem place_take (rs hs : List Nat) (n m : Nat) (hm : n ≤ m + 1) : ∀ i, i ≤ n → placeAt (rs.take n) (hs.take m) i = placeAt rs hs i
  | 0, _ => rfl
  | i + 1, h => by
    show placeAt (rs.take n) (hs.take m) i + dirAt (hs.take m) i * (((rs.take n).getD i 0 : Nat) : Int) = placeAt rs hs i + dirAt hs i * ((rs.getD i 0 : Nat) : Int)
    rw [place_take rs hs n m hm i (by omega), dir_take hs m i (by omega)]
    have e : (rs.take n).getD i 0 = rs.getD i 0 := by simp [List.getD_eq_getElem?_getD, List.getElem?_take, show i < n by omega]
    rw [e]
theorem ends_eq (rs hs : List Nat) : ends rs hs = (placeAt rs hs rs.length).natAbs := by
  unfold ends apart
  dsimp only
  have e0 : (joints rs hs).headD 0 = 0 := by
    rw [headD_getD, List.getD_eq_getElem?_getD, joints_at (Nat.zero_le _)]
    rfl
  have e1 : (joints rs hs).getLastD 0 = placeAt rs hs rs.length := by
    rw [List.getLastD_eq_getLast?, List.getLast?_eq_getElem?, joints_len]
    show ((joints rs hs)[rs.length]?).getD 0 = _
    rw [joints_at (Nat.le_refl _)]
    rfl
  rw [e0, e1]
  omega
theorem natAbs_dir {d x : Int} (h : d = 1 ∨ d = -1) : (d * x).natAbs = x.natAbs := by
  rcases h with h | h <;> subst h
  · rw [Int.one_mul]
  · rw [Int.neg_mul, Int.one_mul, Int.natAbs_neg]
/-- how far apart joints i and j lie: the rods between them alone -/
theorem apart_sub {rs hs : List Nat} {i j : Nat} (hij : i < j) (hj : j ≤ rs.length) : (placeAt rs hs j - placeAt rs hs i).natAbs = ends ((rs.drop i).take (j - i)) ((hs.drop i).take (j - i - 1)) := by
  rw [ends_eq, List.length_take, List.length_drop, show min (j - i) (rs.length - i) = j - i by omega, place_take _ _ _ _ (by omega) _ (Nat.le_refl _)]
  have e := place_shift rs hs i (j - i)
  rw [show i + (j - i) = j by omega] at e
  rw [e, show placeAt rs hs i + dirAt hs i * placeAt (rs.drop i) (hs.drop i) (j - i) - placeAt rs hs i = dirAt hs i * placeAt (rs.drop i) (hs.drop i) (j - i) by omega]
  exact natAbs_dir (dir_sq hs i)
/-- what two joints can be apart, in some way -/
theorem mem_reach {rs : List Nat} {i j m : Nat} (hij : i < j) (hj : j ≤ rs.length) : m ∈ reach rs (i, j) ↔ ∃ hs ∈ ways rs, (placeAt rs hs j - placeAt rs hs i).natAbs = m := by
  unfold reach ways
  dsimp only
  rw [List.mem_map, List.length_take, List.length_drop, show min (j - i) (rs.length - i) = j - i by omega]
  constructor
  · rintro ⟨h, hh, e⟩
    have ⟨q1, q2⟩ := mem_rows.mp hh
    refine ⟨List.replicate i 0 ++ (h ++ List.replicate (rs.length - 1 - i - (j - i - 1)) 0), mem_rows.mpr ⟨?_, fun x hx => ?_⟩, ?_⟩
    · simp only [List.length_append, List.length_replicate, q1]
      omega
    · rcases List.mem_append.mp hx with hx | hx
      · rw [(List.mem_replicate.mp hx).2]; omega
      · rcases List.mem_append.mp hx with hx | hx
        · exact q2 x hx
        · rw [(List.mem_replicate.mp hx).2]; omega
    · rw [apart_sub hij hj]
      have e1 : (List.replicate i 0 ++ (h ++ List.replicate (rs.length - 1 - i - (j - i - 1)) 0)).drop i = h ++ List.replicate (rs.length - 1 - i - (j - i - 1)) 0 := by
        rw [List.drop_append_of_le_length (by simp)]; simp
      have e2 : (h ++ List.replicate (rs.length - 1 - i - (j - i - 1)) 0).take (j - i - 1) = h := by
        rw [List.take_append_of_le_length (by omega), ← q1, List.take_length]
      rw [e1, e2]
      exact e
  · rintro ⟨hs, hh, e⟩
    have ⟨q1, q2⟩ := mem_rows.mp hh
    refine ⟨(hs.drop i).take (j - i - 1), mem_rows.mpr ⟨?_, fun x hx => q2 x ?_⟩, ?_⟩
    · rw [List.length_take, List.length_drop]; omega
    · exact List.mem_of_mem_drop (List.mem_of_mem_take hx)
    · rw [← e, apart_sub hij hj]
end FM

namespace FM
open Uw73
/-! ### pairs of joints -/
theorem mem_pairs {n i j : Nat} : (i, j) ∈ pairs n ↔ i < j ∧ j < n := by
  unfold pairs
  rw [List.mem_flatMap]
  constructor
  · rintro ⟨a, ha, h⟩
    obtain ⟨b, hb, e⟩ := List.mem_filterMap.mp h
    by_cases q : a < b
    · rw [if_pos q] at e
      have e1 : (a, b) = (i, j) := Option.some.inj e
      have e2 : a = i := congrArg Prod.fst e1
      have e3 : b = j := congrArg Prod.snd e1
      subst e2 e3
      exact ⟨q, List.mem_range.mp hb⟩
    · rw [if_neg q] at e
      cases e
  · rintro ⟨h1, h2⟩
    exact ⟨i, List.mem_range.mpr (by omega), List.mem_filterMap.mpr ⟨j, List.mem_range.mpr h2, by rw [if_pos h1]⟩⟩
/-! ### how long at most -/
theorem total_from : ∀ (l : List Nat) (a : Nat), l.foldl (fun a b => a + b) a = a + l.sum
  | [], a => rfl
  | x :: l, a => by rw [List.foldl_cons, total_from l, List.sum_cons]; omega
theorem total_sum (l : List Nat) : total l = l.sum := by unfold total; rw [total_from]; omega
theorem sum_take_succ : ∀ (l : List Nat) (i : Nat), (l.take (i + 1)).sum = (l.take i).sum + l.getD i 0
  | [], i => by simp
  | a :: l, 0 => by simp
  | a :: l, i + 1 => by
    show (a :: l.take (i + 1)).sum = (a :: l.take i).sum + l.getD i 0
    rw [List.sum_cons, List.sum_cons, sum_take_succ l i]
    omega
theorem sum_take_le : ∀ (l : List Nat) (i : Nat), (l.take i).sum ≤ l.sum
  | [], i => by simp
  | a :: l, 0 => by simp
  | a :: l, i + 1 => by
    show (a :: l.take i).sum ≤ (a :: l).sum
    rw [List.sum_cons, List.sum_cons]
    have := sum_take_le l i
    omega
theorem sum_drop_le : ∀ (l : List Nat) (i : Nat), (l.drop i).sum ≤ l.sum
  | [], i => by simp
  | a :: l, 0 => by simp
  | a :: l, i + 1 => by
    show (l.drop i).sum ≤ (a :: l).sum
    rw [List.sum_cons]
    have := sum_drop_le l i
    omega
theorem place_le (rs hs : List Nat) : ∀ i, (placeAt rs hs i).natAbs ≤ (rs.take i).sum
  | 0 => by show (0 : Int).natAbs ≤ _; simp
  | i + 1 => by
    show (placeAt rs hs i + dirAt hs i * ((rs.getD i 0 : Nat) : Int)).natAbs ≤ _
    have h := place_le rs hs i
    have e := sum_take_succ rs i
    rcases dir_sq hs i with d | d <;> rw [d] <;> omega
theorem ends_le (rs hs : List Nat) : ends rs hs ≤ rs.sum := by
  rw [ends_eq]
  exact Nat.le_trans (place_le rs hs _) (sum_take_le rs _)
theorem reach_le {rs : List Nat} {x : Nat × Nat} {m : Nat} (h : m ∈ reach rs x) : m ≤ total rs := by
  unfold reach at h
  dsimp only at h
  obtain ⟨hs, _, rfl⟩ := List.mem_map.mp h
  rw [total_sum]
  exact Nat.le_trans (ends_le _ _) (Nat.le_trans (sum_take_le _ _) (sum_drop_le _ _))
/-! ### what is marked off -/
theorem set_size : ∀ (ms : List Nat) (a : Array Bool), (ms.foldl (fun a m => a.set! m true) a).size = a.size
  | [], a => rfl
  | m :: ms, a => by
    rw [List.foldl_cons, set_size ms]
    simp
theorem set_get : ∀ (ms : List Nat) (a : Array Bool) (k : Nat), (ms.foldl (fun a m => a.set! m true) a).getD k false = true ↔ a.getD k false = true ∨ (k < a.size ∧ k ∈ ms)
  | [], a, k => by simp
  | m :: ms, a, k => by
    rw [List.foldl_cons, set_get ms]
    simp only [Array.set!_eq_setIfInBounds, Array.getD_eq_getD_getElem?, Array.getElem?_setIfInBounds, Array.size_setIfInBounds, List.mem_cons]
    by_cases e : m = k
    · subst e
      by_cases hk : m < a.size
      · simp [hk]
      · simp [hk]
    · simp [e, Ne.symm e]
theorem sets_size (f : Nat × Nat → List Nat) : ∀ (ps : List (Nat × Nat)) (a : Array Bool), (ps.foldl (fun a x => (f x).foldl (fun a m => a.set! m true) a) a).size = a.size
  | [], a => rfl
  | p :: ps, a => by
    rw [List.foldl_cons, sets_size f ps, set_size]
theorem sets_get (f : Nat × Nat → List Nat) : ∀ (ps : List (Nat × Nat)) (a : Array Bool) (k : Nat), (ps.foldl (fun a x => (f x).foldl (fun a m => a.set! m true) a) a).getD k false = true ↔ a.getD k false = true ∨ (k < a.size ∧ ∃ p ∈ ps, k ∈ f p)
  | [], a, k => by simp
  | p :: ps, a, k => by
    rw [List.foldl_cons, sets_get f ps, set_get, set_size]
    constructor
    · rintro ((h | ⟨h, q⟩) | ⟨h, x, hx, q⟩)
      · exact .inl h
      · exact .inr ⟨h, p, List.mem_cons_self, q⟩
      · exact .inr ⟨h, x, List.mem_cons_of_mem _ hx, q⟩
    · rintro (h | ⟨h, x, hx, q⟩)
      · exact .inl (.inl h)
      · rcases List.mem_cons.mp hx with rfl | hx
        · exact .inl (.inr ⟨h, q⟩)
        · exact .inr ⟨h, x, hx, q⟩
/-- a length that can be marked off -/
def Can (rs : List Nat) (m : Nat) : Prop := ∃ p ∈ pairs (rs.length + 1), m ∈ reach rs p
theorem marked_iff (rs : List Nat) (m : Nat) : (marked rs).getD m false = true ↔ Can rs m := by
  unfold marked Can
  rw [sets_get]
  constructor
  · rintro (h | ⟨_, h⟩)
    · simp [Array.getD_eq_getD_getElem?, Array.getElem?_replicate] at h
      by_cases q : m < total rs + 1
      · rw [if_pos q] at h
        cases h
      · rw [if_neg q] at h
        cases h
    · exact h
  · rintro ⟨p, hp, h⟩
    exact .inr ⟨by have := reach_le h; simp; omega, p, hp, h⟩
theorem Can.le {rs : List Nat} {m : Nat} (h : Can rs m) : m ≤ total rs := by
  obtain ⟨p, _, h⟩ := h
  exact reach_le h
theorem can_iff {rs : List Nat} {m : Nat} : Can rs m ↔ ∃ i j, i < j ∧ j ≤ rs.length ∧ ∃ hs ∈ ways rs, (placeAt rs hs j - placeAt rs hs i).natAbs = m := by
  constructor
  · rintro ⟨⟨i, j⟩, hp, h⟩
    have ⟨h1, h2⟩ := mem_pairs.mp hp
    exact ⟨i, j, h1, by omega, (mem_reach h1 (by omega)).mp h⟩
  · rintro ⟨i, j, h1, h2, h⟩
    exact ⟨(i, j), mem_pairs.mpr ⟨h1, by omega⟩, (mem_reach h1 h2).mpr h⟩
theorem mem_marks {rs : List Nat} {m : Nat} : m ∈ marks rs ↔ m ≠ 0 ∧ Can rs m := by
  unfold marks
  dsimp only
  rw [List.mem_filter, Bool.and_eq_true, marked_iff, List.mem_range]
  constructor
  · rintro ⟨_, h, q⟩
    exact ⟨by simpa using h, q⟩
  · rintro ⟨h, q⟩
    exact ⟨by have := q.le; omega, by simpa using h, q⟩
theorem marks_nodup (rs : List Nat) : (marks rs).Nodup := by
  unfold marks
  exact List.nodup_range.sublist List.filter_sublist
/-- how many lengths can be marked off: of any list of them without a double -/
theorem marks_len {rs D : List Nat} (hn : D.Nodup) (h : ∀ m, m ∈ D ↔ m ≠ 0 ∧ Can rs m) : (marks rs).length = D.length :=
  ((List.perm_ext_iff_of_nodup (marks_nodup rs) hn).mpr fun m => mem_marks.trans (h m).symm).length_eq
theorem find_range {p : Nat → Bool} {n k : Nat} (hk : k < n) (hp : p k = true) (hn : ∀ i, i < k → p i = false) : (List.range n).find? p = some k := by
  rw [List.find?_range_eq_some]
  refine ⟨hp, List.mem_range.mpr hk, fun j hj => ?_⟩
  rw [hn j hj]
  rfl
/-- the least length that can't be marked off -/
theorem lack_is {rs : List Nat} {k : Nat} (h0 : 1 ≤ k) (hk : ¬ Can rs k) (hn : ∀ i, 1 ≤ i → i < k → Can rs i) : firstLack rs = k := by
  unfold firstLack
  dsimp only
  have hle : k - 1 < total rs + 1 := by
    by_cases e : k = 1
    · omega
    · have := (hn (k - 1) (by omega) (by omega)).le
      omega
  have g : ∀ m, ((marked rs).getD m false = true ↔ Can rs m) := marked_iff rs
  rw [find_range (k := k - 1) hle]
  · show k - 1 + 1 = k
    omega
  · have e : (marked rs).getD (k - 1 + 1) false = false := by
      rw [show k - 1 + 1 = k by omega]
      exact Bool.eq_false_iff.mpr fun q => hk ((g k).mp q)
    rw [e]
    rfl
  · intro i hi
    have e : (marked rs).getD (i + 1) false = true := (g _).mpr (hn (i + 1) (by omega) (by omega))
    rw [e]
    rfl
end FM

namespace FM
open Uw73
/-! ### distances grown rod by rod -/
def put (ks : List Nat) (n : Nat) : List Nat := if n ∈ ks then ks else ks ++ [n]
def gap (d r : Nat) : Nat := ((d : Int) - (r : Int)).natAbs
def further (ks : List Nat) (r : Nat) : List Nat := ks.foldl (fun acc d => put (put acc (d + r)) (gap d r)) []
def dl (rs : List Nat) : Nat → List Nat
  | 0 => [0]
  | j + 1 => further (dl rs j) (rs.getD j 0)
theorem mem_put {ks : List Nat} {n m : Nat} : m ∈ put ks n ↔ m ∈ ks ∨ m = n := by
  unfold put
  by_cases h : n ∈ ks
  · rw [if_pos h]
    exact ⟨.inl, fun z => z.elim id fun e => by rw [e]; exact h⟩
  · rw [if_neg h, List.mem_append, List.mem_singleton]
theorem nodup_put {ks : List Nat} {n : Nat} (h : ks.Nodup) : (put ks n).Nodup := by
  unfold put
  by_cases q : n ∈ ks
  · rw [if_pos q]; exact h
  · rw [if_neg q, List.nodup_append]
    refine ⟨h, by simp, fun a ha b hb e => ?_⟩
    rw [List.mem_singleton.mp hb] at e
    exact q (e ▸ ha)
theorem put_len (ks : List Nat) (n : Nat) : (put ks n).length ≤ ks.length + 1 := by
  unfold put
  by_cases q : n ∈ ks
  · rw [if_pos q]; omega
  · rw [if_neg q, List.length_append]; simp
theorem further_from : ∀ (ks acc : List Nat) (r m : Nat), m ∈ ks.foldl (fun acc d => put (put acc (d + r)) (gap d r)) acc ↔ m ∈ acc ∨ ∃ d ∈ ks, m = d + r ∨ m = gap d r
  | [], acc, r, m => by simp
  | k :: ks, acc, r, m => by
    rw [List.foldl_cons, further_from ks, mem_put, mem_put]
    constructor
    · rintro (((h | h) | h) | ⟨d, hd, h⟩)
      · exact .inl h
      · exact .inr ⟨k, List.mem_cons_self, .inl h⟩
      · exact .inr ⟨k, List.mem_cons_self, .inr h⟩
      · exact .inr ⟨d, List.mem_cons_of_mem _ hd, h⟩
    · rintro (h | ⟨d, hd, h⟩)
      · exact .inl (.inl (.inl h))
      · rcases List.mem_cons.mp hd with rfl | hd
        · rcases h with h | h
          · exact .inl (.inl (.inr h))
          · exact .inl (.inr h)
        · exact .inr ⟨d, hd, h⟩
theorem mem_further {ks : List Nat} {r m : Nat} : m ∈ further ks r ↔ ∃ d ∈ ks, m = d + r ∨ m = gap d r := by
  unfold further
  rw [further_from]
  constructor
  · rintro (h | h)
    · cases h
    · exact h
  · exact .inr
theorem nodup_from : ∀ (ks acc : List Nat) (r : Nat), acc.Nodup → (ks.foldl (fun acc d => put (put acc (d + r)) (gap d r)) acc).Nodup
  | [], acc, r, h => h
  | k :: ks, acc, r, h => by
    rw [List.foldl_cons]
    exact nodup_from ks _ r (nodup_put (nodup_put h))
theorem further_snoc (ks : List Nat) (d r : Nat) : further (ks ++ [d]) r = put (put (further ks r) (d + r)) (gap d r) := by
  unfold further
  rw [List.foldl_append]
  rfl
theorem further_len : ∀ (ks acc : List Nat) (r : Nat), (ks.foldl (fun acc d => put (put acc (d + r)) (gap d r)) acc).length ≤ acc.length + 2 * ks.length
  | [], acc, r => by simp
  | k :: ks, acc, r => by
    rw [List.foldl_cons, List.length_cons]
    have h1 := further_len ks (put (put acc (k + r)) (gap k r)) r
    have h2 := put_len (put acc (k + r)) (gap k r)
    have h3 := put_len acc (k + r)
    omega
theorem dl_nodup (rs : List Nat) : ∀ j, (dl rs j).Nodup
  | 0 => by show ([0] : List Nat).Nodup; simp
  | j + 1 => nodup_from _ _ _ List.nodup_nil
theorem dl_len (rs : List Nat) : ∀ j, (dl rs j).length ≤ 2 ^ j
  | 0 => by show 1 ≤ 1; omega
  | j + 1 => by
    have h1 := further_len (dl rs j) [] (rs.getD j 0)
    have h2 := dl_len rs j
    show (further (dl rs j) (rs.getD j 0)).length ≤ _
    unfold further
    rw [List.length_nil] at h1
    rw [Nat.pow_succ]
    omega
/-! ### they are what the joint's place can be -/
theorem place_cut (rs hs : List Nat) (j : Nat) : placeAt rs (hs.take (j - 1)) j = placeAt rs hs j := by
  by_cases h : j = 0
  · subst h; rfl
  · rw [← place_take rs (hs.take (j - 1)) j (j - 1) (by omega) j (Nat.le_refl _), ← place_take rs hs j (j - 1) (by omega) j (Nat.le_refl _), List.take_take, Nat.min_self]
theorem dir_choose {hs : List Nat} {j : Nat} {t : Int} (hl : hs.length = j) (ht : t = 1 ∨ t = -1) : ∃ h, h ≤ 1 ∧ dirAt (hs ++ [h]) (j + 1) = t := by
  have e : ∀ h, dirAt (hs ++ [h]) (j + 1) = if h = 1 then -(dirAt hs j) else dirAt hs j := fun h => by
    show (if (hs ++ [h]).getD j 0 = 1 then -(dirAt (hs ++ [h]) j) else dirAt (hs ++ [h]) j) = _
    have e1 : (hs ++ [h]).getD j 0 = h := by
      rw [List.getD_eq_getElem?_getD, List.getElem?_append_right (by omega)]
      simp [hl]
    have e2 : dirAt (hs ++ [h]) j = dirAt hs j := by
      rw [← dir_take (hs ++ [h]) j j (Nat.le_refl _), List.take_append_of_le_length (by omega), ← hl, List.take_length]
    rw [e1, e2]
  rcases dir_sq hs j with d | d
  · rcases ht with t1 | t1
    · exact ⟨0, by omega, by rw [e, if_neg (by omega), d, t1]⟩
    · exact ⟨1, by omega, by rw [e, if_pos rfl, d, t1]⟩
  · rcases ht with t1 | t1
    · exact ⟨1, by omega, by rw [e, if_pos rfl, d, t1]; rfl⟩
    · exact ⟨0, by omega, by rw [e, if_neg (by omega), d, t1]⟩
theorem mem_dl (rs : List Nat) : ∀ (j m : Nat), m ∈ dl rs (j + 1) ↔ ∃ hs, hs.length = j ∧ (∀ x ∈ hs, x ≤ 1) ∧ (placeAt rs hs (j + 1)).natAbs = m
  | 0, m => by
    show m ∈ further [0] (rs.getD 0 0) ↔ _
    rw [mem_further]
    have e : (placeAt rs [] 1).natAbs = rs.getD 0 0 := by
      show ((0 : Int) + 1 * ((rs.getD 0 0 : Nat) : Int)).natAbs = _
      omega
    constructor
    · rintro ⟨d, hd, h⟩
      rw [List.mem_singleton.mp hd] at h
      refine ⟨[], rfl, (fun _ h => nomatch h), ?_⟩
      rw [e]
      unfold gap at h
      omega
    · rintro ⟨hs, h1, _, h2⟩
      rw [List.length_eq_zero_iff.mp h1, e] at h2
      exact ⟨0, List.mem_singleton.mpr rfl, .inl (by omega)⟩
  | j + 1, m => by
    show m ∈ further (dl rs (j + 1)) (rs.getD (j + 1) 0) ↔ _
    rw [mem_further]
    constructor
    · rintro ⟨d, hd, h⟩
      obtain ⟨hs, h1, h2, h3⟩ := (mem_dl rs j d).mp hd
      have key : ∀ t : Int, (t = 1 ∨ t = -1) → (placeAt rs hs (j + 1) + t * ((rs.getD (j + 1) 0 : Nat) : Int)).natAbs = m → ∃ hs, hs.length = j + 1 ∧ (∀ x ∈ hs, x ≤ 1) ∧ (placeAt rs hs (j + 1 + 1)).natAbs = m := fun t ht e => by
        obtain ⟨x, hx, hd⟩ := dir_choose h1 ht
        refine ⟨hs ++ [x], by simp [h1], fun y hy => ?_, ?_⟩
        · rcases List.mem_append.mp hy with z | z
          · exact h2 y z
          · rw [List.mem_singleton.mp z]; exact hx
        · show (placeAt rs (hs ++ [x]) (j + 1) + dirAt (hs ++ [x]) (j + 1) * ((rs.getD (j + 1) 0 : Nat) : Int)).natAbs = m
          rw [hd, ← place_cut rs (hs ++ [x]) (j + 1), Nat.add_sub_cancel, List.take_append_of_le_length (by omega), ← h1, List.take_length, h1]
          exact e
      unfold gap at h
      by_cases hp : 0 ≤ placeAt rs hs (j + 1)
      · rcases h with h | h
        · exact key 1 (.inl rfl) (by omega)
        · exact key (-1) (.inr rfl) (by omega)
      · rcases h with h | h
        · exact key (-1) (.inr rfl) (by omega)
        · exact key 1 (.inl rfl) (by omega)
    · rintro ⟨hs, h1, h2, h3⟩
      have e : placeAt rs hs (j + 1 + 1) = placeAt rs hs (j + 1) + dirAt hs (j + 1) * ((rs.getD (j + 1) 0 : Nat) : Int) := rfl
      rw [e] at h3
      refine ⟨(placeAt rs hs (j + 1)).natAbs, (mem_dl rs j _).mpr ⟨hs.take j, by rw [List.length_take]; omega, fun x hx => h2 x (List.mem_of_mem_take hx), ?_⟩, ?_⟩
      · rw [show hs.take j = hs.take (j + 1 - 1) from rfl, place_cut]
      · unfold gap
        rcases dir_sq hs (j + 1) with d | d <;> rw [d] at h3 <;> omega
/-- the distances of the joints i and j, from the rods behind joint i -/
theorem dl_reach {rs : List Nat} {i b m : Nat} (h : i + b < rs.length) : m ∈ dl (rs.drop i) (b + 1) ↔ m ∈ reach rs (i, i + b + 1) := by
  rw [mem_dl]
  unfold reach ways
  dsimp only
  rw [show i + b + 1 - i = b + 1 by omega, List.mem_map, List.length_take, List.length_drop, show min (b + 1) (rs.length - i) = b + 1 by omega]
  have e : ∀ hs : List Nat, hs.length = b → ends ((rs.drop i).take (b + 1)) hs = (placeAt (rs.drop i) hs (b + 1)).natAbs := fun hs hl => by
    rw [ends_eq, List.length_take, List.length_drop, show min (b + 1) (rs.length - i) = b + 1 by omega]
    have := place_take (rs.drop i) hs (b + 1) b (by omega) (b + 1) (Nat.le_refl _)
    rw [← hl, List.take_length, hl] at this
    rw [this]
  constructor
  · rintro ⟨hs, h1, h2, h3⟩
    exact ⟨hs, mem_rows.mpr ⟨h1, h2⟩, (e hs h1).trans h3⟩
  · rintro ⟨hs, hh, h3⟩
    have ⟨h1, h2⟩ := mem_rows.mp hh
    have h1' : hs.length = b := h1
    exact ⟨hs, h1', h2, (e hs h1').symm.trans h3⟩
theorem can_dl {rs : List Nat} {m : Nat} : Can rs m ↔ ∃ i b, i + b < rs.length ∧ m ∈ dl (rs.drop i) (b + 1) := by
  constructor
  · rintro ⟨⟨i, j⟩, hp, h⟩
    have ⟨h1, h2⟩ := mem_pairs.mp hp
    refine ⟨i, j - i - 1, by omega, (dl_reach (by omega)).mpr ?_⟩
    rw [show i + (j - i - 1) + 1 = j by omega]
    exact h
  · rintro ⟨i, b, h1, h⟩
    exact ⟨(i, i + b + 1), mem_pairs.mpr ⟨by omega, by omega⟩, (dl_reach h1).mp h⟩
/-! ### the pairs in the order of the text -/
def rowOf (n i : Nat) : List (Nat × Nat) := (List.range (n - i)).map fun b => (i, i + b + 1)
theorem filterMap_none {α β : Type} {f : α → Option β} : ∀ {l : List α}, (∀ x ∈ l, f x = none) → l.filterMap f = []
  | [], _ => rfl
  | a :: l, h => by
    rw [List.filterMap_cons, h a List.mem_cons_self]
    exact filterMap_none fun x hx => h x (List.mem_cons_of_mem _ hx)
theorem filterMap_all {α β : Type} {f : α → Option β} {g : α → β} : ∀ {l : List α}, (∀ x ∈ l, f x = some (g x)) → l.filterMap f = l.map g
  | [], _ => rfl
  | a :: l, h => by
    rw [List.filterMap_cons, h a List.mem_cons_self, List.map_cons]
    show g a :: l.filterMap f = _
    rw [filterMap_all fun x hx => h x (List.mem_cons_of_mem _ hx)]
theorem row_eq {n i : Nat} (h : i ≤ n) : ((List.range (n + 1)).filterMap fun j => if i < j then some (i, j) else none) = rowOf n i := by
  rw [show n + 1 = (i + 1) + (n - i) by omega, List.range_add, List.filterMap_append, filterMap_none (fun x hx => ?_), List.nil_append, List.filterMap_map, filterMap_all (g := fun b => (i, i + b + 1)) (fun x hx => ?_)]
  · rfl
  · show (if i < i + 1 + x then some (i, i + 1 + x) else none) = some (i, i + x + 1)
    rw [if_pos (by omega), show i + 1 + x = i + x + 1 by omega]
  · rw [if_neg (by have := List.mem_range.mp hx; omega)]
theorem pairs_eq (n : Nat) : pairs (n + 1) = (List.range n).flatMap (rowOf n) := by
  unfold pairs
  rw [List.range_succ (n := n), List.flatMap_append]
  have e1 : ∀ i ∈ List.range n, ((List.range n ++ [n]).filterMap fun j => if i < j then some (i, j) else none) = rowOf n i := fun i hi => by
    rw [← List.range_succ]
    exact row_eq (by have := List.mem_range.mp hi; omega)
  have e2 : ([n].flatMap fun i => (List.range n ++ [n]).filterMap fun j => if i < j then some (i, j) else none) = [] := by
    show ((List.range n ++ [n]).filterMap fun j => if n < j then some (n, j) else none) ++ [] = []
    rw [← List.range_succ, row_eq (Nat.le_refl _)]
    show (List.range (n - n)).map _ ++ [] = []
    rw [Nat.sub_self]
    rfl
  rw [e2, List.append_nil]
  have cong : ∀ (l : List Nat) (f g : Nat → List (Nat × Nat)), (∀ i ∈ l, f i = g i) → l.flatMap f = l.flatMap g := fun l f g h => by
    induction l with
    | nil => rfl
    | cons a l ih => rw [List.flatMap_cons, List.flatMap_cons, h a List.mem_cons_self, ih fun i hi => h i (List.mem_cons_of_mem _ hi)]
  exact cong _ _ _ e1
def isAt (rs : List Nat) (m : Nat) (x : Nat × Nat) : Bool := decide (m ∈ dl (rs.drop x.1) (x.2 - x.1))
/-- the pairs that can be so far apart -/
theorem mark_eq (rs : List Nat) (m : Nat) : mark rs m = (List.range rs.length).flatMap fun i => (rowOf rs.length i).filter (isAt rs m) := by
  unfold mark
  have e : ∀ x ∈ pairs (rs.length + 1), (reach rs x).contains m = isAt rs m x := fun x hx => by
    obtain ⟨i, j⟩ := x
    have ⟨h1, h2⟩ := mem_pairs.mp hx
    have q := dl_reach (rs := rs) (i := i) (b := j - i - 1) (m := m) (by omega)
    rw [show i + (j - i - 1) + 1 = j by omega, show j - i - 1 + 1 = j - i by omega] at q
    unfold isAt
    show (reach rs (i, j)).contains m = decide (m ∈ dl (rs.drop i) (j - i))
    by_cases z : m ∈ reach rs (i, j)
    · rw [decide_eq_true (q.mpr z)]
      exact List.contains_iff_mem.mpr z
    · rw [decide_eq_false (fun y => z (q.mp y))]
      exact Bool.eq_false_iff.mpr fun y => z (List.contains_iff_mem.mp y)
  rw [List.filter_congr e, pairs_eq, List.filter_flatMap]
end FM

namespace FM
open Uw73
/-! ### the calls in one list -/
/-- a call as the list holds it -/
def enc : Uw73.Call → List Int
  | .rule l => 0 :: (l.length : Int) :: Uw73.ints l
  | .fold l => 1 :: (l.length : Int) :: Uw73.ints l
  | .turn i => [2, (i : Int)]
  | .lies => [3]
  | .shortest => [4]
  | .fits c => [5, (c : Int)]
  | .thinnest c => [6, (c : Int)]
  | .closed c => [7, (c : Int)]
  | .mark c => [8, (c : Int)]
  | .marks => [9]
  | .change c => [10, (c : Int)]
/-- whole numbers as the document hands them in -/
def Small (l : List Int) : Prop := ∀ x ∈ l, 0 ≤ x ∧ x ≤ 4294967295
theorem ints_toNat : ∀ {l : List Int}, Small l → Uw73.ints (l.map Int.toNat) = l
  | [], _ => rfl
  | x :: l, h => by
    show ((x.toNat : Nat) : Int) :: Uw73.ints (l.map Int.toNat) = x :: l
    rw [ints_toNat fun y hy => h y (List.mem_cons_of_mem _ hy)]
    have := (h x List.mem_cons_self).1
    congr 1
    omega
theorem small_nat {l : List Int} (h : Small l) : l.all Uw73Neutral.nat = true := by
  rw [List.all_eq_true]
  intro x hx
  have := h x hx
  unfold Uw73Neutral.nat
  rw [Bool.and_eq_true]
  exact ⟨decide_eq_true this.1, decide_eq_true (by omega)⟩
theorem callOf_is {l : List Int} (h : Small l) : Uw73Neutral.callOf l = Uw73Neutral.callIn (l.map Int.toNat) := by
  unfold Uw73Neutral.callOf
  rw [small_nat h, if_neg (by decide)]
theorem step_is {l : List Int} {c : Uw73.Call} (h : Small l) (e : Uw73Neutral.callIn (l.map Int.toNat) = some c) (s : St) : Uw73Neutral.step s l = Uw73.step s c := by
  unfold Uw73Neutral.step
  rw [callOf_is h, e]
  rfl
abbrev stp : St → List (List Int) → St × List Int := fun s c => Uw73Neutral.step s (c.headD [])
/-- what is due of the rest of a list, from a state on -/
structure Due (l : List Int) (s : St) (d : List Int) : Prop where
  small : Small l
  due : ∃ f cs, PyFlat.calls PyUw73.shape f l = some cs ∧ d = PyFlat.told (PyFlat.played stp s (cs.map PyUw73.whole))
theorem Due.nil {s : St} {d : List Int} (h : Due [] s d) : d = [] := by
  obtain ⟨f, cs, e, rfl⟩ := h.due
  have e1 : PyFlat.calls PyUw73.shape f [] = some [] := by cases f <;> rfl
  rw [e1] at e
  have e2 : [] = cs := Option.some.inj e
  subst e2
  rfl
theorem calls_cons {f : Nat} {p : Int} {r : List Int} {cs : List (List (List Int))} (h : PyFlat.calls PyUw73.shape f (p :: r) = some cs) :
    ∃ c t cs' f', PyFlat.call PyUw73.shape (p :: r) = some (c, t) ∧ PyFlat.calls PyUw73.shape f' t = some cs' ∧ cs = c :: cs' := by
  cases f with
  | zero => cases h
  | succ f =>
    unfold PyFlat.calls at h
    cases e : PyFlat.call PyUw73.shape (p :: r) with
    | none => rw [e] at h; cases h
    | some x =>
      obtain ⟨c, t⟩ := x
      rw [e] at h
      dsimp only at h
      cases e2 : PyFlat.calls PyUw73.shape f t with
      | none => rw [e2] at h; cases h
      | some cs' =>
        rw [e2] at h
        exact ⟨c, t, cs', f, rfl, e2, (Option.some.inj h).symm⟩
theorem row_cons {r x t : List Int} (h : PyFlat.row r = some (x, t)) : ∃ n r', r = n :: r' ∧ 0 ≤ n ∧ n.toNat ≤ r'.length ∧ x = r'.take n.toNat ∧ t = r'.drop n.toNat := by
  cases r with
  | nil => cases h
  | cons n r' =>
    unfold PyFlat.row at h
    dsimp only at h
    by_cases q : 0 ≤ n ∧ n.toNat ≤ r'.length
    · rw [if_pos q] at h
      have e := Option.some.inj h
      exact ⟨n, r', rfl, q.1, q.2, (congrArg Prod.fst e).symm, (congrArg Prod.snd e).symm⟩
    · rw [if_neg q] at h
      cases h
theorem rows1 {r t : List Int} {xs : List (List Int)} (h : PyFlat.rows 1 r = some (xs, t)) : ∃ n r', r = n :: r' ∧ 0 ≤ n ∧ n.toNat ≤ r'.length ∧ xs = [r'.take n.toNat] ∧ t = r'.drop n.toNat := by
  unfold PyFlat.rows at h
  cases e : PyFlat.row r with
  | none => rw [e] at h; cases h
  | some y =>
    obtain ⟨x, s⟩ := y
    rw [e] at h
    dsimp only [PyFlat.rows] at h
    have e2 := Option.some.inj h
    obtain ⟨n, r', h1, h2, h3, h4, h5⟩ := row_cons e
    refine ⟨n, r', h1, h2, h3, ?_, ?_⟩
    · rw [← (Prod.mk.inj e2).1, h4]
    · rw [← (Prod.mk.inj e2).2, h5]
/-- THE FIRST CALL of a list, and what is due of it and of the rest -/
theorem call_row {p : Int} {r t : List Int} {c : List (List Int)} (hp : PyUw73.shape p = some (0, 1)) (h : PyFlat.call PyUw73.shape (p :: r) = some (c, t)) : ∃ n r', r = n :: r' ∧ 0 ≤ n ∧ n.toNat ≤ r'.length ∧ c = [[p], r'.take n.toNat] ∧ t = r'.drop n.toNat := by
  unfold PyFlat.call at h
  dsimp only at h
  rw [hp] at h
  dsimp only at h
  rw [if_neg (by omega)] at h
  cases e : PyFlat.rows 1 (r.drop 0) with
  | none => rw [e] at h; cases h
  | some y =>
    obtain ⟨xs, s⟩ := y
    rw [e] at h
    have e2 := Option.some.inj h
    obtain ⟨n, r', h1, h2, h3, h4, h5⟩ := rows1 (show PyFlat.rows 1 r = some (xs, s) from e)
    refine ⟨n, r', h1, h2, h3, ?_, ?_⟩
    · rw [← (Prod.mk.inj e2).1, h4]
      rfl
    · rw [← (Prod.mk.inj e2).2, h5]
theorem call_num {p : Int} {r t : List Int} {c : List (List Int)} (hp : PyUw73.shape p = some (1, 0)) (h : PyFlat.call PyUw73.shape (p :: r) = some (c, t)) : ∃ x, r = x :: t ∧ c = [[p, x]] := by
  unfold PyFlat.call at h
  dsimp only at h
  rw [hp] at h
  dsimp only at h
  cases r with
  | nil => rw [if_pos (by decide)] at h; cases h
  | cons x r =>
    rw [if_neg (by simp)] at h
    have e2 := Option.some.inj h
    refine ⟨x, ?_, ?_⟩
    · rw [← (Prod.mk.inj e2).2]
      rfl
    · rw [← (Prod.mk.inj e2).1]
      rfl
theorem call_bare {p : Int} {r t : List Int} {c : List (List Int)} (hp : PyUw73.shape p = some (0, 0)) (h : PyFlat.call PyUw73.shape (p :: r) = some (c, t)) : r = t ∧ c = [[p]] := by
  unfold PyFlat.call at h
  dsimp only at h
  rw [hp] at h
  dsimp only at h
  rw [if_neg (by omega)] at h
  have e2 := Option.some.inj h
  refine ⟨?_, ?_⟩
  · rw [← (Prod.mk.inj e2).2]
    rfl
  · rw [← (Prod.mk.inj e2).1]
    rfl
theorem told_cons (a : List Int) (l : List (List Int)) : PyFlat.told (a :: l) = (a.length : Int) :: (a ++ PyFlat.told l) := rfl
theorem small_take {l : List Int} (h : Small l) (n : Nat) : Small (l.take n) := fun x hx => h x (List.mem_of_mem_take hx)
theorem small_drop {l : List Int} (h : Small l) (n : Nat) : Small (l.drop n) := fun x hx => h x (List.mem_of_mem_drop hx)
theorem small_tail {p : Int} {l : List Int} (h : Small (p :: l)) : Small l := fun x hx => h x (List.mem_cons_of_mem _ hx)
theorem small_nil : Small [] := fun _ h => nomatch h
theorem small_cons {p : Int} {l : List Int} (h0 : 0 ≤ p) (h1 : p ≤ 4294967295) (h : Small l) : Small (p :: l) := fun x hx => by
  rcases List.mem_cons.mp hx with rfl | hx
  · exact ⟨h0, h1⟩
  · exact h x hx
/-- a list's first call, what is due of it and of the rest -/
def Goes (l : List Int) (s : St) (d : List Int) : Prop := ∃ a t d', l = enc a ++ t ∧ d = ((Uw73.step s a).2.length : Int) :: ((Uw73.step s a).2 ++ d') ∧ Due t (Uw73.step s a).1 d'
theorem due_of {p : Int} {r : List Int} {s : St} {d : List Int} {c : List (List Int)} {t : List Int} {cs' : List (List (List Int))} {f' : Nat} {a : Uw73.Call} (hs : Small (p :: r)) (h2 : PyFlat.calls PyUw73.shape f' t = some cs')
    (hd : d = PyFlat.told (PyFlat.played stp s ((c :: cs').map PyUw73.whole))) (e : ∀ s, stp s (PyUw73.whole c) = Uw73.step s a) (he : p :: r = enc a ++ t) :
    Goes (p :: r) s d := by
  refine ⟨a, t, _, he, ?_, ⟨fun x hx => hs x (by rw [he]; exact List.mem_append_right _ hx), f', cs', h2, rfl⟩⟩
  rw [hd, List.map_cons]
  show PyFlat.told ((stp s (PyUw73.whole c)).2 :: PyFlat.played stp (stp s (PyUw73.whole c)).1 (cs'.map PyUw73.whole)) = _
  rw [told_cons, e]
theorem due_cons {p : Int} {r : List Int} {s : St} {d : List Int} (h : Due (p :: r) s d) : Goes (p :: r) s d := by
  obtain ⟨f, cs, hc, hd⟩ := h.due
  obtain ⟨c, t, cs', f', h1, h2, rfl⟩ := calls_cons hc
  have hs := h.small
  have rowcase : ∀ (a : List Nat → Uw73.Call), PyUw73.shape p = some (0, 1) → 0 ≤ p → p ≤ 1 → (∀ l, enc (a l) = p :: (l.length : Int) :: Uw73.ints l) → (∀ x, PyUw73.whole [[p], x] = [[p] ++ x]) → (∀ l : List Nat, Uw73Neutral.callIn (p.toNat :: l) = some (a l)) → Goes (p :: r) s d := fun a hp h0 h1' hE hW hI => by
    obtain ⟨n, r', rfl, h3, h4, rfl, rfl⟩ := call_row hp h1
    have hs2 := small_tail (small_tail hs)
    have hs3 := small_take hs2 n.toNat
    refine due_of (a := a ((r'.take n.toNat).map Int.toNat)) hs h2 hd (fun s => ?_) ?_
    · rw [hW]
      exact step_is (small_cons h0 (by omega) hs3) (by rw [List.map_cons]; exact hI _) s
    · rw [hE, ints_toNat hs3, List.length_map, List.length_take]
      show p :: n :: r' = p :: ((min n.toNat r'.length : Nat) : Int) :: (r'.take n.toNat ++ r'.drop n.toNat)
      rw [List.take_append_drop, show ((min n.toNat r'.length : Nat) : Int) = n by omega]
  have numcase : ∀ (a : Nat → Uw73.Call), PyUw73.shape p = some (1, 0) → 0 ≤ p → p ≤ 10 → (∀ n : Nat, enc (a n) = [p, (n : Int)]) → (∀ x, PyUw73.whole [[p, x]] = [[p] ++ [x]]) → (∀ n : Nat, Uw73Neutral.callIn [p.toNat, n] = some (a n)) → Goes (p :: r) s d := fun a hp h0 h1' hE hW hI => by
    obtain ⟨x, rfl, rfl⟩ := call_num hp h1
    have hx := hs x (List.mem_cons_of_mem _ List.mem_cons_self)
    refine due_of (a := a x.toNat) hs h2 hd (fun s => ?_) ?_
    · rw [hW]
      exact step_is (l := [p, x]) (small_cons h0 (by omega) (small_cons hx.1 hx.2 small_nil)) (hI _) s
    · rw [hE, show ((x.toNat : Nat) : Int) = x by omega]
      rfl
  have barecase : ∀ (a : Uw73.Call), PyUw73.shape p = some (0, 0) → 0 ≤ p → p ≤ 10 → enc a = [p] → PyUw73.whole [[p]] = [[p]] → Uw73Neutral.callIn [p.toNat] = some a → Goes (p :: r) s d := fun a hp h0 h1' hE hW hI => by
    obtain ⟨rfl, rfl⟩ := call_bare hp h1
    refine due_of (a := a) hs h2 hd (fun s => ?_) ?_
    · rw [hW]
      exact step_is (l := [p]) (small_cons h0 (by omega) small_nil) hI s
    · rw [hE]
      rfl
  have hsh : ∃ x, PyUw73.shape p = some x := by
    unfold PyFlat.call at h1
    dsimp only at h1
    cases e : PyUw73.shape p with
    | none => rw [e] at h1; cases h1
    | some x => exact ⟨x, rfl⟩
  have hcase : p = 0 ∨ p = 1 ∨ p = 2 ∨ p = 3 ∨ p = 4 ∨ p = 5 ∨ p = 6 ∨ p = 7 ∨ p = 8 ∨ p = 9 ∨ p = 10 := by
    obtain ⟨x, e⟩ := hsh
    unfold PyUw73.shape at e
    refine Classical.byContradiction fun q => ?_
    rw [if_neg (by omega), if_neg (by omega), if_neg (by omega), if_neg (by omega), if_neg (by omega), if_neg (by omega), if_neg (by omega), if_neg (by omega), if_neg (by omega), if_neg (by omega), if_neg (by omega)] at e
    cases e
  rcases hcase with rfl | rfl | rfl | rfl | rfl | rfl | rfl | rfl | rfl | rfl | rfl
  · exact rowcase .rule rfl (by omega) (by omega) (fun _ => rfl) (fun _ => rfl) (fun _ => rfl)
  · exact rowcase .fold rfl (by omega) (by omega) (fun _ => rfl) (fun _ => rfl) (fun _ => rfl)
  · exact numcase .turn rfl (by omega) (by omega) (fun _ => rfl) (fun _ => rfl) (fun _ => rfl)
  · exact barecase .lies rfl (by omega) (by omega) rfl rfl rfl
  · exact barecase .shortest rfl (by omega) (by omega) rfl rfl rfl
  · exact numcase .fits rfl (by omega) (by omega) (fun _ => rfl) (fun _ => rfl) (fun _ => rfl)
  · exact numcase .thinnest rfl (by omega) (by omega) (fun _ => rfl) (fun _ => rfl) (fun _ => rfl)
  · exact numcase .closed rfl (by omega) (by omega) (fun _ => rfl) (fun _ => rfl) (fun _ => rfl)
  · exact numcase .mark rfl (by omega) (by omega) (fun _ => rfl) (fun _ => rfl) (fun _ => rfl)
  · exact barecase .marks rfl (by omega) (by omega) rfl rfl rfl
  · exact numcase .change rfl (by omega) (by omega) (fun _ => rfl) (fun _ => rfl) (fun _ => rfl)
/-- what is asked of a list: its answers are due from the beginning -/
theorem due_start {l : List Int} (hs : Small l) (h : PyUw73.answers_asked l = true) : Due l Uw73.init (PyUw73.answers l) ∧ (PyUw73.answers l).length ≤ 10000000 := by
  unfold PyUw73.answers_asked at h
  cases e : PyFlat.calls PyUw73.shape l.length l with
  | none => rw [e] at h; cases h
  | some raw =>
    rw [e] at h
    dsimp only at h
    rw [Bool.and_eq_true] at h
    refine ⟨⟨hs, l.length, raw, e, ?_⟩, of_decide_eq_true h.2⟩
    unfold PyUw73.answers PyUw73.calls
    rw [e]
    rfl
end FM

set_option Elab.async false
set_option linter.all false
set_option maxRecDepth 100000
set_option maxHeartbeats 2000000
namespace L2
open PySem PySem.Spec PyProof.Rows
/-! ### zip in a for -/
theorem for_zip {K : PySem.W.Frag} {a b : Addr} {xs ys : List V} {g : TG} {tb : TS} {D : Ends} {σ : St} {H : Hp} (Pv : Nat → St → Hp → Prop) (h0 : Pv 0 σ H)
    (hl : ∀ i σ H, i ≤ min xs.length ys.length → Pv i σ H → SqL K H a xs ∧ SqL K H b ys)
    (hs : ∀ i x y T σ H, xs[i]? = some x → ys[i]? = some y → H T = none → Pv i σ H → g (.ref T) σ (upd H T (.tup [x, y])) fun σ2 H2 => tb { D with nx := Pv (i + 1), ct := Pv (i + 1), bk := D.nx } σ2 H2)
    (hd : ∀ σ H, Pv (min xs.length ys.length) σ H → D.nx σ H) :
    ∃ W : Nat → Nat → St → Hp → Prop, (∃ m, W 0 m σ H) ∧ ∀ i m σ H, W i m σ H →
      ((Itz K a b).stop i H ∧ D.nx σ H) ∨ ((Itz K a b).go i H ∧ ∃ N : St → Hp → Prop, (∀ σ' H', N σ' H' → ∃ m', m' < m ∧ W (i + 1) m' σ' H') ∧ ∀ x H', (Itz K a b).yld i H x H' → g x σ H' fun σ2 H2 => tb { D with nx := N, ct := N, bk := D.nx } σ2 H2) := by
  refine ⟨fun i m σ H => m = min xs.length ys.length - i ∧ i ≤ min xs.length ys.length ∧ Pv i σ H, ⟨_, rfl, Nat.zero_le _, h0⟩, ?_⟩
  rintro i m σ H ⟨rfl, hi, p⟩
  obtain ⟨q1, q2⟩ := hl i σ H hi p
  by_cases hlt : i < min xs.length ys.length
  · have h1 : i < xs.length := by omega
    have h2 : i < ys.length := by omega
    refine .inr ⟨⟨xs, ys, xs[i], ys[i], q1, q2, by simp [h1], by simp [h2]⟩, Pv (i + 1), fun σ' H' p' => ⟨min xs.length ys.length - (i + 1), by omega, rfl, hlt, p'⟩, fun v H' y => ?_⟩
    obtain ⟨T, x, y, rfl, hT, rfl, e1, e2⟩ := y
    exact hs i x y T σ H (e1 xs q1) (e2 ys q2) hT p
  · have e : i = min xs.length ys.length := by omega
    subst e
    exact .inl ⟨⟨xs, ys, q1, q2, by omega⟩, hd σ H p⟩
/-! ### xs.count(k) -/
section
variable {X : Cx}
def rCount (K : PySem.W.Frag) : V → List V → Hp → VK → Prop := fun x xs H Q => ∃ (a : Addr) (ns : List Int) (k : Int), x = V.ref a ∧ xs = [V.int k] ∧ SqL K H a (ns.map V.int) ∧ Q (.int (ns.count k : Nat)) H
theorem mt_lcount : MtR X "list.count" (rCount X.K) := by
  intro pins s σ H x xs v us Q I rx rxs h
  obtain ⟨a, ns, k, rfl, rfl, hs, q⟩ := h
  cases rx
  obtain ⟨u, rfl, ru⟩ := Vals.one rxs
  obtain ⟨t, rfl⟩ := ru
  obtain ⟨its, rv, hl, _⟩ := I.list hs
  exact count_list_ints hl.isList rv.ints ⟨.int _, H, I.tok _, ⟨_, rfl⟩, q⟩
end
/-- a comprehension without a test -/
theorem tyes {T N : Hp → Prop} {σ : St} {H : Hp} (h : T H) : tYes σ H (fun b H3 => if b = true then T H3 else N H3) := by
  show (if true = true then T H else N H)
  rw [if_pos rfl]
  exact h
/-! ### what stays -/
/-- all that was tracked, but what stands at l, is as it was -/
def Keep (l : Addr) (H H' : Hp) : Prop := ∀ b o, H b = some o → b ≠ l → H' b = some o
theorem Keep.refl {l : Addr} {H : Hp} : Keep l H H := fun _ _ h _ => h
theorem Keep.trans {l : Addr} {H H1 H2 : Hp} (a : Keep l H H1) (b : Keep l H1 H2) : Keep l H H2 := fun c o h n => b c o (a c o h n) n
theorem Same.keep {l : Addr} {H H' : Hp} (h : Same H H') : Keep l H H' := fun b o e _ => h b o e
theorem Same.new {H : Hp} {p : Addr} {o : HO} (h : H p = none) : Same H (upd H p o) := fun b u e => by
  rw [upd_ne (ne_of_none e h)]
  exact e
theorem Keep.put {l : Addr} {H : Hp} {o : HO} : Keep l H (upd H l o) := fun b u e n => by
  rw [upd_ne n]
  exact e
/-- what is new there was not tracked before -/
theorem Same.of_keep {l : Addr} {H0 H H' : Hp} (s : Same H0 H) (h : H0 l = none) (k : Keep l H H') : Same H0 H' := fun b o e => k b o (s b o e) (ne_of_none e h)
theorem Same.put {l : Addr} {H0 H : Hp} {o : HO} (s : Same H0 H) (h : H0 l = none) : Same H0 (upd H l o) := s.of_keep h .put
theorem Same.seqT {K : PySem.W.Frag} {H H' : Hp} {a : Addr} {xs : List V} (e : Same H H') (h : SqT K H a xs) : SqT K H' a xs := by
  rcases h with (h | ⟨o, h⟩) | h
  · exact .inl (.inl (e _ _ h))
  · exact .inl (.inr ⟨o, e _ _ h⟩)
  · exact .inr h
theorem ne_lst_ins {H : Hp} {a x C dx : Addr} {xs : List V} {fs : List (Str × V)} (h1 : H a = some (.lst xs)) (h2 : H x = some (.ins C dx fs)) : a ≠ x := ne_of h1 h2 (by intro z; cases z)
end L2
namespace Fr
open PySem PySem.Spec PyProof.Rows L2
open Uw73 (rows joints over thick low high)
open FM
/-! ### lists of whole numbers as values -/
abbrev iv (l : List Int) : List V := l.map V.int
abbrev nv (l : List Nat) : List V := iv (Uw73.ints l)
theorem iv_len (l : List Int) : (iv l).length = l.length := List.length_map ..
theorem ints_len (l : List Nat) : (Uw73.ints l).length = l.length := List.length_map ..
theorem nv_len (l : List Nat) : (nv l).length = l.length := by rw [iv_len, ints_len]
theorem iv_get {l : List Int} {i : Nat} {x : V} (h : (iv l)[i]? = some x) : ∃ z, l[i]? = some z ∧ x = V.int z := by
  rw [List.getElem?_map] at h
  cases e : l[i]? with
  | none => rw [e] at h; cases h
  | some z => rw [e] at h; exact ⟨z, rfl, (Option.some.inj h).symm⟩
theorem iv_at {l : List Int} {i : Nat} {z : Int} (h : l[i]? = some z) : (iv l)[i]? = some (V.int z) := by
  rw [List.getElem?_map, h]
  rfl
theorem ints_get {l : List Nat} {i : Nat} {z : Int} (h : (Uw73.ints l)[i]? = some z) : ∃ n : Nat, l[i]? = some n ∧ z = (n : Int) := by
  unfold Uw73.ints at h
  rw [List.getElem?_map] at h
  cases e : l[i]? with
  | none => rw [e] at h; cases h
  | some z => rw [e] at h; exact ⟨z, rfl, (Option.some.inj h).symm⟩
theorem nv_get {l : List Nat} {i : Nat} {x : V} (h : (nv l)[i]? = some x) : ∃ n : Nat, l[i]? = some n ∧ x = V.int (n : Int) := by
  obtain ⟨z, h1, rfl⟩ := iv_get h
  obtain ⟨n, h2, rfl⟩ := ints_get h1
  exact ⟨n, h2, rfl⟩
theorem nv_at {l : List Nat} {i : Nat} {n : Nat} (h : l[i]? = some n) : (nv l)[i]? = some (V.int (n : Int)) := by
  refine iv_at ?_
  unfold Uw73.ints
  rw [List.getElem?_map, h]
  rfl
theorem iv_snoc (l : List Int) (z : Int) : iv l ++ [V.int z] = iv (l ++ [z]) := by
  unfold iv
  rw [List.map_append]
  rfl
theorem nv_snoc (l : List Nat) (n : Nat) : nv l ++ [V.int (n : Int)] = nv (l ++ [n]) := by
  unfold nv Uw73.ints
  rw [iv_snoc, List.map_append]
  rfl
theorem iv_range (P : Nat → Int) (i : Nat) : iv ((List.range (i + 1)).map P) = iv ((List.range i).map P) ++ [V.int (P i)] := by
  rw [List.range_succ, List.map_append, iv_snoc]
  rfl
theorem take_snoc {α : Type} {l : List α} {i : Nat} {x : α} (h : l[i]? = some x) : l.take (i + 1) = l.take i ++ [x] := by
  rw [List.take_succ, h]
  rfl
theorem cut_from {l : List Int} {k : Nat} (h : k ≤ l.length) : cutV (iv l) (some (k : Int)) none = iv (l.drop k) := by
  unfold cutV
  rw [HT.sIx_nat, HT.sIx_none, iv_len, show min k l.length = k by omega]
  unfold iv
  rw [← List.map_drop, List.take_of_length_le (by rw [List.length_map, List.length_drop]; omega)]
theorem cut_mid {l : List Int} {i j : Nat} (h : i ≤ j) (hj : j ≤ l.length) : cutV (iv l) (some (i : Int)) (some (j : Int)) = iv ((l.drop i).take (j - i)) := by
  unfold cutV
  rw [HT.sIx_nat, HT.sIx_nat, iv_len, show min i l.length = i by omega, show min j l.length = j by omega]
  unfold iv
  rw [← List.map_drop, ← List.map_take]
/-! ### rows of whole numbers that stand in lists -/
/-- the addresses' lists hold these rows -/
inductive RowsAt (H : Hp) : List Addr → List (List Nat) → Prop
  | nil : RowsAt H [] []
  | cons {a : Addr} {as : List Addr} {w : List Nat} {ws : List (List Nat)} : H a = some (.lst (nv w)) → RowsAt H as ws → RowsAt H (a :: as) (w :: ws)
theorem RowsAt.len {H : Hp} {as : List Addr} {ws : List (List Nat)} (h : RowsAt H as ws) : as.length = ws.length := by
  induction h with
  | nil => rfl
  | cons _ _ ih => rw [List.length_cons, List.length_cons, ih]
theorem RowsAt.get {H : Hp} {as : List Addr} {ws : List (List Nat)} (h : RowsAt H as ws) : ∀ {i : Nat} {a : Addr}, as[i]? = some a → ∃ w, ws[i]? = some w ∧ H a = some (.lst (nv w)) := by
  induction h with
  | nil => intro i a e; simp at e
  | cons h1 _ ih =>
    intro i a e
    cases i with
    | zero => have e1 := Option.some.inj e; subst e1; exact ⟨_, rfl, h1⟩
    | succ i => exact ih (i := i) e
theorem RowsAt.same {H H' : Hp} {as : List Addr} {ws : List (List Nat)} (h : RowsAt H as ws) (s : Same H H') : RowsAt H' as ws := by
  induction h with
  | nil => exact .nil
  | cons h1 _ ih => exact .cons (s _ _ h1) ih
theorem RowsAt.keep {l : Addr} {H H' : Hp} {as : List Addr} {ws : List (List Nat)} (h : RowsAt H as ws) (k : Keep l H H') (hn : ∀ a ∈ as, a ≠ l) : RowsAt H' as ws := by
  induction h with
  | nil => exact .nil
  | cons h1 _ ih => exact .cons (k _ _ h1 (hn _ List.mem_cons_self)) (ih fun a ha => hn a (List.mem_cons_of_mem _ ha))
theorem RowsAt.snoc {H : Hp} {as : List Addr} {ws : List (List Nat)} {a : Addr} {w : List Nat} (h : RowsAt H as ws) (h1 : H a = some (.lst (nv w))) : RowsAt H (as ++ [a]) (ws ++ [w]) := by
  induction h with
  | nil => exact .cons h1 .nil
  | cons h2 _ ih => exact .cons h2 ih
/-- a list of such lists -/
def WaysAt (H : Hp) (p : Addr) (ws : List (List Nat)) : Prop := ∃ as : List Addr, H p = some (.lst (as.map V.ref)) ∧ RowsAt H as ws
theorem WaysAt.same {H H' : Hp} {p : Addr} {ws : List (List Nat)} (h : WaysAt H p ws) (s : Same H H') : WaysAt H' p ws := by
  obtain ⟨as, h1, h2⟩ := h
  exact ⟨as, s _ _ h1, h2.same s⟩
theorem ref_get {as : List Addr} {i : Nat} {x : V} (h : (as.map V.ref)[i]? = some x) : ∃ a, as[i]? = some a ∧ x = V.ref a := by
  rw [List.getElem?_map] at h
  cases e : as[i]? with
  | none => rw [e] at h; cases h
  | some z => rw [e] at h; exact ⟨z, rfl, (Option.some.inj h).symm⟩
end Fr

set_option Elab.async false
set_option linter.all false
set_option maxRecDepth 100000
set_option maxHeartbeats 2000000
namespace L2
open PySem PySem.Spec PyProof.Rows
/-! ### enumerate(xs, start=1): the call with its keyword -/
abbrev from1 (t : Tok) : List (Str × Value) := [("start", .int 1 t)]
theorem enum1_sig (a : Value) (t : Tok) : checkTypeCall "enumerate" ⟨[a], from1 t⟩ = pure () := by kernel_rfl
theorem enum1_new (a : Value) (t : Tok) : checkBuiltinCall "enumerate.__new__" ⟨[.type "enumerate", a], from1 t⟩ = pure () := by kernel_rfl
theorem enum1_ini (a b : Value) (t : Tok) : argsOk "object.__init__" ⟨[a, b], from1 t⟩ := by
  unfold argsOk
  rw [signature?_of (id := "object.__init__") (n := "__tini__".toList) (o := "tcejbo".toList) (by kernel_rfl) F.owner_object]
  kernel_rfl
/-- the list's iterator, and the counter that stands ahead of it -/
abbrev itOf (l : Addr) : Obj := { cls := .type "list_iterator", data := .fields #[.ref l, .int 0 0] }
abbrev ctOf (it : Addr) : Obj := { cls := .type "enumerate", data := .fields #[.none, .bool false, .ref it, rawInt 1, .none, .none] }
/-- what __new__ lays -/
theorem enum1_lays (l : Addr) (t : Tok) (xs : Array Value) (n : Nat) (dd : Option Addr) (sl : Array (Option Value)) :
    Meets (Builtin.«enumerate.__new__» ⟨[.type "enumerate", .ref l], from1 t⟩) (fun _ R u => u.heap.get? l = some { cls := .type "list", dict := dd, data := .seq xs n, slots := sl } ∧
      R (.ok (.ret (.ref (u.heap.push (itOf l)).objs.size))) { u with heap := (u.heap.push (itOf l)).push (ctOf u.heap.objs.size) }) :=
  Meets.of_wp fun P w A R u ⟨at_, goal⟩ => by
    obtain ⟨hp, gn, dr, tk, os⟩ := u
    have sub := sub_enumerate
    have isl : Heap.IsList hp l xs := ⟨_, at_, rfl, n, rfl⟩
    wp_walk using AutoSeq1.wpAny_loadPart' at_
    refine wpAny_stack_any (fun calls => wpAny_pure ?_)
    split
    · rename_i cls _ _ _ _ _
      cases (cls == .type "enumerate") <;> (wp_walk using AutoSeq1.wpAny_loadPart' at_, wpAny_pyIter_list isl; exact ⟨_, rfl, goal⟩)
    · wp_walk using AutoSeq1.wpAny_loadPart' at_, wpAny_pyIter_list isl
      exact ⟨_, rfl, goal⟩
/-- object.__init__ takes what __new__ took -/
theorem enum1_init (x a : Value) (t : Tok) : Meets (Builtin.«object.__init__» ⟨[x, a], from1 t⟩) (fun _ R u => u.TypeIs x "enumerate" ∧ R (.ok (.ret .none)) u) :=
  Meets.of_wp fun P w A R u ⟨ty, goal⟩ => by
    have lk := F.called_enumerate.init.lookup
    have md := F.called_enumerate.made
    have ne : (some "enumerate.__new__" != some "object.__new__") = true := by decide
    repeat any_goals first | wp_step | assumption
    exact ⟨_, rfl, goal⟩
section
variable {P : Program} {w : World} {A : Around} {E : Value → Shared → Prop} {u : Shared}
theorem enum1_call {l : Addr} {xs : Array Value} {t : Tok} {Q : Value → Shared → Prop} (isl : u.heap.IsList l xs)
    (fin : ∀ h, IsEnum h (u.heap.objs.size + 1) u.heap.objs.size 1 .none → h.IsListIter u.heap.objs.size l 0 → (∀ b o, u.heap.get? b = some o → h.get? b = some o) → Q (.ref (u.heap.objs.size + 1)) { u with heap := h }) :
    wpAny (model P w) A (call (.type "enumerate") [.ref l] (from1 t)) Q E u := by
  obtain ⟨⟨cl, dd, dt, sl⟩, at_, e1, n, e2⟩ := isl
  cases (show cl = .type "list" from e1)
  cases (show dt = .seq xs n from e2)
  -- where the two new objects stand
  have size1 : (u.heap.push (itOf l)).objs.size = u.heap.objs.size + 1 := Heap.size_push ..
  have ct : IsEnum ((u.heap.push (itOf l)).push (ctOf u.heap.objs.size)) (u.heap.objs.size + 1) u.heap.objs.size 1 .none := by
    rw [← size1]
    exact Heap.get?_push_size (u.heap.push (itOf l)) (o := ctOf u.heap.objs.size) rfl
  have it : ((u.heap.push (itOf l)).push (ctOf u.heap.objs.size)).IsListIter u.heap.objs.size l 0 := ⟨_, Heap.get?_push_of_some _ (Heap.get?_push_size _ rfl), rfl, rfl⟩
  have goal := fin _ ct it fun b o x => Heap.get?_push_of_some _ (Heap.get?_push_of_some _ x)
  have ty : ({ u with heap := (u.heap.push (itOf l)).push (ctOf u.heap.objs.size) } : Shared).TypeIs (.ref (u.heap.objs.size + 1)) "enumerate" := ⟨_, ct, rfl⟩
  -- type.__call__, __new__, __init__
  have K := F.called_enumerate
  have k1 := K.notType
  have k2 := K.canCreate
  have k3 := K.made
  have k4 := K.sub
  obtain ⟨m0, ms, k5⟩ := K.mro
  apply wpAny_call
  apply codeAny_of_tree
  show wpAny _ _ (callAny (.type "enumerate") _) _ _ u
  apply wpAny_pure
  refine ⟨Code.quiet_builtin _ (by decide +kernel), codeAny_builtin F.entry_type_call ?_⟩
  rw [Around.under_plain (weight_type_call_type "enumerate" [.ref l] (from1 t)) (units_type_call_type "enumerate" [.ref l] (from1 t))]
  have sg := enum1_sig (.ref l) t
  repeat any_goals first | wp_step | assumption
  have made := enum1_lays l t xs n dd sl P w A.in1 (wants (fun x v => x = .ref (u.heap.objs.size + 1) ∧ v = { u with heap := (u.heap.push (itOf l)).push (ctOf u.heap.objs.size) }) E) u ⟨at_, by rw [size1]; exact ⟨rfl, rfl⟩⟩
  refine codeAny_mono (codeAny_call_builtin K.plain F.entry_enumerate_new (wpAny_of_eq (enum1_new (.ref l) t) made)) ?_
  rintro (e | fl) v back
  · exact back
  · cases fl with
    | ret x =>
      obtain ⟨rfl, rfl⟩ := back
      have lk := K.init.lookup
      have bd := K.init.bind (.ref (u.heap.objs.size + 1))
      repeat any_goals first | wp_step | assumption
      have init := enum1_init (.ref (u.heap.objs.size + 1)) (.ref l) t P w A.in1 (wants (fun r z => r = .none ∧ Q (.ref (u.heap.objs.size + 1)) z) E) _ ⟨ty, rfl, goal⟩
      refine codeAny_mono (codeAny_call_builtin K.init.plain F.entry_object_init (K.init.check _ _ _ _ _ _ _ _ ty (enum1_ini _ _ t) init)) ?_
      rintro (e | fl) z back
      · exact back
      · cases fl with
        | ret r =>
          obtain ⟨rfl, q⟩ := back
          repeat any_goals first | wp_step | assumption
        | _ => exact False.elim back
    | _ => exact False.elim back
end
end L2

set_option Elab.async false
set_option linter.all false
set_option maxRecDepth 100000
set_option maxHeartbeats 2000000
namespace L2
open PySem PySem.Spec PyProof.Rows
/-- a list's items drawn from the turn 1 on -/
theorem draws1 {P : Program} {w : World} {A : Around} (nh : A.handled = none) (it l : Addr) (ne : l ≠ it) (xs : Array Value) :
    Draws P w A it [it, l] (xs.size + 1) (fun i v => xs[i - 1]? = some v) (fun i h => 1 ≤ i ∧ h.IsListIter it l (i - 1) ∧ h.IsList l xs) :=
  have D := Draws.list (prog := P) (w := w) nh it l ne xs
  { live := fun i h p => D.live (i - 1) h p.2
    frame := fun i h h' p keep => ⟨p.1, D.frame (i - 1) h h' p.2 keep⟩
    item := fun i u Q E lt p k => D.item (i - 1) u Q E (by have := p.1; omega) p.2 fun x h tk a b c => k x h tk a ⟨by omega, by rw [show i + 1 - 1 = i - 1 + 1 by have := p.1; omega]; exact b⟩ c
    done := fun u Q E p k => D.done u Q E p.2 k }
/-- enumerate(list, start=1) -/
def Ite1 (K : PySem.W.Frag) (a : Addr) : It :=
  ⟨fun i H => ∃ (xs : List V) (x : V), SqL K H a xs ∧ xs[i]? = some x, fun i H v H' => ∃ T x, v = .ref T ∧ H T = none ∧ H' = upd H T (.tup [.int ((i + 1 : Nat) : Int), x]) ∧ ∀ xs, SqL K H a xs → xs[i]? = some x, fun i H => ∃ xs : List V, SqL K H a xs ∧ xs.length ≤ i⟩
theorem turn_enum1 {P : Program} {w : World} {K : PySem.W.Frag} {elts : List Expr} {kk : Nat} {tpos : Pos} (a e it : Addr) (hae : a ≠ e) (hai : a ≠ it) :
    Turn P w K (.Tuple elts kk tpos) (Ite1 K a) [e, it] e (fun i h => (∃ old, IsEnum h e it ((i + 1 : Nat) : Int) old) ∧ h.IsListIter it a i ∧ e ≠ it) where
  mem := by simp
  obj := fun i h st b hb => by
    obtain ⟨⟨old, he⟩, ⟨o, ho, hc, hd⟩, _⟩ := st
    have e' : b = e ∨ b = it := by simpa using hb
    rcases e' with z | z
    · rw [z]; exact ⟨_, he, fun v q => nomatch q⟩
    · rw [z]; exact ⟨o, ho, fun v q => by rw [hd] at q; cases q⟩
  keep := fun i h h' st k => let ⟨⟨old, he⟩, hi, hne⟩ := st; ⟨⟨old, k e (by simp) _ he⟩, hi.at fun o q => k it (by simp) o q, hne⟩
  item := by
    intro X hP hw hK hc i pins s σ H E I hf st hg
    subst hP hw hK
    obtain ⟨⟨old, he⟩, hit, hne⟩ := st
    obtain ⟨xs, x, hq, hx⟩ := hg
    obtain ⟨its, rv, p, hz⟩ := I.list hq
    obtain ⟨u, hu, ru⟩ := rv.get hx
    have hel : e < s.heap.objs.size := Heap.lt_size he
    have hil : it < s.heap.objs.size := by obtain ⟨_, q, _⟩ := hit; exact Heap.lt_size q
    have hlt : i < its.length := (List.getElem?_eq_some_iff.mp hu).1
    refine wpAny_pyNext_enum_itemD (i := i + 1) (draws1 (A := X.A.in1) (show X.A.in1.handled = none from I.ok.hd hc) it a hai its.toArray) he ⟨by omega, hit, p.isList⟩ (by simp; omega) hne (by simp [hne, Ne.symm hae]) fun x' h' tk hPx ho hst hT hsz hk => ?_
    have exu : x' = u := by
      have : its.toArray[i]? = some x' := hPx
      rw [show its.toArray[i]? = some u by simpa using hu] at this
      exact (Option.some.inj this).symm
    subst exu
    have hit' : h'.IsListIter it a (i + 1) := hst.2.1
    refine ⟨_, rfl, wpAny_letOwnedTupleGo_enum (s := { s with heap := h', toks := tk + 1 }) ho fun h'' he' sb => ?_⟩
    have hT2 : h''.get? s.heap.objs.size = some { cls := .type "tuple", data := .seq #[.int ((i + 1 : Nat) : Int) tk, x'] } := (sb.2 _ (Nat.ne_of_gt hel)).trans hT
    have new : ObjOk X.prog X.w (upd H s.heap.objs.size (.tup [.int ((i + 1 : Nat) : Int), x])) h'' s.heap.objs.size (.tup [.int ((i + 1 : Nat) : Int), x]) :=
      ⟨by show 2 ≤ sizeLine; decide, [.int ((i + 1 : Nat) : Int) tk, x'], .cons ⟨_, rfl⟩ (.cons ru .nil), ⟨_, hT2, rfl, _, rfl⟩⟩
    have I1 : Inv X pins σ (upd H s.heap.objs.size (.tup [.int ((i + 1 : Nat) : Int), x])) { s with heap := h'', toks := tk + 1 } :=
      I.turnedNew (ch := [e, it]) (fun b ob hb q => (sb.2 b (fun z => hb (by simp [z]))).trans (hk b ob (fun z => hb (by simp [z])) (fun z => hb (by simp [z])) q)) hf (Nat.le_refl _) new
    refine ⟨.ref s.heap.objs.size, _, I1, rfl, ⟨_, x, rfl, I.hok.fresh (Nat.le_refl _), rfl, fun ys hy => by rw [I.list_inj hy hq]; exact hx⟩, ⟨⟨x', ?_⟩, hit'.at fun o q => (sb.2 it (Ne.symm hne)).trans q, hne⟩, fun b hb => ?_⟩
    · have e1 : ((i + 1 + 1 : Nat) : Int) = ((i + 1 : Nat) : Int) + 1 := by omega
      rw [e1]; exact he'
    · have hb' : b < s.heap.objs.size := by
        have e' : b = e ∨ b = it := by simpa using hb
        rcases e' with z | z
        · rw [z]; exact hel
        · rw [z]; exact hil
      rw [upd_ne (Nat.ne_of_lt hb')]
      exact (hf b hb).1
  done := by
    intro X hP hw hK hc i pins s σ H E I hf st hg
    subst hP hw hK
    obtain ⟨⟨old, he⟩, hit, hne⟩ := st
    obtain ⟨xs, hq, hx⟩ := hg
    obtain ⟨its, rv, p, hz⟩ := I.list hq
    obtain ⟨f0, f1, f2, f3, f4, f5⟩ := hf it (by simp)
    have hl := rv.length
    have past : its.toArray[i]? = none := by simp; omega
    have D : Draws X.prog X.w X.A.in1 it [it, a] i (fun _ _ => True) (fun j h => j = i ∧ h.IsListIter it a i ∧ h.IsList a its.toArray) :=
      { live := fun _ _ p => let ⟨o, ho, _⟩ := p.2.1; ⟨o, ho⟩
        frame := fun _ _ _ p keep => ⟨p.1, p.2.1.at fun o e => keep it (by simp) o e, p.2.2.at fun o e => keep a (by simp) o e⟩
        item := fun j u Q E lt p _ => absurd lt (by rw [p.1]; exact Nat.lt_irrefl _)
        done := fun u Q E p k => wpAny_nextOf_list_end (show X.A.in1.handled = none from I.ok.hd hc) p.2.1 p.2.2 past k }
    exact wpAny_pyNext_enum_endD D he ⟨rfl, hit, p.isList⟩ fun h' eb => ⟨rfl, I.turned (t' := s.toks) (fun b o hb q => eb b o hb q) f0 f1 f3 f4 f5⟩
  self := fun A i s Q E st h => let ⟨⟨_, he⟩, _⟩ := st; wpAny_pyIter_enum he h
end L2

set_option Elab.async false
set_option linter.all false
set_option maxRecDepth 100000
set_option maxHeartbeats 2000000
namespace L2
open PySem PySem.Spec PyProof.Rows
/-- a built-in class called with one argument and one keyword -/
theorem callTy_kw1 {M : Model} {A : Around} {E : Value → Shared → Prop} {u : Shared} {env : Env} {pos kpos : Pos} {T : String} {e ke : Expr} {nm : Str} {Q : Value → Shared → Prop}
    (he : starEach [e] env = [(false, eval e env)])
    (h : wpAny M A (spliced (backTo pos (starEach [e] env))) (fun vs u1 => wpAny M A (eval ke env) (fun k u2 => wpAny M A (call (.type T) vs [(nm, k)]) Q E u2) E u1) E u) :
    wpAny M A (callWith pos (.type T) [] (backTo pos (starEach [e] env)) (backToKw pos (keywordEach [⟨some nm, ke, kpos⟩] env))) Q E u := by
  have args : wpAny M A (evalArgs (.type T) true (backTo pos (starEach [e] env)) (backToKw pos (keywordEach [⟨some nm, ke, kpos⟩] env))) (fun a u2 => wpAny M A (call (.type T) a.pos a.kw) Q E u2) E u := by
    rw [he] at h ⊢
    refine evalArgs_kwB rfl (wpAny_mono h (fun vs u1 q => ?_) fun _ _ q => q)
    exact kws_cons (wpAny_mono q (fun k u2 q2 => kws_nil q2) fun _ _ q => q)
  have noStar : (backTo pos (starEach [e] env)).any (·.1) = false := by rw [he]; rfl
  have noMap : (backToKw pos (keywordEach [⟨some nm, ke, kpos⟩] env)).any (·.1.isNone) = false := rfl
  unfold callWith
  apply wpAny_bind
  apply wpAny_holding
  refine wpAny_mono args (fun a u2 q => ?_) fun _ _ q => q
  apply wpAny_bind
  apply wpAny_standAt
  simp only [noStar, noMap, Bool.or_false]
  apply wpAny_bind
  apply wpAny_pure
  apply wpAny_bind
  refine wpAny_mono q (fun r u3 q3 => ?_) fun _ _ q => q
  apply wpAny_bind
  apply wpAny_holding
  apply wpAny_point
  exact wpAny_pure q3
def iEnum1 (K : PySem.W.Frag) (ta : TA) : TI := fun σ H R => ta σ H fun vs H1 => ∃ a xs, vs = [.ref a] ∧ SqL K H1 a xs ∧ R (Ite1 K a) H1
theorem pi_enum1 {X : Cx} {e : Expr} {ta : TA} {p pos tpos kpos : Pos} {ke : Expr} {elts : List Expr} {kk : Nat} (hg : Gl X "enumerate") (hm : X.mg "enumerate" = none) (ha : PA X [e] ta) (hk : PE X ke (tC (.int 1)))
    (hs : starEach [e] X.env = [(false, eval e X.env)] := by rfl) :
    PI X (.Tuple elts kk tpos) (.Call (.Name "enumerate" p) [e] [⟨some "start", ke, kpos⟩] pos) (iEnum1 X.K ta) := by
  intro pins s σ H R I h
  refine wpAny_Call_Name_kw (ld_blt I hg hm boot_enumerate (callTy_kw1 hs (thn (ha pos pins s σ H _ I h) fun us s1 ⟨vs, H1, I1, r1, q1⟩ => ?_)))
  refine thn (hk pins s1 σ H1 (fun v H' => v = .int 1 ∧ H' = H1) I1 ⟨rfl, rfl⟩) fun u s2 ⟨x, H2, I2, rx, ex, eH⟩ => ?_
  subst ex eH
  obtain ⟨t, rfl⟩ := rx
  obtain ⟨a, xs, ex, hq, q⟩ := q1
  subst ex
  cases r1 with
  | cons r rr =>
    cases rr
    cases r
    obtain ⟨its, rv, p', hz⟩ := I2.list hq
    have hal : a < s2.heap.objs.size := by obtain ⟨o, ho, _⟩ := p'.isList; exact Heap.lt_size ho
    refine enum1_call p'.isList fun h' he hit hk => wpAny_pyIter_enum he ?_
    have I3 : Inv X pins σ H2 { s2 with heap := h' } := I2.kept (t' := s2.toks) hk
    refine ⟨s2.heap.objs.size + 1, [s2.heap.objs.size + 1, s2.heap.objs.size], _, _, H2, rfl, I3, turn_enum1 a (s2.heap.objs.size + 1) s2.heap.objs.size (Nat.ne_of_lt (Nat.lt_succ_of_lt hal)) (Nat.ne_of_lt hal), ⟨⟨.none, he⟩, hit, Nat.succ_ne_self _⟩, fun b hb => ?_, q⟩
    have e' : b = s2.heap.objs.size + 1 ∨ b = s2.heap.objs.size := by simpa using hb
    have hle : s2.heap.objs.size ≤ b := by
      rcases e' with z | z
      · rw [z]; exact Nat.le_add_right _ _
      · rw [z]; exact Nat.le_refl _
    exact I2.fpOk hle (I2.hok.fresh hle)
theorem for_enum1 {K : PySem.W.Frag} {a : Addr} {xs : List V} {g : TG} {tb : TS} {D : Ends} {σ : St} {H : Hp} (Pv : Nat → St → Hp → Prop) (h0 : Pv 0 σ H)
    (hl : ∀ i σ H, i ≤ xs.length → Pv i σ H → SqL K H a xs)
    (hs : ∀ i x T σ H, xs[i]? = some x → H T = none → Pv i σ H → g (.ref T) σ (upd H T (.tup [.int ((i + 1 : Nat) : Int), x])) fun σ2 H2 => tb { D with nx := Pv (i + 1), ct := Pv (i + 1), bk := D.nx } σ2 H2)
    (hd : ∀ σ H, Pv xs.length σ H → D.nx σ H) :
    ∃ W : Nat → Nat → St → Hp → Prop, (∃ m, W 0 m σ H) ∧ ∀ i m σ H, W i m σ H →
      ((Ite1 K a).stop i H ∧ D.nx σ H) ∨ ((Ite1 K a).go i H ∧ ∃ N : St → Hp → Prop, (∀ σ' H', N σ' H' → ∃ m', m' < m ∧ W (i + 1) m' σ' H') ∧ ∀ x H', (Ite1 K a).yld i H x H' → g x σ H' fun σ2 H2 => tb { D with nx := N, ct := N, bk := D.nx } σ2 H2) := by
  refine ⟨fun i m σ H => m = xs.length - i ∧ i ≤ xs.length ∧ Pv i σ H, ⟨_, rfl, Nat.zero_le _, h0⟩, ?_⟩
  rintro i m σ H ⟨rfl, hi, p⟩
  have q := hl i σ H hi p
  by_cases hlt : i < xs.length
  · refine .inr ⟨⟨xs, xs[i], q, by simp [hlt]⟩, Pv (i + 1), fun σ' H' p' => ⟨xs.length - (i + 1), by omega, rfl, hlt, p'⟩, fun v H' y => ?_⟩
    obtain ⟨T, x, rfl, hT, rfl, e1⟩ := y
    exact hs i x T σ H (e1 xs q) hT p
  · have e : i = xs.length := by omega
    subst e
    exact .inl ⟨⟨xs, q, Nat.le_refl _⟩, hd σ H p⟩
/-- the keys of a locked dict -/
theorem for_keys {d : Addr} {o : Obj} {kvs : List (Key × V)} {g : TG} {tb : TS} {D : Ends} {σ : St} {H : Hp} (Pv : Nat → St → Hp → Prop) (h0 : Pv 0 σ H)
    (hl : ∀ i σ H, i ≤ kvs.length → Pv i σ H → H d = some (.frz o (.dK kvs)))
    (hs : ∀ i k v σ H, kvs[i]? = some (k, v) → Pv i σ H → g (kV k) σ H fun σ2 H2 => tb { D with nx := Pv (i + 1), ct := Pv (i + 1), bk := D.nx } σ2 H2)
    (hd : ∀ σ H, Pv kvs.length σ H → D.nx σ H) :
    ∃ W : Nat → Nat → St → Hp → Prop, (∃ m, W 0 m σ H) ∧ ∀ i m σ H, W i m σ H →
      ((Itk d o kvs).stop i H ∧ D.nx σ H) ∨ ((Itk d o kvs).go i H ∧ ∃ N : St → Hp → Prop, (∀ σ' H', N σ' H' → ∃ m', m' < m ∧ W (i + 1) m' σ' H') ∧ ∀ x H', (Itk d o kvs).yld i H x H' → g x σ H' fun σ2 H2 => tb { D with nx := N, ct := N, bk := D.nx } σ2 H2) := by
  refine ⟨fun i m σ H => m = kvs.length - i ∧ i ≤ kvs.length ∧ Pv i σ H, ⟨_, rfl, Nat.zero_le _, h0⟩, ?_⟩
  rintro i m σ H ⟨rfl, hi, p⟩
  have q := hl i σ H hi p
  by_cases hlt : i < kvs.length
  · refine .inr ⟨⟨q, hlt⟩, Pv (i + 1), fun σ' H' p' => ⟨kvs.length - (i + 1), by omega, rfl, hlt, p'⟩, fun v H' y => ?_⟩
    obtain ⟨rfl, k, v, e1, rfl⟩ := y
    exact hs i k v σ _ e1 p
  · have e : i = kvs.length := by omega
    subst e
    exact .inl ⟨⟨q, Nat.le_refl _⟩, hd σ H p⟩
theorem lc_keys {d : Addr} {o : Obj} {kvs : List (Key × V)} {g : TG} {tt : TT} {te : TE} {vs : List Nat} {σ : St} {H1 : Hp} {D : Addr} {Qd : Hp → Prop} (Pv : Nat → Hp → Prop) (h0 : Pv 0 (upd H1 D (.lst []))) (hl : ∀ i H, i ≤ kvs.length → Pv i H → H d = some (.frz o (.dK kvs)))
    (hs : ∀ i k v H, kvs[i]? = some (k, v) → Pv i H → g (kV k) (wipe σ vs) H fun σ2 H2 => wipe σ2 vs = wipe σ vs ∧ tt σ2 H2 fun b H3 =>
      if b = true then te σ2 H3 fun y H4 => ∃ acc, H4 D = some (.lst acc) ∧ acc.length < sizeLine ∧ Pv (i + 1) (upd H4 D (.lst (acc ++ [y]))) else Pv (i + 1) H3) (hd : ∀ H, Pv kvs.length H → Qd H) :
    ∃ W : Nat → Nat → Hp → Prop, (∃ m, W 0 m (upd H1 D (.lst []))) ∧ ∀ i m H, W i m H →
      ((Itk d o kvs).stop i H ∧ Qd H) ∨ ((Itk d o kvs).go i H ∧ ∃ Nx : Hp → Prop, (∀ H', Nx H' → ∃ m', m' < m ∧ W (i + 1) m' H') ∧ ∀ x H', (Itk d o kvs).yld i H x H' → g x (wipe σ vs) H' fun σ2 H2 => wipe σ2 vs = wipe σ vs ∧ tt σ2 H2 fun b H3 =>
        if b = true then te σ2 H3 fun y H4 => ∃ acc, H4 D = some (.lst acc) ∧ acc.length < sizeLine ∧ Nx (upd H4 D (.lst (acc ++ [y]))) else Nx H3) := by
  refine ⟨fun i m H => m = kvs.length - i ∧ i ≤ kvs.length ∧ Pv i H, ⟨kvs.length, by simp, Nat.zero_le _, h0⟩, ?_⟩
  rintro i m H ⟨rfl, hi, p⟩
  have q := hl i H hi p
  by_cases hlt : i < kvs.length
  · refine .inr ⟨⟨q, hlt⟩, Pv (i + 1), fun H' p' => ⟨kvs.length - (i + 1), by omega, rfl, hlt, p'⟩, fun x H' y => ?_⟩
    obtain ⟨rfl, k, v, e1, rfl⟩ := y
    exact hs i k v _ e1 p
  · have e : i = kvs.length := by omega
    subst e
    exact .inl ⟨⟨q, Nat.le_refl _⟩, hd H p⟩
theorem lc_zip {K : PySem.W.Frag} {a b : Addr} {xs ys : List V} {g : TG} {tt : TT} {te : TE} {vs : List Nat} {σ : St} {H1 : Hp} {D : Addr} {Qd : Hp → Prop} (Pv : Nat → Hp → Prop) (h0 : Pv 0 (upd H1 D (.lst [])))
    (hl : ∀ i H, i ≤ min xs.length ys.length → Pv i H → SqL K H a xs ∧ SqL K H b ys)
    (hs : ∀ i x y T H, xs[i]? = some x → ys[i]? = some y → H T = none → Pv i H → g (.ref T) (wipe σ vs) (upd H T (.tup [x, y])) fun σ2 H2 => wipe σ2 vs = wipe σ vs ∧ tt σ2 H2 fun b H3 =>
      if b = true then te σ2 H3 fun y H4 => ∃ acc, H4 D = some (.lst acc) ∧ acc.length < sizeLine ∧ Pv (i + 1) (upd H4 D (.lst (acc ++ [y]))) else Pv (i + 1) H3) (hd : ∀ H, Pv (min xs.length ys.length) H → Qd H) :
    ∃ W : Nat → Nat → Hp → Prop, (∃ m, W 0 m (upd H1 D (.lst []))) ∧ ∀ i m H, W i m H →
      ((Itz K a b).stop i H ∧ Qd H) ∨ ((Itz K a b).go i H ∧ ∃ Nx : Hp → Prop, (∀ H', Nx H' → ∃ m', m' < m ∧ W (i + 1) m' H') ∧ ∀ x H', (Itz K a b).yld i H x H' → g x (wipe σ vs) H' fun σ2 H2 => wipe σ2 vs = wipe σ vs ∧ tt σ2 H2 fun b H3 =>
        if b = true then te σ2 H3 fun y H4 => ∃ acc, H4 D = some (.lst acc) ∧ acc.length < sizeLine ∧ Nx (upd H4 D (.lst (acc ++ [y]))) else Nx H3) := by
  refine ⟨fun i m H => m = min xs.length ys.length - i ∧ i ≤ min xs.length ys.length ∧ Pv i H, ⟨_, rfl, Nat.zero_le _, h0⟩, ?_⟩
  rintro i m H ⟨rfl, hi, p⟩
  obtain ⟨q1, q2⟩ := hl i H hi p
  by_cases hlt : i < min xs.length ys.length
  · have h1 : i < xs.length := by omega
    have h2 : i < ys.length := by omega
    refine .inr ⟨⟨xs, ys, xs[i], ys[i], q1, q2, by simp [h1], by simp [h2]⟩, Pv (i + 1), fun H' p' => ⟨min xs.length ys.length - (i + 1), by omega, rfl, hlt, p'⟩, fun v H' y => ?_⟩
    obtain ⟨T, x, y, rfl, hT, rfl, e1, e2⟩ := y
    exact hs i x y T H (e1 xs q1) (e2 ys q2) hT p
  · have e : i = min xs.length ys.length := by omega
    subst e
    exact .inl ⟨⟨xs, ys, q1, q2, by omega⟩, hd H p⟩
/-- d.update(e), two dicts with keys ints and texts -/
def rUpdate : V → List V → Hp → VK → Prop := fun x vs H Q => ∃ a b kvs more, x = .ref a ∧ vs = [.ref b] ∧ a ≠ b ∧ H a = some (.dK kvs) ∧ H b = some (.dK more) ∧ kvs.length + more.length ≤ sizeLine ∧ Q .non (upd H a (.dK (mergeK kvs more)))
theorem mt_update {X : Cx} : MtM X "dict.update" rUpdate := by
  intro pins s σ H x vs v us Q I rx rv h
  obtain ⟨a, b, kvs, more, rfl, rfl, hab, ha, hb, hz, q⟩ := h
  cases rx
  obtain ⟨u, rfl, ru⟩ := rv.one
  cases ru
  obtain ⟨z, hd, ws, rel, dd⟩ := dk_of I.hok ha
  obtain ⟨z2, hd2, ws2, rel2, dd2⟩ := dk_of I.hok hb
  refine call_meetsIn PySem.F.slot_dict_update dd.typeIs PySem.F.entry_dict_update (PySem.F.args_dict_update_2 _ _) (meets_dict_update (mixKind X.prog X.w) a b hab hd2)
    ⟨ws, ws2, dd, dd2, (by rw [← rel.length, ← rel2.length]; exact hz), fun h' d1 d2 sb => ?_⟩
  have he : ∃ q, h'.get? a = some q := let ⟨q, _, _, hq, _⟩ := d1; ⟨q, hq⟩
  exact ⟨.non, _, d_write (t' := s.toks) I (by rw [ha]; exact True.intro) sb he (dk_new (Nat.le_trans (length_mergeK more kvs) hz) hd (rel2.merge rel) d1), rfl, q⟩
end L2

set_option Elab.async false
set_option linter.all false
set_option maxRecDepth 100000
set_option maxHeartbeats 2000000
namespace Fr
open PySem PySem.Spec PyProof.Rows L2
open FM
/-! ### dicts whose keys are whole numbers, every value True -/
def dk (ks : List Nat) : List (Key × V) := ks.map fun (n : Nat) => ((Sum.inl (n : Int) : Key), V.bl true)
theorem dk_len (ks : List Nat) : (dk ks).length = ks.length := List.length_map ..
theorem dk_any (n : Nat) : ∀ ks : List Nat, ((dk ks).any fun kv => decide (kv.1 = (Sum.inl (n : Int) : Key))) = decide (n ∈ ks)
  | [] => rfl
  | a :: ks => by
    show (decide ((Sum.inl (a : Int) : Key) = Sum.inl (n : Int)) || ((dk ks).any fun kv => decide (kv.1 = (Sum.inl (n : Int) : Key)))) = _
    rw [dk_any n ks]
    by_cases e : a = n
    · subst e
      rw [decide_eq_true rfl, decide_eq_true List.mem_cons_self]
      rfl
    · rw [decide_eq_false (fun z => e (by have := Sum.inl.inj z; omega)), Bool.false_or]
      exact decide_eq_decide.mpr ⟨List.mem_cons_of_mem _, fun z => (List.mem_cons.mp z).elim (fun q => absurd q.symm e) id⟩
theorem dk_some (ks : List Nat) (n : Nat) : (valV (dk ks) (Sum.inl (n : Int))).isSome = decide (n ∈ ks) := by
  rw [← valV_any, dk_any]
theorem dk_put (ks : List Nat) (n : Nat) : putK (dk ks) (Sum.inl (n : Int)) (V.bl true) = dk (put ks n) := by
  unfold putK put
  rw [dk_any]
  by_cases h : n ∈ ks
  · rw [if_pos (decide_eq_true h), if_pos h]
    have : ∀ l : List Nat, ((dk l).map fun kv => if kv.1 = (Sum.inl (n : Int) : Key) then (kv.1, V.bl true) else kv) = dk l := fun l => by
      induction l with
      | nil => rfl
      | cons a l ih =>
        show (if (Sum.inl (a : Int) : Key) = Sum.inl (n : Int) then ((Sum.inl (a : Int) : Key), V.bl true) else ((Sum.inl (a : Int) : Key), V.bl true)) :: ((dk l).map fun kv => if kv.1 = (Sum.inl (n : Int) : Key) then (kv.1, V.bl true) else kv) = ((Sum.inl (a : Int) : Key), V.bl true) :: dk l
        rw [ih, ite_self]
    exact this ks
  · rw [if_neg (fun z => h (of_decide_eq_true z)), if_neg h]
    unfold dk
    rw [List.map_append]
    rfl
theorem dk_merge : ∀ (more ks : List Nat), mergeK (dk ks) (dk more) = dk (more.foldl put ks)
  | [], ks => rfl
  | a :: more, ks => by
    show mergeK (putK (dk ks) (Sum.inl (a : Int)) (V.bl true)) (dk more) = _
    rw [dk_put, dk_merge more]
    rfl
theorem dk_get {ks : List Nat} {i : Nat} {k : Key} {v : V} (h : (dk ks)[i]? = some (k, v)) : ∃ n, ks[i]? = some n ∧ k = Sum.inl (n : Int) := by
  unfold dk at h
  rw [List.getElem?_map] at h
  cases e : ks[i]? with
  | none => rw [e] at h; cases h
  | some z => rw [e] at h; exact ⟨z, rfl, (congrArg Prod.fst (Option.some.inj h)).symm⟩
theorem mem_puts : ∀ (more ks : List Nat) (m : Nat), m ∈ more.foldl put ks ↔ m ∈ ks ∨ m ∈ more
  | [], ks, m => by simp
  | a :: more, ks, m => by
    rw [List.foldl_cons, mem_puts more, mem_put, List.mem_cons]
    constructor
    · rintro ((h | h) | h)
      · exact .inl h
      · exact .inr (.inl h)
      · exact .inr (.inr h)
    · rintro (h | h | h)
      · exact .inl (.inl h)
      · exact .inl (.inr h)
      · exact .inr h
theorem nodup_puts : ∀ (more ks : List Nat), ks.Nodup → (more.foldl put ks).Nodup
  | [], ks, h => h
  | a :: more, ks, h => by rw [List.foldl_cons]; exact nodup_puts more _ (nodup_put h)
/-- the addresses' dicts have these keys -/
inductive DctAt (H : Hp) : List Addr → List (List Nat) → Prop
  | nil : DctAt H [] []
  | cons {a : Addr} {as : List Addr} {w : List Nat} {ws : List (List Nat)} : H a = some (.dK (dk w)) → DctAt H as ws → DctAt H (a :: as) (w :: ws)
theorem DctAt.len {H : Hp} {as : List Addr} {ws : List (List Nat)} (h : DctAt H as ws) : as.length = ws.length := by
  induction h with
  | nil => rfl
  | cons _ _ ih => rw [List.length_cons, List.length_cons, ih]
theorem DctAt.get {H : Hp} {as : List Addr} {ws : List (List Nat)} (h : DctAt H as ws) : ∀ {i : Nat} {a : Addr}, as[i]? = some a → ∃ w, ws[i]? = some w ∧ H a = some (.dK (dk w)) := by
  induction h with
  | nil => intro i a e; simp at e
  | cons h1 _ ih =>
    intro i a e
    cases i with
    | zero => have e1 := Option.some.inj e; subst e1; exact ⟨_, rfl, h1⟩
    | succ i => exact ih (i := i) e
theorem DctAt.same {H H' : Hp} {as : List Addr} {ws : List (List Nat)} (h : DctAt H as ws) (s : Same H H') : DctAt H' as ws := by
  induction h with
  | nil => exact .nil
  | cons h1 _ ih => exact .cons (s _ _ h1) ih
theorem DctAt.keep {l : Addr} {H H' : Hp} {as : List Addr} {ws : List (List Nat)} (h : DctAt H as ws) (k : Keep l H H') (hn : ∀ a ∈ as, a ≠ l) : DctAt H' as ws := by
  induction h with
  | nil => exact .nil
  | cons h1 _ ih => exact .cons (k _ _ h1 (hn _ List.mem_cons_self)) (ih fun a ha => hn a (List.mem_cons_of_mem _ ha))
theorem DctAt.snoc {H : Hp} {as : List Addr} {ws : List (List Nat)} {a : Addr} {w : List Nat} (h : DctAt H as ws) (h1 : H a = some (.dK (dk w))) : DctAt H (as ++ [a]) (ws ++ [w]) := by
  induction h with
  | nil => exact .cons h1 .nil
  | cons h2 _ ih => exact .cons h2 ih
/-- all the dicts but the one at l -/
theorem DctAt.ne {l : Addr} {o : HO} {H : Hp} {as : List Addr} {ws : List (List Nat)} (h : DctAt H as ws) (hl : H l = some o) (hn : ∀ kvs, o ≠ .dK kvs) : ∀ a ∈ as, a ≠ l := by
  induction h with
  | nil => exact fun _ h => nomatch h
  | cons h1 _ ih =>
    intro a ha
    rcases List.mem_cons.mp ha with rfl | ha
    · exact fun e => by rw [e, hl] at h1; exact hn _ (Option.some.inj h1)
    · exact ih a ha
end Fr

set_option Elab.async false
set_option linter.all false
set_option maxRecDepth 100000
set_option maxHeartbeats 2000000
namespace Fr
open PySem PySem.Spec PyProof.Rows L2
open Uw73 (rows joints over thick low high)
open FM
/-! ### the text by places -/
def top (i : Nat) : Stmt := PySem.Challenge.pw_foldingrule_s01_answers.main.body.getD i (.Pass ⟨0, 0, 0, 0⟩)
abbrev sJoint : Stmt := top 21
abbrev sSpread : Stmt := top 22
abbrev sRight : Stmt := top 23
abbrev sThick : Stmt := top 24
abbrev sWays : Stmt := top 25
/-- what the top has written -/
structure Bl (mg : Str → Option Value) : Prop where
  zip : mg "zip" = none
  max : mg "max" = none
  min : mg "min" = none
  len : mg "len" = none
  all : mg "all" = none
  sum : mg "sum" = none
  list : mg "list" = none
  range : mg "range" = none
  abs : mg "abs" = none
  enumerate : mg "enumerate" = none
section
variable {P : Program} {w : World} {K : PySem.W.Frag} {mg : Str → Option Value} {base : Heap}
/-! ### joint_places -/
def spJoint : Sp := fun vs H Q _ => ∃ (a b : Addr) (rs hs : List Nat), vs = [.ref a, .ref b] ∧ H a = some (.lst (nv rs)) ∧ H b = some (.lst (nv hs)) ∧ rs.length = hs.length + 1 ∧ rs.length ≤ 100 ∧
  ∀ (H' : Hp) (p : Addr), Same H H' → H p = none → H' p = some (.lst (iv (joints rs hs))) → Q (.ref p) H'
theorem dir_turn {hs : List Nat} {i : Nat} {h : Int} (e : ((0 : Int) :: Uw73.ints hs)[i]? = some h) : (if h = 1 then -(dirAt hs (i - 1)) else dirAt hs (i - 1)) = dirAt hs i := by
  cases i with
  | zero =>
    have e1 : (0 : Int) = h := Option.some.inj e
    subst e1
    rfl
  | succ j =>
    obtain ⟨n, h1, rfl⟩ := ints_get (show (Uw73.ints hs)[j]? = some h from e)
    show _ = (if hs.getD j 0 = 1 then -(dirAt hs j) else dirAt hs j)
    rw [List.getD_eq_getElem?_getD, h1]
    show (if ((n : Nat) : Int) = 1 then -(dirAt hs j) else dirAt hs j) = (if n = 1 then _ else _)
    by_cases q : n = 1
    · rw [if_pos q, if_pos (by omega)]
    · rw [if_neg q, if_neg (by omega)]
theorem scJoint : FnScope ["rods", "hinges", "places", "direction", "rod", "hinge"] ["rods", "hinges"] (defScope sJoint) := ⟨rfl, rfl, rfl, by decide +kernel, rfl, by decide +kernel, by decide +kernel⟩
theorem ok_joint {f : Addr} {fd : FuncData} (F : Fun K "joint_places" "joint_places" sJoint f fd) (T : Bl mg) : FnOk P w K mg base CX0 1 f fd ["rods", "hinges"] spJoint := by
  refine F.ok scJoint (fun vs H Q E h => ?_) (fun cdv A outer s H vs Q E hr h => ?_)
  · obtain ⟨a, b, rs, hs, rfl, _⟩ := h
    rfl
  · obtain ⟨a, b, rs, hs, rfl, ha, hb, hlen, hle, k⟩ := h
    have nd := scJoint.nd
    refine ⟨_, pss_cons (ps_set (i := 2) nd rfl (Or.inl rfl) (pe_lst (pa_cons pe_int pa_nil)))
      (pss_cons (ps_set (i := 3) nd rfl (Or.inl rfl) pe_int)
      (pss_cons (ps_for PassesOwn.never rfl (pi_zip rfl T.zip (pa_cons (pv 0) (pa_cons (pe_op op_cat (pe_lst (pa_cons pe_int pa_nil)) (pv 1)) pa_nil)))
        (pg_tup rfl (pgs_cons (pg_name (i := 4) nd rfl (Or.inl rfl)) (pgs_cons (pg_name (i := 5) nd rfl (Or.inl rfl)) pgs_nil)))
        (pss_cons (ps_if (pt_cmpR op_eq (pv 5) pe_int (nomark _)) (pss_one (ps_set (i := 3) nd rfl (Or.inl rfl) (pe_un un_neg (pv 3)))) pss_nil)
        (pss_one (ps_expr (pe_bm PySem.F.plainAttrs_list PySem.F.slot_list_append PySem.F.type_list_append mt_append (pv 2)
          (pa_cons (pe_op op_add (pe_ix ix_list (pv 2) (pe_un un_neg pe_int) (fun _ _ => rfl)) (pe_op op_mul (pv 3) (pv 4))) pa_nil))))))
      (pss_one (ps_ret (pv 2))))), ?_⟩
    refine ⟨(by show 1 ≤ sizeLine; decide), fun l hl => ?_⟩
    have s1 : Same H (upd H l (.lst [V.int 0])) := .new hl
    have hll : (upd H l (.lst [V.int 0])) l = some (.lst [V.int 0]) := upd_same
    generalize upd H l (.lst [V.int 0]) = H1 at s1 hll
    refine ⟨_, rfl, (by show 1 ≤ sizeLine; decide), fun z hz => ⟨_, rfl, z, b, [V.int 0], nv hs, rfl, rfl, upd_same, ?_, ?_, fun c hc => ?_⟩⟩
    · exact (Same.new hz) _ _ (s1 _ _ hb)
    · rw [nv_len]
      show 1 + hs.length ≤ sizeLine
      have : (200 : Nat) ≤ sizeLine := by decide
      omega
    have s2 : Same H1 (upd (upd H1 z (.lst [V.int 0])) c (.lst ([V.int 0] ++ nv hs))) := (Same.new hz).trans (.new hc)
    have hcc : (upd (upd H1 z (.lst [V.int 0])) c (.lst ([V.int 0] ++ nv hs))) c = some (.lst (iv ((0 : Int) :: Uw73.ints hs))) := upd_same
    have ncl : c ≠ l := (ne_of_none ((Same.new hz) _ _ hll) hc).symm
    generalize upd (upd H1 z (.lst [V.int 0])) c (.lst ([V.int 0] ++ nv hs)) = H2 at s2 hcc
    have ha2 := s2 _ _ (s1 _ _ ha)
    have nal : a ≠ l := ne_of_none ha hl
    have hmin : min (nv rs).length (iv ((0 : Int) :: Uw73.ints hs)).length = rs.length := by
      rw [nv_len, iv_len, List.length_cons, ints_len]
      omega
    refine ⟨a, c, nv rs, iv ((0 : Int) :: Uw73.ints hs), rfl, SqL.of ha2, SqL.of hcc, for_zip (K := K) (a := a) (b := c) (xs := nv rs) (ys := iv ((0 : Int) :: Uw73.ints hs))
      (fun i σ H' => ∃ v4 v5 : Option V, σ = [some (.ref a), some (.ref b), some (.ref l), some (.int (dirAt hs (i - 1))), v4, v5] ∧ Keep l H2 H' ∧ H' l = some (.lst (iv ((List.range (i + 1)).map (placeAt rs hs)))))
      ⟨none, none, rfl, .refl, s2 _ _ hll⟩ (fun i σ H' _ ⟨_, _, _, kp, _⟩ => ⟨SqL.of (kp _ _ ha2 nal), SqL.of (kp _ _ hcc ncl)⟩) ?_ ?_⟩
    · rintro i x y T' σ H' hx hy hT ⟨v4, v5, rfl, kp, hl'⟩
      obtain ⟨r, hr1, rfl⟩ := nv_get hx
      obtain ⟨h, hh, rfl⟩ := iv_get hy
      have hd := dir_turn hh
      have nTl : T' ≠ l := (ne_of_none hl' hT).symm
      have kp' : Keep l H2 (upd H' T' (.tup [V.int (r : Int), V.int h])) := kp.trans (Same.new hT).keep
      have hl2 : (upd H' T' (.tup [V.int (r : Int), V.int h])) l = some (.lst (iv ((List.range (i + 1)).map (placeAt rs hs)))) := by
        rw [upd_ne nTl.symm]
        exact hl'
      refine ⟨T', _, rfl, SqT.of upd_same, rfl, _, _, rfl, _, _, rfl, rfl, ?_⟩
      generalize upd H' T' (.tup [V.int (r : Int), V.int h]) = H3 at kp' hl2
      have hsm : i < rs.length := (List.getElem?_eq_some_iff.mp hr1).1
      have hpl : placeAt rs hs (i + 1) = placeAt rs hs i + dirAt hs i * (r : Int) := by
        show placeAt rs hs i + dirAt hs i * ((rs.getD i 0 : Nat) : Int) = _
        rw [List.getD_eq_getElem?_getD, hr1]
        rfl
      have hsz : (iv ((List.range (i + 1)).map (placeAt rs hs))).length < sizeLine := by
        rw [iv_len, List.length_map, List.length_range]
        exact small1000 (by omega)
      have hds : -(2 ^ 64) < dirAt hs i ∧ dirAt hs i < 2 ^ 64 := by
        rcases dir_sq hs i with q | q <;> rw [q] <;> decide
      have hat : atI (iv ((List.range (i + 1)).map (placeAt rs hs))) (-1) = some (V.int (placeAt rs hs i)) := by
        rw [iv_range]
        exact atI_last _ _
      have fin : ∀ d : Int, d = dirAt hs i → (∃ v4 v5 : Option V, [some (V.ref a), some (V.ref b), some (V.ref l), some (V.int d), some (V.int (r : Int)), some (V.int h)] = [some (V.ref a), some (V.ref b), some (V.ref l), some (V.int (dirAt hs (i + 1 - 1))), v4, v5] ∧
          Keep l H2 (upd H3 l (.lst (iv ((List.range (i + 1)).map (placeAt rs hs)) ++ [V.int (placeAt rs hs i + d * (r : Int))]))) ∧
          (upd H3 l (.lst (iv ((List.range (i + 1)).map (placeAt rs hs)) ++ [V.int (placeAt rs hs i + d * (r : Int))]))) l = some (.lst (iv ((List.range (i + 1 + 1)).map (placeAt rs hs))))) := fun d e =>
        ⟨some (V.int (r : Int)), some (V.int h), by rw [e]; rfl, kp'.trans .put, by rw [upd_same, iv_range _ (i + 1), hpl, e]⟩
      refine ⟨_, rfl, rfl, _, rfl, ite2 (fun q => ?_) (fun q => ?_)⟩
      · have q1 : h = 1 := by
          have := of_decide_eq_true q
          exact V.int.inj this
        rw [if_pos q1] at hd
        refine ⟨_, rfl, _, rfl, ?_⟩
        refine ⟨_, rfl, .inl ⟨rfl, _, SqL.of hl2⟩, _, rfl, _, rfl, l, _, _, _, rfl, rfl, SqL.of hl2, hat, _, rfl, _, rfl, _, _, rfl, rfl, .inl ?_, _, _, rfl, rfl, l, _, _, rfl, rfl, hl2, hsz, ?_⟩
        · rw [hd]; exact hds
        · exact fin _ hd
      · have q1 : ¬ h = 1 := fun e => q (by subst e; exact decide_eq_true rfl)
        rw [if_neg q1] at hd
        refine ⟨_, rfl, .inl ⟨rfl, _, SqL.of hl2⟩, _, rfl, _, rfl, l, _, _, _, rfl, rfl, SqL.of hl2, hat, _, rfl, _, rfl, _, _, rfl, rfl, .inl ?_, _, _, rfl, rfl, l, _, _, rfl, rfl, hl2, hsz, ?_⟩
        · rw [hd]; exact hds
        · exact fin _ hd
    · rintro σ H' ⟨v4, v5, rfl, kp, hl'⟩
      rw [hmin] at hl'
      rw [← joints_eq] at hl'
      refine ⟨_, rfl, ?_⟩
      exact k H' l (s1.trans s2 |>.of_keep hl kp) hl hl'
/-! ### spread -/
def spSpread : Sp := fun vs H Q _ => ∃ (a : Addr) (l : List Int), vs = [.ref a] ∧ H a = some (.lst (iv l)) ∧ 0 < l.length ∧ Q (.int (high l - low l)) H
theorem scSpread : FnScope ["places"] ["places"] (defScope sSpread) := ⟨rfl, rfl, rfl, by decide +kernel, rfl, by decide +kernel, by decide +kernel⟩
theorem ok_spread {f : Addr} {fd : FuncData} (F : Fun K "spread" "spread" sSpread f fd) (T : Bl mg) : FnOk P w K mg base CX0 1 f fd ["places"] spSpread := by
  refine F.ok scSpread (fun vs H Q E h => ?_) (fun cdv A outer s H vs Q E hr h => ?_)
  · obtain ⟨a, l, rfl, _⟩ := h
    rfl
  · obtain ⟨a, l, rfl, ha, hl, k⟩ := h
    refine ⟨_, pss_one (ps_ret (pe_op op_sub (pe_callB (cr_max rfl) (by rfl) T.max PyProof.Rows.boot_max (pa_cons (pv 0) pa_nil)) (pe_callB (cr_min rfl) (by rfl) T.min PyProof.Rows.boot_min (pa_cons (pv 0) pa_nil)))), ?_⟩
    refine ⟨_, rfl, a, l, rfl, SqL.of ha, hl, fun M hM1 hM2 => ⟨_, rfl, a, l, rfl, SqL.of ha, hl, fun m hm1 hm2 => ⟨_, _, rfl, rfl, ?_⟩⟩⟩
    rw [← high_is hM1 hM2, ← low_is hm1 hm2]
    exact k
end
end Fr

set_option Elab.async false
set_option linter.all false
set_option maxRecDepth 100000
set_option maxHeartbeats 2000000
namespace Fr
open PySem PySem.Spec PyProof.Rows L2
open Uw73 (rows joints over thick low high)
open FM
section
variable {P : Program} {w : World} {K : PySem.W.Frag} {mg : Str → Option Value} {base : Heap}
/-! ### rods_right_of -/
def lies1 (x : Int) (s : Int × Int) : Bool := decide (min s.1 s.2 ≤ x) && decide (x + 1 ≤ max s.1 s.2)
theorem over_eq (l : List Int) (x : Int) : over l x = ((l.zip (l.drop 1)).filter (lies1 x)).length := rfl
def spRight : Sp := fun vs H Q _ => ∃ (a : Addr) (l : List Int) (x : Int), vs = [.ref a, .int x] ∧ H a = some (.lst (iv l)) ∧ 0 < l.length ∧ ∀ H' : Hp, Same H H' → Q (.int ((over l x : Nat) : Int)) H'
theorem zip_get {l m : List Int} {i : Nat} {x y : Int} (h1 : l[i]? = some x) (h2 : m[i]? = some y) : (l.zip m)[i]? = some (x, y) := by
  rw [List.getElem?_zip_eq_some]
  exact ⟨h1, h2⟩
theorem scRight : FnScope ["places", "place", "count", "start", "end"] ["places", "place"] (defScope sRight) := ⟨rfl, rfl, rfl, by decide +kernel, rfl, by decide +kernel, by decide +kernel⟩
theorem ok_right {f : Addr} {fd : FuncData} (F : Fun K "rods_right_of" "rods_right_of" sRight f fd) (T : Bl mg) : FnOk P w K mg base CX0 1 f fd ["places", "place"] spRight := by
  refine F.ok scRight (fun vs H Q E h => ?_) (fun cdv A outer s H vs Q E hr h => ?_)
  · obtain ⟨a, l, x, rfl, _⟩ := h
    rfl
  · obtain ⟨a, l, p, rfl, ha, hlen, k⟩ := h
    have nd := scRight.nd
    refine ⟨_, pss_cons (ps_set (i := 2) nd rfl (Or.inl rfl) pe_int)
      (pss_cons (ps_for PassesOwn.never rfl (pi_zip rfl T.zip (pa_cons (pv 0) (pa_cons (pe_slice sl_list (pv 0) (po_some pe_int) po_none) pa_nil)))
        (pg_tup rfl (pgs_cons (pg_name (i := 3) nd rfl (Or.inl rfl)) (pgs_cons (pg_name (i := 4) nd rfl (Or.inl rfl)) pgs_nil)))
        (pss_one (ps_if (PW.pt (pw_and (pt_cmpR op_le (pe_callB (call_min2 rfl) (by rfl) T.min PyProof.Rows.boot_min (pa_cons (pv 3) (pa_cons (pv 4) pa_nil))) (pv 1) (nomark _))
            (pw_and1 (pt_cmpR op_lt (pv 1) (pe_callB (call_max2 rfl) (by rfl) T.max PyProof.Rows.boot_max (pa_cons (pv 3) (pa_cons (pv 4) pa_nil))) (nomark _)))))
          (pss_one (ps_aug (i := 2) nd rfl (Or.inl rfl) pe_int ip_add)) pss_nil)))
      (pss_one (ps_ret (pv 2)))), ?_⟩
    refine ⟨_, rfl, _, rfl, _, rfl, a, _, rfl, SqL.of ha, fun c hc => ?_⟩
    have s1 : Same H (upd H c (.lst (cutV (iv l) (some 1) none))) := .new hc
    have hcc : (upd H c (.lst (cutV (iv l) (some 1) none))) c = some (.lst (iv (l.drop 1))) := by
      rw [upd_same, show cutV (iv l) (some 1) none = iv (l.drop 1) from cut_from (k := 1) hlen]
    generalize upd H c (.lst (cutV (iv l) (some 1) none)) = H1 at s1 hcc
    refine ⟨a, c, iv l, iv (l.drop 1), rfl, SqL.of (s1 _ _ ha), SqL.of hcc, for_zip (K := K) (a := a) (b := c) (xs := iv l) (ys := iv (l.drop 1))
      (fun i σ H' => ∃ v3 v4 : Option V, σ = [some (.ref a), some (.int p), some (.int ((((l.zip (l.drop 1)).take i).filter (lies1 p)).length : Nat)), v3, v4] ∧ Same H1 H')
      ⟨none, none, rfl, Same.refl _⟩ (fun i σ H' _ ⟨_, _, _, s2⟩ => ⟨SqL.of (s2 _ _ (s1 _ _ ha)), SqL.of (s2 _ _ hcc)⟩) ?_ ?_⟩
    · rintro i x y T' σ H' hx hy hT ⟨v3, v4, rfl, s2⟩
      obtain ⟨u, hu, rfl⟩ := iv_get hx
      obtain ⟨v, hv, rfl⟩ := iv_get hy
      have s3 : Same H1 (upd H' T' (.tup [V.int u, V.int v])) := s2.trans (.new hT)
      refine ⟨T', _, rfl, SqT.of upd_same, rfl, _, _, rfl, _, _, rfl, rfl, ?_⟩
      generalize upd H' T' (.tup [V.int u, V.int v]) = H3 at s3
      have ez : (l.zip (l.drop 1)).take (i + 1) = (l.zip (l.drop 1)).take i ++ [(u, v)] := take_snoc (zip_get hu hv)
      have e1 : (if v < u then v else u) = min u v := by
        by_cases q : v < u
        · rw [if_pos q]; omega
        · rw [if_neg q]; omega
      have e2 : (if v > u then v else u) = max u v := by
        by_cases q : v > u
        · rw [if_pos q]; omega
        · rw [if_neg q]; omega
      have yes : min u v ≤ p → p < max u v → ((l.zip (l.drop 1)).take (i + 1)).filter (lies1 p) = ((l.zip (l.drop 1)).take i).filter (lies1 p) ++ [(u, v)] := fun h1 h2 => by
        rw [ez, List.filter_append]
        have : lies1 p (u, v) = true := by
          unfold lies1
          rw [Bool.and_eq_true]
          exact ⟨decide_eq_true h1, decide_eq_true (by show p + 1 ≤ max u v; omega)⟩
        rw [List.filter_cons, if_pos this]
        rfl
      have no : ¬ (min u v ≤ p ∧ p < max u v) → ((l.zip (l.drop 1)).take (i + 1)).filter (lies1 p) = ((l.zip (l.drop 1)).take i).filter (lies1 p) := fun h1 => by
        rw [ez, List.filter_append]
        have : ¬ lies1 p (u, v) = true := fun h => by
          unfold lies1 at h
          rw [Bool.and_eq_true] at h
          have h2 := of_decide_eq_true h.1
          have h3 := of_decide_eq_true h.2
          dsimp only at h2 h3
          exact h1 ⟨h2, by omega⟩
        rw [List.filter_cons, if_neg this, List.filter_nil, List.append_nil]
      refine ⟨_, rfl, _, rfl, _, _, rfl, _, rfl, _, _, rfl, rfl, _, rfl, ite2 (fun q => ?_) (fun q => ?_)⟩
      · refine ⟨_, rfl, _, rfl, _, rfl, _, _, rfl, _, _, rfl, rfl, _, rfl, ite2 (fun q2 => ?_) (fun q2 => ?_)⟩
        · have h1 := of_decide_eq_true q
          have h2 := of_decide_eq_true q2
          rw [e1] at h1
          rw [e2] at h2
          refine ⟨_, rfl, _, _, rfl, rfl, some (V.int u), some (V.int v), ?_, s3⟩
          rw [yes h1 h2, List.length_append]
          rfl
        · refine ⟨some (V.int u), some (V.int v), ?_, s3⟩
          rw [no fun z => q2 (decide_eq_true (by rw [e2]; exact z.2))]
          rfl
      · refine iteF ?_
        refine ⟨some (V.int u), some (V.int v), ?_, s3⟩
        rw [no fun z => q (decide_eq_true (by rw [e1]; exact z.1))]
        rfl
    · rintro σ H' ⟨v3, v4, rfl, s2⟩
      refine ⟨_, rfl, ?_⟩
      have e : (l.zip (l.drop 1)).take (min (iv l).length (iv (l.drop 1)).length) = l.zip (l.drop 1) := List.take_of_length_le (by rw [List.length_zip, iv_len, iv_len]; omega)
      rw [e]
      exact k H' (s1.trans s2)
/-! ### thickness -/
def thickL (l : List Int) : Nat := (l.map (over l)).foldl max 0
def spThick : Sp := fun vs H Q _ => ∃ (a : Addr) (l : List Int), vs = [.ref a] ∧ H a = some (.lst (iv l)) ∧ 0 < l.length ∧ l.length ≤ 100 ∧ ∀ H' : Hp, Same H H' → Q (.int ((thickL l : Nat) : Int)) H'
theorem scThick : FnScope ["places", "place"] ["places"] (defScope sThick) := ⟨rfl, rfl, rfl, by decide +kernel, rfl, by decide +kernel, by decide +kernel⟩
theorem ok_thick {f fR : Addr} {fd fdR : FuncData} (F : Fun K "thickness" "thickness" sThick f fd) (T : Bl mg) (FR : Fun K "rods_right_of" "rods_right_of" sRight fR fdR) (bR : Binds K fdR ["places", "place"] []) (mR : mg "rods_right_of" = some (.ref fR)) :
    FnOk P w K mg base CX0 2 f fd ["places"] spThick := by
  have GR : FnOk P w K mg base CX0 1 fR fdR ["places", "place"] spRight := ok_right FR T
  refine F.ok scThick (fun vs H Q E h => ?_) (fun cdv A outer s H vs Q E hr h => ?_)
  · obtain ⟨a, l, rfl, _⟩ := h
    rfl
  · obtain ⟨a, l, rfl, ha, hlen, hle, k⟩ := h
    have nd := scThick.nd
    refine ⟨_, pss_one (ps_ret (pe_callB (cr_max rfl) (by rfl) T.max PyProof.Rows.boot_max (pa_cons
      (pe_lc (own := [("place", 1)]) rfl nd (pi_list (pv 0)) (blkOk_by (by rfl)) (fun _ _ _ _ _ => pg_name (i := 1) nd rfl (Or.inl rfl)) (fun _ _ _ _ _ => pts_nil)
        (fun _ _ _ _ _ => pe_call GR hr rfl mR FR.kp bR .nil pass0 (pa_cons (pv 0) (pa_cons (pv 1) pa_nil)))) pa_nil))), ?_⟩
    refine ⟨_, rfl, a, rfl, ⟨_, SqL.of ha⟩, fun D hD => ?_⟩
    refine lc_list (K := K) (a := a) (xs := iv l) (fun i H' => Same H H' ∧ H' D = some (.lst (iv (Uw73.ints ((l.take i).map (over l)))))) ⟨.new hD, upd_same⟩ (fun i H' _ ⟨s1, _⟩ => SqL.of (s1 _ _ ha)) ?_ ?_
    · rintro i x H' hx ⟨s1, hD'⟩
      obtain ⟨z, hz, rfl⟩ := iv_get hx
      refine ⟨rfl, tyes ?_⟩
      refine ⟨_, rfl, _, rfl, a, l, z, rfl, s1 _ _ ha, hlen, fun H2 s2 => ⟨_, s2 _ _ hD', ?_, ?_, ?_⟩⟩
      · rw [nv_len, List.length_map, List.length_take]
        exact small1000 (by omega)
      · exact (s1.trans s2).put hD
      · rw [upd_same, nv_snoc, take_snoc hz, List.map_append]
        rfl
    · rintro H' ⟨s1, hD'⟩
      rw [iv_len, List.take_length] at hD'
      refine ⟨D, _, rfl, SqL.of hD', ?_, fun m hm1 hm2 => ?_⟩
      · rw [ints_len, List.length_map]
        exact hlen
      · have e : ((thickL l : Nat) : Int) = m := most_is hm1 hm2
        rw [← e]
        exact k H' s1
/-! ### all_ways -/
def spWays : Sp := fun vs H Q _ => ∃ n : Nat, vs = [.int (n : Int)] ∧ n ≤ 12 ∧ ∀ (H' : Hp) (p : Addr), Same H H' → H p = none → WaysAt H' p (rows n) → Q (.ref p) H'
theorem rows_short {n : Nat} (h : n ≤ 12) : 2 * (rows n).length < sizeLine := by
  rw [rows_length]
  have : 2 ^ n ≤ 2 ^ 12 := Nat.pow_le_pow_right (by decide) h
  have e : (2 : Nat) * 2 ^ 12 < sizeLine := by decide
  omega
theorem scWays : FnScope ["hinge_count", "ways", "hinge", "longer", "way"] ["hinge_count"] (defScope sWays) := ⟨rfl, rfl, rfl, by decide +kernel, rfl, by decide +kernel, by decide +kernel⟩
theorem ok_ways {f : Addr} {fd : FuncData} (F : Fun K "all_ways" "all_ways" sWays f fd) (T : Bl mg) : FnOk P w K mg base CX0 1 f fd ["hinge_count"] spWays := by
  refine F.ok scWays (fun vs H Q E h => ?_) (fun cdv A outer s H vs Q E hr h => ?_)
  · obtain ⟨n, rfl, _⟩ := h
    rfl
  · obtain ⟨n, rfl, hn, k⟩ := h
    have nd := scWays.nd
    refine ⟨_, pss_cons (ps_set (i := 1) nd rfl (Or.inl rfl) (pe_lst (pa_cons (pe_lst pa_nil) pa_nil)))
      (pss_cons (ps_for PassesOwn.never rfl (pi_range1 rfl T.range (pa_cons (pv 0) pa_nil)) (pg_name (i := 2) nd rfl (Or.inl rfl))
        (pss_cons (ps_set (i := 3) nd rfl (Or.inl rfl) (pe_lst pa_nil))
        (pss_cons (ps_for PassesOwn.never rfl (pi_list (pv 1)) (pg_name (i := 4) nd rfl (Or.inl rfl))
          (pss_cons (ps_expr (pe_bm PySem.F.plainAttrs_list PySem.F.slot_list_append PySem.F.type_list_append mt_append (pv 3) (pa_cons (pe_op op_cat (pv 4) (pe_lst (pa_cons pe_int pa_nil))) pa_nil)))
          (pss_one (ps_expr (pe_bm PySem.F.plainAttrs_list PySem.F.slot_list_append PySem.F.type_list_append mt_append (pv 3) (pa_cons (pe_op op_cat (pv 4) (pe_lst (pa_cons pe_int pa_nil))) pa_nil))))))
        (pss_one (ps_set (i := 1) nd rfl (Or.inl rfl) (pv 3))))))
      (pss_one (ps_ret (pv 1)))), ?_⟩
    refine ⟨Nat.zero_le _, fun e he => ⟨(by show 1 ≤ sizeLine; decide), fun l hl => ?_⟩⟩
    have s1 : Same H (upd (upd H e (.lst [])) l (.lst [V.ref e])) := (Same.new he).trans (.new hl)
    have W0 : WaysAt (upd (upd H e (.lst [])) l (.lst [V.ref e])) l (rows 0) := ⟨[e], upd_same, .cons ((Same.new hl) _ _ upd_same) .nil⟩
    have hl0 : H l = none := (Same.new he).free hl
    generalize upd (upd H e (.lst [])) l (.lst [V.ref e]) = H1 at s1 W0
    refine ⟨_, rfl, _, rfl, by omega, by omega, for_range (lo := 0) (n := ((n : Nat) : Int).toNat)
      (fun i σ H' => ∃ (p : Addr) (v2 v3 v4 : Option V), σ = [some (.int (n : Int)), some (.ref p), v2, v3, v4] ∧ Same H H' ∧ H p = none ∧ WaysAt H' p (rows i))
      ⟨l, none, none, none, rfl, s1, hl0, W0⟩ ?_ ?_⟩
    · rintro i σ H' hi ⟨p, v2, v3, v4, rfl, s2, hp, as, hW1, hW2⟩
      have hi12 : i ≤ 12 := by omega
      have hsz := rows_short hi12
      refine ⟨Nat.zero_le _, fun q hq => ?_⟩
      have sq : Same H' (upd H' q (.lst [])) := .new hq
      have hq0 : H q = none := s2.free hq
      have hqq : (upd H' q (.lst [])) q = some (.lst (([] : List Addr).map V.ref)) := upd_same
      generalize upd H' q (.lst []) = H2 at sq hqq
      refine ⟨_, rfl, p, rfl, ⟨_, SqL.of (sq _ _ hW1)⟩, for_list (K := K) (a := p) (xs := as.map V.ref)
        (fun j σ H3 => ∃ (v4 : Option V) (bs : List Addr), σ = [some (.int (n : Int)), some (.ref p), some (.int (0 + (i : Int))), some (.ref q), v4] ∧ Same H' H3 ∧ H3 q = some (.lst (bs.map V.ref)) ∧ (∀ b ∈ bs, b ≠ q) ∧
          RowsAt H3 bs (((rows i).take j).flatMap fun w => [w ++ [0], w ++ [1]]))
        ⟨v4, [], rfl, sq, hqq, (fun _ h => nomatch h), RowsAt.nil⟩ (fun j σ H3 _ ⟨_, _, _, s3, _⟩ => SqL.of (s3 _ _ hW1)) ?_ ?_⟩
      · rintro j x σ H3 hx ⟨v4', bs, rfl, s3, hq3, hne, hR⟩
        obtain ⟨a, ha, rfl⟩ := ref_get hx
        obtain ⟨w, hw, haw⟩ := hW2.get ha
        have hlw := hR.len
        have hjl : j < (rows i).length := (List.getElem?_eq_some_iff.mp hw).1
        have hflen : (((rows i).take j).flatMap fun w => [w ++ [0], w ++ [1]]).length = 2 * j := by
          rw [List.length_flatMap]
          have : (List.map (fun a : List Nat => [a ++ [0], a ++ [1]].length) ((rows i).take j)) = List.replicate ((rows i).take j).length 2 := by
            rw [List.eq_replicate_iff]
            exact ⟨List.length_map .., fun b hb => by obtain ⟨_, _, rfl⟩ := List.mem_map.mp hb; rfl⟩
          rw [this, List.sum_replicate_nat, List.length_take]
          omega
        have hwl : w.length = i := (mem_rows.mp (List.mem_of_getElem? hw)).1
        have hws : (nv w).length + 1 ≤ sizeLine := by
          rw [nv_len]
          have : (20 : Nat) ≤ sizeLine := by decide
          omega
        have haw3 := s3 _ _ haw
        -- longer.append(way + [0])
        refine ⟨_, rfl, .inl ⟨rfl, _, SqL.of hq3⟩, _, rfl, (by show 1 ≤ sizeLine; decide), fun z hz => ⟨a, z, nv w, [V.int 0], rfl, rfl, (Same.new hz) _ _ haw3, upd_same, hws, fun c hc => ?_⟩⟩
        have sz : Same H3 (upd (upd H3 z (.lst [V.int 0])) c (.lst (nv w ++ [V.int 0]))) := (Same.new hz).trans (.new hc)
        have hcc : (upd (upd H3 z (.lst [V.int 0])) c (.lst (nv w ++ [V.int 0]))) c = some (.lst (nv (w ++ [0]))) := by
          rw [upd_same]
          exact congrArg (fun q => some (HO.lst q)) (nv_snoc w 0)
        have ncq : c ≠ q := (ne_of_none ((Same.new hz) _ _ hq3) hc).symm
        generalize upd (upd H3 z (.lst [V.int 0])) c (.lst (nv w ++ [V.int 0])) = H4 at sz hcc
        refine ⟨q, _, _, rfl, rfl, sz _ _ hq3, ?_, ?_⟩
        · rw [List.length_map, hlw, hflen]
          omega
        have k4 : Keep q H4 (upd H4 q (.lst (bs.map V.ref ++ [V.ref c]))) := .put
        have hq5 : (upd H4 q (.lst (bs.map V.ref ++ [V.ref c]))) q = some (.lst ((bs ++ [c]).map V.ref)) := by
          rw [upd_same, List.map_append]
          rfl
        have s5 : Same H' (upd H4 q (.lst (bs.map V.ref ++ [V.ref c]))) := (s3.trans sz).put hq
        generalize upd H4 q (.lst (bs.map V.ref ++ [V.ref c])) = H5 at k4 hq5 s5
        have hne5 : ∀ b ∈ bs ++ [c], b ≠ q := fun b hb => by
          rcases List.mem_append.mp hb with h | h
          · exact hne b h
          · rw [List.mem_singleton.mp h]; exact ncq
        have hR5 : RowsAt H5 (bs ++ [c]) ((((rows i).take j).flatMap fun w => [w ++ [0], w ++ [1]]) ++ [w ++ [0]]) := ((hR.same sz).snoc hcc).keep k4 hne5
        have haw5 := s5 _ _ haw
        -- longer.append(way + [1])
        refine ⟨_, rfl, .inl ⟨rfl, _, SqL.of hq5⟩, _, rfl, (by show 1 ≤ sizeLine; decide), fun z2 hz2 => ⟨a, z2, nv w, [V.int 1], rfl, rfl, (Same.new hz2) _ _ haw5, upd_same, hws, fun d hd => ?_⟩⟩
        have sz2 : Same H5 (upd (upd H5 z2 (.lst [V.int 1])) d (.lst (nv w ++ [V.int 1]))) := (Same.new hz2).trans (.new hd)
        have hdd : (upd (upd H5 z2 (.lst [V.int 1])) d (.lst (nv w ++ [V.int 1]))) d = some (.lst (nv (w ++ [1]))) := by
          rw [upd_same]
          exact congrArg (fun q => some (HO.lst q)) (nv_snoc w 1)
        have ndq : d ≠ q := (ne_of_none ((Same.new hz2) _ _ hq5) hd).symm
        generalize upd (upd H5 z2 (.lst [V.int 1])) d (.lst (nv w ++ [V.int 1])) = H6 at sz2 hdd
        refine ⟨q, _, _, rfl, rfl, sz2 _ _ hq5, ?_, ?_⟩
        · rw [List.length_map, List.length_append, hlw, hflen]
          show 2 * j + 1 < sizeLine
          omega
        have k6 : Keep q H6 (upd H6 q (.lst ((bs ++ [c]).map V.ref ++ [V.ref d]))) := .put
        have hq7 : (upd H6 q (.lst ((bs ++ [c]).map V.ref ++ [V.ref d]))) q = some (.lst ((bs ++ [c] ++ [d]).map V.ref)) := by
          rw [upd_same, List.map_append (l₂ := [d])]
          rfl
        have s7 : Same H' (upd H6 q (.lst ((bs ++ [c]).map V.ref ++ [V.ref d]))) := (s5.trans sz2).put hq
        generalize upd H6 q (.lst ((bs ++ [c]).map V.ref ++ [V.ref d])) = H7 at k6 hq7 s7
        have hne7 : ∀ b ∈ bs ++ [c] ++ [d], b ≠ q := fun b hb => by
          rcases List.mem_append.mp hb with h | h
          · exact hne5 b h
          · rw [List.mem_singleton.mp h]; exact ndq
        refine ⟨_, bs ++ [c] ++ [d], rfl, s7, hq7, hne7, ?_⟩
        rw [take_snoc hw, List.flatMap_append]
        have e : ([w].flatMap fun w => [w ++ [0], w ++ [1]]) = [w ++ [0]] ++ [w ++ [1]] := rfl
        rw [e, ← List.append_assoc]
        exact ((hR5.same sz2).snoc hdd).keep k6 hne7
      · rintro σ H3 ⟨v4', bs, rfl, s3, hq3, hne, hR⟩
        refine ⟨_, rfl, ?_⟩
        refine ⟨q, _, _, _, rfl, s2.trans s3, hq0, bs, hq3, ?_⟩
        rw [List.length_map, hW2.len, List.take_length, ← rows_snoc] at hR
        exact hR
    · rintro σ H' ⟨p, v2, v3, v4, rfl, s2, hp, hW⟩
      refine ⟨_, rfl, ?_⟩
      exact k H' p s2 hp hW
end
end Fr

set_option Elab.async false
set_option linter.all false
set_option maxRecDepth 100000
set_option maxHeartbeats 2000000
namespace Fr
open PySem PySem.Spec PyProof.Rows L2
open Uw73 (rows joints over thick low high)
open FM
abbrev sRods : Stmt := top 19
abbrev sHinges : Stmt := top 20
abbrev sInit : Stmt := inClass (top 31) 0
abbrev sRenew : Stmt := inClass (top 31) 1
abbrev sFold : Stmt := inClass (top 31) 2
abbrev sTurn : Stmt := inClass (top 31) 3
abbrev sLies : Stmt := inClass (top 31) 4
/-- the top's own whole numbers -/
structure Nums (mg : Str → Option Value) : Prop where
  most : ∃ t, mg "MOST_RODS" = some (.int 10 t)
  longest : ∃ t, mg "LONGEST_ROD" = some (.int 60 t)
  wrong : ∃ t, mg "WRONG_ROW" = some (.int (-1) t)
  nosuch : ∃ t, mg "NO_SUCH_HINGE" = some (.int (-2) t)
  nolen : ∃ t, mg "NO_LENGTH" = some (.int (-1) t)
  noway : ∃ t, mg "NO_WAY_SO_SMALL" = some (.int (-6) t)
section
variable {P : Program} {w : World} {K : PySem.W.Frag} {mg : Str → Option Value} {base : Heap}
/-! ### are_rods -/
def rod1 (r : Nat) : Bool := decide (1 ≤ r) && decide (r ≤ 60)
def okRods (l : List Nat) : Bool := decide (1 ≤ l.length ∧ l.length ≤ 10) && l.all rod1
def spRods : Sp := fun vs H Q _ => ∃ (a : Addr) (l : List Nat), vs = [.ref a] ∧ H a = some (.lst (nv l)) ∧ ∀ H' : Hp, Same H H' → Q (.bl (okRods l)) H'
theorem scRods : FnScope ["row", "rod"] ["row"] (defScope sRods) := ⟨rfl, rfl, rfl, by decide +kernel, rfl, by decide +kernel, by decide +kernel⟩
theorem all_id {α : Type} (p : α → Bool) (l : List α) : (l.map p).all id = l.all p := by
  rw [List.all_map]
  rfl
theorem ok_rods {f : Addr} {fd : FuncData} (F : Fun K "are_rods" "are_rods" sRods f fd) (T : Bl mg) (U : Nums mg) : FnOk P w K mg base CX0 1 f fd ["row"] spRods := by
  refine F.ok scRods (fun vs H Q E h => ?_) (fun cdv A outer s H vs Q E hr h => ?_)
  · obtain ⟨a, l, rfl, _⟩ := h
    rfl
  · obtain ⟨a, l, rfl, ha, k⟩ := h
    have nd := scRods.nd
    obtain ⟨t1, g1⟩ := U.most
    obtain ⟨t2, g2⟩ := U.longest
    refine ⟨_, pss_cons (ps_if (PW.pt (pw_or (pt_cmpR op_lt (pe_callB call_len_seq (by rfl) T.len PySem.boot_len (pa_cons (pv 0) pa_nil)) pe_int (nomark _))
        (pw_or1 (pt_cmpR op_gt (pe_callB call_len_seq (by rfl) T.len PySem.boot_len (pa_cons (pv 0) pa_nil)) (pe_glob (v := .int 10) rfl g1 ⟨_, rfl⟩) (nomark _))))) (pss_one (ps_ret pe_bl)) pss_nil)
      (pss_one (ps_ret (pe_callB (cr_all rfl) (by rfl) T.all PyProof.Rows.boot_all (pa_cons
        (pe_lc (own := [("rod", 1)]) rfl nd (pi_list (pv 0)) (blkOk_by (by rfl)) (fun _ _ _ _ _ => pg_name (i := 1) nd rfl (Or.inl rfl)) (fun _ _ _ _ _ => pts_nil)
          (fun _ _ _ _ _ => pe_and (pe_cmpR op_ge (pv 1) pe_int (nomark _)) (pe_one (pe_cmpR op_le (pv 1) (pe_glob (v := .int 60) rfl g2 ⟨_, rfl⟩) (nomark _))))) pa_nil)))), ?_⟩
    have hno : ¬ (1 ≤ l.length ∧ l.length ≤ 10) → Q (.bl false) H := fun h => by
      have := k H (Same.refl _)
      unfold okRods at this
      rw [decide_eq_false h] at this
      exact this
    refine ⟨_, rfl, a, _, rfl, .inl (SqL.of ha), _, _, rfl, rfl, _, rfl, ite2 (fun q => ?_) (fun q => ?_)⟩
    · have q1 := of_decide_eq_true q
      rw [nv_len] at q1
      exact iteT (hno (by omega))
    · have q1 : ¬ (((nv l).length : Int) < 1) := fun z => q (decide_eq_true z)
      rw [nv_len] at q1
      refine ⟨_, rfl, a, _, rfl, .inl (SqL.of ha), _, _, rfl, rfl, _, rfl, ite2 (fun q2 => ?_) (fun q2 => ?_)⟩
      · have q3 := of_decide_eq_true q2
        rw [nv_len] at q3
        exact hno (by omega)
      · have q3 : ¬ ((10 : Int) < ((nv l).length : Int)) := fun z => q2 (decide_eq_true z)
        rw [nv_len] at q3
        refine ⟨_, rfl, a, rfl, ⟨_, SqL.of ha⟩, fun D hD => ?_⟩
        refine lc_list (K := K) (a := a) (xs := nv l) (fun i H' => Same H H' ∧ H' D = some (.lst (((l.take i).map rod1).map V.bl))) ⟨.new hD, upd_same⟩ (fun i H' _ ⟨s1, _⟩ => SqL.of (s1 _ _ ha)) ?_ ?_
        · rintro i x H' hx ⟨s1, hD'⟩
          obtain ⟨n, hn, rfl⟩ := nv_get hx
          have hsz : (((l.take i).map rod1).map V.bl).length < sizeLine := by
            rw [List.length_map, List.length_map, List.length_take]
            exact small1000 (by omega)
          have fin : ∀ b : Bool, b = rod1 n → Same H (upd H' D (.lst (((l.take i).map rod1).map V.bl ++ [V.bl b]))) ∧ (upd H' D (.lst (((l.take i).map rod1).map V.bl ++ [V.bl b]))) D = some (.lst (((l.take (i + 1)).map rod1).map V.bl)) := fun b e => by
            refine ⟨s1.put hD, ?_⟩
            rw [upd_same, take_snoc hn, List.map_append, List.map_append, e]
            rfl
          refine ⟨rfl, tyes ?_⟩
          refine ⟨_, rfl, _, _, rfl, rfl, _, rfl, ite2 (fun p1 => ?_) (fun p1 => ?_)⟩
          · refine ⟨_, rfl, _, _, rfl, rfl, _, hD', hsz, fin _ ?_⟩
            have p2 := of_decide_eq_true p1
            unfold rod1
            rw [decide_eq_true (show 1 ≤ n by omega), Bool.true_and]
            exact decide_eq_decide.mpr (by omega)
          · have p2 : ¬ ((1 : Int) ≤ (n : Int)) := fun z => p1 (decide_eq_true z)
            refine ⟨_, hD', hsz, fin _ ?_⟩
            unfold rod1
            rw [decide_eq_false (show ¬ 1 ≤ n by omega), Bool.false_and]
        · rintro H' ⟨s1, hD'⟩
          rw [nv_len, List.take_length] at hD'
          refine ⟨D, _, rfl, SqL.of hD', ?_⟩
          have := k H' s1
          unfold okRods at this
          rw [decide_eq_true (show 1 ≤ l.length ∧ l.length ≤ 10 by omega), Bool.true_and] at this
          rw [all_id]
          exact this
/-! ### are_hinges -/
def hin1 (n : Nat) : Bool := decide (n ≤ 1)
def spHinges : Sp := fun vs H Q _ => ∃ (a : Addr) (l : List Nat) (k : Nat), vs = [.ref a, .int (k : Int)] ∧ H a = some (.lst (nv l)) ∧ k ≤ 100 ∧ ∀ H' : Hp, Same H H' → Q (.bl (decide (l.length = k) && l.all hin1)) H'
theorem scHinges : FnScope ["row", "asked", "hinge"] ["row", "asked"] (defScope sHinges) := ⟨rfl, rfl, rfl, by decide +kernel, rfl, by decide +kernel, by decide +kernel⟩
theorem in01 (n : Nat) : inV (V.int (n : Int)) [V.int 0, V.int 1] = hin1 n := by
  unfold inV hin1
  show (((0 : Int) == (n : Int)) || (((1 : Int) == (n : Int)) || false)) = decide (n ≤ 1)
  by_cases h : n ≤ 1
  · rw [decide_eq_true h]
    rcases (show n = 0 ∨ n = 1 by omega) with e | e <;> subst e <;> rfl
  · rw [decide_eq_false h, beq_eq_false_iff_ne.mpr (show (0 : Int) ≠ (n : Int) by omega), beq_eq_false_iff_ne.mpr (show (1 : Int) ≠ (n : Int) by omega)]
    rfl
theorem ok_hinges {f : Addr} {fd : FuncData} (F : Fun K "are_hinges" "are_hinges" sHinges f fd) (T : Bl mg) : FnOk P w K mg base CX0 1 f fd ["row", "asked"] spHinges := by
  refine F.ok scHinges (fun vs H Q E h => ?_) (fun cdv A outer s H vs Q E hr h => ?_)
  · obtain ⟨a, l, n, rfl, _⟩ := h
    rfl
  · obtain ⟨a, l, n, rfl, ha, hn100, k⟩ := h
    have nd := scHinges.nd
    refine ⟨_, pss_one (ps_ret (pe_and (pe_cmpR op_eq (pe_callB call_len_seq (by rfl) T.len PySem.boot_len (pa_cons (pv 0) pa_nil)) (pv 1) (nomark _)) (pe_one (pe_callB (cr_all rfl) (by rfl) T.all PyProof.Rows.boot_all (pa_cons
        (pe_lc (own := [("hinge", 2)]) rfl nd (pi_list (pv 0)) (blkOk_by (by rfl)) (fun _ _ _ _ _ => pg_name (i := 2) nd rfl (Or.inl rfl)) (fun _ _ _ _ _ => pts_nil)
          (fun _ _ _ _ _ => pe_cmpR (r := rIn K false) op_in_seq (pv 2) (pe_tup (pa_cons pe_int (pa_cons pe_int pa_nil))) rfl)) pa_nil))))), ?_⟩
    refine ⟨_, rfl, a, _, rfl, .inl (SqL.of ha), _, rfl, rfl, _, rfl, ite2 (fun q => ?_) (fun q => ?_)⟩
    · have q1 : ((nv l).length : Int) = (n : Int) := V.int.inj (of_decide_eq_true q)
      rw [nv_len] at q1
      have q2 : l.length = n := by omega
      refine ⟨_, rfl, a, rfl, ⟨_, SqL.of ha⟩, fun D hD => ?_⟩
      refine lc_list (K := K) (a := a) (xs := nv l) (fun i H' => Same H H' ∧ H' D = some (.lst (((l.take i).map hin1).map V.bl))) ⟨.new hD, upd_same⟩ (fun i H' _ ⟨s1, _⟩ => SqL.of (s1 _ _ ha)) ?_ ?_
      · rintro i x H' hx ⟨s1, hD'⟩
        obtain ⟨m, hm, rfl⟩ := nv_get hx
        refine ⟨rfl, tyes ?_⟩
        refine ⟨_, rfl, (by show 2 ≤ sizeLine; decide), fun t ht => ⟨t, _, rfl, .inr (SqT.of upd_same), rfl, rfl, _, (Same.new ht) _ _ hD', ?_, ?_, ?_⟩⟩
        · rw [List.length_map, List.length_map, List.length_take]
          exact small1000 (by omega)
        · exact (s1.trans (.new ht)).put hD
        · rw [upd_same, take_snoc hm, List.map_append, List.map_append]
          show _ = some (HO.lst (((l.take i).map hin1).map V.bl ++ [V.bl (hin1 m)]))
          rw [← in01 m]
          rfl
      · rintro H' ⟨s1, hD'⟩
        rw [nv_len, List.take_length] at hD'
        refine ⟨D, _, rfl, SqL.of hD', ?_⟩
        have := k H' s1
        rw [decide_eq_true q2, Bool.true_and] at this
        rw [all_id]
        exact this
    · have q1 : ¬ ((nv l).length : Int) = (n : Int) := fun z => q (decide_eq_true (congrArg V.int z))
      rw [nv_len] at q1
      have := k H (Same.refl _)
      rw [decide_eq_false (show ¬ l.length = n by omega), Bool.false_and] at this
      exact this
/-! ### the rule as an object -/
def rf (a b : Addr) : List (Str × V) := [("rods", .ref a), ("hinges", .ref b)]
theorem rf_rods (a b : Addr) : (rf a b).lookup ("rods" : Str) = some (.ref a) := by
  show (putF "rods" (.ref a) [("rods", .ref a), ("hinges", .ref b)]).lookup ("rods" : Str) = _
  rw [lookup_putF, if_pos rfl]
theorem rf_eq (a b : Addr) : rf a b = putF "hinges" (.ref b) (putF "rods" (.ref a) []) := by
  show _ = (if ("rods" : Str) = "hinges" then _ else [(("rods" : Str), V.ref a), ("hinges", V.ref b)])
  rw [if_neg (by decide)]
  rfl
theorem rf_hinges (a b : Addr) : (rf a b).lookup ("hinges" : Str) = some (.ref b) := by
  rw [rf_eq, lookup_putF, if_pos rfl]
theorem rf_no (a b : Addr) {m : Str} (h1 : ¬ m = "rods") (h2 : ¬ m = "hinges") : (rf a b).lookup m = none := by
  rw [rf_eq, lookup_putF, if_neg h2, lookup_putF, if_neg h1]
  rfl
theorem rf_put_rods (a b c : Addr) : putF "rods" (.ref c) (rf a b) = rf c b := by
  show (if ("rods" : Str) = "rods" then [(("rods" : Str), V.ref c), ("hinges", V.ref b)] else _) = _
  rw [if_pos rfl]
  rfl
theorem rf_put_hinges (a b c : Addr) : putF "hinges" (.ref c) (rf a b) = rf a c := by
  show (if ("rods" : Str) = "hinges" then _ else (("rods" : Str), V.ref a) :: (if ("hinges" : Str) = "hinges" then [(("hinges" : Str), V.ref c)] else _)) = _
  rw [if_neg (by decide), if_pos rfl]
  rfl
/-- what holds of the rule at all times -/
structure Valid (s : Uw73.St) : Prop where
  r1 : 1 ≤ s.rods.length
  r10 : s.rods.length ≤ 10
  r60 : ∀ r ∈ s.rods, 1 ≤ r ∧ r ≤ 60
  hl : s.rods.length = s.hinges.length + 1
  h01 : ∀ h ∈ s.hinges, h ≤ 1
/-- the rule s stands at x, its lists are not the one at u -/
structure RuleAt (C u : Addr) (H : Hp) (x : Addr) (s : Uw73.St) : Prop where
  ok : Valid s
  at_ : ∃ dx a b, H x = some (.ins C dx (rf a b)) ∧ H a = some (.lst (nv s.rods)) ∧ H b = some (.lst (nv s.hinges)) ∧ a ≠ u ∧ b ≠ u
theorem RuleAt.same {C u : Addr} {H H' : Hp} {x : Addr} {s : Uw73.St} (h : RuleAt C u H x s) (e : Same H H') : RuleAt C u H' x s := by
  obtain ⟨v, dx, a, b, h1, h2, h3, h4⟩ := h
  exact ⟨v, dx, a, b, e _ _ h1, e _ _ h2, e _ _ h3, h4⟩
theorem RuleAt.off {C u t : Addr} {H : Hp} {x : Addr} {s : Uw73.St} (h : RuleAt C u H x s) (ht : H t = none) : RuleAt C t H x s := by
  obtain ⟨v, dx, a, b, h1, h2, h3, _⟩ := h
  exact ⟨v, dx, a, b, h1, h2, h3, ne_of_none h2 ht, ne_of_none h3 ht⟩
/-- what stands at u may change -/
theorem RuleAt.keep {C u : Addr} {H H' : Hp} {x : Addr} {s : Uw73.St} (h : RuleAt C u H x s) (k : Keep u H H') (n : x ≠ u) : RuleAt C u H' x s := by
  obtain ⟨v, dx, a, b, h1, h2, h3, h4, h5⟩ := h
  exact ⟨v, dx, a, b, k _ _ h1 n, k _ _ h2 h4, k _ _ h3 h5, h4, h5⟩
structure Txt (K : PySem.W.Frag) (mg : Str → Option Value) (C : Addr) : Prop where
  cl : Cls K C
  nR : NoAttr K C "rods"
  nH : NoAttr K C "hinges"
  mgC : mg "FoldingRule" = some (.ref C)
end
end Fr

set_option Elab.async false
set_option linter.all false
set_option maxRecDepth 100000
set_option maxHeartbeats 2000000
namespace Fr
open PySem PySem.Spec PyProof.Rows L2
open Uw73 (rows joints over thick low high)
open FM
/-! ### what the calls answer, once more -/
theorem spread_eq (rs hs : List Nat) : ((Uw73.spread rs hs : Nat) : Int) = high (joints rs hs) - low (joints rs hs) := by
  unfold Uw73.spread
  dsimp only
  have hm : (joints rs hs).headD 0 ∈ joints rs hs := by
    have := joints_len rs hs
    cases e : joints rs hs with
    | nil => rw [e] at this; simp at this
    | cons x r => exact List.mem_cons_self
  have h1 := (foldl_min (joints rs hs) ((joints rs hs).headD 0)).2.1
  have h2 := (foldl_max (joints rs hs) ((joints rs hs).headD 0)).2.1
  have e1 : low (joints rs hs) ≤ (joints rs hs).headD 0 := h1
  have e2 : (joints rs hs).headD 0 ≤ high (joints rs hs) := h2
  omega
theorem any_bad (l : List Nat) : l.any (fun r => decide (r < 1) || decide (60 < r)) = !(l.all rod1) := by
  induction l with
  | nil => rfl
  | cons a l ih =>
    rw [List.any_cons, List.all_cons, ih]
    have e : (decide (a < 1) || decide (60 < a)) = !(rod1 a) := by
      unfold rod1
      by_cases h1 : 1 ≤ a
      · by_cases h2 : a ≤ 60
        · rw [decide_eq_false (show ¬ a < 1 by omega), decide_eq_false (show ¬ 60 < a by omega), decide_eq_true h1, decide_eq_true h2]; rfl
        · rw [decide_eq_false (show ¬ a < 1 by omega), decide_eq_true (show 60 < a by omega), decide_eq_true h1, decide_eq_false h2]; rfl
      · rw [decide_eq_true (show a < 1 by omega), decide_eq_false h1]; rfl
    rw [e]
    cases rod1 a <;> rfl
theorem rule_no {s : Uw73.St} {l : List Nat} (h : okRods l = false) : Uw73.step s (.rule l) = (s, [-1]) := by
  show (if _ then _ else _) = _
  rw [if_pos]
  unfold okRods at h
  rw [any_bad]
  by_cases q : 1 ≤ l.length ∧ l.length ≤ 10
  · rw [decide_eq_true q, Bool.true_and] at h
    rw [h]
    exact .inr (.inr rfl)
  · omega
theorem rule_yes {s : Uw73.St} {l : List Nat} (h : okRods l = true) : Uw73.step s (.rule l) = (⟨l, List.replicate (l.length - 1) 0⟩, [(Uw73.total l : Int)]) ∧ Valid ⟨l, List.replicate (l.length - 1) 0⟩ := by
  unfold okRods at h
  rw [Bool.and_eq_true] at h
  have q := of_decide_eq_true h.1
  constructor
  · show (if _ then _ else _) = _
    rw [if_neg]
    rw [any_bad, h.2]
    intro z
    rcases z with z | z | z
    · omega
    · omega
    · cases z
  · refine ⟨q.1, q.2, fun r hr => ?_, ?_, fun x hx => ?_⟩
    · have := List.all_eq_true.mp h.2 r hr
      unfold rod1 at this
      rw [Bool.and_eq_true] at this
      exact ⟨of_decide_eq_true this.1, of_decide_eq_true this.2⟩
    · show l.length = (List.replicate (l.length - 1) 0).length + 1
      rw [List.length_replicate]
      omega
    · rw [(List.mem_replicate.mp hx).2]
      omega
theorem any_bad01 (l : List Nat) : l.any (fun x => decide (1 < x)) = !(l.all hin1) := by
  induction l with
  | nil => rfl
  | cons a l ih =>
    rw [List.any_cons, List.all_cons, ih]
    have e : decide (1 < a) = !(hin1 a) := by
      unfold hin1
      by_cases h1 : a ≤ 1
      · rw [decide_eq_false (show ¬ 1 < a by omega), decide_eq_true h1]; rfl
      · rw [decide_eq_true (show 1 < a by omega), decide_eq_false h1]; rfl
    rw [e]
    cases hin1 a <;> rfl
theorem fold_no {s : Uw73.St} {l : List Nat} (h : (decide (l.length = s.hinges.length) && l.all hin1) = false) : Uw73.step s (.fold l) = (s, [-1]) := by
  show (if _ then _ else _) = _
  rw [if_pos]
  rw [any_bad01]
  by_cases q : l.length = s.hinges.length
  · rw [decide_eq_true q, Bool.true_and] at h
    rw [h]
    exact .inr rfl
  · exact .inl q
theorem fold_yes {s : Uw73.St} {l : List Nat} (v : Valid s) (h : (decide (l.length = s.hinges.length) && l.all hin1) = true) :
    Uw73.step s (.fold l) = (⟨s.rods, l⟩, [((Uw73.spread s.rods l : Nat) : Int), ((thick s.rods l : Nat) : Int)]) ∧ Valid ⟨s.rods, l⟩ := by
  rw [Bool.and_eq_true] at h
  have q := of_decide_eq_true h.1
  constructor
  · show (if _ then _ else _) = _
    rw [if_neg]
    · rfl
    · rw [any_bad01, h.2]
      intro z
      rcases z with z | z
      · exact z q
      · cases z
  · refine ⟨v.r1, v.r10, v.r60, ?_, fun x hx => ?_⟩
    · show s.rods.length = l.length + 1
      rw [q]
      exact v.hl
    · have := List.all_eq_true.mp h.2 x hx
      exact of_decide_eq_true this
theorem turn_no {s : Uw73.St} {i : Nat} (h : s.hinges.length ≤ i) : Uw73.step s (.turn i) = (s, [-2]) := by
  show (if _ then _ else _) = _
  rw [if_pos h]
theorem turn_yes {s : Uw73.St} {i : Nat} (v : Valid s) (h : i < s.hinges.length) : Uw73.step s (.turn i) = Uw73.step s (.fold (s.hinges.set i (1 - s.hinges.getD i 0))) := by
  have e : Uw73.step s (.turn i) = Uw73.shape { s with hinges := s.hinges.set i (1 - s.hinges.getD i 0) } := by
    show (if _ then _ else _) = _
    rw [if_neg (by omega)]
  rw [e]
  refine ((fold_yes v ?_).1).symm
  rw [Bool.and_eq_true]
  refine ⟨decide_eq_true (List.length_set ..), List.all_eq_true.mpr fun x hx => decide_eq_true ?_⟩
  rcases List.mem_or_eq_of_mem_set hx with z | z
  · exact v.h01 x z
  · rw [z]
    omega
section
variable {P : Program} {w : World} {K : PySem.W.Frag} {mg : Str → Option Value} {base : Heap}
/-- what a method's answer is to be -/
def Ans (C u : Addr) (H : Hp) (x : Addr) (r : Uw73.St × List Int) (Q : VK) : Prop := ∀ (H' : Hp) (p : Addr), Keep x H H' → RuleAt C u H' x r.1 → H p = none → H' p = some (.lst (iv r.2)) → Q (.ref p) H'
/-- an answer that changes nothing: a new list -/
theorem Ans.tell {C u : Addr} {H H1 : Hp} {x p : Addr} {s : Uw73.St} {l : List Int} {Q : VK} (h : Ans C u H x (s, l) Q) (R : RuleAt C u H x s) (e : Same H H1) (hp : H1 p = none) : Q (.ref p) (upd H1 p (.lst (iv l))) :=
  h _ p (e.trans (.new hp)).keep (R.same (e.trans (.new hp))) (e.free hp) upd_same
/-! ### __init__ -/
def spInit (C : Addr) : Sp := fun vs H Q _ => ∃ (p dx : Addr), vs = [.ref p] ∧ H p = some (.ins C dx []) ∧ ∀ H' : Hp, RuleAt C p H' p Uw73.init → Keep p H H' → Q .non H'
theorem scInit : FnScope ["self"] ["self"] (defScope sInit) := ⟨rfl, rfl, rfl, by decide +kernel, rfl, by decide +kernel, by decide +kernel⟩
theorem valid_init : Valid Uw73.init := ⟨by decide, by decide, by decide, rfl, by decide⟩
theorem ok_init {f C : Addr} {fd : FuncData} (F : Fun K "__init__" "FoldingRule.__init__" sInit f fd) (T : Txt K mg C) : FnOk P w K mg base CX0 1 f fd ["self"] (spInit C) := by
  refine F.ok scInit (fun vs H Q E h => ?_) (fun cdv A outer s H vs Q E hr h => ?_)
  · obtain ⟨p, dx, rfl, _⟩ := h
    rfl
  · obtain ⟨p, dx, rfl, hp, k⟩ := h
    refine ⟨_, pss_cons (ps_fld (pv 0) (pe_lst (pa_cons pe_int pa_nil)) rfl) (pss_one (ps_fld (pv 0) (pe_lst pa_nil) rfl)), ?_⟩
    refine ⟨(by show 1 ≤ sizeLine; decide), fun a ha => ⟨_, rfl, p, C, dx, [], rfl, (Same.new ha) _ _ hp, T.cl, T.nR, (by show 0 < 1000; decide), ?_⟩⟩
    have k1 : Keep p H (upd (upd H a (.lst [V.int 1])) p (.ins C dx (putF "rods" (.ref a) []))) := (Same.new ha).keep.trans .put
    have hp1 : (upd (upd H a (.lst [V.int 1])) p (.ins C dx (putF "rods" (.ref a) []))) p = some (.ins C dx (putF "rods" (.ref a) [])) := upd_same
    have nap : a ≠ p := (ne_of_none hp ha).symm
    have ha1 : (upd (upd H a (.lst [V.int 1])) p (.ins C dx (putF "rods" (.ref a) []))) a = some (.lst (nv [1])) := by
      rw [upd_ne nap, upd_same]
      rfl
    generalize upd (upd H a (.lst [V.int 1])) p (.ins C dx (putF "rods" (.ref a) [])) = H1 at k1 hp1 ha1
    refine ⟨Nat.zero_le _, fun b hb => ⟨_, rfl, p, C, dx, _, rfl, (Same.new hb) _ _ hp1, T.cl, T.nH, (by show 1 < 1000; decide), ?_⟩⟩
    have nbp : b ≠ p := (ne_of_none hp1 hb).symm
    refine k _ ⟨valid_init, dx, a, b, ?_, ?_, ?_, ?_⟩ (k1.trans ((Same.new hb).keep.trans .put))
    · rw [upd_same, rf_eq]
    · rw [upd_ne nap]
      exact (Same.new hb) _ _ ha1
    · rw [upd_ne nbp, upd_same]
      rfl
    · exact ⟨nap, nbp⟩
/-! ### renew -/
def spRenew (C : Addr) : Sp := fun vs H Q _ => ∃ (u x : Addr) (s : Uw73.St) (b : Addr) (l : List Nat), vs = [.ref x, .ref b] ∧ RuleAt C u H x s ∧ H u ≠ none ∧ b ≠ u ∧ H b = some (.lst (nv l)) ∧ Ans C u H x (Uw73.step s (.rule l)) Q
theorem rep_zero (k : Nat) : (List.replicate k [V.int 0]).flatten = nv (List.replicate k 0) := by
  induction k with
  | zero => rfl
  | succ k ih => rw [List.replicate_succ, List.flatten_cons, ih]; rfl
theorem sum_ints (l : List Nat) : (Uw73.ints l).sum = (Uw73.total l : Int) := by
  rw [total_sum]
  unfold Uw73.ints
  induction l with
  | nil => rfl
  | cons a l ih => rw [List.map_cons, List.sum_cons, ih, List.sum_cons]; omega
theorem scRenew : FnScope ["self", "rods"] ["self", "rods"] (defScope sRenew) := ⟨rfl, rfl, rfl, by decide +kernel, rfl, by decide +kernel, by decide +kernel⟩
theorem ok_renew {f C fR : Addr} {fd fdR : FuncData} (F : Fun K "renew" "FoldingRule.renew" sRenew f fd) (T : Txt K mg C) (B : Bl mg) (U : Nums mg) (FR : Fun K "are_rods" "are_rods" sRods fR fdR) (bR : Binds K fdR ["row"] []) (mR : mg "are_rods" = some (.ref fR)) :
    FnOk P w K mg base CX0 2 f fd ["self", "rods"] (spRenew C) := by
  have GR : FnOk P w K mg base CX0 1 fR fdR ["row"] spRods := ok_rods FR B U
  refine F.ok scRenew (fun vs H Q E h => ?_) (fun cdv A outer s H vs Q E hr h => ?_)
  · obtain ⟨u, x, s, b, l, rfl, _⟩ := h
    rfl
  · obtain ⟨u, x, s, b, l, rfl, R, hu, nbu, hb, k⟩ := h
    obtain ⟨t1, g1⟩ := U.wrong
    refine ⟨_, pss_cons (ps_if (pt_not (pt_val (pe_call GR hr rfl mR FR.kp bR .nil pass0 (pa_cons (pv 1) pa_nil)))) (pss_one (ps_ret (pe_lst (pa_cons (pe_glob (v := .int (-1)) rfl g1 ⟨_, rfl⟩) pa_nil)))) pss_nil)
      (pss_cons (ps_fld (pv 0) (pv 1) rfl)
      (pss_cons (ps_fld (pv 0) (pe_op op_rep (pe_lst (pa_cons pe_int pa_nil)) (pe_op op_sub (pe_callB call_len_seq (by rfl) B.len PySem.boot_len (pa_cons (pv 1) pa_nil)) pe_int)) rfl)
      (pss_one (ps_ret (pe_lst (pa_cons (pe_callB (cr_sum rfl) (by rfl) B.sum PyProof.Rows.boot_sum (pa_cons (pv 1) pa_nil)) pa_nil)))))), ?_⟩
    refine ⟨_, rfl, b, l, rfl, hb, fun H1 s1 => ⟨_, rfl, ?_⟩⟩
    cases e : okRods l with
    | false =>
      rw [rule_no e] at k
      refine iteT ⟨(by show 1 ≤ sizeLine; decide), fun p hp => ?_⟩
      exact k.tell R s1 hp
    | true =>
      obtain ⟨e1, v1⟩ := rule_yes (s := s) e
      rw [e1] at k
      refine iteF ?_
      obtain ⟨v, dx, a0, b0, hx, ha0, hb0, na0, nb0⟩ := R
      have hx1 := s1 _ _ hx
      have hb1 := s1 _ _ hb
      have nbx : b ≠ x := ne_lst_ins hb hx
      refine ⟨_, rfl, _, rfl, x, C, dx, _, rfl, hx1, T.cl, T.nR, (by show 2 < 1000; decide), ?_⟩
      have k2 : Keep x H (upd H1 x (.ins C dx (putF "rods" (.ref b) (rf a0 b0)))) := s1.keep.trans .put
      have hx2 : (upd H1 x (.ins C dx (putF "rods" (.ref b) (rf a0 b0)))) x = some (.ins C dx (rf b b0)) := by
        rw [upd_same, rf_put_rods]
      have hb2 : (upd H1 x (.ins C dx (putF "rods" (.ref b) (rf a0 b0)))) b = some (.lst (nv l)) := by
        rw [upd_ne nbx]
        exact hb1
      generalize upd H1 x (.ins C dx (putF "rods" (.ref b) (rf a0 b0))) = H2 at k2 hx2 hb2
      have hl10 : l.length ≤ 10 := v1.r10
      have hl1 : 1 ≤ l.length := v1.r1
      have ek : (((nv l).length : Int) - 1).toNat = l.length - 1 := by rw [nv_len]; omega
      refine ⟨(by show 1 ≤ sizeLine; decide), fun z hz => ⟨_, rfl, b, _, rfl, .inl (SqL.of ((Same.new hz) _ _ hb2)), _, _, rfl, rfl, z, _, [V.int 0], rfl, rfl, upd_same, ?_, ?_, ?_, fun c hc => ?_⟩⟩
      · rw [nv_len]; omega
      · rw [nv_len]; omega
      · rw [ek]
        show 1 * (l.length - 1) ≤ sizeLine
        have : (20 : Nat) ≤ sizeLine := by decide
        omega
      rw [ek, rep_zero]
      have ncu : c ≠ u := fun e => by
        have h1 : H2 c = none := (Same.new hz).free hc
        rw [e] at h1
        by_cases z : u = x
        · rw [z, hx2] at h1
          cases h1
        · cases q : H u with
          | none => exact hu q
          | some o =>
            rw [k2 u o q z] at h1
            cases h1
      have k3 : Same H2 (upd (upd H2 z (.lst [V.int 0])) c (.lst (nv (List.replicate (l.length - 1) 0)))) := (Same.new hz).trans (.new hc)
      have hc3 : (upd (upd H2 z (.lst [V.int 0])) c (.lst (nv (List.replicate (l.length - 1) 0)))) c = some (.lst (nv (List.replicate (l.length - 1) 0))) := upd_same
      generalize upd (upd H2 z (.lst [V.int 0])) c (.lst (nv (List.replicate (l.length - 1) 0))) = H3 at k3 hc3
      have hx3 := k3 _ _ hx2
      have hb3 := k3 _ _ hb2
      have ncx : c ≠ x := ne_lst_ins hc3 hx3
      refine ⟨_, rfl, x, C, dx, _, rfl, hx3, T.cl, T.nH, (by show 2 < 1000; decide), ?_⟩
      have k4 : Keep x H (upd H3 x (.ins C dx (putF "hinges" (.ref c) (rf b b0)))) := k2.trans (k3.keep.trans .put)
      have R4 : RuleAt C u (upd H3 x (.ins C dx (putF "hinges" (.ref c) (rf b b0)))) x ⟨l, List.replicate (l.length - 1) 0⟩ := by
        refine ⟨v1, dx, b, c, ?_, ?_, ?_, nbu, ncu⟩
        · rw [upd_same, rf_put_hinges]
        · rw [upd_ne nbx]; exact hb3
        · rw [upd_ne ncx]; exact hc3
      have hb4 : (upd H3 x (.ins C dx (putF "hinges" (.ref c) (rf b b0)))) b = some (.lst (nv l)) := by
        rw [upd_ne nbx]
        exact hb3
      generalize upd H3 x (.ins C dx (putF "hinges" (.ref c) (rf b b0))) = H4 at k4 R4 hb4
      refine ⟨_, rfl, b, Uw73.ints l, rfl, SqL.of hb4, (by show 1 ≤ sizeLine; decide), fun p hp => ?_⟩
      rw [sum_ints]
      have hp0 : H p = none := by
        cases q : H p with
        | none => rfl
        | some o =>
          by_cases z : p = x
          · obtain ⟨_, _, _, _, hx4, _⟩ := R4
            rw [z, hx4] at hp
            cases hp
          · rw [k4 p o q z] at hp
            cases hp
      exact k _ p (k4.trans (Same.new hp).keep) (R4.same (.new hp)) hp0 upd_same
end
end Fr

set_option Elab.async false
set_option linter.all false
set_option maxRecDepth 100000
set_option maxHeartbeats 2000000
namespace Fr
open PySem PySem.Spec PyProof.Rows L2
open Uw73 (rows joints over thick low high)
open FM
/-- the defs of the text that the methods call -/
structure Fns (K : PySem.W.Frag) (mg : Str → Option Value) (fRods fHinges fJoint fSpread fRight fThick fWays : Addr) (dRods dHinges dJoint dSpread dRight dThick dWays : FuncData) : Prop where
  rods : Fun K "are_rods" "are_rods" sRods fRods dRods
  rodsB : Binds K dRods ["row"] []
  rodsM : mg "are_rods" = some (.ref fRods)
  hinges : Fun K "are_hinges" "are_hinges" sHinges fHinges dHinges
  hingesB : Binds K dHinges ["row", "asked"] []
  hingesM : mg "are_hinges" = some (.ref fHinges)
  joint : Fun K "joint_places" "joint_places" sJoint fJoint dJoint
  jointB : Binds K dJoint ["rods", "hinges"] []
  jointM : mg "joint_places" = some (.ref fJoint)
  spread : Fun K "spread" "spread" sSpread fSpread dSpread
  spreadB : Binds K dSpread ["places"] []
  spreadM : mg "spread" = some (.ref fSpread)
  right : Fun K "rods_right_of" "rods_right_of" sRight fRight dRight
  rightB : Binds K dRight ["places", "place"] []
  rightM : mg "rods_right_of" = some (.ref fRight)
  thick : Fun K "thickness" "thickness" sThick fThick dThick
  thickB : Binds K dThick ["places"] []
  thickM : mg "thickness" = some (.ref fThick)
  ways : Fun K "all_ways" "all_ways" sWays fWays dWays
  waysB : Binds K dWays ["hinge_count"] []
  waysM : mg "all_ways" = some (.ref fWays)
section
variable {P : Program} {w : World} {K : PySem.W.Frag} {mg : Str → Option Value} {base : Heap}
variable {C fRods fHinges fJoint fSpread fRight fThick fWays : Addr} {dRods dHinges dJoint dSpread dRight dThick dWays : FuncData}
/-! ### fold -/
def spFold (C : Addr) : Sp := fun vs H Q _ => ∃ (u x : Addr) (s : Uw73.St) (b : Addr) (l : List Nat), vs = [.ref x, .ref b] ∧ RuleAt C u H x s ∧ b ≠ u ∧ H b = some (.lst (nv l)) ∧ Ans C u H x (Uw73.step s (.fold l)) Q
theorem scFold : FnScope ["self", "hinges", "places"] ["self", "hinges"] (defScope sFold) := ⟨rfl, rfl, rfl, by decide +kernel, rfl, by decide +kernel, by decide +kernel⟩
theorem Keep.free {x p : Addr} {H H' : Hp} {o : HO} (k : Keep x H H') (hx : H' x = some o) (hp : H' p = none) : H p = none := by
  cases q : H p with
  | none => rfl
  | some u =>
    by_cases z : p = x
    · rw [z, hx] at hp
      cases hp
    · rw [k p u q z] at hp
      cases hp
theorem ok_fold {f : Addr} {fd : FuncData} (F : Fun K "fold" "FoldingRule.fold" sFold f fd) (T : Txt K mg C) (B : Bl mg) (U : Nums mg) (N : Fns K mg fRods fHinges fJoint fSpread fRight fThick fWays dRods dHinges dJoint dSpread dRight dThick dWays) :
    FnOk P w K mg base CX0 3 f fd ["self", "hinges"] (spFold C) := by
  have GH : FnOk P w K mg base CX0 1 fHinges dHinges ["row", "asked"] spHinges := ok_hinges N.hinges B
  have GJ : FnOk P w K mg base CX0 1 fJoint dJoint ["rods", "hinges"] spJoint := ok_joint N.joint B
  have GS : FnOk P w K mg base CX0 1 fSpread dSpread ["places"] spSpread := ok_spread N.spread B
  have GT : FnOk P w K mg base CX0 2 fThick dThick ["places"] spThick := ok_thick N.thick B N.right N.rightB N.rightM
  refine F.ok scFold (fun vs H Q E h => ?_) (fun cdv A outer s H vs Q E hr h => ?_)
  · obtain ⟨u, x, s, b, l, rfl, _⟩ := h
    rfl
  · obtain ⟨u, x, s, b, l, rfl, R, nbu, hb, k⟩ := h
    have hr1 : Room 1 _ := hr.mono (by decide)
    have nd := scFold.nd
    obtain ⟨t1, g1⟩ := U.wrong
    refine ⟨_, pss_cons (ps_if (pt_not (pt_val (pe_call GH hr1 rfl N.hingesM N.hinges.kp N.hingesB .nil pass0 (pa_cons (pv 1) (pa_cons (pe_callB call_len_seq (by rfl) B.len PySem.boot_len (pa_cons (pe_fld (pv 0) rfl) pa_nil)) pa_nil)))))
        (pss_one (ps_ret (pe_lst (pa_cons (pe_glob (v := .int (-1)) rfl g1 ⟨_, rfl⟩) pa_nil)))) pss_nil)
      (pss_cons (ps_fld (pv 0) (pv 1) rfl)
      (pss_cons (ps_set (i := 2) nd rfl (Or.inl rfl) (pe_call GJ hr1 rfl N.jointM N.joint.kp N.jointB .nil pass0 (pa_cons (pe_fld (pv 0) rfl) (pa_cons (pe_fld (pv 0) rfl) pa_nil))))
      (pss_one (ps_ret (pe_lst (pa_cons (pe_call GS hr1 rfl N.spreadM N.spread.kp N.spreadB .nil pass0 (pa_cons (pv 2) pa_nil)) (pa_cons (pe_call GT hr rfl N.thickM N.thick.kp N.thickB .nil pass0 (pa_cons (pv 2) pa_nil)) pa_nil))))))), ?_⟩
    obtain ⟨v, dx, a0, b0, hx, ha0, hb0, na0, nb0⟩ := id R
    have hhl : s.hinges.length ≤ 100 := by have := v.hl; have := v.r10; omega
    refine ⟨_, rfl, _, rfl, x, C, dx, _, _, rfl, hx, T.cl, T.nH, rf_hinges _ _, b0, _, rfl, .inl (SqL.of hb0), b, l, s.hinges.length, ?_, hb, hhl, fun H1 s1 => ⟨_, rfl, ?_⟩⟩
    · show [V.ref b, V.int (((nv s.hinges).length : Nat) : Int)] = _
      rw [nv_len]
    cases e : (decide (l.length = s.hinges.length) && l.all hin1) with
    | false =>
      rw [fold_no e] at k
      refine iteT ⟨(by show 1 ≤ sizeLine; decide), fun p hp => ?_⟩
      exact k.tell R s1 hp
    | true =>
      obtain ⟨e1, v1⟩ := fold_yes v e
      rw [e1] at k
      refine iteF ?_
      have hx1 := s1 _ _ hx
      have hb1 := s1 _ _ hb
      have nbx : b ≠ x := ne_lst_ins hb hx
      have nax : a0 ≠ x := ne_lst_ins ha0 hx
      refine ⟨_, rfl, _, rfl, x, C, dx, _, rfl, hx1, T.cl, T.nH, (by show 2 < 1000; decide), ?_⟩
      have k2 : Keep x H (upd H1 x (.ins C dx (putF "hinges" (.ref b) (rf a0 b0)))) := s1.keep.trans .put
      have R2 : RuleAt C u (upd H1 x (.ins C dx (putF "hinges" (.ref b) (rf a0 b0)))) x ⟨s.rods, l⟩ := by
        refine ⟨v1, dx, a0, b, ?_, ?_, ?_, na0, nbu⟩
        · rw [upd_same, rf_put_hinges]
        · rw [upd_ne nax]; exact s1 _ _ ha0
        · rw [upd_ne nbx]; exact hb1
      generalize upd H1 x (.ins C dx (putF "hinges" (.ref b) (rf a0 b0))) = H2 at k2 R2
      obtain ⟨_, dx2, a2, b2, hx2, ha2, hb2, _⟩ := id R2
      refine ⟨_, rfl, x, C, dx2, _, _, rfl, hx2, T.cl, T.nR, rf_rods _ _, _, rfl, x, C, dx2, _, _, rfl, hx2, T.cl, T.nH, rf_hinges _ _, a2, b2, s.rods, l, rfl, ha2, hb2, v1.hl, (by have := v.r10; omega), fun H3 q s3 hq hq3 => ?_⟩
      have hjl : (joints s.rods l).length = s.rods.length + 1 := joints_len _ _
      refine ⟨_, rfl, q, _, rfl, hq3, (by omega), _, rfl, q, _, rfl, hq3, (by omega), (by have := v.r10; omega), fun H4 s4 => ⟨(by show 2 ≤ sizeLine; decide), fun p hp => ?_⟩⟩
      have s34 : Same H2 H4 := s3.trans s4
      have R5 := R2.same (s34.trans (.new hp (o := .lst (iv [((Uw73.spread s.rods l : Nat) : Int), ((thick s.rods l : Nat) : Int)]))))
      have hp2 : H2 p = none := s34.free hp
      have hp0 : H p = none := Keep.free k2 hx2 hp2
      rw [← spread_eq]
      exact k _ p (k2.trans (s34.trans (.new hp)).keep) R5 hp0 upd_same
/-! ### turn -/
def spTurn (C : Addr) : Sp := fun vs H Q _ => ∃ (u x : Addr) (s : Uw73.St) (i : Nat), vs = [.ref x, .int (i : Int)] ∧ RuleAt C u H x s ∧ H u ≠ none ∧ Ans C u H x (Uw73.step s (.turn i)) Q
theorem scTurn : FnScope ["self", "hinge", "turned"] ["self", "hinge"] (defScope sTurn) := ⟨rfl, rfl, rfl, by decide +kernel, rfl, by decide +kernel, by decide +kernel⟩
theorem nv_set (l : List Nat) (i n : Nat) : (nv l).set i (V.int (n : Int)) = nv (l.set i n) := by
  unfold nv iv Uw73.ints
  rw [← List.map_set, ← List.map_set]
theorem ok_turn {f fF : Addr} {fd fdF : FuncData} (F : Fun K "turn" "FoldingRule.turn" sTurn f fd) (T : Txt K mg C) (B : Bl mg) (U : Nums mg) (N : Fns K mg fRods fHinges fJoint fSpread fRight fThick fWays dRods dHinges dJoint dSpread dRight dThick dWays)
    (FF : Fun K "fold" "FoldingRule.fold" sFold fF fdF) (bF : Binds K fdF ["self", "hinges"] []) (mF : Meth K C "fold" fF) : FnOk P w K mg base CX0 4 f fd ["self", "hinge"] (spTurn C) := by
  have GF : FnOk P w K mg base CX0 3 fF fdF ["self", "hinges"] (spFold C) := ok_fold FF T B U N
  refine F.ok scTurn (fun vs H Q E h => ?_) (fun cdv A outer s H vs Q E hr h => ?_)
  · obtain ⟨u, x, s, i, rfl, _⟩ := h
    rfl
  · obtain ⟨u, x, s, i, rfl, R, hu, k⟩ := h
    have nd := scTurn.nd
    obtain ⟨t1, g1⟩ := U.nosuch
    refine ⟨_, pss_cons (ps_if (pt_cmpR op_ge (pv 1) (pe_callB call_len_seq (by rfl) B.len PySem.boot_len (pa_cons (pe_fld (pv 0) rfl) pa_nil)) (nomark _)) (pss_one (ps_ret (pe_lst (pa_cons (pe_glob (v := .int (-2)) rfl g1 ⟨_, rfl⟩) pa_nil)))) pss_nil)
      (pss_cons (ps_set (i := 2) nd rfl (Or.inl rfl) (pe_callTy call_list_of (by rfl) B.list (show bootBuiltins "list" = some (.type "list") by decide +kernel) (pa_cons (pe_fld (pv 0) rfl) pa_nil)))
      (pss_cons (ps_asg (pe_op op_sub pe_int (pe_ix ix_list (pv 2) (pv 1) (fun _ _ => rfl))) (pg_sub (pv 2) (pv 1) set_list))
      (pss_one (ps_ret (pe_meth (pv 0) T.cl mF GF hr bF .nil pass0 (pa_cons (pv 2) pa_nil)))))), ?_⟩
    obtain ⟨v, dx, a0, b0, hx, ha0, hb0, na0, nb0⟩ := id R
    refine ⟨_, rfl, _, rfl, x, C, dx, _, _, rfl, hx, T.cl, T.nH, rf_hinges _ _, b0, _, rfl, .inl (SqL.of hb0), _, _, rfl, rfl, _, rfl, ite2 (fun q => ?_) (fun q => ?_)⟩
    · have q1 := of_decide_eq_true q
      rw [nv_len] at q1
      rw [turn_no (by omega)] at k
      exact ⟨(by show 1 ≤ sizeLine; decide), fun p hp => k.tell R (Same.refl _) hp⟩
    · have q1 : ¬ (((nv s.hinges).length : Int) ≤ (i : Int)) := fun z => q (decide_eq_true z)
      rw [nv_len] at q1
      have hi : i < s.hinges.length := by omega
      rw [turn_yes v hi] at k
      refine ⟨_, rfl, x, C, dx, _, _, rfl, hx, T.cl, T.nH, rf_hinges _ _, b0, _, rfl, .inl (SqL.of hb0), fun c hc => ?_⟩
      have s1 : Same H (upd H c (.lst (nv s.hinges))) := .new hc
      have hcc : (upd H c (.lst (nv s.hinges))) c = some (.lst (nv s.hinges)) := upd_same
      generalize upd H c (.lst (nv s.hinges)) = H1 at s1 hcc
      have hgi : s.hinges[i]? = some s.hinges[i] := List.getElem?_eq_getElem hi
      have hh1 : s.hinges[i] ≤ 1 := v.h01 _ (List.getElem_mem hi)
      have hix : ixN (nv s.hinges).length (i : Int) = some i := by
        unfold ixN
        rw [if_pos (by omega), nv_len, if_pos (by omega)]
        rfl
      refine ⟨_, rfl, _, rfl, c, _, _, _, rfl, rfl, SqL.of hcc, atI_nat (nv_at hgi), _, _, rfl, rfl, _, rfl, _, rfl, c, _, _, i, rfl, rfl, hcc, hix, ?_⟩
      have e1 : (1 : Int) - ((s.hinges[i] : Nat) : Int) = ((1 - s.hinges.getD i 0 : Nat) : Int) := by
        rw [List.getD_eq_getElem?_getD, hgi]
        show (1 : Int) - ((s.hinges[i] : Nat) : Int) = ((1 - s.hinges[i] : Nat) : Int)
        omega
      have e2 : (nv s.hinges).set i ((fun i j : Int => V.int (i - j)) 1 ((s.hinges[i] : Nat) : Int)) = nv (s.hinges.set i (1 - s.hinges.getD i 0)) := by
        show (nv s.hinges).set i (V.int ((1 : Int) - ((s.hinges[i] : Nat) : Int))) = _
        rw [e1, nv_set]
      rw [e2]
      have s2 : Same H (upd H1 c (.lst (nv (s.hinges.set i (1 - s.hinges.getD i 0))))) := s1.put hc
      have hc2 : (upd H1 c (.lst (nv (s.hinges.set i (1 - s.hinges.getD i 0))))) c = some (.lst (nv (s.hinges.set i (1 - s.hinges.getD i 0)))) := upd_same
      generalize upd H1 c (.lst (nv (s.hinges.set i (1 - s.hinges.getD i 0)))) = H2 at s2 hc2
      refine ⟨_, rfl, x, dx, _, rfl, s2 _ _ hx, rf_no _ _ (by decide +kernel) (by decide +kernel), _, rfl, u, x, s, c, _, rfl, R.same s2, (fun e => hu (by rw [← e]; exact hc)), hc2, fun H' p kp R' hp hp' => ?_⟩
      exact k H' p (s2.keep.trans kp) R' (s2.free hp) hp'
/-! ### lies -/
def spLies (C : Addr) : Sp := fun vs H Q _ => ∃ (u x : Addr) (s : Uw73.St), vs = [.ref x] ∧ RuleAt C u H x s ∧ Ans C u H x (Uw73.step s .lies) Q
theorem scLies : FnScope ["self", "places"] ["self"] (defScope sLies) := ⟨rfl, rfl, rfl, by decide +kernel, rfl, by decide +kernel, by decide +kernel⟩
theorem ok_lies {f : Addr} {fd : FuncData} (F : Fun K "lies" "FoldingRule.lies" sLies f fd) (T : Txt K mg C) (B : Bl mg) (N : Fns K mg fRods fHinges fJoint fSpread fRight fThick fWays dRods dHinges dJoint dSpread dRight dThick dWays) :
    FnOk P w K mg base CX0 2 f fd ["self"] (spLies C) := by
  have GJ : FnOk P w K mg base CX0 1 fJoint dJoint ["rods", "hinges"] spJoint := ok_joint N.joint B
  refine F.ok scLies (fun vs H Q E h => ?_) (fun cdv A outer s H vs Q E hr h => ?_)
  · obtain ⟨u, x, s, rfl, _⟩ := h
    rfl
  · obtain ⟨u, x, s, rfl, R, k⟩ := h
    have nd := scLies.nd
    refine ⟨_, pss_cons (ps_set (i := 1) nd rfl (Or.inl rfl) (pe_call GJ hr rfl N.jointM N.joint.kp N.jointB .nil pass0 (pa_cons (pe_fld (pv 0) rfl) (pa_cons (pe_fld (pv 0) rfl) pa_nil))))
      (pss_one (ps_ret (pe_op op_cat (pe_lst (pa_cons (pe_callB call_len_seq (by rfl) B.len PySem.boot_len (pa_cons (pv 1) pa_nil)) pa_nil)) (pv 1)))), ?_⟩
    obtain ⟨v, dx, a0, b0, hx, ha0, hb0, na0, nb0⟩ := id R
    refine ⟨_, rfl, x, C, dx, _, _, rfl, hx, T.cl, T.nR, rf_rods _ _, _, rfl, x, C, dx, _, _, rfl, hx, T.cl, T.nH, rf_hinges _ _, a0, b0, s.rods, s.hinges, rfl, ha0, hb0, v.hl, (by have := v.r10; omega), fun H1 q s1 hq hq1 => ?_⟩
    have hjl : (joints s.rods s.hinges).length = s.rods.length + 1 := joints_len _ _
    refine ⟨_, rfl, q, _, rfl, .inl (SqL.of hq1), (by show 1 ≤ sizeLine; decide), fun z hz => ⟨_, rfl, z, q, _, _, rfl, rfl, upd_same, (Same.new hz) _ _ hq1, ?_, fun p hp => ?_⟩⟩
    · rw [iv_len]
      show 1 + (joints s.rods s.hinges).length ≤ sizeLine
      have : (200 : Nat) ≤ sizeLine := by decide
      have := v.r10
      omega
    · rw [iv_len] at hp ⊢
      exact Ans.tell (l := ((joints s.rods s.hinges).length : Int) :: joints s.rods s.hinges) k R (s1.trans (.new hz)) hp
end
end Fr

set_option Elab.async false
set_option linter.all false
set_option maxRecDepth 100000
set_option maxHeartbeats 2000000
namespace Fr
open PySem PySem.Spec PyProof.Rows L2
open Uw73 (rows joints over thick low high)
open FM
abbrev sChanges : Stmt := top 26
abbrev sFurther : Stmt := top 27
abbrev sDist : Stmt := top 28
abbrev sCount : Stmt := top 29
abbrev sLeast : Stmt := top 30
section
variable {P : Program} {w : World} {K : PySem.W.Frag} {mg : Str → Option Value} {base : Heap}
/-! ### changes -/
def ne2 (x : Nat × Nat) : Bool := x.1 != x.2
theorem differ_eq (a b : List Nat) : Uw73.differ a b = ((a.zip b).filter ne2).length := rfl
def spChanges : Sp := fun vs H Q _ => ∃ (a b : Addr) (hs ws : List Nat), vs = [.ref a, .ref b] ∧ H a = some (.lst (nv hs)) ∧ H b = some (.lst (nv ws)) ∧ hs.length ≤ 900 ∧ ∀ H' : Hp, Same H H' → Q (.int ((Uw73.differ hs ws : Nat) : Int)) H'
theorem scChanges : FnScope ["hinges", "way", "hinge", "other"] ["hinges", "way"] (defScope sChanges) := ⟨rfl, rfl, rfl, by decide +kernel, rfl, by decide +kernel, by decide +kernel⟩
theorem nzip_get {l m : List Nat} {i : Nat} {x y : Nat} (h1 : l[i]? = some x) (h2 : m[i]? = some y) : (l.zip m)[i]? = some (x, y) := by
  rw [List.getElem?_zip_eq_some]
  exact ⟨h1, h2⟩
theorem ok_changes {f : Addr} {fd : FuncData} (F : Fun K "changes" "changes" sChanges f fd) (T : Bl mg) : FnOk P w K mg base CX0 1 f fd ["hinges", "way"] spChanges := by
  refine F.ok scChanges (fun vs H Q E h => ?_) (fun cdv A outer s H vs Q E hr h => ?_)
  · obtain ⟨a, b, hs, ws, rfl, _⟩ := h
    rfl
  · obtain ⟨a, b, hs, ws, rfl, ha, hb, hlen, k⟩ := h
    have nd := scChanges.nd
    refine ⟨_, pss_one (ps_ret (pe_callB call_len_seq (by rfl) T.len PySem.boot_len (pa_cons
      (pe_lc (own := [("hinge", 2), ("other", 3)]) rfl nd (pi_zip rfl T.zip (pa_cons (pv 0) (pa_cons (pv 1) pa_nil))) (blkOk_by (by rfl))
        (fun _ _ _ _ _ => (show PG _ _ (gTup K 2 _) from pg_tup rfl (pgs_cons (pg_name (i := 2) nd rfl (Or.inl rfl)) (pgs_cons (pg_name (i := 3) nd rfl (Or.inl rfl)) pgs_nil))))
        (fun _ _ _ _ _ => pts_one (pt_cmpR op_ne (pv 2) (pv 3) (nomark _))) (fun _ _ _ _ _ => pv 2)) pa_nil))), ?_⟩
    refine ⟨_, rfl, _, rfl, a, b, nv hs, nv ws, rfl, SqL.of ha, SqL.of hb, fun D hD => ?_⟩
    have hmin : min (nv hs).length (nv ws).length = (hs.zip ws).length := by
      rw [nv_len, nv_len, List.length_zip]
    refine lc_zip (K := K) (a := a) (b := b) (xs := nv hs) (ys := nv ws) (fun i H' => Same H H' ∧ H' D = some (.lst (nv ((((hs.zip ws).take i).filter ne2).map Prod.fst)))) ⟨.new hD, upd_same⟩
      (fun i H' _ ⟨s1, _⟩ => ⟨SqL.of (s1 _ _ ha), SqL.of (s1 _ _ hb)⟩) ?_ ?_
    · rintro i x y T' H' hx hy hT ⟨s1, hD'⟩
      obtain ⟨m, hm, rfl⟩ := nv_get hx
      obtain ⟨n, hn, rfl⟩ := nv_get hy
      have ez : (hs.zip ws).take (i + 1) = (hs.zip ws).take i ++ [(m, n)] := take_snoc (nzip_get hm hn)
      have s2 : Same H (upd H' T' (.tup [V.int (m : Int), V.int (n : Int)])) := s1.trans (.new hT)
      have hD2 := (Same.new (o := .tup [V.int (m : Int), V.int (n : Int)]) hT) _ _ hD'
      refine ⟨T', _, rfl, SqT.of upd_same, rfl, _, _, rfl, _, _, rfl, rfl, rfl, ?_⟩
      generalize upd H' T' (.tup [V.int (m : Int), V.int (n : Int)]) = H3 at s2 hD2
      refine ⟨_, rfl, _, rfl, rfl, _, rfl, ite2 (fun q => ?_) (fun q => ?_)⟩
      · refine ⟨_, rfl, _, hD2, ?_, s2.put hD, ?_⟩
        · rw [nv_len, List.length_map]
          refine Nat.lt_of_le_of_lt (List.length_filter_le _ _) ?_
          rw [List.length_take, List.length_zip]
          exact small1000 (by omega)
        · have q1 : ne2 (m, n) = true := by
            unfold ne2
            refine bne_iff_ne.mpr fun e => ?_
            dsimp only at e
            subst e
            simp at q
          rw [upd_same, nv_snoc, ez, List.filter_append, List.filter_cons, if_pos q1, List.map_append]
          rfl
      · refine ⟨s2, ?_⟩
        have q1 : ¬ ne2 (m, n) = true := fun z => q (by
          unfold ne2 at z
          have e := bne_iff_ne.mp z
          dsimp only at e
          have e2 : ¬ V.int (m : Int) = V.int (n : Int) := fun z => e (by have := V.int.inj z; omega)
          simp [e2])
        rw [ez, List.filter_append, List.filter_cons, if_neg q1, List.filter_nil, List.append_nil]
        exact hD2
    · rintro H' ⟨s1, hD'⟩
      rw [hmin, List.take_length] at hD'
      refine ⟨D, _, rfl, .inl (SqL.of hD'), ?_⟩
      rw [nv_len, List.length_map, ← differ_eq]
      exact k H' s1
end
end Fr

set_option Elab.async false
set_option linter.all false
set_option maxRecDepth 100000
set_option maxHeartbeats 2000000
namespace Fr
open PySem PySem.Spec PyProof.Rows L2
open Uw73 (rows joints over thick low high)
open FM
section
variable {P : Program} {w : World} {K : PySem.W.Frag} {mg : Str → Option Value} {base : Heap}
/-! ### one_rod_further -/
def spFurther : Sp := fun vs H Q _ => ∃ (d : Addr) (ks : List Nat) (r : Nat), vs = [.ref d, .int (r : Int)] ∧ H d = some (.dK (dk ks)) ∧ ks.length ≤ 5000 ∧
  ∀ (H' : Hp) (p : Addr), Same H H' → H p = none → H' p = some (.dK (dk (further ks r))) → Q (.ref p) H'
theorem scFurther : FnScope ["distances", "rod", "further", "distance"] ["distances", "rod"] (defScope sFurther) := ⟨rfl, rfl, rfl, by decide +kernel, rfl, by decide +kernel, by decide +kernel⟩
theorem abs_gap (n r : Nat) : (if (n : Int) - (r : Int) < 0 then -((n : Int) - (r : Int)) else (n : Int) - (r : Int)) = ((gap n r : Nat) : Int) := by
  unfold gap
  by_cases h : (n : Int) - (r : Int) < 0
  · rw [if_pos h]; omega
  · rw [if_neg h]; omega
theorem big20000 : (20000 : Nat) < sizeLine := by decide
theorem ok_further {f : Addr} {fd : FuncData} (F : Fun K "one_rod_further" "one_rod_further" sFurther f fd) (T : Bl mg) : FnOk P w K mg base CX0 1 f fd ["distances", "rod"] spFurther := by
  refine F.ok scFurther (fun vs H Q E h => ?_) (fun cdv A outer s H vs Q E hr h => ?_)
  · obtain ⟨d, ks, r, rfl, _⟩ := h
    rfl
  · obtain ⟨d, ks, r, rfl, hd, hlen, k⟩ := h
    have nd := scFurther.nd
    have hu := hu_of hr
    refine ⟨_, pss_cons (ps_set (i := 2) nd rfl (Or.inl rfl) pe_dnewK)
      (pss_cons (ps_lock (ps_for PassesOwn.never rfl (pi_keys (pv 0)) (pg_name (i := 3) nd rfl (Or.inl rfl))
        (pss_cons (ps_dput hu (pv 2) (pe_op op_add (pv 3) (pv 1)) pe_bl rfl)
        (pss_one (ps_dput hu (pv 2) (pe_callB call_abs (by rfl) T.abs PyProof.Rows.boot_abs (pa_cons (pe_op op_sub (pv 3) (pv 1)) pa_nil)) pe_bl rfl)))))
      (pss_one (ps_ret (pv 2)))), ?_⟩
    intro p hp
    have ndp : d ≠ p := ne_of_none hd hp
    have s1 : Same H (upd H p (.dK [])) := .new hp
    have hp1 : (upd H p (.dK [])) p = some (.dK (dk [])) := upd_same
    generalize upd H p (.dK []) = H1 at s1 hp1
    have hd1 := s1 _ _ hd
    refine ⟨d, .dK (dk ks), hd1, trivial, fun od => ?_⟩
    refine ⟨_, rfl, d, od, rfl, .inl ⟨dk ks, upd_same, for_keys (d := d) (o := od) (kvs := dk ks)
      (fun i σ H' => ∃ v3 : Option V, σ = [some (.ref d), some (.int (r : Int)), some (.ref p), v3] ∧ Keep p (upd H1 d (.frz od (.dK (dk ks)))) H' ∧ H' p = some (.dK (dk (further (ks.take i) r))))
      ⟨none, rfl, .refl, ?_⟩ (fun i σ H' _ ⟨_, _, kp, _⟩ => kp _ _ upd_same ndp) ?_ ?_⟩⟩
    · rw [upd_ne ndp.symm]
      exact hp1
    · rintro i ky v σ H' hk ⟨v3, rfl, kp, hp'⟩
      obtain ⟨n, hn, rfl⟩ := dk_get hk
      have hi : i < ks.length := (List.getElem?_eq_some_iff.mp hn).1
      have hl1 : (further (ks.take i) r).length ≤ 2 * 5000 := by
        have h1 := further_len (ks.take i) [] r
        rw [List.length_nil, List.length_take] at h1
        unfold further
        omega
      have hb := big20000
      have e1 : upd H' p (.dK (putK (dk (further (ks.take i) r)) (Sum.inl ((n + r : Nat) : Int)) (V.bl true))) = upd H' p (.dK (dk (put (further (ks.take i) r) (n + r)))) := by rw [dk_put]
      have hl2 := put_len (further (ks.take i) r) (n + r)
      refine ⟨_, rfl, _, rfl, _, rfl, _, _, rfl, rfl, p, _, rfl, DPut.k (k := Sum.inl ((n + r : Nat) : Int)) hp' (by rw [dk_len]; omega), ?_⟩
      rw [e1]
      have kp1 : Keep p (upd H1 d (.frz od (.dK (dk ks)))) (upd H' p (.dK (dk (put (further (ks.take i) r) (n + r))))) := kp.trans .put
      have hp2 : (upd H' p (.dK (dk (put (further (ks.take i) r) (n + r))))) p = some (.dK (dk (put (further (ks.take i) r) (n + r)))) := upd_same
      generalize upd H' p (.dK (dk (put (further (ks.take i) r) (n + r)))) = H2 at kp1 hp2
      refine ⟨_, rfl, _, rfl, _, rfl, _, _, rfl, rfl, _, rfl, ?_⟩
      rw [abs_gap]
      refine ⟨p, _, rfl, DPut.k (k := Sum.inl ((gap n r : Nat) : Int)) hp2 (by rw [dk_len]; omega), some (V.int (n : Int)), rfl, kp1.trans .put, ?_⟩
      rw [upd_same, dk_put, take_snoc hn, further_snoc]
    · rintro σ H' ⟨v3, rfl, kp, hp'⟩
      rw [dk_len, List.take_length] at hp'
      refine ⟨kp _ _ upd_same ndp, ?_⟩
      refine ⟨_, rfl, k _ p (fun b o hb => ?_) hp ?_⟩
      · by_cases z : b = d
        · subst z
          rw [upd_same]
          exact hd.symm.trans hb
        · rw [upd_ne z]
          refine kp b o ?_ (ne_of_none hb hp)
          rw [upd_ne z]
          exact s1 _ _ hb
      · rw [upd_ne ndp.symm]
        exact hp'
/-! ### distances_from_first -/
def spDist : Sp := fun vs H Q _ => ∃ (a : Addr) (rs : List Nat), vs = [.ref a] ∧ H a = some (.lst (nv rs)) ∧ rs.length ≤ 10 ∧
  ∀ (H' : Hp) (q : Addr) (as : List Addr), Same H H' → H q = none → H' q = some (.lst (as.map V.ref)) → DctAt H' as ((List.range rs.length).map fun j => dl rs (j + 1)) → (∀ b ∈ as, H b = none) → Q (.ref q) H'
theorem scDist : FnScope ["rods", "distances", "by_joint", "rod"] ["rods"] (defScope sDist) := ⟨rfl, rfl, rfl, by decide +kernel, rfl, by decide +kernel, by decide +kernel⟩
theorem ok_dist {f fF : Addr} {fd fdF : FuncData} (F : Fun K "distances_from_first" "distances_from_first" sDist f fd) (T : Bl mg) (FF : Fun K "one_rod_further" "one_rod_further" sFurther fF fdF) (bF : Binds K fdF ["distances", "rod"] []) (mF : mg "one_rod_further" = some (.ref fF)) :
    FnOk P w K mg base CX0 2 f fd ["rods"] spDist := by
  have GF : FnOk P w K mg base CX0 1 fF fdF ["distances", "rod"] spFurther := ok_further FF T
  refine F.ok scDist (fun vs H Q E h => ?_) (fun cdv A outer s H vs Q E hr h => ?_)
  · obtain ⟨a, rs, rfl, _⟩ := h
    rfl
  · obtain ⟨a, rs, rfl, ha, hlen, k⟩ := h
    have nd := scDist.nd
    refine ⟨_, pss_cons (ps_set (i := 1) nd rfl (Or.inl rfl) (pe_disp (pps_cons pe_int pe_bl pps_nil) rfl rfl (by decide) (by decide)))
      (pss_cons (ps_set (i := 2) nd rfl (Or.inl rfl) (pe_lst pa_nil))
      (pss_cons (ps_for PassesOwn.never rfl (pi_list (pv 0)) (pg_name (i := 3) nd rfl (Or.inl rfl))
        (pss_cons (ps_set (i := 1) nd rfl (Or.inl rfl) (pe_call GF hr rfl mF FF.kp bF .nil pass0 (pa_cons (pv 1) (pa_cons (pv 3) pa_nil))))
        (pss_one (ps_expr (pe_bm PySem.F.plainAttrs_list PySem.F.slot_list_append PySem.F.type_list_append mt_append (pv 2) (pa_cons (pv 1) pa_nil))))))
      (pss_one (ps_ret (pv 2))))), ?_⟩
    intro p hp
    refine ⟨upd_same, [(Sum.inl ((0 : Nat) : Int), V.bl true)], rfl, (by decide), ?_⟩
    have s1 : Same H (upd (upd H p (.dK [])) p (.dK (mergeK [] [(Sum.inl ((0 : Nat) : Int), V.bl true)]))) := (Same.new hp).put hp
    have hp1 : (upd (upd H p (.dK [])) p (.dK (mergeK [] [(Sum.inl ((0 : Nat) : Int), V.bl true)]))) p = some (.dK (dk (dl rs 0))) := upd_same
    generalize upd (upd H p (.dK [])) p (.dK (mergeK [] [(Sum.inl ((0 : Nat) : Int), V.bl true)])) = H1 at s1 hp1
    refine ⟨Nat.zero_le _, fun q hq => ?_⟩
    have s2 : Same H (upd H1 q (.lst [])) := s1.trans (.new hq)
    have hq0 : H q = none := s1.free hq
    refine ⟨_, rfl, a, rfl, ⟨_, SqL.of (s2 _ _ ha)⟩, for_list (K := K) (a := a) (xs := nv rs)
      (fun i σ H' => ∃ (pd : Addr) (v3 : Option V) (as : List Addr), σ = [some (.ref a), some (.ref pd), some (.ref q), v3] ∧ Same H H' ∧ H' pd = some (.dK (dk (dl rs i))) ∧ H' q = some (.lst (as.map V.ref)) ∧
        DctAt H' as ((List.range i).map fun j => dl rs (j + 1)) ∧ ∀ b ∈ as, H b = none)
      ⟨p, none, [], rfl, s2, (Same.new hq) _ _ hp1, upd_same, .nil, (fun _ h => nomatch h)⟩ (fun i σ H' _ ⟨_, _, _, _, s3, _⟩ => SqL.of (s3 _ _ ha)) ?_ ?_⟩
    · rintro i x σ H' hx ⟨pd, v3, as, rfl, s3, hpd, hq3, hD, hfr⟩
      obtain ⟨r, hr1, rfl⟩ := nv_get hx
      have hi : i < rs.length := (List.getElem?_eq_some_iff.mp hr1).1
      have hdl : (dl rs i).length ≤ 1024 := Nat.le_trans (dl_len rs i) (Nat.pow_le_pow_right (by decide : 0 < 2) (show i ≤ 10 by omega))
      refine ⟨_, rfl, ?_⟩
      refine ⟨_, rfl, pd, dl rs i, r, rfl, hpd, (by omega), fun H4 p4 s4 hp4 hp4' => ?_⟩
      have er : rs.getD i 0 = r := by rw [List.getD_eq_getElem?_getD, hr1]; rfl
      have hp5 : H4 p4 = some (.dK (dk (dl rs (i + 1)))) := by
        show H4 p4 = some (.dK (dk (further (dl rs i) (rs.getD i 0))))
        rw [er]
        exact hp4'
      have hq4 := s4 _ _ hq3
      have hl : (as.map V.ref).length < sizeLine := by
        rw [List.length_map, hD.len, List.length_map, List.length_range]
        exact small1000 (by omega)
      refine ⟨_, rfl, .inl ⟨rfl, _, SqL.of hq4⟩, _, rfl, q, _, _, rfl, rfl, hq4, hl, ?_⟩
      have k5 : Keep q H4 (upd H4 q (.lst (as.map V.ref ++ [V.ref p4]))) := .put
      have npq : p4 ≠ q := fun e => by rw [e, hq4] at hp5; cases hp5
      refine ⟨p4, _, as ++ [p4], rfl, (s3.trans s4).put hq0, k5 _ _ hp5 npq, ?_, ?_, fun b hb => ?_⟩
      · rw [upd_same, List.map_append]
        rfl
      · rw [List.range_succ, List.map_append]
        refine (((hD.same s4).snoc hp5).keep k5 ?_)
        exact ((hD.same s4).snoc hp5).ne hq4 (fun _ z => nomatch z)
      · rcases List.mem_append.mp hb with z | z
        · exact hfr b z
        · rw [List.mem_singleton.mp z]
          exact s3.free hp4
    · rintro σ H' ⟨pd, v3, as, rfl, s3, hpd, hq3, hD, hfr⟩
      rw [nv_len] at hD
      refine ⟨_, rfl, ?_⟩
      exact k H' q as s3 hq0 hq3 hD hfr
end
end Fr

set_option Elab.async false
set_option linter.all false
set_option maxRecDepth 100000
set_option maxHeartbeats 2000000
namespace Fr
open PySem PySem.Spec PyProof.Rows L2
open Uw73 (rows joints over thick low high)
open FM
theorem first_ix {α : Type} [DecidableEq α] {m : α} : ∀ {l : List α}, m ∈ l → ∃ j, l[j]? = some m ∧ ∀ (i : Nat) (y : α), i < j → l[i]? = some y → y ≠ m
  | [], h => nomatch h
  | a :: l, h => by
    by_cases e : a = m
    · exact ⟨0, by rw [e]; rfl, fun i y hi => absurd hi (Nat.not_lt_zero _)⟩
    · rcases List.mem_cons.mp h with z | z
      · exact absurd z.symm e
      · obtain ⟨j, h1, h2⟩ := first_ix z
        refine ⟨j + 1, h1, fun i y hi hy => ?_⟩
        cases i with
        | zero =>
          have := Option.some.inj hy
          rw [← this]
          exact e
        | succ i => exact h2 i y (Nat.lt_of_succ_lt_succ hi) hy
theorem ints_mem {l : List Nat} {m : Int} (h : m ∈ Uw73.ints l) : ∃ n : Nat, m = (n : Int) ∧ n ∈ l := by
  obtain ⟨n, h1, h2⟩ := List.mem_map.mp h
  exact ⟨n, h2.symm, h1⟩
theorem mem_ints {l : List Nat} {n : Nat} (h : n ∈ l) : ((n : Nat) : Int) ∈ Uw73.ints l := List.mem_map.mpr ⟨n, h, rfl⟩
theorem count_ints (l : List Nat) (n : Nat) : (Uw73.ints l).count (n : Int) = l.count n := by
  unfold Uw73.ints
  induction l with
  | nil => rfl
  | cons a l ih =>
    rw [List.map_cons, List.count_cons, List.count_cons, ih]
    congr 1
    by_cases e : a = n
    · rw [if_pos (by rw [e]; exact beq_self_eq_true _), if_pos (by rw [e]; exact beq_self_eq_true _)]
    · rw [if_neg (fun z => e (by have := eq_of_beq z; omega)), if_neg (fun z => e (eq_of_beq z))]
theorem nv_flat (l : List Nat) : (nv l).all flatV = true := by
  rw [List.all_eq_true]
  intro v hv
  obtain ⟨z, _, rfl⟩ := List.mem_map.mp hv
  rfl
theorem ways_of {s : Uw73.St} (v : Valid s) : Uw73.ways s.rods = rows s.hinges.length := by
  unfold Uw73.ways
  rw [v.hl]
  rfl
/-- least, how many, the first: as the text finds them -/
theorem best_found {f : List Nat → Nat} {ws : List (List Nat)} {m j : Nat} {w0 : List Nat} (h1 : m ∈ ws.map f) (h2 : ∀ y ∈ ws.map f, m ≤ y) (h3 : (ws.map f)[j]? = some m) (h4 : ∀ (i : Nat) (y : Nat), i < j → (ws.map f)[i]? = some y → y ≠ m) (hw : ws[j]? = some w0) :
    Uw73.best f ws = some (m, (ws.map f).count m, w0) := by
  rw [best_is h1 h2, count_map]
  congr 3
  refine head_filter hw ?_ fun i y hi hy => ?_
  · rw [List.getElem?_map, hw] at h3
    rw [Option.some.inj h3]
    exact beq_self_eq_true _
  · exact beq_eq_false_iff_ne.mpr (h4 i (f y) hi (by rw [List.getElem?_map, hy]; rfl))
section
variable {P : Program} {w : World} {K : PySem.W.Frag} {mg : Str → Option Value} {base : Heap}
/-! ### count_and_first -/
def spCount : Sp := fun vs H Q _ => ∃ (p : Addr) (ws : List (List Nat)), vs = [.ref p] ∧ WaysAt H p ws ∧ (∀ v ∈ ws, v.length ≤ 100) ∧
  ∀ (H' : Hp) (q : Addr), Same H H' → H q = none → H' q = some (.lst (iv (((ws.length : Nat) : Int) :: Uw73.ints (ws.headD [])))) → Q (.ref q) H'
theorem scCount : FnScope ["found"] ["found"] (defScope sCount) := ⟨rfl, rfl, rfl, by decide +kernel, rfl, by decide +kernel, by decide +kernel⟩
theorem ok_count {f : Addr} {fd : FuncData} (F : Fun K "count_and_first" "count_and_first" sCount f fd) (T : Bl mg) : FnOk P w K mg base CX0 1 f fd ["found"] spCount := by
  refine F.ok scCount (fun vs H Q E h => ?_) (fun cdv A outer s H vs Q E hr h => ?_)
  · obtain ⟨p, ws, rfl, _⟩ := h
    rfl
  · obtain ⟨p, ws, rfl, W, hws, k⟩ := h
    refine ⟨_, pss_cons (ps_if (pt_cmpR op_eq (pe_callB call_len_seq (by rfl) T.len PySem.boot_len (pa_cons (pv 0) pa_nil)) pe_int (nomark _)) (pss_one (ps_ret (pe_lst (pa_cons pe_int pa_nil)))) pss_nil)
      (pss_one (ps_ret (pe_op op_cat (pe_lst (pa_cons (pe_callB call_len_seq (by rfl) T.len PySem.boot_len (pa_cons (pv 0) pa_nil)) pa_nil)) (pe_ix ix_list (pv 0) pe_int (fun _ _ => rfl))))), ?_⟩
    obtain ⟨as, hp, hR⟩ := W
    have hl := hR.len
    refine ⟨_, rfl, p, _, rfl, .inl (SqL.of hp), rfl, _, rfl, ite2 (fun z => ?_) (fun z => ?_)⟩
    · have z1 : ((as.map V.ref).length : Int) = 0 := V.int.inj (of_decide_eq_true z)
      rw [List.length_map, hl] at z1
      have z2 : ws = [] := List.length_eq_zero_iff.mp (by omega)
      subst z2
      refine ⟨(by show 1 ≤ sizeLine; decide), fun q hq => ?_⟩
      exact k _ q (.new hq) hq upd_same
    · have z1 : ¬ ((as.map V.ref).length : Int) = 0 := fun e => z (decide_eq_true (congrArg V.int e))
      rw [List.length_map, hl] at z1
      cases ws with
      | nil => exact absurd rfl z1
      | cons w0 ws =>
        obtain ⟨a, ha⟩ : ∃ a, as[0]? = some a := ⟨_, List.getElem?_eq_getElem (by rw [hl]; exact Nat.succ_pos _)⟩
        obtain ⟨w1, hw1, haw⟩ := hR.get ha
        have e1 : w0 = w1 := Option.some.inj hw1
        subst e1
        refine ⟨_, rfl, p, _, rfl, .inl (SqL.of hp), (by show 1 ≤ sizeLine; decide), fun y hy => ?_⟩
        have s1 : Same H (upd H y (.lst [V.int ((as.map V.ref).length : Int)])) := .new hy
        have hyy : (upd H y (.lst [V.int ((as.map V.ref).length : Int)])) y = some (.lst (nv [(w0 :: ws).length])) := by
          rw [upd_same, List.length_map, hl]
          rfl
        generalize upd H y (.lst [V.int ((as.map V.ref).length : Int)]) = H1 at s1 hyy
        refine ⟨_, rfl, p, _, (0 : Int), _, rfl, rfl, SqL.of (s1 _ _ hp), atI_nat (j := 0) (by rw [List.getElem?_map, ha]; rfl), ?_⟩
        refine ⟨y, a, _, _, rfl, rfl, hyy, s1 _ _ haw, ?_, fun r hr' => ?_⟩
        · rw [nv_len, nv_len]
          have := hws w0 List.mem_cons_self
          show 1 + w0.length ≤ sizeLine
          have : (200 : Nat) ≤ sizeLine := by decide
          omega
        · exact k _ r (s1.trans (.new hr')) (s1.free hr') upd_same
/-! ### least_and_first -/
def spLeast : Sp := fun vs H Q _ => ∃ (p q : Addr) (ws : List (List Nat)) (g : List Nat → Nat), vs = [.ref p, .ref q] ∧ WaysAt H p ws ∧ H q = some (.lst (nv (ws.map g))) ∧ 0 < ws.length ∧ (∀ v ∈ ws, v.length ≤ 100) ∧
  ∀ (H' : Hp) (r : Addr) (x : Nat × Nat × List Nat), Uw73.best g ws = some x → Same H H' → H r = none → H' r = some (.lst (nv (x.1 :: x.2.1 :: x.2.2))) → Q (.ref r) H'
theorem scLeast : FnScope ["ways", "numbers", "least"] ["ways", "numbers"] (defScope sLeast) := ⟨rfl, rfl, rfl, by decide +kernel, rfl, by decide +kernel, by decide +kernel⟩
theorem ok_least {f : Addr} {fd : FuncData} (F : Fun K "least_and_first" "least_and_first" sLeast f fd) (B : Bl mg) : FnOk P w K mg base CX0 1 f fd ["ways", "numbers"] spLeast := by
  refine F.ok scLeast (fun vs H Q E h => ?_) (fun cdv A outer s H vs Q E hr h => ?_)
  · obtain ⟨p, q, ws, g, rfl, _⟩ := h
    rfl
  · obtain ⟨p, q, ws, g, rfl, W, hq2, hne, hws, k⟩ := h
    have nd := scLeast.nd
    refine ⟨_, pss_cons (ps_set (i := 2) nd rfl (Or.inl rfl) (pe_callB (cr_min rfl) (by rfl) B.min PyProof.Rows.boot_min (pa_cons (pv 1) pa_nil)))
      (pss_one (ps_ret (pe_op op_cat (pe_lst (pa_cons (pv 2) (pa_cons (pe_bm PySem.F.plainAttrs_list PySem.F.slot_list_count PySem.F.type_list_count mt_lcount (pv 1) (pa_cons (pv 2) pa_nil)) pa_nil)))
        (pe_ix ix_list (pv 0) (pe_bm PySem.F.plainAttrs_list PySem.F.slot_list_index PySem.F.type_list_index mt_index (pv 1) (pa_cons (pv 2) pa_nil)) (fun _ _ => rfl))))), ?_⟩
    obtain ⟨as, hp2, hR2⟩ := W
    have hlen2 : 0 < (Uw73.ints (ws.map g)).length := by
      rw [ints_len, List.length_map]
      exact hne
    refine ⟨_, rfl, q, _, rfl, SqL.of hq2, hlen2, fun m hm1 hm2 => ?_⟩
    obtain ⟨m0, rfl, hm0⟩ := ints_mem hm1
    have hmin : ∀ y ∈ ws.map g, m0 ≤ y := fun y hy => by
      have := hm2 _ (mem_ints hy)
      omega
    obtain ⟨j, hj1, hj2⟩ := first_ix hm0
    have hjlen : j < ws.length := by
      have := (List.getElem?_eq_some_iff.mp hj1).1
      rw [List.length_map] at this
      exact this
    obtain ⟨a, haj⟩ : ∃ a, as[j]? = some a := ⟨_, List.getElem?_eq_getElem (by rw [hR2.len]; exact hjlen)⟩
    obtain ⟨w0, hw0, haw⟩ := hR2.get haj
    have hbest := best_found hm0 hmin hj1 hj2 hw0
    refine ⟨_, rfl, _, rfl, .inl ⟨rfl, _, SqL.of hq2⟩, _, rfl, q, _, _, rfl, rfl, SqL.of hq2, (by show 2 ≤ sizeLine; decide), fun z hz => ?_⟩
    have s3 : Same H (upd H z (.lst [V.int (m0 : Int), V.int (((Uw73.ints (ws.map g)).count (m0 : Int) : Nat) : Int)])) := .new hz
    have hzz : (upd H z (.lst [V.int (m0 : Int), V.int (((Uw73.ints (ws.map g)).count (m0 : Int) : Nat) : Int)])) z = some (.lst (nv [m0, (ws.map g).count m0])) := by
      rw [upd_same, count_ints]
      rfl
    generalize upd H z (.lst [V.int (m0 : Int), V.int (((Uw73.ints (ws.map g)).count (m0 : Int) : Nat) : Int)]) = H3 at s3 hzz
    refine ⟨_, rfl, _, rfl, .inl ⟨rfl, _, SqL.of (s3 _ _ hq2)⟩, _, rfl, q, _, _, j, _, rfl, rfl, SqL.of (s3 _ _ hq2), rfl, nv_flat _, nv_at hj1, beq_self_eq_true _, ?_, p, _, _, _, rfl, rfl, SqL.of (s3 _ _ hp2), atI_nat (by rw [List.getElem?_map, haj]; rfl), ?_⟩
    · intro i z' hi hz'
      obtain ⟨n, hn, rfl⟩ := nv_get hz'
      have := hj2 i n hi hn
      exact beq_eq_false_iff_ne.mpr (show ((n : Nat) : Int) ≠ (m0 : Int) by omega)
    · have hwl : w0.length ≤ 100 := hws w0 (List.mem_of_getElem? hw0)
      refine ⟨z, a, _, _, rfl, rfl, hzz, s3 _ _ haw, ?_, fun r hr' => ?_⟩
      · rw [nv_len, nv_len]
        show 2 + w0.length ≤ sizeLine
        have : (200 : Nat) ≤ sizeLine := by decide
        omega
      · refine k _ r _ hbest (s3.trans (.new hr')) (s3.free hr') ?_
        rw [upd_same]
        rfl
end
end Fr

set_option Elab.async false
set_option linter.all false
set_option maxRecDepth 100000
set_option maxHeartbeats 2000000
namespace Fr
open PySem PySem.Spec PyProof.Rows L2
open Uw73 (rows joints over thick low high)
open FM
abbrev sMways : Stmt := inClass (top 31) 5
abbrev sWithin : Stmt := inClass (top 31) 6
abbrev sShort : Stmt := inClass (top 31) 7
abbrev sFits : Stmt := inClass (top 31) 8
abbrev sThin : Stmt := inClass (top 31) 9
abbrev sClosed : Stmt := inClass (top 31) 10
abbrev sMark : Stmt := inClass (top 31) 11
abbrev sMarks : Stmt := inClass (top 31) 12
abbrev sChange : Stmt := inClass (top 31) 13
/-- the rest of the defs that the methods call -/
structure Fns2 (K : PySem.W.Frag) (mg : Str → Option Value) (fChanges fFurther fDist fCount fLeast : Addr) (dChanges dFurther dDist dCount dLeast : FuncData) : Prop where
  changes : Fun K "changes" "changes" sChanges fChanges dChanges
  changesB : Binds K dChanges ["hinges", "way"] []
  changesM : mg "changes" = some (.ref fChanges)
  further : Fun K "one_rod_further" "one_rod_further" sFurther fFurther dFurther
  furtherB : Binds K dFurther ["distances", "rod"] []
  furtherM : mg "one_rod_further" = some (.ref fFurther)
  dist : Fun K "distances_from_first" "distances_from_first" sDist fDist dDist
  distB : Binds K dDist ["rods"] []
  distM : mg "distances_from_first" = some (.ref fDist)
  count : Fun K "count_and_first" "count_and_first" sCount fCount dCount
  countB : Binds K dCount ["found"] []
  countM : mg "count_and_first" = some (.ref fCount)
  least : Fun K "least_and_first" "least_and_first" sLeast fLeast dLeast
  leastB : Binds K dLeast ["ways", "numbers"] []
  leastM : mg "least_and_first" = some (.ref fLeast)
/-- an answer that changes nothing, in a list that is new -/
theorem Ans.told {C u : Addr} {H H1 : Hp} {x p : Addr} {s : Uw73.St} {l : List Int} {Q : VK} (h : Ans C u H x (s, l) Q) (R : RuleAt C u H x s) (e : Same H H1) (hp : H p = none) (hp1 : H1 p = some (.lst (iv l))) : Q (.ref p) H1 :=
  h _ p e.keep (R.same e) hp hp1
theorem rows_ways {s : Uw73.St} (v : Valid s) {w : List Nat} (h : w ∈ rows s.hinges.length) : s.rods.length = w.length + 1 ∧ w.length ≤ 100 := by
  have h1 := (mem_rows.mp h).1
  have := v.hl
  have := v.r10
  exact ⟨by omega, by omega⟩
section
variable {P : Program} {w : World} {K : PySem.W.Frag} {mg : Str → Option Value} {base : Heap}
variable {C fRods fHinges fJoint fSpread fRight fThick fWays : Addr} {dRods dHinges dJoint dSpread dRight dThick dWays : FuncData}
variable {fChanges fFurther fDist fCount fLeast : Addr} {dChanges dFurther dDist dCount dLeast : FuncData}
/-! ### ways -/
def spMways (C : Addr) : Sp := fun vs H Q _ => ∃ (u x : Addr) (s : Uw73.St), vs = [.ref x] ∧ RuleAt C u H x s ∧ ∀ (H' : Hp) (p : Addr), Same H H' → H p = none → WaysAt H' p (rows s.hinges.length) → Q (.ref p) H'
theorem scMways : FnScope ["self"] ["self"] (defScope sMways) := ⟨rfl, rfl, rfl, by decide +kernel, rfl, by decide +kernel, by decide +kernel⟩
theorem ok_mways {f : Addr} {fd : FuncData} (F : Fun K "ways" "FoldingRule.ways" sMways f fd) (T : Txt K mg C) (B : Bl mg) (N : Fns K mg fRods fHinges fJoint fSpread fRight fThick fWays dRods dHinges dJoint dSpread dRight dThick dWays) :
    FnOk P w K mg base CX0 2 f fd ["self"] (spMways C) := by
  have GW : FnOk P w K mg base CX0 1 fWays dWays ["hinge_count"] spWays := ok_ways N.ways B
  refine F.ok scMways (fun vs H Q E h => ?_) (fun cdv A outer s H vs Q E hr h => ?_)
  · obtain ⟨u, x, s, rfl, _⟩ := h
    rfl
  · obtain ⟨u, x, s, rfl, R, k⟩ := h
    refine ⟨_, pss_one (ps_ret (pe_call GW hr rfl N.waysM N.ways.kp N.waysB .nil pass0 (pa_cons (pe_callB call_len_seq (by rfl) B.len PySem.boot_len (pa_cons (pe_fld (pv 0) rfl) pa_nil)) pa_nil))), ?_⟩
    obtain ⟨v, dx, a0, b0, hx, ha0, hb0, na0, nb0⟩ := id R
    have hhl : s.hinges.length ≤ 9 := by have := v.hl; have := v.r10; omega
    refine ⟨_, rfl, x, C, dx, _, _, rfl, hx, T.cl, T.nH, rf_hinges _ _, b0, _, rfl, .inl (SqL.of hb0), s.hinges.length, ?_, (by omega), fun H1 p s1 hp W1 => ?_⟩
    · show [V.int (((nv s.hinges).length : Nat) : Int)] = _
      rw [nv_len]
    · exact k H1 p s1 hp W1
/-! ### ways_within -/
def spWithin (C : Addr) : Sp := fun vs H Q _ => ∃ (u x : Addr) (s : Uw73.St) (c : Nat), vs = [.ref x, .int (c : Int)] ∧ RuleAt C u H x s ∧ ∀ (H' : Hp) (p : Addr), Same H H' → H p = none → WaysAt H' p (Uw73.within s.rods c) → Q (.ref p) H'
theorem scWithin : FnScope ["self", "length", "way"] ["self", "length"] (defScope sWithin) := ⟨rfl, rfl, rfl, by decide +kernel, rfl, by decide +kernel, by decide +kernel⟩
theorem ok_within {f fW : Addr} {fd fdW : FuncData} (F : Fun K "ways_within" "FoldingRule.ways_within" sWithin f fd) (T : Txt K mg C) (B : Bl mg) (N : Fns K mg fRods fHinges fJoint fSpread fRight fThick fWays dRods dHinges dJoint dSpread dRight dThick dWays)
    (FW : Fun K "ways" "FoldingRule.ways" sMways fW fdW) (bW : Binds K fdW ["self"] []) (mW : Meth K C "ways" fW) : FnOk P w K mg base CX0 3 f fd ["self", "length"] (spWithin C) := by
  have GW : FnOk P w K mg base CX0 2 fW fdW ["self"] (spMways C) := ok_mways FW T B N
  have GJ : FnOk P w K mg base CX0 1 fJoint dJoint ["rods", "hinges"] spJoint := ok_joint N.joint B
  have GS : FnOk P w K mg base CX0 1 fSpread dSpread ["places"] spSpread := ok_spread N.spread B
  refine F.ok scWithin (fun vs H Q E h => ?_) (fun cdv A outer s H vs Q E hr h => ?_)
  · obtain ⟨u, x, s, c, rfl, _⟩ := h
    rfl
  · obtain ⟨u, x, s, c, rfl, R, k⟩ := h
    have nd := scWithin.nd
    have hr1 : Room 1 _ := hr.mono (by decide)
    refine ⟨_, pss_one (ps_ret (pe_lc (own := [("way", 2)]) rfl nd (pi_list (pe_meth0 (pv 0) T.cl mW GW hr bW .nil pass0)) (blkOk_by (by rfl)) (fun _ _ _ _ _ => pg_name (i := 2) nd rfl (Or.inl rfl))
        (fun _ _ _ _ _ => pts_one (pt_cmpR op_le (pe_call GS hr1 rfl N.spreadM N.spread.kp N.spreadB .nil pass0 (pa_cons (pe_call GJ hr1 rfl N.jointM N.joint.kp N.jointB .nil pass0 (pa_cons (show PE _ _ (tFld K (tVar 0) "rods") from pe_fld (pv 0) rfl) (pa_cons (pv 2) pa_nil))) pa_nil)) (pv 1) (nomark _)))
        (fun _ _ _ _ _ => pv 2))), ?_⟩
    obtain ⟨v, dx, a0, b0, hx, ha0, hb0, na0, nb0⟩ := id R
    have hhl : s.hinges.length ≤ 9 := by have := v.hl; have := v.r10; omega
    have hrs := rows_short (show s.hinges.length ≤ 12 by omega)
    refine ⟨_, rfl, x, dx, _, rfl, hx, rf_no _ _ (by decide +kernel) (by decide +kernel), u, x, s, rfl, R, fun H1 p s1 hp W1 => ?_⟩
    obtain ⟨as, hp1, hR⟩ := W1
    refine ⟨p, rfl, ⟨_, SqL.of hp1⟩, fun D hD => ?_⟩
    refine lc_list (K := K) (a := p) (xs := as.map V.ref) (fun i H' => Same H1 H' ∧ ∃ bs : List Addr, H' D = some (.lst (bs.map V.ref)) ∧ RowsAt H1 bs (((rows s.hinges.length).take i).filter fun h => decide (Uw73.spread s.rods h ≤ c)))
      ⟨.new hD, [], upd_same, .nil⟩ (fun i H' _ ⟨s2, _⟩ => SqL.of (s2 _ _ hp1)) ?_ ?_
    · rintro i y H' hy ⟨s2, bs, hD', hB⟩
      obtain ⟨a, ha, rfl⟩ := ref_get hy
      obtain ⟨w, hw, haw⟩ := hR.get ha
      have hwm : w ∈ rows s.hinges.length := List.mem_of_getElem? hw
      have hjl : (joints s.rods w).length = s.rods.length + 1 := joints_len _ _
      refine ⟨rfl, ?_⟩
      refine ⟨_, rfl, x, C, dx, _, _, rfl, s2 _ _ (s1 _ _ hx), T.cl, T.nR, rf_rods _ _, _, rfl, a0, a, s.rods, w, rfl, s2 _ _ (s1 _ _ ha0), s2 _ _ haw, (rows_ways v hwm).1, (by have := v.r10; omega), fun H3 q s3 hq hq3 => ?_⟩
      refine ⟨q, _, rfl, hq3, (by omega), _, rfl, ?_⟩
      rw [← spread_eq]
      refine ⟨_, _, rfl, rfl, _, rfl, ite2 (fun z => ?_) (fun z => ?_)⟩
      · have z1 := of_decide_eq_true z
        refine ⟨_, rfl, _, s3 _ _ hD', ?_, (s2.trans s3).put hD, bs ++ [a], ?_, ?_⟩
        · rw [List.length_map, hB.len]
          refine Nat.lt_of_le_of_lt (List.length_filter_le _ _) ?_
          rw [List.length_take]
          omega
        · rw [upd_same, List.map_append]
          rfl
        · rw [take_snoc hw, List.filter_append, List.filter_cons, if_pos (decide_eq_true (show Uw73.spread s.rods w ≤ c by omega))]
          exact hB.snoc haw
      · have z1 : ¬ (((Uw73.spread s.rods w : Nat) : Int) ≤ (c : Int)) := fun e => z (decide_eq_true e)
        refine ⟨s2.trans s3, bs, s3 _ _ hD', ?_⟩
        rw [take_snoc hw, List.filter_append, List.filter_cons, if_neg (fun e => z1 (by have := of_decide_eq_true e; omega)), List.filter_nil, List.append_nil]
        exact hB
    · rintro H3 ⟨s3, bs, hD3, hB⟩
      rw [List.length_map, hR.len, List.take_length] at hB
      refine k H3 D (s1.trans s3) (s1.free hD) ⟨bs, hD3, ?_⟩
      unfold Uw73.within
      rw [ways_of v]
      exact hB.same s3
theorem within_sub {s : Uw73.St} (v : Valid s) {c : Nat} {h : List Nat} (hh : h ∈ Uw73.within s.rods c) : h ∈ rows s.hinges.length := by
  unfold Uw73.within at hh
  rw [ways_of v] at hh
  exact (List.mem_filter.mp hh).1
theorem within_len {s : Uw73.St} (v : Valid s) (c : Nat) : (Uw73.within s.rods c).length < sizeLine := by
  unfold Uw73.within
  rw [ways_of v]
  have hhl : s.hinges.length ≤ 9 := by have := v.hl; have := v.r10; omega
  have hrs := rows_short (show s.hinges.length ≤ 12 by omega)
  refine Nat.lt_of_le_of_lt (List.length_filter_le _ _) ?_
  omega
/-! ### shortest -/
def spShort (C : Addr) : Sp := fun vs H Q _ => ∃ (u x : Addr) (s : Uw73.St), vs = [.ref x] ∧ RuleAt C u H x s ∧ Ans C u H x (Uw73.step s .shortest) Q
theorem scShort : FnScope ["self", "ways", "way"] ["self"] (defScope sShort) := ⟨rfl, rfl, rfl, by decide +kernel, rfl, by decide +kernel, by decide +kernel⟩
theorem ok_short {f fW : Addr} {fd fdW : FuncData} (F : Fun K "shortest" "FoldingRule.shortest" sShort f fd) (T : Txt K mg C) (B : Bl mg) (N : Fns K mg fRods fHinges fJoint fSpread fRight fThick fWays dRods dHinges dJoint dSpread dRight dThick dWays)
    (N2 : Fns2 K mg fChanges fFurther fDist fCount fLeast dChanges dFurther dDist dCount dLeast)
    (FW : Fun K "ways" "FoldingRule.ways" sMways fW fdW) (bW : Binds K fdW ["self"] []) (mW : Meth K C "ways" fW) : FnOk P w K mg base CX0 3 f fd ["self"] (spShort C) := by
  have GW : FnOk P w K mg base CX0 2 fW fdW ["self"] (spMways C) := ok_mways FW T B N
  have GJ : FnOk P w K mg base CX0 1 fJoint dJoint ["rods", "hinges"] spJoint := ok_joint N.joint B
  have GS : FnOk P w K mg base CX0 1 fSpread dSpread ["places"] spSpread := ok_spread N.spread B
  have GL : FnOk P w K mg base CX0 1 fLeast dLeast ["ways", "numbers"] spLeast := ok_least N2.least B
  refine F.ok scShort (fun vs H Q E h => ?_) (fun cdv A outer s H vs Q E hr h => ?_)
  · obtain ⟨u, x, s, rfl, _⟩ := h
    rfl
  · obtain ⟨u, x, s, rfl, R, k⟩ := h
    have nd := scShort.nd
    have hr1 : Room 1 _ := hr.mono (by decide)
    refine ⟨_, pss_cons (ps_set (i := 1) nd rfl (Or.inl rfl) (pe_meth0 (pv 0) T.cl mW GW hr bW .nil pass0))
      (pss_one (ps_ret (pe_call GL hr1 rfl N2.leastM N2.least.kp N2.leastB .nil pass0 (pa_cons (pv 1) (pa_cons
        (pe_lc (own := [("way", 2)]) rfl nd (pi_list (pv 1)) (blkOk_by (by rfl)) (fun _ _ _ _ _ => pg_name (i := 2) nd rfl (Or.inl rfl)) (fun _ _ _ _ _ => pts_nil)
          (fun _ _ _ _ _ => pe_call GS hr1 rfl N.spreadM N.spread.kp N.spreadB .nil pass0 (pa_cons (pe_call GJ hr1 rfl N.jointM N.joint.kp N.jointB .nil pass0 (pa_cons (show PE _ _ (tFld K (tVar 0) "rods") from pe_fld (pv 0) rfl) (pa_cons (pv 2) pa_nil))) pa_nil))) pa_nil))))), ?_⟩
    obtain ⟨v, dx, a0, b0, hx, ha0, hb0, na0, nb0⟩ := id R
    have hhl : s.hinges.length ≤ 9 := by have := v.hl; have := v.r10; omega
    have hrs := rows_short (show s.hinges.length ≤ 12 by omega)
    refine ⟨_, rfl, x, dx, _, rfl, hx, rf_no _ _ (by decide +kernel) (by decide +kernel), u, x, s, rfl, R, fun H1 p s1 hp W1 => ?_⟩
    obtain ⟨as, hp1, hR⟩ := id W1
    refine ⟨_, rfl, _, rfl, p, rfl, ⟨_, SqL.of hp1⟩, fun D hD => ?_⟩
    refine lc_list (K := K) (a := p) (xs := as.map V.ref) (fun i H' => Same H1 H' ∧ H' D = some (.lst (nv (((rows s.hinges.length).take i).map (Uw73.spread s.rods))))) ⟨.new hD, upd_same⟩ (fun i H' _ ⟨s2, _⟩ => SqL.of (s2 _ _ hp1)) ?_ ?_
    · rintro i y H' hy ⟨s2, hD'⟩
      obtain ⟨a, ha, rfl⟩ := ref_get hy
      obtain ⟨w, hw, haw⟩ := hR.get ha
      have hwm : w ∈ rows s.hinges.length := List.mem_of_getElem? hw
      have hjl : (joints s.rods w).length = s.rods.length + 1 := joints_len _ _
      refine ⟨rfl, tyes ?_⟩
      refine ⟨_, rfl, x, C, dx, _, _, rfl, s2 _ _ (s1 _ _ hx), T.cl, T.nR, rf_rods _ _, _, rfl, a0, a, s.rods, w, rfl, s2 _ _ (s1 _ _ ha0), s2 _ _ haw, (rows_ways v hwm).1, (by have := v.r10; omega), fun H3 q s3 hq hq3 => ?_⟩
      refine ⟨q, _, rfl, hq3, (by omega), _, s3 _ _ hD', ?_, ?_, ?_⟩
      · rw [nv_len, List.length_map, List.length_take]
        omega
      · exact (s2.trans s3).put hD
      · rw [upd_same, ← spread_eq, nv_snoc, take_snoc hw, List.map_append]
        rfl
    · rintro H3 ⟨s3, hD3⟩
      rw [List.length_map, hR.len, List.take_length] at hD3
      refine ⟨p, D, rows s.hinges.length, Uw73.spread s.rods, rfl, W1.same s3, hD3, (by rw [rows_length]; exact Nat.two_pow_pos _), fun v' hv' => (rows_ways v hv').2, fun H4 r y hbest s4 hr4 hr4' => ?_⟩
      have hstep : Uw73.step s .shortest = (s, Uw73.ints (y.1 :: y.2.1 :: y.2.2)) := by
        show (s, match Uw73.shortest s.rods with | none => [] | some x => Uw73.ints (x.1 :: x.2.1 :: x.2.2)) = _
        unfold Uw73.shortest
        rw [ways_of v, hbest]
      rw [hstep] at k
      have s13 := s1.trans s3
      exact k.told R (s13.trans s4) (s13.free hr4) hr4'
/-! ### fits -/
def spFits (C : Addr) : Sp := fun vs H Q _ => ∃ (u x : Addr) (s : Uw73.St) (c : Nat), vs = [.ref x, .int (c : Int)] ∧ RuleAt C u H x s ∧ Ans C u H x (Uw73.step s (.fits c)) Q
theorem scFits : FnScope ["self", "length"] ["self", "length"] (defScope sFits) := ⟨rfl, rfl, rfl, by decide +kernel, rfl, by decide +kernel, by decide +kernel⟩
theorem ok_fits {f fW fI : Addr} {fd fdW fdI : FuncData} (F : Fun K "fits" "FoldingRule.fits" sFits f fd) (T : Txt K mg C) (B : Bl mg) (N : Fns K mg fRods fHinges fJoint fSpread fRight fThick fWays dRods dHinges dJoint dSpread dRight dThick dWays)
    (FW : Fun K "ways" "FoldingRule.ways" sMways fW fdW) (bW : Binds K fdW ["self"] []) (mW : Meth K C "ways" fW)
    (FI : Fun K "ways_within" "FoldingRule.ways_within" sWithin fI fdI) (bI : Binds K fdI ["self", "length"] []) (mI : Meth K C "ways_within" fI) : FnOk P w K mg base CX0 4 f fd ["self", "length"] (spFits C) := by
  have GI : FnOk P w K mg base CX0 3 fI fdI ["self", "length"] (spWithin C) := ok_within FI T B N FW bW mW
  refine F.ok scFits (fun vs H Q E h => ?_) (fun cdv A outer s H vs Q E hr h => ?_)
  · obtain ⟨u, x, s, c, rfl, _⟩ := h
    rfl
  · obtain ⟨u, x, s, c, rfl, R, k⟩ := h
    refine ⟨_, pss_one (ps_ret (pe_lst (pa_cons (pe_callB call_len_seq (by rfl) B.len PySem.boot_len (pa_cons (pe_meth (pv 0) T.cl mI GI hr bI .nil pass0 (pa_cons (pv 1) pa_nil)) pa_nil)) pa_nil))), ?_⟩
    obtain ⟨v, dx, a0, b0, hx, ha0, hb0, na0, nb0⟩ := id R
    refine ⟨_, rfl, x, dx, _, rfl, hx, rf_no _ _ (by decide +kernel) (by decide +kernel), _, rfl, u, x, s, c, rfl, R, fun H1 p s1 hp W1 => ?_⟩
    obtain ⟨as, hp1, hR⟩ := id W1
    refine ⟨p, _, rfl, .inl (SqL.of hp1), (by show 1 ≤ sizeLine; decide), fun r hr' => ?_⟩
    rw [List.length_map, hR.len]
    have hstep : Uw73.step s (.fits c) = (s, [((Uw73.within s.rods c).length : Int)]) := rfl
    rw [hstep] at k
    exact k.tell R s1 hr'
/-! ### thinnest -/
def spThin (C : Addr) : Sp := fun vs H Q _ => ∃ (u x : Addr) (s : Uw73.St) (c : Nat), vs = [.ref x, .int (c : Int)] ∧ RuleAt C u H x s ∧ Ans C u H x (Uw73.step s (.thinnest c)) Q
theorem scThin : FnScope ["self", "length", "ways", "way"] ["self", "length"] (defScope sThin) := ⟨rfl, rfl, rfl, by decide +kernel, rfl, by decide +kernel, by decide +kernel⟩
theorem ok_thin {f fW fI : Addr} {fd fdW fdI : FuncData} (F : Fun K "thinnest" "FoldingRule.thinnest" sThin f fd) (T : Txt K mg C) (B : Bl mg) (U : Nums mg) (N : Fns K mg fRods fHinges fJoint fSpread fRight fThick fWays dRods dHinges dJoint dSpread dRight dThick dWays)
    (N2 : Fns2 K mg fChanges fFurther fDist fCount fLeast dChanges dFurther dDist dCount dLeast)
    (FW : Fun K "ways" "FoldingRule.ways" sMways fW fdW) (bW : Binds K fdW ["self"] []) (mW : Meth K C "ways" fW)
    (FI : Fun K "ways_within" "FoldingRule.ways_within" sWithin fI fdI) (bI : Binds K fdI ["self", "length"] []) (mI : Meth K C "ways_within" fI) : FnOk P w K mg base CX0 4 f fd ["self", "length"] (spThin C) := by
  have GI : FnOk P w K mg base CX0 3 fI fdI ["self", "length"] (spWithin C) := ok_within FI T B N FW bW mW
  have GJ : FnOk P w K mg base CX0 1 fJoint dJoint ["rods", "hinges"] spJoint := ok_joint N.joint B
  have GT : FnOk P w K mg base CX0 2 fThick dThick ["places"] spThick := ok_thick N.thick B N.right N.rightB N.rightM
  have GL : FnOk P w K mg base CX0 1 fLeast dLeast ["ways", "numbers"] spLeast := ok_least N2.least B
  refine F.ok scThin (fun vs H Q E h => ?_) (fun cdv A outer s H vs Q E hr h => ?_)
  · obtain ⟨u, x, s, c, rfl, _⟩ := h
    rfl
  · obtain ⟨u, x, s, c, rfl, R, k⟩ := h
    have nd := scThin.nd
    have hr1 : Room 1 _ := hr.mono (by decide)
    have hr2 : Room 2 _ := hr.mono (by decide)
    obtain ⟨t1, g1⟩ := U.noway
    refine ⟨_, pss_cons (ps_set (i := 2) nd rfl (Or.inl rfl) (pe_meth (pv 0) T.cl mI GI hr bI .nil pass0 (pa_cons (pv 1) pa_nil)))
      (pss_cons (ps_if (pt_cmpR op_eq (pe_callB call_len_seq (by rfl) B.len PySem.boot_len (pa_cons (pv 2) pa_nil)) pe_int (nomark _)) (pss_one (ps_ret (pe_lst (pa_cons (pe_glob (v := .int (-6)) rfl g1 ⟨_, rfl⟩) pa_nil)))) pss_nil)
      (pss_one (ps_ret (pe_call GL hr1 rfl N2.leastM N2.least.kp N2.leastB .nil pass0 (pa_cons (pv 2) (pa_cons
        (pe_lc (own := [("way", 3)]) rfl nd (pi_list (pv 2)) (blkOk_by (by rfl)) (fun _ _ _ _ _ => pg_name (i := 3) nd rfl (Or.inl rfl)) (fun _ _ _ _ _ => pts_nil)
          (fun _ _ _ _ _ => pe_call GT hr2 rfl N.thickM N.thick.kp N.thickB .nil pass0 (pa_cons (pe_call GJ hr1 rfl N.jointM N.joint.kp N.jointB .nil pass0 (pa_cons (show PE _ _ (tFld K (tVar 0) "rods") from pe_fld (pv 0) rfl) (pa_cons (pv 3) pa_nil))) pa_nil))) pa_nil)))))), ?_⟩
    obtain ⟨v, dx, a0, b0, hx, ha0, hb0, na0, nb0⟩ := id R
    have hwl := within_len v c
    refine ⟨_, rfl, x, dx, _, rfl, hx, rf_no _ _ (by decide +kernel) (by decide +kernel), _, rfl, u, x, s, c, rfl, R, fun H1 p s1 hp W1 => ?_⟩
    obtain ⟨as, hp1, hR⟩ := id W1
    refine ⟨_, rfl, p, _, rfl, .inl (SqL.of hp1), rfl, _, rfl, ite2 (fun z => ?_) (fun z => ?_)⟩
    · have z1 : ((as.map V.ref).length : Int) = 0 := V.int.inj (of_decide_eq_true z)
      rw [List.length_map, hR.len] at z1
      have z2 : Uw73.within s.rods c = [] := List.length_eq_zero_iff.mp (by omega)
      have hstep : Uw73.step s (.thinnest c) = (s, [-6]) := by
        show (s, match Uw73.thinnest s.rods c with | none => [-6] | some x => Uw73.ints (x.1 :: x.2.1 :: x.2.2)) = _
        unfold Uw73.thinnest
        rw [z2]
        rfl
      rw [hstep] at k
      exact ⟨(by show 1 ≤ sizeLine; decide), fun r hr' => k.tell R s1 hr'⟩
    · have z1 : ¬ ((as.map V.ref).length : Int) = 0 := fun e => z (decide_eq_true (congrArg V.int e))
      rw [List.length_map, hR.len] at z1
      refine ⟨_, rfl, _, rfl, p, rfl, ⟨_, SqL.of hp1⟩, fun D hD => ?_⟩
      refine lc_list (K := K) (a := p) (xs := as.map V.ref) (fun i H' => Same H1 H' ∧ H' D = some (.lst (nv (((Uw73.within s.rods c).take i).map (thick s.rods))))) ⟨.new hD, upd_same⟩ (fun i H' _ ⟨s2, _⟩ => SqL.of (s2 _ _ hp1)) ?_ ?_
      · rintro i y H' hy ⟨s2, hD'⟩
        obtain ⟨a, ha, rfl⟩ := ref_get hy
        obtain ⟨w, hw, haw⟩ := hR.get ha
        have hwm : w ∈ rows s.hinges.length := within_sub v (List.mem_of_getElem? hw)
        have hjl : (joints s.rods w).length = s.rods.length + 1 := joints_len _ _
        have hi : i < (Uw73.within s.rods c).length := (List.getElem?_eq_some_iff.mp hw).1
        refine ⟨rfl, tyes ?_⟩
        refine ⟨_, rfl, x, C, dx, _, _, rfl, s2 _ _ (s1 _ _ hx), T.cl, T.nR, rf_rods _ _, _, rfl, a0, a, s.rods, w, rfl, s2 _ _ (s1 _ _ ha0), s2 _ _ haw, (rows_ways v hwm).1, (by have := v.r10; omega), fun H3 q s3 hq hq3 => ?_⟩
        refine ⟨q, _, rfl, hq3, (by omega), (by have := v.r10; omega), fun H4 s4 => ?_⟩
        refine ⟨_, s4 _ _ (s3 _ _ hD'), ?_, ?_, ?_⟩
        · rw [nv_len, List.length_map, List.length_take]
          omega
        · exact ((s2.trans s3).trans s4).put hD
        · rw [upd_same, nv_snoc, take_snoc hw, List.map_append]
          rfl
      · rintro H3 ⟨s3, hD3⟩
        rw [List.length_map, hR.len, List.take_length] at hD3
        refine ⟨p, D, Uw73.within s.rods c, thick s.rods, rfl, W1.same s3, hD3, (by omega), fun v' hv' => (rows_ways v (within_sub v hv')).2, fun H4 r y hbest s4 hr4 hr4' => ?_⟩
        have hstep : Uw73.step s (.thinnest c) = (s, Uw73.ints (y.1 :: y.2.1 :: y.2.2)) := by
          show (s, match Uw73.thinnest s.rods c with | none => [-6] | some x => Uw73.ints (x.1 :: x.2.1 :: x.2.2)) = _
          unfold Uw73.thinnest
          rw [hbest]
        rw [hstep] at k
        have s13 := s1.trans s3
        exact k.told R (s13.trans s4) (s13.free hr4) hr4'
end
end Fr

set_option Elab.async false
set_option linter.all false
set_option maxRecDepth 100000
set_option maxHeartbeats 2000000
namespace Fr
open PySem PySem.Spec PyProof.Rows L2
open Uw73 (rows joints over thick low high)
open FM
section
variable {P : Program} {w : World} {K : PySem.W.Frag} {mg : Str → Option Value} {base : Heap}
variable {C fRods fHinges fJoint fSpread fRight fThick fWays : Addr} {dRods dHinges dJoint dSpread dRight dThick dWays : FuncData}
variable {fChanges fFurther fDist fCount fLeast : Addr} {dChanges dFurther dDist dCount dLeast : FuncData}
/-! ### closed -/
def spClosed (C : Addr) : Sp := fun vs H Q _ => ∃ (u x : Addr) (s : Uw73.St) (c : Nat), vs = [.ref x, .int (c : Int)] ∧ RuleAt C u H x s ∧ Ans C u H x (Uw73.step s (.closed c)) Q
theorem scClosed : FnScope ["self", "distance", "way"] ["self", "distance"] (defScope sClosed) := ⟨rfl, rfl, rfl, by decide +kernel, rfl, by decide +kernel, by decide +kernel⟩
theorem abs_nat (i : Int) : (if i < 0 then -i else i) = ((i.natAbs : Nat) : Int) := by
  by_cases h : i < 0
  · rw [if_pos h]; omega
  · rw [if_neg h]; omega
theorem ok_closed {f fW : Addr} {fd fdW : FuncData} (F : Fun K "closed" "FoldingRule.closed" sClosed f fd) (T : Txt K mg C) (B : Bl mg) (N : Fns K mg fRods fHinges fJoint fSpread fRight fThick fWays dRods dHinges dJoint dSpread dRight dThick dWays)
    (N2 : Fns2 K mg fChanges fFurther fDist fCount fLeast dChanges dFurther dDist dCount dLeast)
    (FW : Fun K "ways" "FoldingRule.ways" sMways fW fdW) (bW : Binds K fdW ["self"] []) (mW : Meth K C "ways" fW) : FnOk P w K mg base CX0 3 f fd ["self", "distance"] (spClosed C) := by
  have GW : FnOk P w K mg base CX0 2 fW fdW ["self"] (spMways C) := ok_mways FW T B N
  have GJ : FnOk P w K mg base CX0 1 fJoint dJoint ["rods", "hinges"] spJoint := ok_joint N.joint B
  have GC : FnOk P w K mg base CX0 1 fCount dCount ["found"] spCount := ok_count N2.count B
  refine F.ok scClosed (fun vs H Q E h => ?_) (fun cdv A outer s H vs Q E hr h => ?_)
  · obtain ⟨u, x, s, c, rfl, _⟩ := h
    rfl
  · obtain ⟨u, x, s, c, rfl, R, k⟩ := h
    have nd := scClosed.nd
    have hr1 : Room 1 _ := hr.mono (by decide)
    refine ⟨_, pss_one (ps_ret (pe_call GC hr1 rfl N2.countM N2.count.kp N2.countB .nil pass0 (pa_cons (pe_lc (own := [("way", 2)]) rfl nd (pi_list (pe_meth0 (pv 0) T.cl mW GW hr bW .nil pass0)) (blkOk_by (by rfl)) (fun _ _ _ _ _ => pg_name (i := 2) nd rfl (Or.inl rfl))
        (fun _ _ _ _ _ => pts_one (pt_cmpR op_eq (pe_callB call_abs (by rfl) B.abs PyProof.Rows.boot_abs (pa_cons (pe_ix (r := rIxL K) ix_list (pe_call GJ hr1 rfl N.jointM N.joint.kp N.jointB .nil pass0 (pa_cons (show PE _ _ (tFld K (tVar 0) "rods") from pe_fld (pv 0) rfl) (pa_cons (pv 2) pa_nil))) (pe_un un_neg pe_int) (fun _ _ => rfl)) pa_nil)) (pv 1) (nomark _)))
        (fun _ _ _ _ _ => pv 2)) pa_nil))), ?_⟩
    obtain ⟨v, dx, a0, b0, hx, ha0, hb0, na0, nb0⟩ := id R
    have hhl : s.hinges.length ≤ 9 := by have := v.hl; have := v.r10; omega
    have hrs := rows_short (show s.hinges.length ≤ 12 by omega)
    refine ⟨_, rfl, x, dx, _, rfl, hx, rf_no _ _ (by decide +kernel) (by decide +kernel), u, x, s, rfl, R, fun H1 p s1 hp W1 => ?_⟩
    obtain ⟨as, hp1, hR⟩ := W1
    refine ⟨p, rfl, ⟨_, SqL.of hp1⟩, fun D hD => ?_⟩
    refine lc_list (K := K) (a := p) (xs := as.map V.ref) (fun i H' => Same H1 H' ∧ ∃ bs : List Addr, H' D = some (.lst (bs.map V.ref)) ∧ RowsAt H1 bs (((rows s.hinges.length).take i).filter fun h => Uw73.ends s.rods h == c))
      ⟨.new hD, [], upd_same, .nil⟩ (fun i H' _ ⟨s2, _⟩ => SqL.of (s2 _ _ hp1)) ?_ ?_
    · rintro i y H' hy ⟨s2, bs, hD', hB⟩
      obtain ⟨a, ha, rfl⟩ := ref_get hy
      obtain ⟨w, hw, haw⟩ := hR.get ha
      have hwm : w ∈ rows s.hinges.length := List.mem_of_getElem? hw
      have hat : atI (iv (joints s.rods w)) (-1) = some (V.int (placeAt s.rods w s.rods.length)) := by
        rw [joints_eq, iv_range]
        exact atI_last _ _
      refine ⟨rfl, ?_⟩
      refine ⟨_, rfl, x, C, dx, _, _, rfl, s2 _ _ (s1 _ _ hx), T.cl, T.nR, rf_rods _ _, _, rfl, a0, a, s.rods, w, rfl, s2 _ _ (s1 _ _ ha0), s2 _ _ haw, (rows_ways v hwm).1, (by have := v.r10; omega), fun H3 q s3 hq hq3 => ?_⟩
      refine ⟨_, rfl, q, _, _, _, rfl, rfl, SqL.of hq3, hat, _, rfl, _, rfl, ?_⟩
      rw [abs_nat, ← ends_eq]
      refine ⟨rfl, _, rfl, ite2 (fun z => ?_) (fun z => ?_)⟩
      · have z1 : ((Uw73.ends s.rods w : Nat) : Int) = (c : Int) := V.int.inj (of_decide_eq_true z)
        refine ⟨_, rfl, _, s3 _ _ hD', ?_, (s2.trans s3).put hD, bs ++ [a], ?_, ?_⟩
        · rw [List.length_map, hB.len]
          refine Nat.lt_of_le_of_lt (List.length_filter_le _ _) ?_
          rw [List.length_take]
          omega
        · rw [upd_same, List.map_append]
          rfl
        · rw [take_snoc hw, List.filter_append, List.filter_cons, if_pos (beq_iff_eq.mpr (show Uw73.ends s.rods w = c by omega))]
          exact hB.snoc haw
      · have z1 : ¬ (((Uw73.ends s.rods w : Nat) : Int) = (c : Int)) := fun e => z (decide_eq_true (congrArg V.int e))
        refine ⟨s2.trans s3, bs, s3 _ _ hD', ?_⟩
        rw [take_snoc hw, List.filter_append, List.filter_cons, if_neg (fun e => z1 (by have := beq_iff_eq.mp e; omega)), List.filter_nil, List.append_nil]
        exact hB
    · rintro H3 ⟨s3, bs, hD3, hB⟩
      rw [List.length_map, hR.len, List.take_length] at hB
      refine ⟨D, _, rfl, ⟨bs, hD3, hB.same s3⟩, fun v' hv' => (rows_ways v (List.mem_filter.mp hv').1).2, fun H4 q s4 hq4 hq4' => ?_⟩
      have hstep : Uw73.step s (.closed c) = (s, ((((rows s.hinges.length).filter fun h => Uw73.ends s.rods h == c).length : Nat) : Int) :: Uw73.ints (((rows s.hinges.length).filter fun h => Uw73.ends s.rods h == c).headD [])) := by
        show (s, (((Uw73.closed s.rods c).length : Nat) : Int) :: Uw73.ints ((Uw73.closed s.rods c).headD [])) = _
        unfold Uw73.closed
        rw [ways_of v]
      rw [hstep] at k
      have s13 := s1.trans s3
      exact k.told R (s13.trans s4) (s13.free hq4) hq4'
/-! ### change -/
def spChange (C : Addr) : Sp := fun vs H Q _ => ∃ (u x : Addr) (s : Uw73.St) (c : Nat), vs = [.ref x, .int (c : Int)] ∧ RuleAt C u H x s ∧ Ans C u H x (Uw73.step s (.change c)) Q
theorem scChange : FnScope ["self", "length", "ways", "needed", "fewest", "way"] ["self", "length"] (defScope sChange) := ⟨rfl, rfl, rfl, by decide +kernel, rfl, by decide +kernel, by decide +kernel⟩
theorem ok_change {f fW fI : Addr} {fd fdW fdI : FuncData} (F : Fun K "change" "FoldingRule.change" sChange f fd) (T : Txt K mg C) (B : Bl mg) (U : Nums mg) (N : Fns K mg fRods fHinges fJoint fSpread fRight fThick fWays dRods dHinges dJoint dSpread dRight dThick dWays)
    (N2 : Fns2 K mg fChanges fFurther fDist fCount fLeast dChanges dFurther dDist dCount dLeast)
    (FW : Fun K "ways" "FoldingRule.ways" sMways fW fdW) (bW : Binds K fdW ["self"] []) (mW : Meth K C "ways" fW)
    (FI : Fun K "ways_within" "FoldingRule.ways_within" sWithin fI fdI) (bI : Binds K fdI ["self", "length"] []) (mI : Meth K C "ways_within" fI) : FnOk P w K mg base CX0 4 f fd ["self", "length"] (spChange C) := by
  have GI : FnOk P w K mg base CX0 3 fI fdI ["self", "length"] (spWithin C) := ok_within FI T B N FW bW mW
  have GC : FnOk P w K mg base CX0 1 fChanges dChanges ["hinges", "way"] spChanges := ok_changes N2.changes B
  refine F.ok scChange (fun vs H Q E h => ?_) (fun cdv A outer s H vs Q E hr h => ?_)
  · obtain ⟨u, x, s, c, rfl, _⟩ := h
    rfl
  · obtain ⟨u, x, s, c, rfl, R, k⟩ := h
    have nd := scChange.nd
    have hr1 : Room 1 _ := hr.mono (by decide)
    obtain ⟨t1, g1⟩ := U.noway
    refine ⟨_, pss_cons (ps_set (i := 2) nd rfl (Or.inl rfl) (pe_meth (pv 0) T.cl mI GI hr bI .nil pass0 (pa_cons (pv 1) pa_nil)))
      (pss_cons (ps_if (pt_cmpR op_eq (pe_callB call_len_seq (by rfl) B.len PySem.boot_len (pa_cons (pv 2) pa_nil)) pe_int (nomark _)) (pss_one (ps_ret (pe_lst (pa_cons (pe_glob (v := .int (-6)) rfl g1 ⟨_, rfl⟩) pa_nil)))) pss_nil)
      (pss_cons (ps_setLc (i := 3) (own := [("way", 5)]) rfl nd rfl rfl rfl (pi_list (pv 2)) (blkOk_by (by rfl)) (fun _ _ _ _ _ => pg_name (i := 5) nd rfl (Or.inl rfl)) (fun _ _ _ _ _ => pts_nil)
          (fun _ _ _ _ _ => pe_call GC hr1 rfl N2.changesM N2.changes.kp N2.changesB .nil pass0 (pa_cons (show PE _ _ (tFld K (tVar 0) "hinges") from pe_fld (pv 0) rfl) (pa_cons (pv 5) pa_nil))))
      (pss_cons (ps_set (i := 4) nd rfl (Or.inl rfl) (pe_callB (cr_min rfl) (by rfl) B.min PyProof.Rows.boot_min (pa_cons (pv 3) pa_nil)))
      (pss_one (ps_ret (pe_op op_cat (pe_lst (pa_cons (pv 4) pa_nil))
        (pe_ix ix_list (pv 2) (pe_bm PySem.F.plainAttrs_list PySem.F.slot_list_index PySem.F.type_list_index mt_index (pv 3) (pa_cons (pv 4) pa_nil)) (fun _ _ => rfl)))))))), ?_⟩
    obtain ⟨v, dx, a0, b0, hx, ha0, hb0, na0, nb0⟩ := id R
    have hwl := within_len v c
    refine ⟨_, rfl, x, dx, _, rfl, hx, rf_no _ _ (by decide +kernel) (by decide +kernel), _, rfl, u, x, s, c, rfl, R, fun H1 p s1 hp W1 => ?_⟩
    obtain ⟨as, hp1, hR⟩ := id W1
    refine ⟨_, rfl, p, _, rfl, .inl (SqL.of hp1), rfl, _, rfl, ite2 (fun z => ?_) (fun z => ?_)⟩
    · have z1 : ((as.map V.ref).length : Int) = 0 := V.int.inj (of_decide_eq_true z)
      rw [List.length_map, hR.len] at z1
      have z2 : Uw73.within s.rods c = [] := List.length_eq_zero_iff.mp (by omega)
      have hstep : Uw73.step s (.change c) = (s, [-6]) := by
        show (s, match Uw73.change s.rods s.hinges c with | none => [-6] | some x => Uw73.ints (x.1 :: x.2.2)) = _
        unfold Uw73.change
        rw [z2]
        rfl
      rw [hstep] at k
      exact ⟨(by show 1 ≤ sizeLine; decide), fun r hr' => k.tell R s1 hr'⟩
    · have z1 : ¬ ((as.map V.ref).length : Int) = 0 := fun e => z (decide_eq_true (congrArg V.int e))
      rw [List.length_map, hR.len] at z1
      refine ⟨_, rfl, p, rfl, ⟨_, SqL.of hp1⟩, fun D hD => ?_⟩
      refine lc_list (K := K) (a := p) (xs := as.map V.ref) (fun i H' => Same H1 H' ∧ H' D = some (.lst (nv (((Uw73.within s.rods c).take i).map (Uw73.differ s.hinges))))) ⟨.new hD, upd_same⟩ (fun i H' _ ⟨s2, _⟩ => SqL.of (s2 _ _ hp1)) ?_ ?_
      · rintro i y H' hy ⟨s2, hD'⟩
        obtain ⟨a, ha, rfl⟩ := ref_get hy
        obtain ⟨w, hw, haw⟩ := hR.get ha
        have hi : i < (Uw73.within s.rods c).length := (List.getElem?_eq_some_iff.mp hw).1
        refine ⟨rfl, tyes ?_⟩
        refine ⟨_, rfl, x, C, dx, _, _, rfl, s2 _ _ (s1 _ _ hx), T.cl, T.nH, rf_hinges _ _, _, rfl, b0, a, s.hinges, w, rfl, s2 _ _ (s1 _ _ hb0), s2 _ _ haw, (by have := v.hl; have := v.r10; omega), fun H3 s3 => ?_⟩
        refine ⟨_, s3 _ _ hD', ?_, ?_, ?_⟩
        · rw [nv_len, List.length_map, List.length_take]
          omega
        · exact (s2.trans s3).put hD
        · rw [upd_same, nv_snoc, take_snoc hw, List.map_append]
          rfl
      · rintro H3 ⟨s3, hD3⟩
        rw [List.length_map, hR.len, List.take_length] at hD3
        have hp3 := s3 _ _ hp1
        have hR3 := hR.same s3
        have hlen2 : 0 < (Uw73.ints ((Uw73.within s.rods c).map (Uw73.differ s.hinges))).length := by
          rw [ints_len, List.length_map]
          omega
        refine ⟨_, rfl, D, _, rfl, SqL.of hD3, hlen2, fun m hm1 hm2 => ?_⟩
        obtain ⟨m0, rfl, hm0⟩ := ints_mem hm1
        have hmin : ∀ y ∈ (Uw73.within s.rods c).map (Uw73.differ s.hinges), m0 ≤ y := fun y hy => by
          have := hm2 _ (mem_ints hy)
          omega
        obtain ⟨j, hj1, hj2⟩ := first_ix hm0
        have hjlen : j < (Uw73.within s.rods c).length := by
          have := (List.getElem?_eq_some_iff.mp hj1).1
          rw [List.length_map] at this
          exact this
        obtain ⟨a, haj⟩ : ∃ a, as[j]? = some a := ⟨_, List.getElem?_eq_getElem (by rw [hR.len]; exact hjlen)⟩
        obtain ⟨w0, hw0, haw⟩ := hR3.get haj
        have hbest := best_found hm0 hmin hj1 hj2 hw0
        have hstep : Uw73.step s (.change c) = (s, Uw73.ints (m0 :: w0)) := by
          show (s, match Uw73.change s.rods s.hinges c with | none => [-6] | some x => Uw73.ints (x.1 :: x.2.2)) = _
          unfold Uw73.change
          rw [hbest]
        rw [hstep] at k
        refine ⟨_, rfl, (by show 1 ≤ sizeLine; decide), fun y hy => ?_⟩
        have s4 : Same H3 (upd H3 y (.lst [V.int (m0 : Int)])) := .new hy
        have hyy : (upd H3 y (.lst [V.int (m0 : Int)])) y = some (.lst (nv [m0])) := upd_same
        generalize upd H3 y (.lst [V.int (m0 : Int)]) = H4 at s4 hyy
        refine ⟨_, rfl, _, rfl, .inl ⟨rfl, _, SqL.of (s4 _ _ hD3)⟩, _, rfl, D, _, _, j, _, rfl, rfl, SqL.of (s4 _ _ hD3), rfl, nv_flat _, nv_at hj1, beq_self_eq_true _, ?_, p, _, _, _, rfl, rfl, SqL.of (s4 _ _ hp3), atI_nat (by rw [List.getElem?_map, haj]; rfl), ?_⟩
        · intro i z' hi hz'
          obtain ⟨n, hn, rfl⟩ := nv_get hz'
          have := hj2 i n hi hn
          exact beq_eq_false_iff_ne.mpr (show ((n : Nat) : Int) ≠ (m0 : Int) by omega)
        · have hwl : w0.length ≤ 100 := (rows_ways v (within_sub v (List.mem_of_getElem? hw0))).2
          refine ⟨y, a, _, _, rfl, rfl, hyy, s4 _ _ haw, ?_, fun r hr' => ?_⟩
          · rw [nv_len, nv_len]
            show 1 + w0.length ≤ sizeLine
            have : (200 : Nat) ≤ sizeLine := by decide
            omega
          · exact k.tell R ((s1.trans s3).trans s4) hr'
end
end Fr

set_option Elab.async false
set_option linter.all false
set_option maxRecDepth 100000
set_option maxHeartbeats 2000000
namespace Fr
open PySem PySem.Spec PyProof.Rows L2
open Uw73 (rows joints over thick low high)
open FM
theorem cut_nv {l : List Nat} {i : Nat} (h : i ≤ l.length) : cutV (nv l) (some (0 + (i : Int))) none = nv (l.drop i) := by
  rw [Int.zero_add]
  have e : Uw73.ints (l.drop i) = (Uw73.ints l).drop i := List.map_drop ..
  unfold nv
  rw [e]
  exact cut_from (by rw [ints_len]; exact h)
theorem flat_len {α β : Type} {f : α → List β} {n : Nat} : ∀ {l : List α}, (∀ a ∈ l, (f a).length ≤ n) → (l.flatMap f).length ≤ l.length * n
  | [], _ => by simp
  | a :: l, h => by
    rw [List.flatMap_cons, List.length_append, List.length_cons, Nat.succ_mul]
    have h1 := h a List.mem_cons_self
    have h2 := flat_len fun b hb => h b (List.mem_cons_of_mem a hb)
    omega
/-- a pair as the text keeps it -/
def pl (x : Nat × Nat) : List Nat := [x.1, x.2]
/-- the pairs of the joints ahead of i -/
def upTo (rs : List Nat) (m i : Nat) : List (Nat × Nat) := (List.range i).flatMap fun i => (rowOf rs.length i).filter (isAt rs m)
def rowTo (rs : List Nat) (m i b : Nat) : List (Nat × Nat) := ((List.range b).map fun b => (i, i + b + 1)).filter (isAt rs m)
theorem upTo_len (rs : List Nat) (m i : Nat) : (upTo rs m i).length ≤ i * rs.length := by
  have := flat_len (l := List.range i) (f := fun i => (rowOf rs.length i).filter (isAt rs m)) (n := rs.length) (fun a _ => by
    refine Nat.le_trans (List.length_filter_le _ _) ?_
    unfold rowOf
    rw [List.length_map, List.length_range]
    omega)
  rw [List.length_range] at this
  exact this
theorem rowTo_len (rs : List Nat) (m i b : Nat) : (rowTo rs m i b).length ≤ b := by
  refine Nat.le_trans (List.length_filter_le _ _) ?_
  rw [List.length_map, List.length_range]
  exact Nat.le_refl _
theorem upTo_succ (rs : List Nat) (m i : Nat) : upTo rs m (i + 1) = upTo rs m i ++ rowTo rs m i (rs.length - i) := by
  unfold upTo rowTo
  rw [List.range_succ, List.flatMap_append]
  show _ ++ ((rowOf rs.length i).filter (isAt rs m) ++ []) = _
  rw [List.append_nil]
  rfl
theorem rowTo_succ (rs : List Nat) (m i b : Nat) : rowTo rs m i (b + 1) = rowTo rs m i b ++ (if m ∈ dl (rs.drop i) (b + 1) then [(i, i + b + 1)] else []) := by
  unfold rowTo
  rw [List.range_succ, List.map_append, List.filter_append]
  congr 1
  show [(i, i + b + 1)].filter (isAt rs m) = _
  have e : isAt rs m (i, i + b + 1) = decide (m ∈ dl (rs.drop i) (b + 1)) := by
    unfold isAt
    show decide (m ∈ dl (rs.drop i) (i + b + 1 - i)) = _
    rw [show i + b + 1 - i = b + 1 by omega]
  rw [List.filter_cons, e]
  by_cases h : m ∈ dl (rs.drop i) (b + 1)
  · rw [if_pos (decide_eq_true h), if_pos h]
    rfl
  · rw [if_neg (fun z => h (of_decide_eq_true z)), if_neg h]
    rfl
section
variable {P : Program} {w : World} {K : PySem.W.Frag} {mg : Str → Option Value} {base : Heap}
variable {C fRods fHinges fJoint fSpread fRight fThick fWays : Addr} {dRods dHinges dJoint dSpread dRight dThick dWays : FuncData}
variable {fChanges fFurther fDist fCount fLeast : Addr} {dChanges dFurther dDist dCount dLeast : FuncData}
/-! ### mark -/
def spMark (C : Addr) : Sp := fun vs H Q _ => ∃ (u x : Addr) (s : Uw73.St) (c : Nat), vs = [.ref x, .int (c : Int)] ∧ RuleAt C u H x s ∧ Ans C u H x (Uw73.step s (.mark c)) Q
theorem scMark : FnScope ["self", "length", "pairs", "first", "behind", "distances"] ["self", "length"] (defScope sMark) := ⟨rfl, rfl, rfl, by decide +kernel, rfl, by decide +kernel, by decide +kernel⟩
theorem ok_mark {f : Addr} {fd : FuncData} (F : Fun K "mark" "FoldingRule.mark" sMark f fd) (T : Txt K mg C) (B : Bl mg) (U : Nums mg)
    (N2 : Fns2 K mg fChanges fFurther fDist fCount fLeast dChanges dFurther dDist dCount dLeast) : FnOk P w K mg base CX0 3 f fd ["self", "length"] (spMark C) := by
  have GD : FnOk P w K mg base CX0 2 fDist dDist ["rods"] spDist := ok_dist N2.dist B N2.further N2.furtherB N2.furtherM
  have GC : FnOk P w K mg base CX0 1 fCount dCount ["found"] spCount := ok_count N2.count B
  refine F.ok scMark (fun vs H Q E h => ?_) (fun cdv A outer s H vs Q E hr h => ?_)
  · obtain ⟨u, x, s, c, rfl, _⟩ := h
    rfl
  · obtain ⟨u, x, s, c, rfl, R, k⟩ := h
    have nd := scMark.nd
    have hu := hu_of hr
    have hr1 : Room 1 _ := hr.mono (by decide)
    obtain ⟨t1, g1⟩ := U.nolen
    refine ⟨_, pss_cons (ps_if (pt_cmpR op_eq (pv 1) pe_int (nomark _)) (pss_one (ps_ret (pe_lst (pa_cons (pe_glob (v := .int (-1)) rfl g1 ⟨_, rfl⟩) pa_nil)))) pss_nil)
      (pss_cons (ps_set (i := 2) nd rfl (Or.inl rfl) (pe_lst pa_nil))
      (pss_cons (ps_for PassesOwn.never rfl (pi_range1 rfl B.range (pa_cons (pe_callB call_len_seq (by rfl) B.len PySem.boot_len (pa_cons (pe_fld (pv 0) rfl) pa_nil)) pa_nil)) (pg_name (i := 3) nd rfl (Or.inl rfl))
        (pss_one (ps_for PassesOwn.never rfl (pi_enum1 rfl B.enumerate (pa_cons (pe_call GD hr rfl N2.distM N2.dist.kp N2.distB .nil pass0 (pa_cons (pe_slice sl_list (pe_fld (pv 0) rfl) (po_some (pv 3)) po_none) pa_nil)) pa_nil) pe_int)
          (pg_tup rfl (pgs_cons (pg_name (i := 4) nd rfl (Or.inl rfl)) (pgs_cons (pg_name (i := 5) nd rfl (Or.inl rfl)) pgs_nil)))
          (pss_one (ps_if (pt_cmp (pc_din hu (pv 1) (pv 5)))
            (pss_one (ps_expr (pe_bm PySem.F.plainAttrs_list PySem.F.slot_list_append PySem.F.type_list_append mt_append (pv 2) (pa_cons (pe_lst (pa_cons (pv 3) (pa_cons (pe_op op_add (pv 3) (pv 4)) pa_nil))) pa_nil)))) pss_nil)))))
      (pss_one (ps_ret (pe_call GC hr1 rfl N2.countM N2.count.kp N2.countB .nil pass0 (pa_cons (pv 2) pa_nil)))))), ?_⟩
    obtain ⟨v, dx, a0, b0, hx, ha0, hb0, na0, nb0⟩ := id R
    have hr10 := v.r10
    refine ⟨_, rfl, rfl, _, rfl, ite2 (fun z => ?_) (fun z => ?_)⟩
    · have z1 : (c : Int) = 0 := V.int.inj (of_decide_eq_true z)
      have hstep : Uw73.step s (.mark c) = (s, [-1]) := by
        show (s, if c = 0 then [-1] else _) = _
        rw [if_pos (by omega)]
      rw [hstep] at k
      exact ⟨(by show 1 ≤ sizeLine; decide), fun r hr' => k.tell R (Same.refl _) hr'⟩
    · have z1 : ¬ (c : Int) = 0 := fun e => z (decide_eq_true (congrArg V.int e))
      have hstep : Uw73.step s (.mark c) = (s, ((((upTo s.rods c s.rods.length).map pl).length : Nat) : Int) :: Uw73.ints (((upTo s.rods c s.rods.length).map pl).headD [])) := by
        show (s, if c = 0 then [-1] else ((Uw73.mark s.rods c).length : Int) :: (match Uw73.mark s.rods c with | [] => [] | x :: _ => Uw73.ints [x.1, x.2])) = _
        rw [if_neg (by omega), mark_eq]
        show (s, ((upTo s.rods c s.rods.length).length : Int) :: (match upTo s.rods c s.rods.length with | [] => [] | x :: _ => Uw73.ints [x.1, x.2])) = _
        rw [List.length_map]
        cases upTo s.rods c s.rods.length <;> rfl
      rw [hstep] at k
      refine ⟨Nat.zero_le _, fun q hq => ?_⟩
      have s1 : Same H (upd H q (.lst [])) := .new hq
      have hq1 : (upd H q (.lst [])) q = some (.lst (([] : List Addr).map V.ref)) := upd_same
      generalize upd H q (.lst []) = H1 at s1 hq1
      have hn : (((nv s.rods).length : Nat) : Int).toNat = s.rods.length := by rw [nv_len]; omega
      refine ⟨_, rfl, x, C, dx, _, _, rfl, s1 _ _ hx, T.cl, T.nR, rf_rods _ _, a0, _, rfl, .inl (SqL.of (s1 _ _ ha0)), _, rfl, (by rw [nv_len]; omega), (by rw [nv_len]; omega), for_range (lo := 0) (n := (((nv s.rods).length : Nat) : Int).toNat)
        (fun i σ H' => ∃ (v3 v4 v5 : Option V) (bs : List Addr), σ = [some (.ref x), some (.int (c : Int)), some (.ref q), v3, v4, v5] ∧ Same H H' ∧ H' q = some (.lst (bs.map V.ref)) ∧ (∀ b ∈ bs, b ≠ q) ∧ RowsAt H' bs ((upTo s.rods c i).map pl))
        ⟨none, none, none, [], rfl, s1, hq1, (fun _ h => nomatch h), .nil⟩ ?_ ?_⟩
      · rintro i σ H2 hi ⟨v3, v4, v5, bs, rfl, s2, hq2, hne, hB⟩
        rw [hn] at hi
        refine ⟨_, rfl, x, C, dx, _, _, rfl, s2 _ _ hx, T.cl, T.nR, rf_rods _ _, _, rfl, _, rfl, a0, _, rfl, SqL.of (s2 _ _ ha0), fun e he => ?_⟩
        rw [cut_nv (by omega)]
        have s3 : Same H2 (upd H2 e (.lst (nv (s.rods.drop i)))) := .new he
        have he3 : (upd H2 e (.lst (nv (s.rods.drop i)))) e = some (.lst (nv (s.rods.drop i))) := upd_same
        generalize upd H2 e (.lst (nv (s.rods.drop i))) = H3 at s3 he3
        have hdl : (s.rods.drop i).length = s.rods.length - i := List.length_drop ..
        refine ⟨e, s.rods.drop i, rfl, he3, (by omega), fun H4 q4 as s4 hq4 hq4' hD hfr => ?_⟩
        have hq3 := s3 _ _ hq2
        have nq4 : q4 ≠ q := (ne_of_none hq3 hq4).symm
        have hq4q := s4 _ _ hq3
        have hasl : (as.map V.ref).length = s.rods.length - i := by
          rw [List.length_map, hD.len, List.length_map, List.length_range, hdl]
        refine ⟨q4, _, rfl, SqL.of hq4', for_enum1 (K := K) (a := q4) (xs := as.map V.ref)
          (fun b σ H5 => ∃ (v4 v5 : Option V) (bs : List Addr), σ = [some (.ref x), some (.int (c : Int)), some (.ref q), some (.int (0 + (i : Int))), v4, v5] ∧ Keep q H4 H5 ∧ Same H H5 ∧ H5 q = some (.lst (bs.map V.ref)) ∧ (∀ b ∈ bs, b ≠ q) ∧
            RowsAt H5 bs ((upTo s.rods c i ++ rowTo s.rods c i b).map pl))
          ⟨v4, v5, bs, rfl, .refl, (s2.trans s3).trans s4, hq4q, hne, ?_⟩ (fun b σ H5 _ ⟨_, _, _, _, kp, _⟩ => SqL.of (kp _ _ hq4' nq4)) ?_ ?_⟩
        · have : rowTo s.rods c i 0 = [] := rfl
          rw [this, List.append_nil]
          exact hB.same (s3.trans s4)
        · rintro b y T' σ H5 hy hT ⟨v4', v5', bs', rfl, kp, s5, hq5, hne5, hB5⟩
          obtain ⟨a, ha, rfl⟩ := ref_get hy
          obtain ⟨ws, hws, haw⟩ := hD.get ha
          have hbl : b < s.rods.length - i := by
            have := (List.getElem?_eq_some_iff.mp ha).1
            rw [List.length_map] at hasl
            omega
          have ews : dl (s.rods.drop i) (b + 1) = ws := by
            rw [List.getElem?_map, List.getElem?_range (by omega)] at hws
            exact Option.some.inj hws
          have naq : a ≠ q := hD.ne hq4q (fun _ z => nomatch z) a (List.mem_of_getElem? ha)
          have haw5 := kp _ _ haw naq
          have s6 : Same H5 (upd H5 T' (.tup [V.int ((b + 1 : Nat) : Int), V.ref a])) := .new hT
          refine ⟨T', _, rfl, SqT.of upd_same, rfl, _, _, rfl, _, _, rfl, rfl, ?_⟩
          generalize upd H5 T' (.tup [V.int ((b + 1 : Nat) : Int), V.ref a]) = H6 at s6
          have haw6 := s6 _ _ haw5
          have hq6 := s6 _ _ hq5
          refine ⟨_, rfl, _, rfl, a, _, rfl, DGet.k (k := Sum.inl (c : Int)) haw6, _, rfl, ?_⟩
          rw [dk_some]
          have hrt := rowTo_succ s.rods c i b
          rw [ews] at hrt
          refine ite2 (fun p => ?_) (fun p => ?_)
          · rw [if_pos (of_decide_eq_true p)] at hrt
            refine ⟨_, rfl, .inl ⟨rfl, _, SqL.of hq6⟩, _, rfl, _, rfl, _, rfl, _, _, rfl, rfl, (by show 2 ≤ sizeLine; decide), fun g hg => ?_⟩
            have egv : [V.int (0 + (i : Int)), (fun i j : Int => V.int (i + j)) (0 + (i : Int)) ((b + 1 : Nat) : Int)] = nv (pl (i, i + b + 1)) := by
              show [V.int (0 + (i : Int)), V.int (0 + (i : Int) + ((b + 1 : Nat) : Int))] = [V.int ((i : Nat) : Int), V.int ((i + b + 1 : Nat) : Int)]
              rw [Int.zero_add, show (i : Int) + ((b + 1 : Nat) : Int) = ((i + b + 1 : Nat) : Int) by omega]
            rw [egv]
            have s7 : Same H6 (upd H6 g (.lst (nv (pl (i, i + b + 1))))) := .new hg
            have hg7 : (upd H6 g (.lst (nv (pl (i, i + b + 1))))) g = some (.lst (nv (pl (i, i + b + 1)))) := upd_same
            have ngq : g ≠ q := (ne_of_none hq6 hg).symm
            generalize upd H6 g (.lst (nv (pl (i, i + b + 1)))) = H7 at s7 hg7
            have hq7 := s7 _ _ hq6
            have hB7 := (hB5.same (s6.trans s7)).snoc hg7
            have hlen : (bs'.map V.ref).length < sizeLine := by
              rw [List.length_map, hB5.len, List.length_map, List.length_append]
              have h1 := upTo_len s.rods c i
              have h2 := rowTo_len s.rods c i b
              have h3 : i * s.rods.length ≤ 10 * 10 := Nat.mul_le_mul (by omega) hr10
              exact small1000 (by omega)
            have hne7 : ∀ b ∈ bs' ++ [g], b ≠ q := fun b hb => by
              rcases List.mem_append.mp hb with h | h
              · exact hne5 b h
              · rw [List.mem_singleton.mp h]; exact ngq
            refine ⟨q, _, _, rfl, rfl, hq7, hlen, _, _, bs' ++ [g], rfl, (kp.trans (s6.trans s7).keep).trans .put, (s5.trans (s6.trans s7)).put hq, ?_, hne7, ?_⟩
            · rw [upd_same, List.map_append]
              rfl
            · rw [hrt, ← List.append_assoc, List.map_append]
              exact hB7.keep .put hne7
          · rw [if_neg (fun z => p (decide_eq_true z)), List.append_nil] at hrt
            refine ⟨_, _, bs', rfl, kp.trans s6.keep, s5.trans s6, hq6, hne5, ?_⟩
            rw [hrt]
            exact hB5.same s6
        · rintro σ H5 ⟨v4', v5', bs', rfl, kp, s5, hq5, hne5, hB5⟩
          rw [hasl, ← upTo_succ] at hB5
          exact ⟨_, _, _, bs', rfl, s5, hq5, hne5, hB5⟩
      · rintro σ H2 ⟨v3, v4, v5, bs, rfl, s2, hq2, hne, hB⟩
        rw [hn] at hB
        refine ⟨_, rfl, q, _, rfl, ⟨bs, hq2, hB⟩, fun w hw => ?_, fun H4 r s4 hr4 hr4' => ?_⟩
        · obtain ⟨y, _, rfl⟩ := List.mem_map.mp hw
          show 2 ≤ 100
          decide
        · exact k.told R (s2.trans s4) (s2.free hr4) hr4'
end
end Fr

set_option Elab.async false
set_option linter.all false
set_option maxRecDepth 100000
set_option maxHeartbeats 2000000
namespace Fr
open PySem PySem.Spec PyProof.Rows L2
open Uw73 (rows joints over thick low high)
open FM
theorem nodup_len {ks : List Nat} {n : Nat} (hn : ks.Nodup) (h : ∀ m ∈ ks, m ≤ n) : ks.length ≤ n + 1 := by
  have e : ((List.range (n + 1)).filter fun m => decide (m ∈ ks)).length = ks.length := by
    refine ((List.perm_ext_iff_of_nodup (List.nodup_range.sublist List.filter_sublist) hn).mpr fun m => ?_).length_eq
    rw [List.mem_filter, List.mem_range]
    constructor
    · exact fun z => of_decide_eq_true z.2
    · exact fun z => ⟨by have := h m z; omega, decide_eq_true z⟩
  have := List.length_filter_le (fun m => decide (m ∈ ks)) (List.range (n + 1))
  rw [e, List.length_range] at this
  exact this
theorem sum_le60 : ∀ {l : List Nat}, (∀ r ∈ l, r ≤ 60) → l.sum ≤ 60 * l.length
  | [], _ => by simp
  | a :: l, h => by
    rw [List.sum_cons, List.length_cons]
    have h1 := h a List.mem_cons_self
    have h2 := sum_le60 fun r hr => h r (List.mem_cons_of_mem a hr)
    omega
theorem total_le {s : Uw73.St} (v : Valid s) : Uw73.total s.rods ≤ 600 := by
  rw [total_sum]
  have h1 := sum_le60 fun r hr => (v.r60 r hr).2
  have := v.r10
  omega
/-- the lengths of the joints ahead of i -/
def CanTo (rs : List Nat) (i m : Nat) : Prop := ∃ i' b, i' < i ∧ i' + b < rs.length ∧ m ∈ dl (rs.drop i') (b + 1)
theorem CanTo.can {rs : List Nat} {i m : Nat} (h : CanTo rs i m) : Can rs m := by
  obtain ⟨i', b, _, h1, h2⟩ := h
  exact can_dl.mpr ⟨i', b, h1, h2⟩
theorem canTo_all {rs : List Nat} {m : Nat} : CanTo rs rs.length m ↔ Can rs m :=
  ⟨CanTo.can, fun h => by
    obtain ⟨i', b, h1, h2⟩ := can_dl.mp h
    exact ⟨i', b, by omega, h1, h2⟩⟩
section
variable {P : Program} {w : World} {K : PySem.W.Frag} {mg : Str → Option Value} {base : Heap}
variable {C fRods fHinges fJoint fSpread fRight fThick fWays : Addr} {dRods dHinges dJoint dSpread dRight dThick dWays : FuncData}
variable {fChanges fFurther fDist fCount fLeast : Addr} {dChanges dFurther dDist dCount dLeast : FuncData}
/-! ### marks -/
def spMarks (C : Addr) : Sp := fun vs H Q _ => ∃ (u x : Addr) (s : Uw73.St), vs = [.ref x] ∧ RuleAt C u H x s ∧ Ans C u H x (Uw73.step s .marks) Q
theorem scMarks : FnScope ["self", "marked", "first", "distances", "missing", "length"] ["self"] (defScope sMarks) := ⟨rfl, rfl, rfl, by decide +kernel, rfl, by decide +kernel, by decide +kernel⟩
theorem ok_marks {f : Addr} {fd : FuncData} (F : Fun K "marks" "FoldingRule.marks" sMarks f fd) (T : Txt K mg C) (B : Bl mg)
    (N2 : Fns2 K mg fChanges fFurther fDist fCount fLeast dChanges dFurther dDist dCount dLeast) : FnOk P w K mg base CX0 3 f fd ["self"] (spMarks C) := by
  have GD : FnOk P w K mg base CX0 2 fDist dDist ["rods"] spDist := ok_dist N2.dist B N2.further N2.furtherB N2.furtherM
  refine F.ok scMarks (fun vs H Q E h => ?_) (fun cdv A outer s H vs Q E hr h => ?_)
  · obtain ⟨u, x, s, rfl, _⟩ := h
    rfl
  · obtain ⟨u, x, s, rfl, R, k⟩ := h
    have nd := scMarks.nd
    have hu := hu_of hr
    refine ⟨_, pss_cons (ps_set (i := 1) nd rfl (Or.inl rfl) pe_dnewK)
      (pss_cons (ps_for PassesOwn.never rfl (pi_range1 rfl B.range (pa_cons (pe_callB call_len_seq (by rfl) B.len PySem.boot_len (pa_cons (pe_fld (pv 0) rfl) pa_nil)) pa_nil)) (pg_name (i := 2) nd rfl (Or.inl rfl))
        (pss_one (ps_for PassesOwn.never rfl (pi_list (pe_call GD hr rfl N2.distM N2.dist.kp N2.distB .nil pass0 (pa_cons (pe_slice sl_list (pe_fld (pv 0) rfl) (po_some (pv 2)) po_none) pa_nil)))
          (pg_name (i := 3) nd rfl (Or.inl rfl))
          (pss_one (ps_expr (pe_bm PySem.F.plainAttrs_dict PySem.F.slot_dict_update PySem.F.type_dict_update mt_update (pv 1) (pa_cons (pv 3) pa_nil)))))))
      (pss_cons (ps_set (i := 4) nd rfl (Or.inl rfl) pe_int)
      (pss_cons (ps_while PassesOwn.never (pt_cmp (pc_din hu (pv 4) (pv 1))) (pss_one (ps_aug (i := 4) nd rfl (Or.inl rfl) pe_int ip_add)))
      (pss_one (ps_ret (pe_lst (pa_cons (pe_callB call_len_seq (by rfl) B.len PySem.boot_len (pa_cons
        (pe_lock (pe_lc (own := [("length", 5)]) rfl nd (pi_keys (pv 1)) (blkOk_by (by rfl)) (fun _ _ _ _ _ => pg_name (i := 5) nd rfl (Or.inl rfl)) (fun _ _ _ _ _ => pts_one (pt_cmpR op_ge (pv 5) pe_int (nomark _))) (fun _ _ _ _ _ => pv 5))) pa_nil))
        (pa_cons (pv 4) pa_nil)))))))), ?_⟩
    obtain ⟨v, dx, a0, b0, hx, ha0, hb0, na0, nb0⟩ := id R
    have hr10 := v.r10
    have htot := total_le v
    have hb20 := big20000
    intro q hq
    have s1 : Same H (upd H q (.dK [])) := .new hq
    have hq1 : (upd H q (.dK [])) q = some (.dK (dk [])) := upd_same
    generalize upd H q (.dK []) = H1 at s1 hq1
    have hn : (((nv s.rods).length : Nat) : Int).toNat = s.rods.length := by rw [nv_len]; omega
    refine ⟨_, rfl, x, C, dx, _, _, rfl, s1 _ _ hx, T.cl, T.nR, rf_rods _ _, a0, _, rfl, .inl (SqL.of (s1 _ _ ha0)), _, rfl, (by rw [nv_len]; omega), (by rw [nv_len]; omega), for_range (lo := 0) (n := (((nv s.rods).length : Nat) : Int).toNat)
      (fun i σ H' => ∃ (v2 v3 : Option V) (ks : List Nat), σ = [some (.ref x), some (.ref q), v2, v3, none, none] ∧ Same H H' ∧ H' q = some (.dK (dk ks)) ∧ ks.Nodup ∧ ∀ m, m ∈ ks ↔ CanTo s.rods i m)
      ⟨none, none, [], rfl, s1, hq1, List.nodup_nil, fun m => ⟨(fun z => nomatch z), (fun ⟨_, _, z, _⟩ => absurd z (Nat.not_lt_zero _))⟩⟩ ?_ ?_⟩
    · rintro i σ H2 hi ⟨v2, v3, ks, rfl, s2, hq2, hnd, hks⟩
      rw [hn] at hi
      refine ⟨_, rfl, x, C, dx, _, _, rfl, s2 _ _ hx, T.cl, T.nR, rf_rods _ _, _, rfl, _, rfl, a0, _, rfl, SqL.of (s2 _ _ ha0), fun e he => ?_⟩
      rw [cut_nv (by omega)]
      have s3 : Same H2 (upd H2 e (.lst (nv (s.rods.drop i)))) := .new he
      have he3 : (upd H2 e (.lst (nv (s.rods.drop i)))) e = some (.lst (nv (s.rods.drop i))) := upd_same
      generalize upd H2 e (.lst (nv (s.rods.drop i))) = H3 at s3 he3
      have hdl : (s.rods.drop i).length = s.rods.length - i := List.length_drop ..
      refine ⟨e, s.rods.drop i, rfl, he3, (by omega), fun H4 q4 as s4 hq4 hq4' hD hfr => ?_⟩
      have hq3 := s3 _ _ hq2
      have nq4 : q4 ≠ q := (ne_of_none hq3 hq4).symm
      have hq4q := s4 _ _ hq3
      have hasl : (as.map V.ref).length = s.rods.length - i := by
        rw [List.length_map, hD.len, List.length_map, List.length_range, hdl]
      refine ⟨q4, rfl, ⟨_, SqL.of hq4'⟩, for_list (K := K) (a := q4) (xs := as.map V.ref)
        (fun b σ H5 => ∃ (v3 : Option V) (ks : List Nat), σ = [some (.ref x), some (.ref q), some (.int (0 + (i : Int))), v3, none, none] ∧ Keep q H4 H5 ∧ Same H H5 ∧ H5 q = some (.dK (dk ks)) ∧ ks.Nodup ∧
          ∀ m, m ∈ ks ↔ CanTo s.rods i m ∨ ∃ b', b' < b ∧ m ∈ dl (s.rods.drop i) (b' + 1))
        ⟨v3, ks, rfl, .refl, (s2.trans s3).trans s4, hq4q, hnd, fun m => (hks m).trans ⟨.inl, fun z => z.elim id fun ⟨_, z, _⟩ => absurd z (Nat.not_lt_zero _)⟩⟩ (fun b σ H5 _ ⟨_, _, _, kp, _⟩ => SqL.of (kp _ _ hq4' nq4)) ?_ ?_⟩
      · rintro b y σ H5 hy ⟨v3', ks', rfl, kp, s5, hq5, hnd5, hks5⟩
        obtain ⟨a, ha, rfl⟩ := ref_get hy
        obtain ⟨ws, hws, haw⟩ := hD.get ha
        have hbl : b < s.rods.length - i := by
          have := (List.getElem?_eq_some_iff.mp ha).1
          rw [List.length_map] at hasl
          omega
        have ews : dl (s.rods.drop i) (b + 1) = ws := by
          rw [List.getElem?_map, List.getElem?_range (by omega)] at hws
          exact Option.some.inj hws
        have naq : a ≠ q := (ne_of_none hq3 (hfr a (List.mem_of_getElem? ha))).symm
        have haw5 := kp _ _ haw naq
        have hl1 : ks'.length ≤ 601 := by
          refine Nat.le_trans (nodup_len (n := 600) hnd5 fun m hm => ?_) (Nat.le_refl _)
          rcases (hks5 m).mp hm with z | ⟨b', z1, z2⟩
          · exact Nat.le_trans z.can.le htot
          · exact Nat.le_trans (can_dl.mpr ⟨i, b', by omega, z2⟩ : Can s.rods m).le htot
        have hl2 : ws.length ≤ 1024 := by
          rw [← ews]
          exact Nat.le_trans (dl_len _ _) (Nat.pow_le_pow_right (by decide : 0 < 2) (show b + 1 ≤ 10 by omega))
        refine ⟨_, rfl, .inr (.inr (.inl ⟨rfl, .inl ⟨_, hq5⟩⟩)), _, rfl, q, a, _, _, rfl, rfl, naq.symm, hq5, haw5, (by rw [dk_len, dk_len]; omega), ?_⟩
        rw [dk_merge]
        refine ⟨_, ws.foldl put ks', rfl, kp.trans .put, s5.put hq, upd_same, nodup_puts _ _ hnd5, fun m => ?_⟩
        rw [mem_puts, hks5]
        constructor
        · rintro ((z | ⟨b', z1, z2⟩) | z)
          · exact .inl z
          · exact .inr ⟨b', by omega, z2⟩
          · exact .inr ⟨b, by omega, by rw [ews]; exact z⟩
        · rintro (z | ⟨b', z1, z2⟩)
          · exact .inl (.inl z)
          · by_cases e : b' = b
            · subst e
              rw [ews] at z2
              exact .inr z2
            · exact .inl (.inr ⟨b', by omega, z2⟩)
      · rintro σ H5 ⟨v3', ks', rfl, kp, s5, hq5, hnd5, hks5⟩
        rw [hasl] at hks5
        refine ⟨_, _, ks', rfl, s5, hq5, hnd5, fun m => (hks5 m).trans ?_⟩
        constructor
        · rintro (⟨i', b, z1, z2, z3⟩ | ⟨b', z1, z2⟩)
          · exact ⟨i', b, by omega, z2, z3⟩
          · exact ⟨i, b', by omega, by omega, z2⟩
        · rintro ⟨i', b, z1, z2, z3⟩
          by_cases e : i' = i
          · subst e
            exact .inr ⟨b, by omega, z3⟩
          · exact .inl ⟨i', b, by omega, z2, z3⟩
    · rintro σ H2 ⟨v2, v3, ks, rfl, s2, hq2, hnd, hks⟩
      rw [hn] at hks
      have hcan : ∀ m, m ∈ ks ↔ Can s.rods m := fun m => (hks m).trans canTo_all
      have hl1 : ks.length ≤ 601 := nodup_len (n := 600) hnd fun m hm => Nat.le_trans ((hcan m).mp hm).le htot
      -- missing = 1; while missing in marked
      refine while_by (fun σ H' => ∃ n : Nat, σ = [some (.ref x), some (.ref q), v2, v3, some (.int (n : Int)), none] ∧ H' = H2 ∧ 1 ≤ n ∧ ∀ j, 1 ≤ j → j < n → Can s.rods j)
        (fun σ _ => match σ with | [_, _, _, _, some (.int n), _] => 700 - n.toNat | _ => 0) ⟨1, rfl, rfl, Nat.le_refl _, fun j h1 h2 => absurd h2 (by omega)⟩ ?_ ?_
      · rintro σ H' ⟨n, rfl, rfl, hn1, hlow⟩
        refine ⟨_, rfl, _, rfl, q, _, rfl, DGet.k (k := Sum.inl (n : Int)) hq2, _, rfl, ?_⟩
        rw [dk_some]
        refine ite2 (fun p => ?_) (fun p => ?_)
        · have p1 : Can s.rods n := (hcan n).mp (of_decide_eq_true p)
          have p2 := p1.le
          refine ⟨_, rfl, _, _, rfl, rfl, ⟨n + 1, rfl, rfl, by omega, fun j h1 h2 => ?_⟩, ?_⟩
          · by_cases e : j = n
            · rw [e]; exact p1
            · exact hlow j h1 (by omega)
          · show 700 - ((n : Int) + 1).toNat < 700 - ((n : Nat) : Int).toNat
            omega
        · have p1 : ¬ Can s.rods n := fun z => p (decide_eq_true ((hcan n).mpr z))
          have hlack := lack_is hn1 p1 hlow
          refine ⟨q, .dK (dk ks), hq2, trivial, fun od => ?_⟩
          refine ⟨_, rfl, q, od, rfl, .inl ⟨dk ks, upd_same, fun D hD => ?_⟩⟩
          have nqD : q ≠ D := ne_of_none (show (upd H' q (.frz od (.dK (dk ks)))) q = some _ from upd_same) hD
          have hD0 : H' D = none := by
            rw [← hD, upd_ne nqD.symm]
          refine lc_keys (d := q) (o := od) (kvs := dk ks) (fun i H3 => Same (upd H' q (.frz od (.dK (dk ks)))) H3 ∧ H3 D = some (.lst (nv ((ks.take i).filter fun n => decide (1 ≤ n))))) ⟨.new hD, upd_same⟩ (fun i H3 _ ⟨s3, _⟩ => s3 _ _ upd_same) ?_ ?_
          · rintro i ky vv H3 hk ⟨s3, hD3⟩
            obtain ⟨m, hm, rfl⟩ := dk_get hk
            refine ⟨rfl, ?_⟩
            refine ⟨_, rfl, _, _, rfl, rfl, _, rfl, ite2 (fun z => ?_) (fun z => ?_)⟩
            · have z1 := of_decide_eq_true z
              refine ⟨_, rfl, _, hD3, ?_, s3.put hD, ?_⟩
              · rw [nv_len]
                refine Nat.lt_of_le_of_lt (List.length_filter_le _ _) ?_
                rw [List.length_take]
                omega
              · rw [upd_same]
                show some (HO.lst (nv ((ks.take i).filter fun n => decide (1 ≤ n)) ++ [V.int ((m : Nat) : Int)])) = _
                rw [nv_snoc, take_snoc hm, List.filter_append, List.filter_cons, if_pos (decide_eq_true (show 1 ≤ m by omega))]
                rfl
            · have z1 : ¬ ((1 : Int) ≤ (m : Int)) := fun e => z (decide_eq_true e)
              refine ⟨s3, ?_⟩
              rw [take_snoc hm, List.filter_append, List.filter_cons, if_neg (fun e => z1 (by have := of_decide_eq_true e; omega)), List.filter_nil, List.append_nil]
              exact hD3
          · rintro H3 ⟨s3, hD3⟩
            rw [dk_len, List.take_length] at hD3
            refine ⟨s3 _ _ upd_same, ?_⟩
            have s4 : Same H' (upd H3 q (.dK (dk ks))) := fun b o hb => by
              by_cases e : b = q
              · subst e
                rw [upd_same]
                exact hq2.symm.trans hb
              · rw [upd_ne e]
                refine s3 b o ?_
                rw [upd_ne e]
                exact hb
            have hD4 : (upd H3 q (.dK (dk ks))) D = some (.lst (nv (ks.filter fun n => decide (1 ≤ n)))) := by
              rw [upd_ne nqD.symm]
              exact hD3
            generalize upd H3 q (.dK (dk ks)) = H4 at s4 hD4
            refine ⟨D, _, rfl, .inl (SqL.of hD4), _, rfl, (by show 2 ≤ sizeLine; decide), fun r hr' => ?_⟩
            have hmk : (Uw73.marks s.rods).length = (ks.filter fun n => decide (1 ≤ n)).length := marks_len (hnd.sublist List.filter_sublist) fun m => by
              rw [List.mem_filter, hcan]
              exact ⟨fun z => ⟨by have := of_decide_eq_true z.2; omega, z.1⟩, fun z => ⟨z.2, decide_eq_true (by omega)⟩⟩
            have hstep : Uw73.step s .marks = (s, [(((ks.filter fun n => decide (1 ≤ n)).length : Nat) : Int), ((n : Nat) : Int)]) := by
              show (s, Uw73.ints [(Uw73.marks s.rods).length, Uw73.firstLack s.rods]) = _
              rw [hmk, hlack]
              rfl
            rw [hstep] at k
            rw [nv_len]
            exact k.tell R (s2.trans s4) hr'
      · rintro σ H Q Q' hQ ⟨v, h1, u, h2, p, o, h3, h4, b, h5, h6⟩
        exact ⟨v, h1, u, h2, p, o, h3, h4, b, h5, hQ _ _ h6⟩
end
end Fr

set_option Elab.async false
set_option linter.all false
set_option maxRecDepth 100000
set_option maxHeartbeats 2000000
namespace L2
open PySem PySem.Spec PyProof.Rows
theorem iteD {c A B : Prop} [Decidable c] (hc : ¬ c) (h : B) : if decide c = true then A else B := by
  rw [decide_eq_false hc]
  exact iteF h
theorem iteE {c A B : Prop} [Decidable c] (hc : c) (h : A) : if decide c = true then A else B := by
  rw [decide_eq_true hc]
  exact iteT h
end L2
namespace Fr
open PySem PySem.Spec PyProof.Rows L2
open Uw73 (rows joints over thick low high)
open FM
/-! ### a call in the list -/
/-- its number -/
def num : Uw73.Call → Nat
  | .rule _ => 0 | .fold _ => 1 | .turn _ => 2 | .lies => 3 | .shortest => 4 | .fits _ => 5 | .thinnest _ => 6 | .closed _ => 7 | .mark _ => 8 | .marks => 9 | .change _ => 10
/-- its whole numbers -/
def nums : Uw73.Call → List Nat
  | .rule l => l | .fold l => l | .turn i => [i] | .lies => [] | .shortest => [] | .fits c => [c] | .thinnest c => [c] | .closed c => [c] | .mark c => [c] | .marks => [] | .change c => [c]
/-- where they begin -/
def hdl : Uw73.Call → Nat
  | .rule _ => 2 | .fold _ => 2 | _ => 1
theorem enc_head (c : Uw73.Call) : ∃ r, enc c = ((num c : Nat) : Int) :: r := by cases c <;> exact ⟨_, rfl⟩
theorem enc_drop (c : Uw73.Call) : (enc c).drop (hdl c) = Uw73.ints (nums c) := by cases c <;> rfl
theorem enc_len (c : Uw73.Call) : (enc c).length = hdl c + (nums c).length := by
  cases c <;> simp [enc, hdl, nums, ints_len] <;> omega
theorem enc_at {ns t : List Int} {at_ : Nat} {c : Uw73.Call} (h : ns.drop at_ = enc c ++ t) : ns[at_]? = some ((num c : Nat) : Int) := by
  obtain ⟨r, e⟩ := enc_head c
  have h1 : (ns.drop at_)[0]? = some ((num c : Nat) : Int) := by rw [h, e]; rfl
  rw [List.getElem?_drop] at h1
  exact h1
theorem enc_next {ns t : List Int} {at_ : Nat} {c : Uw73.Call} (h : ns.drop at_ = enc c ++ t) : ns.drop (at_ + (hdl c + (nums c).length)) = t := by
  rw [← List.drop_drop, h, ← enc_len, List.drop_left]
theorem enc_room {ns t : List Int} {at_ : Nat} {c : Uw73.Call} (h : ns.drop at_ = enc c ++ t) : at_ + (hdl c + (nums c).length) ≤ ns.length := by
  have e := congrArg List.length h
  rw [List.length_drop, List.length_append, enc_len] at e
  have : 0 < hdl c := by cases c <;> exact Nat.succ_pos _
  omega
theorem enc_cut {ns t : List Int} {at_ : Nat} {c : Uw73.Call} (h : ns.drop at_ = enc c ++ t) : (ns.drop (at_ + hdl c)).take (at_ + (hdl c + (nums c).length) - (at_ + hdl c)) = Uw73.ints (nums c) := by
  have e1 : hdl c ≤ (enc c).length := by rw [enc_len]; omega
  rw [← List.drop_drop, h, List.drop_append_of_le_length e1, enc_drop, show at_ + (hdl c + (nums c).length) - (at_ + hdl c) = (Uw73.ints (nums c)).length by rw [ints_len]; omega, List.take_left]
/-- the count of a row -/
theorem enc_count {ns t : List Int} {at_ : Nat} {c : Uw73.Call} (h : ns.drop at_ = enc c ++ t) (h2 : hdl c = 2) : ns[at_ + 1]? = some (((nums c).length : Nat) : Int) := by
  have h1 : (ns.drop at_)[1]? = some (((nums c).length : Nat) : Int) := by
    rw [h]
    cases c <;> first | rfl | (exact absurd (show (1 : Nat) = 2 from h2) (by decide))
  rw [List.getElem?_drop] at h1
  exact h1
theorem in2 (p u v : Int) : inV (V.int p) [V.int u, V.int v] = decide (p = u ∨ p = v) := by
  show ((u == p) || ((v == p) || false)) = _
  by_cases h1 : p = u
  · subst h1
    rw [beq_self_eq_true, decide_eq_true (.inl rfl)]
    rfl
  · by_cases h2 : p = v
    · subst h2
      rw [beq_self_eq_true, decide_eq_true (.inr rfl), beq_eq_false_iff_ne.mpr (fun e => h1 e.symm)]
      rfl
    · rw [decide_eq_false (fun z => z.elim h1 h2), beq_eq_false_iff_ne.mpr (fun e => h1 e.symm), beq_eq_false_iff_ne.mpr (fun e => h2 e.symm)]
      rfl
end Fr

set_option Elab.async false
set_option linter.all false
set_option maxRecDepth 100000
set_option maxHeartbeats 2000000
namespace Fr
open PySem PySem.Spec PyProof.Rows L2
open Uw73 (rows joints over thick low high)
open FM
abbrev sBegin : Stmt := top 32
abbrev sEnd : Stmt := top 33
abbrev sOf : Stmt := top 34
abbrev sAnswers : Stmt := top 35
structure Kinds (mg : Str → Option Value) : Prop where
  rule : ∃ t, mg "RULE" = some (.int 0 t)
  fold : ∃ t, mg "FOLD" = some (.int 1 t)
  turn : ∃ t, mg "TURN" = some (.int 2 t)
  lies : ∃ t, mg "LIES" = some (.int 3 t)
  shortest : ∃ t, mg "SHORTEST" = some (.int 4 t)
  fits : ∃ t, mg "FITS" = some (.int 5 t)
  thinnest : ∃ t, mg "THINNEST" = some (.int 6 t)
  closed : ∃ t, mg "CLOSED" = some (.int 7 t)
  mark : ∃ t, mg "MARK" = some (.int 8 t)
  marks : ∃ t, mg "MARKS" = some (.int 9 t)
  change : ∃ t, mg "CHANGE" = some (.int 10 t)
section
variable {P : Program} {w : World} {K : PySem.W.Frag} {mg : Str → Option Value} {base : Heap}
/-! ### numbers_begin -/
def spBegin (K : PySem.W.Frag) : Sp := fun vs H Q _ => ∃ (a : Addr) (ns t : List Int) (i : Nat) (c : Uw73.Call), vs = [.ref a, .int (i : Int)] ∧ SqL K H a (iv ns) ∧ ns.drop i = enc c ++ t ∧ ∀ H' : Hp, Same H H' → Q (.int ((i + hdl c : Nat) : Int)) H'
theorem hdl_row {c : Uw73.Call} : hdl c = if (((num c : Nat) : Int) = 0 ∨ ((num c : Nat) : Int) = 1) then 2 else 1 := by cases c <;> rfl
theorem scBegin : FnScope ["calls", "at"] ["calls", "at"] (defScope sBegin) := ⟨rfl, rfl, rfl, by decide +kernel, rfl, by decide +kernel, by decide +kernel⟩
theorem ok_begin {f : Addr} {fd : FuncData} (F : Fun K "numbers_begin" "numbers_begin" sBegin f fd) (U : Kinds mg) : FnOk P w K mg base CX0 1 f fd ["calls", "at"] (spBegin K) := by
  refine F.ok scBegin (fun vs H Q E h => ?_) (fun cdv A outer s H vs Q E hr h => ?_)
  · obtain ⟨a, ns, t, i, c, rfl, _⟩ := h
    rfl
  · obtain ⟨a, ns, t, i, c, rfl, hS, hD, k⟩ := h
    obtain ⟨t0, g0⟩ := U.rule
    obtain ⟨t1, g1⟩ := U.fold
    refine ⟨_, pss_cons (ps_if (pt_cmpR op_in_seq (pe_ix ix_list (pv 0) (pv 1) (fun _ _ => rfl)) (pe_tup (pa_cons (pe_glob (v := .int 0) rfl g0 ⟨_, rfl⟩) (pa_cons (pe_glob (v := .int 1) rfl g1 ⟨_, rfl⟩) pa_nil))) rfl) (pss_one (ps_ret (pe_op op_add (pv 1) pe_int))) pss_nil)
      (pss_one (ps_ret (pe_op op_add (pv 1) pe_int))), ?_⟩
    refine ⟨_, rfl, _, rfl, a, _, _, _, rfl, rfl, hS, atI_nat (iv_at (enc_at hD)), (by show 2 ≤ sizeLine; decide), fun z hz => ⟨z, _, rfl, .inr (SqT.of upd_same), rfl, rfl, _, rfl, ?_⟩⟩
    show (if inV (V.int ((num c : Nat) : Int)) [V.int 0, V.int 1] = true then _ else _)
    rw [in2]
    have e := hdl_row (c := c)
    refine ite2 (fun q => ?_) (fun q => ?_)
    · rw [if_pos (of_decide_eq_true q)] at e
      refine ⟨_, rfl, _, _, rfl, rfl, ?_⟩
      rw [e] at k
      exact k _ (.new hz)
    · rw [if_neg (fun z => q (decide_eq_true z))] at e
      refine ⟨_, rfl, _, _, rfl, rfl, ?_⟩
      rw [e] at k
      exact k _ (.new hz)
/-! ### numbers_end -/
def spEnd (K : PySem.W.Frag) : Sp := fun vs H Q _ => ∃ (a : Addr) (ns t : List Int) (i : Nat) (c : Uw73.Call), vs = [.ref a, .int (i : Int)] ∧ SqL K H a (iv ns) ∧ ns.drop i = enc c ++ t ∧ ∀ H' : Hp, Same H H' → Q (.int ((i + (hdl c + (nums c).length) : Nat) : Int)) H'
/-- the calls with one whole number -/
theorem in6 (p : Int) : inV (V.int p) [V.int 2, V.int 5, V.int 6, V.int 7, V.int 8, V.int 10] = decide (p = 2 ∨ p = 5 ∨ p = 6 ∨ p = 7 ∨ p = 8 ∨ p = 10) := by
  show (((2 : Int) == p) || (((5 : Int) == p) || (((6 : Int) == p) || (((7 : Int) == p) || (((8 : Int) == p) || (((10 : Int) == p) || false)))))) = _
  rw [Bool.eq_iff_iff]
  simp only [Bool.or_eq_true, beq_iff_eq, decide_eq_true_eq, Bool.false_eq_true, or_false]
  omega
theorem one_num {c : Uw73.Call} (h0 : ¬ (((num c : Nat) : Int) = 0 ∨ ((num c : Nat) : Int) = 1)) : (nums c).length = if (((num c : Nat) : Int) = 2 ∨ ((num c : Nat) : Int) = 5 ∨ ((num c : Nat) : Int) = 6 ∨ ((num c : Nat) : Int) = 7 ∨ ((num c : Nat) : Int) = 8 ∨ ((num c : Nat) : Int) = 10) then 1 else 0 := by
  cases c <;> first | rfl | exact absurd (.inl rfl) h0 | exact absurd (.inr rfl) h0
theorem scEnd : FnScope ["calls", "at"] ["calls", "at"] (defScope sEnd) := ⟨rfl, rfl, rfl, by decide +kernel, rfl, by decide +kernel, by decide +kernel⟩
theorem ok_end {f : Addr} {fd : FuncData} (F : Fun K "numbers_end" "numbers_end" sEnd f fd) (U : Kinds mg) : FnOk P w K mg base CX0 1 f fd ["calls", "at"] (spEnd K) := by
  refine F.ok scEnd (fun vs H Q E h => ?_) (fun cdv A outer s H vs Q E hr h => ?_)
  · obtain ⟨a, ns, t, i, c, rfl, _⟩ := h
    rfl
  · obtain ⟨a, ns, t, i, c, rfl, hS, hD, k⟩ := h
    obtain ⟨t0, g0⟩ := U.rule
    obtain ⟨t1, g1⟩ := U.fold
    obtain ⟨t2, g2⟩ := U.turn
    obtain ⟨t3, g3⟩ := U.fits
    obtain ⟨t6, g6⟩ := U.thinnest
    obtain ⟨t7, g7⟩ := U.closed
    obtain ⟨t8, g8⟩ := U.mark
    obtain ⟨t10, g10⟩ := U.change
    refine ⟨_, pss_cons (ps_if (pt_cmpR op_in_seq (pe_ix ix_list (pv 0) (pv 1) (fun _ _ => rfl)) (pe_tup (pa_cons (pe_glob (v := .int 0) rfl g0 ⟨_, rfl⟩) (pa_cons (pe_glob (v := .int 1) rfl g1 ⟨_, rfl⟩) pa_nil))) rfl)
        (pss_one (ps_ret (pe_op op_add (pe_op op_add (pv 1) pe_int) (pe_ix ix_list (pv 0) (pe_op op_add (pv 1) pe_int) (fun _ _ => rfl))))) pss_nil)
      (pss_cons (ps_if (pt_cmpR op_in_seq (pe_ix ix_list (pv 0) (pv 1) (fun _ _ => rfl)) (pe_tup (pa_cons (pe_glob (v := .int 2) rfl g2 ⟨_, rfl⟩) (pa_cons (pe_glob (v := .int 5) rfl g3 ⟨_, rfl⟩) (pa_cons (pe_glob (v := .int 6) rfl g6 ⟨_, rfl⟩) (pa_cons (pe_glob (v := .int 7) rfl g7 ⟨_, rfl⟩) (pa_cons (pe_glob (v := .int 8) rfl g8 ⟨_, rfl⟩) (pa_cons (pe_glob (v := .int 10) rfl g10 ⟨_, rfl⟩) pa_nil))))))) rfl)
        (pss_one (ps_ret (pe_op op_add (pv 1) pe_int))) pss_nil)
      (pss_one (ps_ret (pe_op op_add (pv 1) pe_int)))), ?_⟩
    refine ⟨_, rfl, _, rfl, a, _, _, _, rfl, rfl, hS, atI_nat (iv_at (enc_at hD)), (by show 2 ≤ sizeLine; decide), fun z hz => ⟨z, _, rfl, .inr (SqT.of upd_same), rfl, rfl, _, rfl, ?_⟩⟩
    show (if inV (V.int ((num c : Nat) : Int)) [V.int 0, V.int 1] = true then _ else _)
    rw [in2]
    have e := hdl_row (c := c)
    have s1 : Same H (upd H z (.tup [V.int 0, V.int 1])) := .new hz
    generalize upd H z (.tup [V.int 0, V.int 1]) = H1 at s1
    refine ite2 (fun q => ?_) (fun q => ?_)
    · rw [if_pos (of_decide_eq_true q)] at e
      refine ⟨_, rfl, _, _, rfl, rfl, _, rfl, _, rfl, _, _, rfl, rfl, a, _, _, _, rfl, rfl, s1.seq hS, at_of (j := i + 1) (by omega) (iv_at (enc_count hD e)), _, _, rfl, rfl, ?_⟩
      have k1 := k _ s1
      rw [e, show ((i + (2 + (nums c).length) : Nat) : Int) = (i : Int) + 2 + ((nums c).length : Int) by omega] at k1
      exact k1
    · have q1 : ¬ (((num c : Nat) : Int) = 0 ∨ ((num c : Nat) : Int) = 1) := fun z => q (decide_eq_true z)
      rw [if_neg q1] at e
      have e1 := one_num q1
      refine ⟨_, rfl, _, rfl, a, _, _, _, rfl, rfl, s1.seq hS, atI_nat (iv_at (enc_at hD)), (by show 6 ≤ sizeLine; decide), fun z2 hz2 => ⟨z2, _, rfl, .inr (SqT.of upd_same), rfl, rfl, _, rfl, ?_⟩⟩
      show (if inV (V.int ((num c : Nat) : Int)) [V.int 2, V.int 5, V.int 6, V.int 7, V.int 8, V.int 10] = true then _ else _)
      rw [in6]
      refine ite2 (fun q2 => ?_) (fun q2 => ?_)
      · rw [if_pos (of_decide_eq_true q2)] at e1
        refine ⟨_, rfl, _, _, rfl, rfl, ?_⟩
        rw [e, e1] at k
        exact k _ (s1.trans (.new hz2))
      · rw [if_neg (fun z => q2 (decide_eq_true z))] at e1
        refine ⟨_, rfl, _, _, rfl, rfl, ?_⟩
        rw [e, e1] at k
        exact k _ (s1.trans (.new hz2))
end
end Fr

set_option Elab.async false
set_option linter.all false
set_option maxRecDepth 100000
set_option maxHeartbeats 2000000
namespace Fr
open PySem PySem.Spec PyProof.Rows L2
open Uw73 (rows joints over thick low high)
open FM
/-- the methods -/
structure Mts (K : PySem.W.Frag) (C fInit fRenew fFold fTurn fLies fMways fWithin fShort fFits fThin fClosed fMark fMarks fChange : Addr) (dInit dRenew dFold dTurn dLies dMways dWithin dShort dFits dThin dClosed dMark dMarks dChange : FuncData) : Prop where
  mkC : Mk K C fInit
  init : Fun K "__init__" "FoldingRule.__init__" sInit fInit dInit
  initB : Binds K dInit ["self"] []
  renew : Fun K "renew" "FoldingRule.renew" sRenew fRenew dRenew
  renewB : Binds K dRenew ["self", "rods"] []
  renewM : Meth K C "renew" fRenew
  fold : Fun K "fold" "FoldingRule.fold" sFold fFold dFold
  foldB : Binds K dFold ["self", "hinges"] []
  foldM : Meth K C "fold" fFold
  turn : Fun K "turn" "FoldingRule.turn" sTurn fTurn dTurn
  turnB : Binds K dTurn ["self", "hinge"] []
  turnM : Meth K C "turn" fTurn
  lies : Fun K "lies" "FoldingRule.lies" sLies fLies dLies
  liesB : Binds K dLies ["self"] []
  liesM : Meth K C "lies" fLies
  mways : Fun K "ways" "FoldingRule.ways" sMways fMways dMways
  mwaysB : Binds K dMways ["self"] []
  mwaysM : Meth K C "ways" fMways
  within : Fun K "ways_within" "FoldingRule.ways_within" sWithin fWithin dWithin
  withinB : Binds K dWithin ["self", "length"] []
  withinM : Meth K C "ways_within" fWithin
  short : Fun K "shortest" "FoldingRule.shortest" sShort fShort dShort
  shortB : Binds K dShort ["self"] []
  shortM : Meth K C "shortest" fShort
  fits : Fun K "fits" "FoldingRule.fits" sFits fFits dFits
  fitsB : Binds K dFits ["self", "length"] []
  fitsM : Meth K C "fits" fFits
  thin : Fun K "thinnest" "FoldingRule.thinnest" sThin fThin dThin
  thinB : Binds K dThin ["self", "length"] []
  thinM : Meth K C "thinnest" fThin
  closed : Fun K "closed" "FoldingRule.closed" sClosed fClosed dClosed
  closedB : Binds K dClosed ["self", "distance"] []
  closedM : Meth K C "closed" fClosed
  mark : Fun K "mark" "FoldingRule.mark" sMark fMark dMark
  markB : Binds K dMark ["self", "length"] []
  markM : Meth K C "mark" fMark
  marks : Fun K "marks" "FoldingRule.marks" sMarks fMarks dMarks
  marksB : Binds K dMarks ["self"] []
  marksM : Meth K C "marks" fMarks
  change : Fun K "change" "FoldingRule.change" sChange fChange dChange
  changeB : Binds K dChange ["self", "length"] []
  changeM : Meth K C "change" fChange
section
variable {P : Program} {w : World} {K : PySem.W.Frag} {mg : Str → Option Value} {base : Heap}
variable {C fRods fHinges fJoint fSpread fRight fThick fWays : Addr} {dRods dHinges dJoint dSpread dRight dThick dWays : FuncData}
variable {fInit fRenew fFold fTurn fLies fMways fWithin fShort fFits fThin fClosed fMark fMarks fChange : Addr} {dInit dRenew dFold dTurn dLies dMways dWithin dShort dFits dThin dClosed dMark dMarks dChange : FuncData}
variable {fChanges fFurther fDist fCount fLeast : Addr} {dChanges dFurther dDist dCount dLeast : FuncData}
/-! ### answer_of -/
def spOf (C : Addr) : Sp := fun vs H Q _ => ∃ (u x : Addr) (s : Uw73.St) (b : Addr) (c : Uw73.Call), vs = [.ref x, .int ((num c : Nat) : Int), .ref b] ∧ RuleAt C u H x s ∧ H u ≠ none ∧ b ≠ u ∧ H b = some (.lst (nv (nums c))) ∧ Ans C u H x (Uw73.step s c) Q
theorem scOf : FnScope ["rule", "call", "numbers"] ["rule", "call", "numbers"] (defScope sOf) := ⟨rfl, rfl, rfl, by decide +kernel, rfl, by decide +kernel, by decide +kernel⟩
theorem ok_of {f : Addr} {fd : FuncData} (F : Fun K "answer_of" "answer_of" sOf f fd) (T : Txt K mg C) (B : Bl mg) (U : Nums mg) (V' : Kinds mg) (N : Fns K mg fRods fHinges fJoint fSpread fRight fThick fWays dRods dHinges dJoint dSpread dRight dThick dWays)
    (N2 : Fns2 K mg fChanges fFurther fDist fCount fLeast dChanges dFurther dDist dCount dLeast)
    (M : Mts K C fInit fRenew fFold fTurn fLies fMways fWithin fShort fFits fThin fClosed fMark fMarks fChange dInit dRenew dFold dTurn dLies dMways dWithin dShort dFits dThin dClosed dMark dMarks dChange) : FnOk P w K mg base CX0 5 f fd ["rule", "call", "numbers"] (spOf C) := by
  have G0 : FnOk P w K mg base CX0 2 fRenew dRenew ["self", "rods"] (spRenew C) := ok_renew M.renew T B U N.rods N.rodsB N.rodsM
  have G1 : FnOk P w K mg base CX0 3 fFold dFold ["self", "hinges"] (spFold C) := ok_fold M.fold T B U N
  have G2 : FnOk P w K mg base CX0 4 fTurn dTurn ["self", "hinge"] (spTurn C) := ok_turn M.turn T B U N M.fold M.foldB M.foldM
  have G3 : FnOk P w K mg base CX0 2 fLies dLies ["self"] (spLies C) := ok_lies M.lies T B N
  have G4 : FnOk P w K mg base CX0 3 fShort dShort ["self"] (spShort C) := ok_short M.short T B N N2 M.mways M.mwaysB M.mwaysM
  have G5 : FnOk P w K mg base CX0 4 fFits dFits ["self", "length"] (spFits C) := ok_fits M.fits T B N M.mways M.mwaysB M.mwaysM M.within M.withinB M.withinM
  have G6 : FnOk P w K mg base CX0 4 fThin dThin ["self", "length"] (spThin C) := ok_thin M.thin T B U N N2 M.mways M.mwaysB M.mwaysM M.within M.withinB M.withinM
  have G7 : FnOk P w K mg base CX0 3 fClosed dClosed ["self", "distance"] (spClosed C) := ok_closed M.closed T B N N2 M.mways M.mwaysB M.mwaysM
  have G8 : FnOk P w K mg base CX0 3 fMark dMark ["self", "length"] (spMark C) := ok_mark M.mark T B U N2
  have G9 : FnOk P w K mg base CX0 3 fMarks dMarks ["self"] (spMarks C) := ok_marks M.marks T B N2
  have G10 : FnOk P w K mg base CX0 4 fChange dChange ["self", "length"] (spChange C) := ok_change M.change T B U N N2 M.mways M.mwaysB M.mwaysM M.within M.withinB M.withinM
  refine F.ok scOf (fun vs H Q E h => ?_) (fun cdv A outer s H vs Q E hr h => ?_)
  · obtain ⟨u, x, s, b, c, rfl, _⟩ := h
    rfl
  · obtain ⟨u, x, s, b, c, rfl, R, hu, nbu, hb, k⟩ := h
    obtain ⟨t0, g0⟩ := V'.rule
    obtain ⟨t1, g1⟩ := V'.fold
    obtain ⟨t2, g2⟩ := V'.turn
    obtain ⟨t3, g3⟩ := V'.lies
    obtain ⟨t4, g4⟩ := V'.shortest
    obtain ⟨t5, g5⟩ := V'.fits
    obtain ⟨t6, g6⟩ := V'.thinnest
    obtain ⟨t7, g7⟩ := V'.closed
    obtain ⟨t8, g8⟩ := V'.mark
    obtain ⟨t9, g9⟩ := V'.marks
    obtain ⟨t10, g10⟩ := V'.change
    have hr2 : Room 2 _ := hr.mono (by decide)
    have hr3 : Room 3 _ := hr.mono (by decide)
    refine ⟨_, pss_cons (ps_if (pt_cmpR op_eq (pv 1) (pe_glob (v := .int 0) rfl g0 ⟨_, rfl⟩) (nomark _)) (pss_one (ps_ret (pe_meth (pv 0) T.cl M.renewM G0 hr2 M.renewB .nil pass0 (pa_cons (pv 2) pa_nil)))) pss_nil)
      (pss_cons (ps_if (pt_cmpR op_eq (pv 1) (pe_glob (v := .int 1) rfl g1 ⟨_, rfl⟩) (nomark _)) (pss_one (ps_ret (pe_meth (pv 0) T.cl M.foldM G1 hr3 M.foldB .nil pass0 (pa_cons (pv 2) pa_nil)))) pss_nil)
      (pss_cons (ps_if (pt_cmpR op_eq (pv 1) (pe_glob (v := .int 2) rfl g2 ⟨_, rfl⟩) (nomark _)) (pss_one (ps_ret (pe_meth (pv 0) T.cl M.turnM G2 hr M.turnB .nil pass0 (pa_cons (pe_ix ix_list (pv 2) pe_int (fun _ _ => rfl)) pa_nil)))) pss_nil)
      (pss_cons (ps_if (pt_cmpR op_eq (pv 1) (pe_glob (v := .int 3) rfl g3 ⟨_, rfl⟩) (nomark _)) (pss_one (ps_ret (pe_meth0 (pv 0) T.cl M.liesM G3 hr2 M.liesB .nil pass0))) pss_nil)
      (pss_cons (ps_if (pt_cmpR op_eq (pv 1) (pe_glob (v := .int 4) rfl g4 ⟨_, rfl⟩) (nomark _)) (pss_one (ps_ret (pe_meth0 (pv 0) T.cl M.shortM G4 hr3 M.shortB .nil pass0))) pss_nil)
      (pss_cons (ps_if (pt_cmpR op_eq (pv 1) (pe_glob (v := .int 5) rfl g5 ⟨_, rfl⟩) (nomark _)) (pss_one (ps_ret (pe_meth (pv 0) T.cl M.fitsM G5 hr M.fitsB .nil pass0 (pa_cons (pe_ix ix_list (pv 2) pe_int (fun _ _ => rfl)) pa_nil)))) pss_nil)
      (pss_cons (ps_if (pt_cmpR op_eq (pv 1) (pe_glob (v := .int 6) rfl g6 ⟨_, rfl⟩) (nomark _)) (pss_one (ps_ret (pe_meth (pv 0) T.cl M.thinM G6 hr M.thinB .nil pass0 (pa_cons (pe_ix ix_list (pv 2) pe_int (fun _ _ => rfl)) pa_nil)))) pss_nil)
      (pss_cons (ps_if (pt_cmpR op_eq (pv 1) (pe_glob (v := .int 7) rfl g7 ⟨_, rfl⟩) (nomark _)) (pss_one (ps_ret (pe_meth (pv 0) T.cl M.closedM G7 hr3 M.closedB .nil pass0 (pa_cons (pe_ix ix_list (pv 2) pe_int (fun _ _ => rfl)) pa_nil)))) pss_nil)
      (pss_cons (ps_if (pt_cmpR op_eq (pv 1) (pe_glob (v := .int 8) rfl g8 ⟨_, rfl⟩) (nomark _)) (pss_one (ps_ret (pe_meth (pv 0) T.cl M.markM G8 hr3 M.markB .nil pass0 (pa_cons (pe_ix ix_list (pv 2) pe_int (fun _ _ => rfl)) pa_nil)))) pss_nil)
      (pss_cons (ps_if (pt_cmpR op_eq (pv 1) (pe_glob (v := .int 9) rfl g9 ⟨_, rfl⟩) (nomark _)) (pss_one (ps_ret (pe_meth0 (pv 0) T.cl M.marksM G9 hr3 M.marksB .nil pass0))) pss_nil)
      (pss_cons (ps_if (pt_cmpR op_eq (pv 1) (pe_glob (v := .int 10) rfl g10 ⟨_, rfl⟩) (nomark _)) (pss_one (ps_ret (pe_meth (pv 0) T.cl M.changeM G10 hr M.changeB .nil pass0 (pa_cons (pe_ix ix_list (pv 2) pe_int (fun _ _ => rfl)) pa_nil)))) pss_nil)
      (pss_one ps_never))))))))))), ?_⟩
    obtain ⟨v, dx, a0, b0, hx, ha0, hb0, na0, nb0⟩ := id R
    cases c with
    | rule l =>
      refine ⟨_, rfl, rfl, _, rfl, iteE rfl ?_⟩
      exact ⟨_, rfl, x, dx, _, rfl, hx, rf_no _ _ (by decide +kernel) (by decide +kernel), _, rfl, u, x, s, b, l, rfl, R, hu, nbu, hb, k⟩
    | fold l =>
      refine ⟨_, rfl, rfl, _, rfl, iteD (show ¬ V.int ((1 : Nat) : Int) = V.int 0 by decide) ?_⟩
      refine ⟨_, rfl, rfl, _, rfl, iteE rfl ?_⟩
      exact ⟨_, rfl, x, dx, _, rfl, hx, rf_no _ _ (by decide +kernel) (by decide +kernel), _, rfl, u, x, s, b, l, rfl, R, nbu, hb, k⟩
    | turn i =>
      refine ⟨_, rfl, rfl, _, rfl, iteD (show ¬ V.int ((2 : Nat) : Int) = V.int 0 by decide) ?_⟩
      refine ⟨_, rfl, rfl, _, rfl, iteD (show ¬ V.int ((2 : Nat) : Int) = V.int 1 by decide) ?_⟩
      refine ⟨_, rfl, rfl, _, rfl, iteE rfl ?_⟩
      exact ⟨_, rfl, x, dx, _, rfl, hx, rf_no _ _ (by decide +kernel) (by decide +kernel), _, rfl, b, _, _, _, rfl, rfl, SqL.of hb, at_of (j := 0) rfl rfl, u, x, s, i, rfl, R, hu, k⟩
    | lies =>
      refine ⟨_, rfl, rfl, _, rfl, iteD (show ¬ V.int ((3 : Nat) : Int) = V.int 0 by decide) ?_⟩
      refine ⟨_, rfl, rfl, _, rfl, iteD (show ¬ V.int ((3 : Nat) : Int) = V.int 1 by decide) ?_⟩
      refine ⟨_, rfl, rfl, _, rfl, iteD (show ¬ V.int ((3 : Nat) : Int) = V.int 2 by decide) ?_⟩
      refine ⟨_, rfl, rfl, _, rfl, iteE rfl ?_⟩
      exact ⟨_, rfl, x, dx, _, rfl, hx, rf_no _ _ (by decide +kernel) (by decide +kernel), u, x, s, rfl, R, k⟩
    | shortest =>
      refine ⟨_, rfl, rfl, _, rfl, iteD (show ¬ V.int ((4 : Nat) : Int) = V.int 0 by decide) ?_⟩
      refine ⟨_, rfl, rfl, _, rfl, iteD (show ¬ V.int ((4 : Nat) : Int) = V.int 1 by decide) ?_⟩
      refine ⟨_, rfl, rfl, _, rfl, iteD (show ¬ V.int ((4 : Nat) : Int) = V.int 2 by decide) ?_⟩
      refine ⟨_, rfl, rfl, _, rfl, iteD (show ¬ V.int ((4 : Nat) : Int) = V.int 3 by decide) ?_⟩
      refine ⟨_, rfl, rfl, _, rfl, iteE rfl ?_⟩
      exact ⟨_, rfl, x, dx, _, rfl, hx, rf_no _ _ (by decide +kernel) (by decide +kernel), u, x, s, rfl, R, k⟩
    | fits i =>
      refine ⟨_, rfl, rfl, _, rfl, iteD (show ¬ V.int ((5 : Nat) : Int) = V.int 0 by decide) ?_⟩
      refine ⟨_, rfl, rfl, _, rfl, iteD (show ¬ V.int ((5 : Nat) : Int) = V.int 1 by decide) ?_⟩
      refine ⟨_, rfl, rfl, _, rfl, iteD (show ¬ V.int ((5 : Nat) : Int) = V.int 2 by decide) ?_⟩
      refine ⟨_, rfl, rfl, _, rfl, iteD (show ¬ V.int ((5 : Nat) : Int) = V.int 3 by decide) ?_⟩
      refine ⟨_, rfl, rfl, _, rfl, iteD (show ¬ V.int ((5 : Nat) : Int) = V.int 4 by decide) ?_⟩
      refine ⟨_, rfl, rfl, _, rfl, iteE rfl ?_⟩
      exact ⟨_, rfl, x, dx, _, rfl, hx, rf_no _ _ (by decide +kernel) (by decide +kernel), _, rfl, b, _, _, _, rfl, rfl, SqL.of hb, at_of (j := 0) rfl rfl, u, x, s, i, rfl, R, k⟩
    | thinnest i =>
      refine ⟨_, rfl, rfl, _, rfl, iteD (show ¬ V.int ((6 : Nat) : Int) = V.int 0 by decide) ?_⟩
      refine ⟨_, rfl, rfl, _, rfl, iteD (show ¬ V.int ((6 : Nat) : Int) = V.int 1 by decide) ?_⟩
      refine ⟨_, rfl, rfl, _, rfl, iteD (show ¬ V.int ((6 : Nat) : Int) = V.int 2 by decide) ?_⟩
      refine ⟨_, rfl, rfl, _, rfl, iteD (show ¬ V.int ((6 : Nat) : Int) = V.int 3 by decide) ?_⟩
      refine ⟨_, rfl, rfl, _, rfl, iteD (show ¬ V.int ((6 : Nat) : Int) = V.int 4 by decide) ?_⟩
      refine ⟨_, rfl, rfl, _, rfl, iteD (show ¬ V.int ((6 : Nat) : Int) = V.int 5 by decide) ?_⟩
      refine ⟨_, rfl, rfl, _, rfl, iteE rfl ?_⟩
      exact ⟨_, rfl, x, dx, _, rfl, hx, rf_no _ _ (by decide +kernel) (by decide +kernel), _, rfl, b, _, _, _, rfl, rfl, SqL.of hb, at_of (j := 0) rfl rfl, u, x, s, i, rfl, R, k⟩
    | closed i =>
      refine ⟨_, rfl, rfl, _, rfl, iteD (show ¬ V.int ((7 : Nat) : Int) = V.int 0 by decide) ?_⟩
      refine ⟨_, rfl, rfl, _, rfl, iteD (show ¬ V.int ((7 : Nat) : Int) = V.int 1 by decide) ?_⟩
      refine ⟨_, rfl, rfl, _, rfl, iteD (show ¬ V.int ((7 : Nat) : Int) = V.int 2 by decide) ?_⟩
      refine ⟨_, rfl, rfl, _, rfl, iteD (show ¬ V.int ((7 : Nat) : Int) = V.int 3 by decide) ?_⟩
      refine ⟨_, rfl, rfl, _, rfl, iteD (show ¬ V.int ((7 : Nat) : Int) = V.int 4 by decide) ?_⟩
      refine ⟨_, rfl, rfl, _, rfl, iteD (show ¬ V.int ((7 : Nat) : Int) = V.int 5 by decide) ?_⟩
      refine ⟨_, rfl, rfl, _, rfl, iteD (show ¬ V.int ((7 : Nat) : Int) = V.int 6 by decide) ?_⟩
      refine ⟨_, rfl, rfl, _, rfl, iteE rfl ?_⟩
      exact ⟨_, rfl, x, dx, _, rfl, hx, rf_no _ _ (by decide +kernel) (by decide +kernel), _, rfl, b, _, _, _, rfl, rfl, SqL.of hb, at_of (j := 0) rfl rfl, u, x, s, i, rfl, R, k⟩
    | mark i =>
      refine ⟨_, rfl, rfl, _, rfl, iteD (show ¬ V.int ((8 : Nat) : Int) = V.int 0 by decide) ?_⟩
      refine ⟨_, rfl, rfl, _, rfl, iteD (show ¬ V.int ((8 : Nat) : Int) = V.int 1 by decide) ?_⟩
      refine ⟨_, rfl, rfl, _, rfl, iteD (show ¬ V.int ((8 : Nat) : Int) = V.int 2 by decide) ?_⟩
      refine ⟨_, rfl, rfl, _, rfl, iteD (show ¬ V.int ((8 : Nat) : Int) = V.int 3 by decide) ?_⟩
      refine ⟨_, rfl, rfl, _, rfl, iteD (show ¬ V.int ((8 : Nat) : Int) = V.int 4 by decide) ?_⟩
      refine ⟨_, rfl, rfl, _, rfl, iteD (show ¬ V.int ((8 : Nat) : Int) = V.int 5 by decide) ?_⟩
      refine ⟨_, rfl, rfl, _, rfl, iteD (show ¬ V.int ((8 : Nat) : Int) = V.int 6 by decide) ?_⟩
      refine ⟨_, rfl, rfl, _, rfl, iteD (show ¬ V.int ((8 : Nat) : Int) = V.int 7 by decide) ?_⟩
      refine ⟨_, rfl, rfl, _, rfl, iteE rfl ?_⟩
      exact ⟨_, rfl, x, dx, _, rfl, hx, rf_no _ _ (by decide +kernel) (by decide +kernel), _, rfl, b, _, _, _, rfl, rfl, SqL.of hb, at_of (j := 0) rfl rfl, u, x, s, i, rfl, R, k⟩
    | marks =>
      refine ⟨_, rfl, rfl, _, rfl, iteD (show ¬ V.int ((9 : Nat) : Int) = V.int 0 by decide) ?_⟩
      refine ⟨_, rfl, rfl, _, rfl, iteD (show ¬ V.int ((9 : Nat) : Int) = V.int 1 by decide) ?_⟩
      refine ⟨_, rfl, rfl, _, rfl, iteD (show ¬ V.int ((9 : Nat) : Int) = V.int 2 by decide) ?_⟩
      refine ⟨_, rfl, rfl, _, rfl, iteD (show ¬ V.int ((9 : Nat) : Int) = V.int 3 by decide) ?_⟩
      refine ⟨_, rfl, rfl, _, rfl, iteD (show ¬ V.int ((9 : Nat) : Int) = V.int 4 by decide) ?_⟩
      refine ⟨_, rfl, rfl, _, rfl, iteD (show ¬ V.int ((9 : Nat) : Int) = V.int 5 by decide) ?_⟩
      refine ⟨_, rfl, rfl, _, rfl, iteD (show ¬ V.int ((9 : Nat) : Int) = V.int 6 by decide) ?_⟩
      refine ⟨_, rfl, rfl, _, rfl, iteD (show ¬ V.int ((9 : Nat) : Int) = V.int 7 by decide) ?_⟩
      refine ⟨_, rfl, rfl, _, rfl, iteD (show ¬ V.int ((9 : Nat) : Int) = V.int 8 by decide) ?_⟩
      refine ⟨_, rfl, rfl, _, rfl, iteE rfl ?_⟩
      exact ⟨_, rfl, x, dx, _, rfl, hx, rf_no _ _ (by decide +kernel) (by decide +kernel), u, x, s, rfl, R, k⟩
    | change i =>
      refine ⟨_, rfl, rfl, _, rfl, iteD (show ¬ V.int ((10 : Nat) : Int) = V.int 0 by decide) ?_⟩
      refine ⟨_, rfl, rfl, _, rfl, iteD (show ¬ V.int ((10 : Nat) : Int) = V.int 1 by decide) ?_⟩
      refine ⟨_, rfl, rfl, _, rfl, iteD (show ¬ V.int ((10 : Nat) : Int) = V.int 2 by decide) ?_⟩
      refine ⟨_, rfl, rfl, _, rfl, iteD (show ¬ V.int ((10 : Nat) : Int) = V.int 3 by decide) ?_⟩
      refine ⟨_, rfl, rfl, _, rfl, iteD (show ¬ V.int ((10 : Nat) : Int) = V.int 4 by decide) ?_⟩
      refine ⟨_, rfl, rfl, _, rfl, iteD (show ¬ V.int ((10 : Nat) : Int) = V.int 5 by decide) ?_⟩
      refine ⟨_, rfl, rfl, _, rfl, iteD (show ¬ V.int ((10 : Nat) : Int) = V.int 6 by decide) ?_⟩
      refine ⟨_, rfl, rfl, _, rfl, iteD (show ¬ V.int ((10 : Nat) : Int) = V.int 7 by decide) ?_⟩
      refine ⟨_, rfl, rfl, _, rfl, iteD (show ¬ V.int ((10 : Nat) : Int) = V.int 8 by decide) ?_⟩
      refine ⟨_, rfl, rfl, _, rfl, iteD (show ¬ V.int ((10 : Nat) : Int) = V.int 9 by decide) ?_⟩
      refine ⟨_, rfl, rfl, _, rfl, iteE rfl ?_⟩
      exact ⟨_, rfl, x, dx, _, rfl, hx, rf_no _ _ (by decide +kernel) (by decide +kernel), _, rfl, b, _, _, _, rfl, rfl, SqL.of hb, at_of (j := 0) rfl rfl, u, x, s, i, rfl, R, k⟩
/-! ### answers -/
def spAnswers (K : PySem.W.Frag) : Sp := fun vs H Q _ => ∃ (a : Addr) (ns : List Int), vs = [.ref a] ∧ SqL K H a (iv ns) ∧ ns.length ≤ 1680 ∧ Small ns ∧ PyUw73.answers_asked ns = true ∧ ∀ (H' : Hp) (p : Addr), H' p = some (.lst (iv (PyUw73.answers ns))) → Q (.ref p) H'
theorem scAnswers : FnScope ["calls", "rule", "told", "at", "end", "answer"] ["calls"] (defScope sAnswers) := ⟨rfl, rfl, rfl, by decide +kernel, rfl, by decide +kernel, by decide +kernel⟩
theorem ok_answers {f fBegin fEnd fOf : Addr} {fd dBegin dEnd dOf : FuncData} (F : Fun K "answers" "answers" sAnswers f fd) (T : Txt K mg C) (B : Bl mg) (U : Nums mg) (V' : Kinds mg) (N : Fns K mg fRods fHinges fJoint fSpread fRight fThick fWays dRods dHinges dJoint dSpread dRight dThick dWays)
    (N2 : Fns2 K mg fChanges fFurther fDist fCount fLeast dChanges dFurther dDist dCount dLeast)
    (M : Mts K C fInit fRenew fFold fTurn fLies fMways fWithin fShort fFits fThin fClosed fMark fMarks fChange dInit dRenew dFold dTurn dLies dMways dWithin dShort dFits dThin dClosed dMark dMarks dChange)
    (FB : Fun K "numbers_begin" "numbers_begin" sBegin fBegin dBegin) (bB : Binds K dBegin ["calls", "at"] []) (mB : mg "numbers_begin" = some (.ref fBegin))
    (FE : Fun K "numbers_end" "numbers_end" sEnd fEnd dEnd) (bE : Binds K dEnd ["calls", "at"] []) (mE : mg "numbers_end" = some (.ref fEnd))
    (FO : Fun K "answer_of" "answer_of" sOf fOf dOf) (bO : Binds K dOf ["rule", "call", "numbers"] []) (mO : mg "answer_of" = some (.ref fOf)) : FnOk P w K mg base CX0 6 f fd ["calls"] (spAnswers K) := by
  have GI : FnOk P w K mg base CX0 1 fInit dInit ["self"] (spInit C) := ok_init M.init T
  have GB : FnOk P w K mg base CX0 1 fBegin dBegin ["calls", "at"] (spBegin K) := ok_begin FB V'
  have GE : FnOk P w K mg base CX0 1 fEnd dEnd ["calls", "at"] (spEnd K) := ok_end FE V'
  have GO : FnOk P w K mg base CX0 5 fOf dOf ["rule", "call", "numbers"] (spOf C) := ok_of FO T B U V' N N2 M
  refine F.ok scAnswers (fun vs H Q E h => ?_) (fun cdv A outer s H vs Q E hr h => ?_)
  · obtain ⟨a, ns, rfl, _⟩ := h
    rfl
  · obtain ⟨a, ns, rfl, hS, hlen, hsm, hask, k⟩ := h
    have nd := scAnswers.nd
    have hr1 : Room 1 _ := hr.mono (by decide)
    have hr2 : Room 2 _ := hr.mono (by decide)
    refine ⟨_, pss_cons (ps_set (i := 1) nd rfl (Or.inl rfl) (pe_make0 M.mkC GI hr2 rfl T.mgC M.initB .nil pass0))
      (pss_cons (ps_set (i := 2) nd rfl (Or.inl rfl) (pe_lst pa_nil))
      (pss_cons (ps_set (i := 3) nd rfl (Or.inl rfl) pe_int)
      (pss_cons (ps_while PassesOwn.never (pt_cmpR op_lt (pv 3) (pe_callB call_len_seq (by rfl) B.len PySem.boot_len (pa_cons (pv 0) pa_nil)) (nomark _))
        (pss_cons (ps_set (i := 4) nd rfl (Or.inl rfl) (pe_call GE hr1 rfl mE FE.kp bE .nil pass0 (pa_cons (pv 0) (pa_cons (pv 3) pa_nil))))
        (pss_cons (ps_set (i := 5) nd rfl (Or.inl rfl) (pe_call GO hr rfl mO FO.kp bO .nil pass0 (pa_cons (pv 1) (pa_cons (pe_ix ix_list (pv 0) (pv 3) (fun _ _ => rfl))
            (pa_cons (pe_slice sl_list (pv 0) (po_some (pe_call GB hr1 rfl mB FB.kp bB .nil pass0 (pa_cons (pv 0) (pa_cons (pv 3) pa_nil)))) (po_some (pv 4))) pa_nil)))))
        (pss_cons (ps_expr (pe_bm PySem.F.plainAttrs_list PySem.F.slot_list_append PySem.F.type_list_append mt_append (pv 2) (pa_cons (pe_callB call_len_seq (by rfl) B.len PySem.boot_len (pa_cons (pv 5) pa_nil)) pa_nil)))
        (pss_cons (ps_expr (pe_bm PySem.F.plainAttrs_list PySem.F.slot_list_extend PySem.F.type_list_extend mt_extend (pv 2) (pa_cons (pv 5) pa_nil)))
        (pss_one (ps_set (i := 3) nd rfl (Or.inl rfl) (pv 4))))))))
      (pss_one (ps_ret (pv 2)))))), ?_⟩
    obtain ⟨D0, hshort⟩ := due_start hsm hask
    -- rule = FoldingRule(); told = []; at = 0
    intro x dx nx ndx nex
    refine ⟨x, dx, rfl, upd_same, fun H1 R1 k1 => ⟨rfl, ?_⟩⟩
    have s1 : Same H H1 := Same.made nx ndx k1
    refine ⟨Nat.zero_le _, fun t ht => ?_⟩
    have s2 : Same H (upd H1 t (.lst [])) := s1.trans (.new ht)
    have R2 : RuleAt C t (upd H1 t (.lst [])) x Uw73.init := (R1.off ht).same (.new ht)
    have ht2 : (upd H1 t (.lst [])) t = some (.lst (iv [])) := upd_same
    have ht0 : H t = none := s1.free ht
    have nxt : x ≠ t := by
      obtain ⟨_, _, _, _, hx1, _⟩ := R1
      exact ne_of_none hx1 ht
    generalize upd H1 t (.lst []) = H2 at s2 R2 ht2
    refine while_by (fun σ H' => ∃ (i : Nat) (v4 v5 : Option V) (st : Uw73.St) (d out : List Int), σ = [some (.ref a), some (.ref x), some (.ref t), some (.int (i : Int)), v4, v5] ∧ i ≤ ns.length ∧ Same H H' ∧ RuleAt C t H' x st ∧ H' t = some (.lst (iv out)) ∧ Due (ns.drop i) st d ∧ PyUw73.answers ns = out ++ d)
      (fun σ _ => match σ with | [_, _, _, some (.int i), _, _] => ns.length - i.toNat | _ => 0) ⟨0, none, none, Uw73.init, _, [], rfl, Nat.zero_le _, s2, R2, ht2, D0, rfl⟩ ?_ ?_
    · rintro σ H' ⟨i, v4, v5, st, d, out, rfl, hi, s3, R3, ht3, D3, hout⟩
      refine ⟨_, rfl, _, rfl, a, _, rfl, .inl (s3.seq hS), _, _, rfl, rfl, _, rfl, ite2 (fun q => ?_) (fun q => ?_)⟩
      · have q1 := of_decide_eq_true q
        rw [iv_len] at q1
        have hil : i < ns.length := by omega
        obtain ⟨p, r, hpr⟩ : ∃ p r, ns.drop i = p :: r := by
          cases e : ns.drop i with
          | nil =>
            have := congrArg List.length e
            rw [List.length_drop] at this
            simp at this
            omega
          | cons p r => exact ⟨p, r, rfl⟩
        rw [hpr] at D3
        obtain ⟨c, t', d', he, hd, D4⟩ := due_cons D3
        rw [← hpr] at he
        have hroom := enc_room he
        -- end = numbers_end(calls, at)
        refine ⟨_, rfl, _, rfl, a, ns, t', i, c, rfl, s3.seq hS, he, fun H4 s4 => ?_⟩
        -- answer = answer_of(..)
        refine ⟨_, rfl, _, rfl, _, rfl, a, _, _, _, rfl, rfl, (s3.trans s4).seq hS, atI_nat (iv_at (enc_at he)), _, rfl, _, rfl, _, rfl, a, ns, t', i, c, rfl, (s3.trans s4).seq hS, he, fun H5 s5 => ⟨_, rfl, _, rfl, _, rfl, a, _, rfl, ((s3.trans s4).trans s5).seq hS, fun b hb => ?_⟩⟩
        have s45 : Same H' H5 := s4.trans s5
        have eb : cutV (iv ns) (some ((i + hdl c : Nat) : Int)) (some ((i + (hdl c + (nums c).length) : Nat) : Int)) = nv (nums c) := by
          rw [cut_mid (by omega) hroom, enc_cut he]
        rw [eb]
        have nbt : b ≠ t := (ne_of_none (s45 _ _ ht3) hb).symm
        have s6 : Same H' (upd H5 b (.lst (nv (nums c)))) := s45.trans (.new hb)
        have hb6 : (upd H5 b (.lst (nv (nums c)))) b = some (.lst (nv (nums c))) := upd_same
        generalize upd H5 b (.lst (nv (nums c))) = H6 at s6 hb6
        refine ⟨t, x, st, b, c, rfl, R3.same s6, (by rw [s6 _ _ ht3]; exact fun e => nomatch e), nbt, hb6, fun H7 p7 k7 R7 hp7 hq7 => ?_⟩
        have ntx : t ≠ x := Ne.symm nxt
        have ht7 := k7 _ _ (s6 _ _ ht3) ntx
        have nx0 : H x = none := nx
        have s7 : Same H H7 := (s3.trans s6).of_keep nx k7
        have hlen7 : (out ++ d).length ≤ 10000000 := by rw [← hout]; exact hshort
        have hd2 : d.length = 1 + (Uw73.step st c).2.length + d'.length := by rw [hd]; simp; omega
        rw [List.length_append] at hlen7
        have hbig : (10000000 : Nat) < sizeLine := by decide
        have npt : p7 ≠ t := fun e => by
          have : H' p7 = none := s6.free hp7
          rw [e, ht3] at this
          cases this
        -- told.append(len(answer))
        refine ⟨_, rfl, .inl ⟨rfl, _, SqL.of ht7⟩, _, rfl, p7, _, rfl, .inl (SqL.of hq7), t, _, _, rfl, rfl, ht7, (by rw [iv_len]; omega), ?_⟩
        rw [iv_len, iv_snoc]
        have k8 : Keep t H7 (upd H7 t (.lst (iv (out ++ [((Uw73.step st c).2.length : Int)])))) := .put
        have ht8 : (upd H7 t (.lst (iv (out ++ [((Uw73.step st c).2.length : Int)])))) t = some (.lst (iv (out ++ [((Uw73.step st c).2.length : Int)]))) := upd_same
        generalize upd H7 t (.lst (iv (out ++ [((Uw73.step st c).2.length : Int)]))) = H8 at k8 ht8
        have hq8 := k8 _ _ hq7 npt
        -- told.extend(answer); at = end
        refine ⟨_, rfl, .inl ⟨rfl, _, SqL.of ht8⟩, _, rfl, t, p7, _, _, rfl, rfl, ht8, hq8, (by rw [iv_len, iv_len, List.length_append]; simp; omega), ?_⟩
        have k9 : Keep t H8 (upd H8 t (.lst (iv (out ++ [((Uw73.step st c).2.length : Int)]) ++ iv (Uw73.step st c).2))) := .put
        have ht9 : (upd H8 t (.lst (iv (out ++ [((Uw73.step st c).2.length : Int)]) ++ iv (Uw73.step st c).2))) t = some (.lst (iv (out ++ [((Uw73.step st c).2.length : Int)] ++ (Uw73.step st c).2))) := by
          rw [upd_same]
          unfold iv
          rw [← List.map_append]
        generalize upd H8 t (.lst (iv (out ++ [((Uw73.step st c).2.length : Int)]) ++ iv (Uw73.step st c).2)) = H9 at k9 ht9
        refine ⟨_, rfl, ?_⟩
        have kk : Keep t H7 H9 := k8.trans k9
        have R9 : RuleAt C t H9 x (Uw73.step st c).1 := R7.keep kk nxt
        refine ⟨⟨i + (hdl c + (nums c).length), _, _, (Uw73.step st c).1, d', out ++ [((Uw73.step st c).2.length : Int)] ++ (Uw73.step st c).2, rfl, hroom, s7.of_keep ht0 kk, R9, ht9, ?_, ?_⟩, ?_⟩
        · rw [enc_next he]
          exact D4
        · rw [hout, hd]
          simp
        · show ns.length - ((i + (hdl c + (nums c).length) : Nat) : Int).toNat < ns.length - ((i : Nat) : Int).toNat
          have : 0 < hdl c := by cases c <;> exact Nat.succ_pos _
          omega
      · have q1 : ¬ ((i : Int) < ((iv ns).length : Int)) := fun z => q (decide_eq_true z)
        rw [iv_len] at q1
        rw [List.drop_of_length_le (by omega)] at D3
        rw [D3.nil, List.append_nil] at hout
        refine ⟨_, rfl, ?_⟩
        exact k H' t (by rw [hout]; exact ht3)
    · rintro σ H Q Q' hQ ⟨v, h1, u, h2, p, ys, h3, h4, i, j, h5, h6, b, h7, h8⟩
      exact ⟨v, h1, u, h2, p, ys, h3, h4, i, j, h5, h6, b, h7, hQ _ _ h8⟩
end
end Fr

set_option Elab.async false
set_option linter.all false
set_option maxRecDepth 100000
set_option maxHeartbeats 2000000
namespace Fr
open PySem PySem.Spec PyProof.Rows L2
open PySem.W (Codec)
open FM
/-! ### what the top has written, and the row's head -/
theorem all_mk {P : Program} {w : World} {K : PySem.W.Frag} {h : Heap} {mg : Str → Option Value} {fa C : Addr} (X : K.In h) (G : h.Ns mainGlobals mg) (hfa : mg "answers" = some (.ref fa))
    (aC : PySem.W.nsIn K mainGlobals "FoldingRule" = some (some (.ref C)))
    {f_are_rods : Addr} {od_are_rods an_are_rods : Option Addr} {sl_are_rods : Array (Option Value)} {oc_are_rods kV_are_rods dc_are_rods pm_are_rods cd_are_rods ct_are_rods : Value}
    (a_are_rods : PySem.W.nsIn K mainGlobals "are_rods" = some (some (.ref f_are_rods)))
    (l_are_rods : K.lookup f_are_rods = some ⟨oc_are_rods, od_are_rods, .func (PySem.W.fnOf "are_rods" "are_rods" (defArgs sRods) (defBody sRods) (defScope sRods) .none kV_are_rods dc_are_rods pm_are_rods an_are_rods cd_are_rods ct_are_rods), sl_are_rods⟩)
    (c_are_rods : PySem.W.codeIn K cd_are_rods "are_rods" = true) (k_are_rods : PySem.W.keepIn K (.ref f_are_rods) = true)
    {f_are_hinges : Addr} {od_are_hinges an_are_hinges : Option Addr} {sl_are_hinges : Array (Option Value)} {oc_are_hinges kV_are_hinges dc_are_hinges pm_are_hinges cd_are_hinges ct_are_hinges : Value}
    (a_are_hinges : PySem.W.nsIn K mainGlobals "are_hinges" = some (some (.ref f_are_hinges)))
    (l_are_hinges : K.lookup f_are_hinges = some ⟨oc_are_hinges, od_are_hinges, .func (PySem.W.fnOf "are_hinges" "are_hinges" (defArgs sHinges) (defBody sHinges) (defScope sHinges) .none kV_are_hinges dc_are_hinges pm_are_hinges an_are_hinges cd_are_hinges ct_are_hinges), sl_are_hinges⟩)
    (c_are_hinges : PySem.W.codeIn K cd_are_hinges "are_hinges" = true) (k_are_hinges : PySem.W.keepIn K (.ref f_are_hinges) = true)
    {f_joint_places : Addr} {od_joint_places an_joint_places : Option Addr} {sl_joint_places : Array (Option Value)} {oc_joint_places kV_joint_places dc_joint_places pm_joint_places cd_joint_places ct_joint_places : Value}
    (a_joint_places : PySem.W.nsIn K mainGlobals "joint_places" = some (some (.ref f_joint_places)))
    (l_joint_places : K.lookup f_joint_places = some ⟨oc_joint_places, od_joint_places, .func (PySem.W.fnOf "joint_places" "joint_places" (defArgs sJoint) (defBody sJoint) (defScope sJoint) .none kV_joint_places dc_joint_places pm_joint_places an_joint_places cd_joint_places ct_joint_places), sl_joint_places⟩)
    (c_joint_places : PySem.W.codeIn K cd_joint_places "joint_places" = true) (k_joint_places : PySem.W.keepIn K (.ref f_joint_places) = true)
    {f_spread : Addr} {od_spread an_spread : Option Addr} {sl_spread : Array (Option Value)} {oc_spread kV_spread dc_spread pm_spread cd_spread ct_spread : Value}
    (a_spread : PySem.W.nsIn K mainGlobals "spread" = some (some (.ref f_spread)))
    (l_spread : K.lookup f_spread = some ⟨oc_spread, od_spread, .func (PySem.W.fnOf "spread" "spread" (defArgs sSpread) (defBody sSpread) (defScope sSpread) .none kV_spread dc_spread pm_spread an_spread cd_spread ct_spread), sl_spread⟩)
    (c_spread : PySem.W.codeIn K cd_spread "spread" = true) (k_spread : PySem.W.keepIn K (.ref f_spread) = true)
    {f_rods_right_of : Addr} {od_rods_right_of an_rods_right_of : Option Addr} {sl_rods_right_of : Array (Option Value)} {oc_rods_right_of kV_rods_right_of dc_rods_right_of pm_rods_right_of cd_rods_right_of ct_rods_right_of : Value}
    (a_rods_right_of : PySem.W.nsIn K mainGlobals "rods_right_of" = some (some (.ref f_rods_right_of)))
    (l_rods_right_of : K.lookup f_rods_right_of = some ⟨oc_rods_right_of, od_rods_right_of, .func (PySem.W.fnOf "rods_right_of" "rods_right_of" (defArgs sRight) (defBody sRight) (defScope sRight) .none kV_rods_right_of dc_rods_right_of pm_rods_right_of an_rods_right_of cd_rods_right_of ct_rods_right_of), sl_rods_right_of⟩)
    (c_rods_right_of : PySem.W.codeIn K cd_rods_right_of "rods_right_of" = true) (k_rods_right_of : PySem.W.keepIn K (.ref f_rods_right_of) = true)
    {f_thickness : Addr} {od_thickness an_thickness : Option Addr} {sl_thickness : Array (Option Value)} {oc_thickness kV_thickness dc_thickness pm_thickness cd_thickness ct_thickness : Value}
    (a_thickness : PySem.W.nsIn K mainGlobals "thickness" = some (some (.ref f_thickness)))
    (l_thickness : K.lookup f_thickness = some ⟨oc_thickness, od_thickness, .func (PySem.W.fnOf "thickness" "thickness" (defArgs sThick) (defBody sThick) (defScope sThick) .none kV_thickness dc_thickness pm_thickness an_thickness cd_thickness ct_thickness), sl_thickness⟩)
    (c_thickness : PySem.W.codeIn K cd_thickness "thickness" = true) (k_thickness : PySem.W.keepIn K (.ref f_thickness) = true)
    {f_all_ways : Addr} {od_all_ways an_all_ways : Option Addr} {sl_all_ways : Array (Option Value)} {oc_all_ways kV_all_ways dc_all_ways pm_all_ways cd_all_ways ct_all_ways : Value}
    (a_all_ways : PySem.W.nsIn K mainGlobals "all_ways" = some (some (.ref f_all_ways)))
    (l_all_ways : K.lookup f_all_ways = some ⟨oc_all_ways, od_all_ways, .func (PySem.W.fnOf "all_ways" "all_ways" (defArgs sWays) (defBody sWays) (defScope sWays) .none kV_all_ways dc_all_ways pm_all_ways an_all_ways cd_all_ways ct_all_ways), sl_all_ways⟩)
    (c_all_ways : PySem.W.codeIn K cd_all_ways "all_ways" = true) (k_all_ways : PySem.W.keepIn K (.ref f_all_ways) = true)
    {f_changes : Addr} {od_changes an_changes : Option Addr} {sl_changes : Array (Option Value)} {oc_changes kV_changes dc_changes pm_changes cd_changes ct_changes : Value}
    (a_changes : PySem.W.nsIn K mainGlobals "changes" = some (some (.ref f_changes)))
    (l_changes : K.lookup f_changes = some ⟨oc_changes, od_changes, .func (PySem.W.fnOf "changes" "changes" (defArgs sChanges) (defBody sChanges) (defScope sChanges) .none kV_changes dc_changes pm_changes an_changes cd_changes ct_changes), sl_changes⟩)
    (c_changes : PySem.W.codeIn K cd_changes "changes" = true) (k_changes : PySem.W.keepIn K (.ref f_changes) = true)
    {f_one_rod_further : Addr} {od_one_rod_further an_one_rod_further : Option Addr} {sl_one_rod_further : Array (Option Value)} {oc_one_rod_further kV_one_rod_further dc_one_rod_further pm_one_rod_further cd_one_rod_further ct_one_rod_further : Value}
    (a_one_rod_further : PySem.W.nsIn K mainGlobals "one_rod_further" = some (some (.ref f_one_rod_further)))
    (l_one_rod_further : K.lookup f_one_rod_further = some ⟨oc_one_rod_further, od_one_rod_further, .func (PySem.W.fnOf "one_rod_further" "one_rod_further" (defArgs sFurther) (defBody sFurther) (defScope sFurther) .none kV_one_rod_further dc_one_rod_further pm_one_rod_further an_one_rod_further cd_one_rod_further ct_one_rod_further), sl_one_rod_further⟩)
    (c_one_rod_further : PySem.W.codeIn K cd_one_rod_further "one_rod_further" = true) (k_one_rod_further : PySem.W.keepIn K (.ref f_one_rod_further) = true)
    {f_distances_from_first : Addr} {od_distances_from_first an_distances_from_first : Option Addr} {sl_distances_from_first : Array (Option Value)} {oc_distances_from_first kV_distances_from_first dc_distances_from_first pm_distances_from_first cd_distances_from_first ct_distances_from_first : Value}
    (a_distances_from_first : PySem.W.nsIn K mainGlobals "distances_from_first" = some (some (.ref f_distances_from_first)))
    (l_distances_from_first : K.lookup f_distances_from_first = some ⟨oc_distances_from_first, od_distances_from_first, .func (PySem.W.fnOf "distances_from_first" "distances_from_first" (defArgs sDist) (defBody sDist) (defScope sDist) .none kV_distances_from_first dc_distances_from_first pm_distances_from_first an_distances_from_first cd_distances_from_first ct_distances_from_first), sl_distances_from_first⟩)
    (c_distances_from_first : PySem.W.codeIn K cd_distances_from_first "distances_from_first" = true) (k_distances_from_first : PySem.W.keepIn K (.ref f_distances_from_first) = true)
    {f_count_and_first : Addr} {od_count_and_first an_count_and_first : Option Addr} {sl_count_and_first : Array (Option Value)} {oc_count_and_first kV_count_and_first dc_count_and_first pm_count_and_first cd_count_and_first ct_count_and_first : Value}
    (a_count_and_first : PySem.W.nsIn K mainGlobals "count_and_first" = some (some (.ref f_count_and_first)))
    (l_count_and_first : K.lookup f_count_and_first = some ⟨oc_count_and_first, od_count_and_first, .func (PySem.W.fnOf "count_and_first" "count_and_first" (defArgs sCount) (defBody sCount) (defScope sCount) .none kV_count_and_first dc_count_and_first pm_count_and_first an_count_and_first cd_count_and_first ct_count_and_first), sl_count_and_first⟩)
    (c_count_and_first : PySem.W.codeIn K cd_count_and_first "count_and_first" = true) (k_count_and_first : PySem.W.keepIn K (.ref f_count_and_first) = true)
    {f_least_and_first : Addr} {od_least_and_first an_least_and_first : Option Addr} {sl_least_and_first : Array (Option Value)} {oc_least_and_first kV_least_and_first dc_least_and_first pm_least_and_first cd_least_and_first ct_least_and_first : Value}
    (a_least_and_first : PySem.W.nsIn K mainGlobals "least_and_first" = some (some (.ref f_least_and_first)))
    (l_least_and_first : K.lookup f_least_and_first = some ⟨oc_least_and_first, od_least_and_first, .func (PySem.W.fnOf "least_and_first" "least_and_first" (defArgs sLeast) (defBody sLeast) (defScope sLeast) .none kV_least_and_first dc_least_and_first pm_least_and_first an_least_and_first cd_least_and_first ct_least_and_first), sl_least_and_first⟩)
    (c_least_and_first : PySem.W.codeIn K cd_least_and_first "least_and_first" = true) (k_least_and_first : PySem.W.keepIn K (.ref f_least_and_first) = true)
    {f_numbers_begin : Addr} {od_numbers_begin an_numbers_begin : Option Addr} {sl_numbers_begin : Array (Option Value)} {oc_numbers_begin kV_numbers_begin dc_numbers_begin pm_numbers_begin cd_numbers_begin ct_numbers_begin : Value}
    (a_numbers_begin : PySem.W.nsIn K mainGlobals "numbers_begin" = some (some (.ref f_numbers_begin)))
    (l_numbers_begin : K.lookup f_numbers_begin = some ⟨oc_numbers_begin, od_numbers_begin, .func (PySem.W.fnOf "numbers_begin" "numbers_begin" (defArgs sBegin) (defBody sBegin) (defScope sBegin) .none kV_numbers_begin dc_numbers_begin pm_numbers_begin an_numbers_begin cd_numbers_begin ct_numbers_begin), sl_numbers_begin⟩)
    (c_numbers_begin : PySem.W.codeIn K cd_numbers_begin "numbers_begin" = true) (k_numbers_begin : PySem.W.keepIn K (.ref f_numbers_begin) = true)
    {f_numbers_end : Addr} {od_numbers_end an_numbers_end : Option Addr} {sl_numbers_end : Array (Option Value)} {oc_numbers_end kV_numbers_end dc_numbers_end pm_numbers_end cd_numbers_end ct_numbers_end : Value}
    (a_numbers_end : PySem.W.nsIn K mainGlobals "numbers_end" = some (some (.ref f_numbers_end)))
    (l_numbers_end : K.lookup f_numbers_end = some ⟨oc_numbers_end, od_numbers_end, .func (PySem.W.fnOf "numbers_end" "numbers_end" (defArgs sEnd) (defBody sEnd) (defScope sEnd) .none kV_numbers_end dc_numbers_end pm_numbers_end an_numbers_end cd_numbers_end ct_numbers_end), sl_numbers_end⟩)
    (c_numbers_end : PySem.W.codeIn K cd_numbers_end "numbers_end" = true) (k_numbers_end : PySem.W.keepIn K (.ref f_numbers_end) = true)
    {f_answer_of : Addr} {od_answer_of an_answer_of : Option Addr} {sl_answer_of : Array (Option Value)} {oc_answer_of kV_answer_of dc_answer_of pm_answer_of cd_answer_of ct_answer_of : Value}
    (a_answer_of : PySem.W.nsIn K mainGlobals "answer_of" = some (some (.ref f_answer_of)))
    (l_answer_of : K.lookup f_answer_of = some ⟨oc_answer_of, od_answer_of, .func (PySem.W.fnOf "answer_of" "answer_of" (defArgs sOf) (defBody sOf) (defScope sOf) .none kV_answer_of dc_answer_of pm_answer_of an_answer_of cd_answer_of ct_answer_of), sl_answer_of⟩)
    (c_answer_of : PySem.W.codeIn K cd_answer_of "answer_of" = true) (k_answer_of : PySem.W.keepIn K (.ref f_answer_of) = true)
    {f_answers : Addr} {od_answers an_answers : Option Addr} {sl_answers : Array (Option Value)} {oc_answers kV_answers dc_answers pm_answers cd_answers ct_answers : Value}
    (a_answers : PySem.W.nsIn K mainGlobals "answers" = some (some (.ref f_answers)))
    (l_answers : K.lookup f_answers = some ⟨oc_answers, od_answers, .func (PySem.W.fnOf "answers" "answers" (defArgs sAnswers) (defBody sAnswers) (defScope sAnswers) .none kV_answers dc_answers pm_answers an_answers cd_answers ct_answers), sl_answers⟩)
    (c_answers : PySem.W.codeIn K cd_answers "answers" = true) (k_answers : PySem.W.keepIn K (.ref f_answers) = true)
    {f_minit : Addr} {od_minit an_minit : Option Addr} {sl_minit : Array (Option Value)} {oc_minit kV_minit dc_minit pm_minit cd_minit ct_minit : Value}
    (a_minit : PySem.W.findIn K (.ref C) "__init__" = some (some (.ref f_minit))) (i_minit : PySem.W.isFn K (.ref f_minit) = true)
    (l_minit : K.lookup f_minit = some ⟨oc_minit, od_minit, .func (PySem.W.fnOf "__init__" "FoldingRule.__init__" (defArgs sInit) (defBody sInit) (defScope sInit) .none kV_minit dc_minit pm_minit an_minit cd_minit ct_minit), sl_minit⟩)
    (c_minit : PySem.W.codeIn K cd_minit "FoldingRule.__init__" = true) (k_minit : PySem.W.keepIn K (.ref f_minit) = true)
    {f_mrenew : Addr} {od_mrenew an_mrenew : Option Addr} {sl_mrenew : Array (Option Value)} {oc_mrenew kV_mrenew dc_mrenew pm_mrenew cd_mrenew ct_mrenew : Value}
    (a_mrenew : PySem.W.findIn K (.ref C) "renew" = some (some (.ref f_mrenew))) (i_mrenew : PySem.W.isFn K (.ref f_mrenew) = true)
    (l_mrenew : K.lookup f_mrenew = some ⟨oc_mrenew, od_mrenew, .func (PySem.W.fnOf "renew" "FoldingRule.renew" (defArgs sRenew) (defBody sRenew) (defScope sRenew) .none kV_mrenew dc_mrenew pm_mrenew an_mrenew cd_mrenew ct_mrenew), sl_mrenew⟩)
    (c_mrenew : PySem.W.codeIn K cd_mrenew "FoldingRule.renew" = true) (k_mrenew : PySem.W.keepIn K (.ref f_mrenew) = true)
    {f_mfold : Addr} {od_mfold an_mfold : Option Addr} {sl_mfold : Array (Option Value)} {oc_mfold kV_mfold dc_mfold pm_mfold cd_mfold ct_mfold : Value}
    (a_mfold : PySem.W.findIn K (.ref C) "fold" = some (some (.ref f_mfold))) (i_mfold : PySem.W.isFn K (.ref f_mfold) = true)
    (l_mfold : K.lookup f_mfold = some ⟨oc_mfold, od_mfold, .func (PySem.W.fnOf "fold" "FoldingRule.fold" (defArgs sFold) (defBody sFold) (defScope sFold) .none kV_mfold dc_mfold pm_mfold an_mfold cd_mfold ct_mfold), sl_mfold⟩)
    (c_mfold : PySem.W.codeIn K cd_mfold "FoldingRule.fold" = true) (k_mfold : PySem.W.keepIn K (.ref f_mfold) = true)
    {f_mturn : Addr} {od_mturn an_mturn : Option Addr} {sl_mturn : Array (Option Value)} {oc_mturn kV_mturn dc_mturn pm_mturn cd_mturn ct_mturn : Value}
    (a_mturn : PySem.W.findIn K (.ref C) "turn" = some (some (.ref f_mturn))) (i_mturn : PySem.W.isFn K (.ref f_mturn) = true)
    (l_mturn : K.lookup f_mturn = some ⟨oc_mturn, od_mturn, .func (PySem.W.fnOf "turn" "FoldingRule.turn" (defArgs sTurn) (defBody sTurn) (defScope sTurn) .none kV_mturn dc_mturn pm_mturn an_mturn cd_mturn ct_mturn), sl_mturn⟩)
    (c_mturn : PySem.W.codeIn K cd_mturn "FoldingRule.turn" = true) (k_mturn : PySem.W.keepIn K (.ref f_mturn) = true)
    {f_mlies : Addr} {od_mlies an_mlies : Option Addr} {sl_mlies : Array (Option Value)} {oc_mlies kV_mlies dc_mlies pm_mlies cd_mlies ct_mlies : Value}
    (a_mlies : PySem.W.findIn K (.ref C) "lies" = some (some (.ref f_mlies))) (i_mlies : PySem.W.isFn K (.ref f_mlies) = true)
    (l_mlies : K.lookup f_mlies = some ⟨oc_mlies, od_mlies, .func (PySem.W.fnOf "lies" "FoldingRule.lies" (defArgs sLies) (defBody sLies) (defScope sLies) .none kV_mlies dc_mlies pm_mlies an_mlies cd_mlies ct_mlies), sl_mlies⟩)
    (c_mlies : PySem.W.codeIn K cd_mlies "FoldingRule.lies" = true) (k_mlies : PySem.W.keepIn K (.ref f_mlies) = true)
    {f_mways : Addr} {od_mways an_mways : Option Addr} {sl_mways : Array (Option Value)} {oc_mways kV_mways dc_mways pm_mways cd_mways ct_mways : Value}
    (a_mways : PySem.W.findIn K (.ref C) "ways" = some (some (.ref f_mways))) (i_mways : PySem.W.isFn K (.ref f_mways) = true)
    (l_mways : K.lookup f_mways = some ⟨oc_mways, od_mways, .func (PySem.W.fnOf "ways" "FoldingRule.ways" (defArgs sMways) (defBody sMways) (defScope sMways) .none kV_mways dc_mways pm_mways an_mways cd_mways ct_mways), sl_mways⟩)
    (c_mways : PySem.W.codeIn K cd_mways "FoldingRule.ways" = true) (k_mways : PySem.W.keepIn K (.ref f_mways) = true)
    {f_mways_within : Addr} {od_mways_within an_mways_within : Option Addr} {sl_mways_within : Array (Option Value)} {oc_mways_within kV_mways_within dc_mways_within pm_mways_within cd_mways_within ct_mways_within : Value}
    (a_mways_within : PySem.W.findIn K (.ref C) "ways_within" = some (some (.ref f_mways_within))) (i_mways_within : PySem.W.isFn K (.ref f_mways_within) = true)
    (l_mways_within : K.lookup f_mways_within = some ⟨oc_mways_within, od_mways_within, .func (PySem.W.fnOf "ways_within" "FoldingRule.ways_within" (defArgs sWithin) (defBody sWithin) (defScope sWithin) .none kV_mways_within dc_mways_within pm_mways_within an_mways_within cd_mways_within ct_mways_within), sl_mways_within⟩)
    (c_mways_within : PySem.W.codeIn K cd_mways_within "FoldingRule.ways_within" = true) (k_mways_within : PySem.W.keepIn K (.ref f_mways_within) = true)
    {f_mshortest : Addr} {od_mshortest an_mshortest : Option Addr} {sl_mshortest : Array (Option Value)} {oc_mshortest kV_mshortest dc_mshortest pm_mshortest cd_mshortest ct_mshortest : Value}
    (a_mshortest : PySem.W.findIn K (.ref C) "shortest" = some (some (.ref f_mshortest))) (i_mshortest : PySem.W.isFn K (.ref f_mshortest) = true)
    (l_mshortest : K.lookup f_mshortest = some ⟨oc_mshortest, od_mshortest, .func (PySem.W.fnOf "shortest" "FoldingRule.shortest" (defArgs sShort) (defBody sShort) (defScope sShort) .none kV_mshortest dc_mshortest pm_mshortest an_mshortest cd_mshortest ct_mshortest), sl_mshortest⟩)
    (c_mshortest : PySem.W.codeIn K cd_mshortest "FoldingRule.shortest" = true) (k_mshortest : PySem.W.keepIn K (.ref f_mshortest) = true)
    {f_mfits : Addr} {od_mfits an_mfits : Option Addr} {sl_mfits : Array (Option Value)} {oc_mfits kV_mfits dc_mfits pm_mfits cd_mfits ct_mfits : Value}
    (a_mfits : PySem.W.findIn K (.ref C) "fits" = some (some (.ref f_mfits))) (i_mfits : PySem.W.isFn K (.ref f_mfits) = true)
    (l_mfits : K.lookup f_mfits = some ⟨oc_mfits, od_mfits, .func (PySem.W.fnOf "fits" "FoldingRule.fits" (defArgs sFits) (defBody sFits) (defScope sFits) .none kV_mfits dc_mfits pm_mfits an_mfits cd_mfits ct_mfits), sl_mfits⟩)
    (c_mfits : PySem.W.codeIn K cd_mfits "FoldingRule.fits" = true) (k_mfits : PySem.W.keepIn K (.ref f_mfits) = true)
    {f_mthinnest : Addr} {od_mthinnest an_mthinnest : Option Addr} {sl_mthinnest : Array (Option Value)} {oc_mthinnest kV_mthinnest dc_mthinnest pm_mthinnest cd_mthinnest ct_mthinnest : Value}
    (a_mthinnest : PySem.W.findIn K (.ref C) "thinnest" = some (some (.ref f_mthinnest))) (i_mthinnest : PySem.W.isFn K (.ref f_mthinnest) = true)
    (l_mthinnest : K.lookup f_mthinnest = some ⟨oc_mthinnest, od_mthinnest, .func (PySem.W.fnOf "thinnest" "FoldingRule.thinnest" (defArgs sThin) (defBody sThin) (defScope sThin) .none kV_mthinnest dc_mthinnest pm_mthinnest an_mthinnest cd_mthinnest ct_mthinnest), sl_mthinnest⟩)
    (c_mthinnest : PySem.W.codeIn K cd_mthinnest "FoldingRule.thinnest" = true) (k_mthinnest : PySem.W.keepIn K (.ref f_mthinnest) = true)
    {f_mclosed : Addr} {od_mclosed an_mclosed : Option Addr} {sl_mclosed : Array (Option Value)} {oc_mclosed kV_mclosed dc_mclosed pm_mclosed cd_mclosed ct_mclosed : Value}
    (a_mclosed : PySem.W.findIn K (.ref C) "closed" = some (some (.ref f_mclosed))) (i_mclosed : PySem.W.isFn K (.ref f_mclosed) = true)
    (l_mclosed : K.lookup f_mclosed = some ⟨oc_mclosed, od_mclosed, .func (PySem.W.fnOf "closed" "FoldingRule.closed" (defArgs sClosed) (defBody sClosed) (defScope sClosed) .none kV_mclosed dc_mclosed pm_mclosed an_mclosed cd_mclosed ct_mclosed), sl_mclosed⟩)
    (c_mclosed : PySem.W.codeIn K cd_mclosed "FoldingRule.closed" = true) (k_mclosed : PySem.W.keepIn K (.ref f_mclosed) = true)
    {f_mmark : Addr} {od_mmark an_mmark : Option Addr} {sl_mmark : Array (Option Value)} {oc_mmark kV_mmark dc_mmark pm_mmark cd_mmark ct_mmark : Value}
    (a_mmark : PySem.W.findIn K (.ref C) "mark" = some (some (.ref f_mmark))) (i_mmark : PySem.W.isFn K (.ref f_mmark) = true)
    (l_mmark : K.lookup f_mmark = some ⟨oc_mmark, od_mmark, .func (PySem.W.fnOf "mark" "FoldingRule.mark" (defArgs sMark) (defBody sMark) (defScope sMark) .none kV_mmark dc_mmark pm_mmark an_mmark cd_mmark ct_mmark), sl_mmark⟩)
    (c_mmark : PySem.W.codeIn K cd_mmark "FoldingRule.mark" = true) (k_mmark : PySem.W.keepIn K (.ref f_mmark) = true)
    {f_mmarks : Addr} {od_mmarks an_mmarks : Option Addr} {sl_mmarks : Array (Option Value)} {oc_mmarks kV_mmarks dc_mmarks pm_mmarks cd_mmarks ct_mmarks : Value}
    (a_mmarks : PySem.W.findIn K (.ref C) "marks" = some (some (.ref f_mmarks))) (i_mmarks : PySem.W.isFn K (.ref f_mmarks) = true)
    (l_mmarks : K.lookup f_mmarks = some ⟨oc_mmarks, od_mmarks, .func (PySem.W.fnOf "marks" "FoldingRule.marks" (defArgs sMarks) (defBody sMarks) (defScope sMarks) .none kV_mmarks dc_mmarks pm_mmarks an_mmarks cd_mmarks ct_mmarks), sl_mmarks⟩)
    (c_mmarks : PySem.W.codeIn K cd_mmarks "FoldingRule.marks" = true) (k_mmarks : PySem.W.keepIn K (.ref f_mmarks) = true)
    {f_mchange : Addr} {od_mchange an_mchange : Option Addr} {sl_mchange : Array (Option Value)} {oc_mchange kV_mchange dc_mchange pm_mchange cd_mchange ct_mchange : Value}
    (a_mchange : PySem.W.findIn K (.ref C) "change" = some (some (.ref f_mchange))) (i_mchange : PySem.W.isFn K (.ref f_mchange) = true)
    (l_mchange : K.lookup f_mchange = some ⟨oc_mchange, od_mchange, .func (PySem.W.fnOf "change" "FoldingRule.change" (defArgs sChange) (defBody sChange) (defScope sChange) .none kV_mchange dc_mchange pm_mchange an_mchange cd_mchange ct_mchange), sl_mchange⟩)
    (c_mchange : PySem.W.codeIn K cd_mchange "FoldingRule.change" = true) (k_mchange : PySem.W.keepIn K (.ref f_mchange) = true)
    {t_RULE : Tok} (n_RULE : PySem.W.nsIn K mainGlobals "RULE" = some (some (.int 0 t_RULE)))
    {t_FOLD : Tok} (n_FOLD : PySem.W.nsIn K mainGlobals "FOLD" = some (some (.int 1 t_FOLD)))
    {t_TURN : Tok} (n_TURN : PySem.W.nsIn K mainGlobals "TURN" = some (some (.int 2 t_TURN)))
    {t_LIES : Tok} (n_LIES : PySem.W.nsIn K mainGlobals "LIES" = some (some (.int 3 t_LIES)))
    {t_SHORTEST : Tok} (n_SHORTEST : PySem.W.nsIn K mainGlobals "SHORTEST" = some (some (.int 4 t_SHORTEST)))
    {t_FITS : Tok} (n_FITS : PySem.W.nsIn K mainGlobals "FITS" = some (some (.int 5 t_FITS)))
    {t_THINNEST : Tok} (n_THINNEST : PySem.W.nsIn K mainGlobals "THINNEST" = some (some (.int 6 t_THINNEST)))
    {t_CLOSED : Tok} (n_CLOSED : PySem.W.nsIn K mainGlobals "CLOSED" = some (some (.int 7 t_CLOSED)))
    {t_MARK : Tok} (n_MARK : PySem.W.nsIn K mainGlobals "MARK" = some (some (.int 8 t_MARK)))
    {t_MARKS : Tok} (n_MARKS : PySem.W.nsIn K mainGlobals "MARKS" = some (some (.int 9 t_MARKS)))
    {t_CHANGE : Tok} (n_CHANGE : PySem.W.nsIn K mainGlobals "CHANGE" = some (some (.int 10 t_CHANGE)))
    {t_MOST_RODS : Tok} (n_MOST_RODS : PySem.W.nsIn K mainGlobals "MOST_RODS" = some (some (.int 10 t_MOST_RODS)))
    {t_LONGEST_ROD : Tok} (n_LONGEST_ROD : PySem.W.nsIn K mainGlobals "LONGEST_ROD" = some (some (.int 60 t_LONGEST_ROD)))
    {t_WRONG_ROW : Tok} (n_WRONG_ROW : PySem.W.nsIn K mainGlobals "WRONG_ROW" = some (some (.int (-1) t_WRONG_ROW)))
    {t_NO_LENGTH : Tok} (n_NO_LENGTH : PySem.W.nsIn K mainGlobals "NO_LENGTH" = some (some (.int (-1) t_NO_LENGTH)))
    {t_NO_SUCH_HINGE : Tok} (n_NO_SUCH_HINGE : PySem.W.nsIn K mainGlobals "NO_SUCH_HINGE" = some (some (.int (-2) t_NO_SUCH_HINGE)))
    {t_NO_WAY_SO_SMALL : Tok} (n_NO_WAY_SO_SMALL : PySem.W.nsIn K mainGlobals "NO_WAY_SO_SMALL" = some (some (.int (-6) t_NO_WAY_SO_SMALL)))
    (z_zip : PySem.W.nsIn K mainGlobals "zip" = some none)
    (z_max : PySem.W.nsIn K mainGlobals "max" = some none)
    (z_min : PySem.W.nsIn K mainGlobals "min" = some none)
    (z_len : PySem.W.nsIn K mainGlobals "len" = some none)
    (z_all : PySem.W.nsIn K mainGlobals "all" = some none)
    (z_sum : PySem.W.nsIn K mainGlobals "sum" = some none)
    (z_list : PySem.W.nsIn K mainGlobals "list" = some none)
    (z_range : PySem.W.nsIn K mainGlobals "range" = some none)
    (z_abs : PySem.W.nsIn K mainGlobals "abs" = some none)
    (z_enumerate : PySem.W.nsIn K mainGlobals "enumerate" = some none)
    (pg : PySem.W.plainGet K C Str.empty = true) (hd : PySem.W.hasDictIn K C = true) (po : PySem.W.plainOver K C = true) (sa : PySem.W.findIn K (.ref C) "__setattr__" = some (some (.builtin "object.__setattr__"))) (mk : PySem.W.makesIn K C = true) (kc : PySem.W.keepIn K (.ref C) = true)
    (no_rods : PySem.W.findIn K (.ref C) "rods" = some none)
    (no_hinges : PySem.W.findIn K (.ref C) "hinges" = some none)
    : ∃ fd : FuncData, (∀ (s : Shared) (us : List Value), us.length = (["calls"] : List Str).length → BindsTo s fd ⟨us, []⟩ ((["calls"] : List Str).zip us)) ∧ ∀ base : Heap, K.In base → base.Ns mainGlobals mg → FnOk P w K mg base CX0 6 fa fd ["calls"] (spAnswers K) := by
  have e := hfa.symm.trans (PySem.W.mg_of X G a_answers)
  cases e
  have F_are_rods := fun_mk (st := sRods) l_are_rods c_are_rods k_are_rods
  have B_are_rods := F_are_rods.binds (ps := ["row"]) fun _ _ _ _ _ _ us hl => match us, hl with | [_], _ => rfl
  have M_are_rods := PySem.W.mg_of X G a_are_rods
  have F_are_hinges := fun_mk (st := sHinges) l_are_hinges c_are_hinges k_are_hinges
  have B_are_hinges := F_are_hinges.binds (ps := ["row", "asked"]) fun _ _ _ _ _ _ us hl => match us, hl with | [_, _], _ => rfl
  have M_are_hinges := PySem.W.mg_of X G a_are_hinges
  have F_joint_places := fun_mk (st := sJoint) l_joint_places c_joint_places k_joint_places
  have B_joint_places := F_joint_places.binds (ps := ["rods", "hinges"]) fun _ _ _ _ _ _ us hl => match us, hl with | [_, _], _ => rfl
  have M_joint_places := PySem.W.mg_of X G a_joint_places
  have F_spread := fun_mk (st := sSpread) l_spread c_spread k_spread
  have B_spread := F_spread.binds (ps := ["places"]) fun _ _ _ _ _ _ us hl => match us, hl with | [_], _ => rfl
  have M_spread := PySem.W.mg_of X G a_spread
  have F_rods_right_of := fun_mk (st := sRight) l_rods_right_of c_rods_right_of k_rods_right_of
  have B_rods_right_of := F_rods_right_of.binds (ps := ["places", "place"]) fun _ _ _ _ _ _ us hl => match us, hl with | [_, _], _ => rfl
  have M_rods_right_of := PySem.W.mg_of X G a_rods_right_of
  have F_thickness := fun_mk (st := sThick) l_thickness c_thickness k_thickness
  have B_thickness := F_thickness.binds (ps := ["places"]) fun _ _ _ _ _ _ us hl => match us, hl with | [_], _ => rfl
  have M_thickness := PySem.W.mg_of X G a_thickness
  have F_all_ways := fun_mk (st := sWays) l_all_ways c_all_ways k_all_ways
  have B_all_ways := F_all_ways.binds (ps := ["hinge_count"]) fun _ _ _ _ _ _ us hl => match us, hl with | [_], _ => rfl
  have M_all_ways := PySem.W.mg_of X G a_all_ways
  have F_changes := fun_mk (st := sChanges) l_changes c_changes k_changes
  have B_changes := F_changes.binds (ps := ["hinges", "way"]) fun _ _ _ _ _ _ us hl => match us, hl with | [_, _], _ => rfl
  have M_changes := PySem.W.mg_of X G a_changes
  have F_one_rod_further := fun_mk (st := sFurther) l_one_rod_further c_one_rod_further k_one_rod_further
  have B_one_rod_further := F_one_rod_further.binds (ps := ["distances", "rod"]) fun _ _ _ _ _ _ us hl => match us, hl with | [_, _], _ => rfl
  have M_one_rod_further := PySem.W.mg_of X G a_one_rod_further
  have F_distances_from_first := fun_mk (st := sDist) l_distances_from_first c_distances_from_first k_distances_from_first
  have B_distances_from_first := F_distances_from_first.binds (ps := ["rods"]) fun _ _ _ _ _ _ us hl => match us, hl with | [_], _ => rfl
  have M_distances_from_first := PySem.W.mg_of X G a_distances_from_first
  have F_count_and_first := fun_mk (st := sCount) l_count_and_first c_count_and_first k_count_and_first
  have B_count_and_first := F_count_and_first.binds (ps := ["found"]) fun _ _ _ _ _ _ us hl => match us, hl with | [_], _ => rfl
  have M_count_and_first := PySem.W.mg_of X G a_count_and_first
  have F_least_and_first := fun_mk (st := sLeast) l_least_and_first c_least_and_first k_least_and_first
  have B_least_and_first := F_least_and_first.binds (ps := ["ways", "numbers"]) fun _ _ _ _ _ _ us hl => match us, hl with | [_, _], _ => rfl
  have M_least_and_first := PySem.W.mg_of X G a_least_and_first
  have F_numbers_begin := fun_mk (st := sBegin) l_numbers_begin c_numbers_begin k_numbers_begin
  have B_numbers_begin := F_numbers_begin.binds (ps := ["calls", "at"]) fun _ _ _ _ _ _ us hl => match us, hl with | [_, _], _ => rfl
  have M_numbers_begin := PySem.W.mg_of X G a_numbers_begin
  have F_numbers_end := fun_mk (st := sEnd) l_numbers_end c_numbers_end k_numbers_end
  have B_numbers_end := F_numbers_end.binds (ps := ["calls", "at"]) fun _ _ _ _ _ _ us hl => match us, hl with | [_, _], _ => rfl
  have M_numbers_end := PySem.W.mg_of X G a_numbers_end
  have F_answer_of := fun_mk (st := sOf) l_answer_of c_answer_of k_answer_of
  have B_answer_of := F_answer_of.binds (ps := ["rule", "call", "numbers"]) fun _ _ _ _ _ _ us hl => match us, hl with | [_, _, _], _ => rfl
  have M_answer_of := PySem.W.mg_of X G a_answer_of
  have F_answers := fun_mk (st := sAnswers) l_answers c_answers k_answers
  have F_minit := fun_mk (st := sInit) l_minit c_minit k_minit
  have B_minit := F_minit.binds (ps := ["self"]) fun _ _ _ _ _ _ us hl => match us, hl with | [_], _ => rfl
  have Y_minit : Meth K C "__init__" _ := ⟨a_minit, i_minit, k_minit⟩
  have F_mrenew := fun_mk (st := sRenew) l_mrenew c_mrenew k_mrenew
  have B_mrenew := F_mrenew.binds (ps := ["self", "rods"]) fun _ _ _ _ _ _ us hl => match us, hl with | [_, _], _ => rfl
  have Y_mrenew : Meth K C "renew" _ := ⟨a_mrenew, i_mrenew, k_mrenew⟩
  have F_mfold := fun_mk (st := sFold) l_mfold c_mfold k_mfold
  have B_mfold := F_mfold.binds (ps := ["self", "hinges"]) fun _ _ _ _ _ _ us hl => match us, hl with | [_, _], _ => rfl
  have Y_mfold : Meth K C "fold" _ := ⟨a_mfold, i_mfold, k_mfold⟩
  have F_mturn := fun_mk (st := sTurn) l_mturn c_mturn k_mturn
  have B_mturn := F_mturn.binds (ps := ["self", "hinge"]) fun _ _ _ _ _ _ us hl => match us, hl with | [_, _], _ => rfl
  have Y_mturn : Meth K C "turn" _ := ⟨a_mturn, i_mturn, k_mturn⟩
  have F_mlies := fun_mk (st := sLies) l_mlies c_mlies k_mlies
  have B_mlies := F_mlies.binds (ps := ["self"]) fun _ _ _ _ _ _ us hl => match us, hl with | [_], _ => rfl
  have Y_mlies : Meth K C "lies" _ := ⟨a_mlies, i_mlies, k_mlies⟩
  have F_mways := fun_mk (st := sMways) l_mways c_mways k_mways
  have B_mways := F_mways.binds (ps := ["self"]) fun _ _ _ _ _ _ us hl => match us, hl with | [_], _ => rfl
  have Y_mways : Meth K C "ways" _ := ⟨a_mways, i_mways, k_mways⟩
  have F_mways_within := fun_mk (st := sWithin) l_mways_within c_mways_within k_mways_within
  have B_mways_within := F_mways_within.binds (ps := ["self", "length"]) fun _ _ _ _ _ _ us hl => match us, hl with | [_, _], _ => rfl
  have Y_mways_within : Meth K C "ways_within" _ := ⟨a_mways_within, i_mways_within, k_mways_within⟩
  have F_mshortest := fun_mk (st := sShort) l_mshortest c_mshortest k_mshortest
  have B_mshortest := F_mshortest.binds (ps := ["self"]) fun _ _ _ _ _ _ us hl => match us, hl with | [_], _ => rfl
  have Y_mshortest : Meth K C "shortest" _ := ⟨a_mshortest, i_mshortest, k_mshortest⟩
  have F_mfits := fun_mk (st := sFits) l_mfits c_mfits k_mfits
  have B_mfits := F_mfits.binds (ps := ["self", "length"]) fun _ _ _ _ _ _ us hl => match us, hl with | [_, _], _ => rfl
  have Y_mfits : Meth K C "fits" _ := ⟨a_mfits, i_mfits, k_mfits⟩
  have F_mthinnest := fun_mk (st := sThin) l_mthinnest c_mthinnest k_mthinnest
  have B_mthinnest := F_mthinnest.binds (ps := ["self", "length"]) fun _ _ _ _ _ _ us hl => match us, hl with | [_, _], _ => rfl
  have Y_mthinnest : Meth K C "thinnest" _ := ⟨a_mthinnest, i_mthinnest, k_mthinnest⟩
  have F_mclosed := fun_mk (st := sClosed) l_mclosed c_mclosed k_mclosed
  have B_mclosed := F_mclosed.binds (ps := ["self", "distance"]) fun _ _ _ _ _ _ us hl => match us, hl with | [_, _], _ => rfl
  have Y_mclosed : Meth K C "closed" _ := ⟨a_mclosed, i_mclosed, k_mclosed⟩
  have F_mmark := fun_mk (st := sMark) l_mmark c_mmark k_mmark
  have B_mmark := F_mmark.binds (ps := ["self", "length"]) fun _ _ _ _ _ _ us hl => match us, hl with | [_, _], _ => rfl
  have Y_mmark : Meth K C "mark" _ := ⟨a_mmark, i_mmark, k_mmark⟩
  have F_mmarks := fun_mk (st := sMarks) l_mmarks c_mmarks k_mmarks
  have B_mmarks := F_mmarks.binds (ps := ["self"]) fun _ _ _ _ _ _ us hl => match us, hl with | [_], _ => rfl
  have Y_mmarks : Meth K C "marks" _ := ⟨a_mmarks, i_mmarks, k_mmarks⟩
  have F_mchange := fun_mk (st := sChange) l_mchange c_mchange k_mchange
  have B_mchange := F_mchange.binds (ps := ["self", "length"]) fun _ _ _ _ _ _ us hl => match us, hl with | [_, _], _ => rfl
  have Y_mchange : Meth K C "change" _ := ⟨a_mchange, i_mchange, k_mchange⟩
  have MK : Mk K C _ := ⟨mk, a_minit, i_minit, kc⟩
  have T : Txt K mg C := ⟨⟨pg, hd, po, sa⟩, no_rods, no_hinges, PySem.W.mg_of X G aC⟩
  have B : Bl mg := ⟨PySem.W.mg_none_of X G z_zip, PySem.W.mg_none_of X G z_max, PySem.W.mg_none_of X G z_min, PySem.W.mg_none_of X G z_len, PySem.W.mg_none_of X G z_all, PySem.W.mg_none_of X G z_sum, PySem.W.mg_none_of X G z_list, PySem.W.mg_none_of X G z_range, PySem.W.mg_none_of X G z_abs, PySem.W.mg_none_of X G z_enumerate⟩
  have U : Nums mg := ⟨⟨_, PySem.W.mg_of X G n_MOST_RODS⟩, ⟨_, PySem.W.mg_of X G n_LONGEST_ROD⟩, ⟨_, PySem.W.mg_of X G n_WRONG_ROW⟩, ⟨_, PySem.W.mg_of X G n_NO_SUCH_HINGE⟩, ⟨_, PySem.W.mg_of X G n_NO_LENGTH⟩, ⟨_, PySem.W.mg_of X G n_NO_WAY_SO_SMALL⟩⟩
  have V' : Kinds mg := ⟨⟨_, PySem.W.mg_of X G n_RULE⟩, ⟨_, PySem.W.mg_of X G n_FOLD⟩, ⟨_, PySem.W.mg_of X G n_TURN⟩, ⟨_, PySem.W.mg_of X G n_LIES⟩, ⟨_, PySem.W.mg_of X G n_SHORTEST⟩, ⟨_, PySem.W.mg_of X G n_FITS⟩, ⟨_, PySem.W.mg_of X G n_THINNEST⟩, ⟨_, PySem.W.mg_of X G n_CLOSED⟩, ⟨_, PySem.W.mg_of X G n_MARK⟩, ⟨_, PySem.W.mg_of X G n_MARKS⟩, ⟨_, PySem.W.mg_of X G n_CHANGE⟩⟩
  have N : Fns K mg _ _ _ _ _ _ _ _ _ _ _ _ _ _ := ⟨F_are_rods, B_are_rods, M_are_rods, F_are_hinges, B_are_hinges, M_are_hinges, F_joint_places, B_joint_places, M_joint_places, F_spread, B_spread, M_spread, F_rods_right_of, B_rods_right_of, M_rods_right_of, F_thickness, B_thickness, M_thickness, F_all_ways, B_all_ways, M_all_ways⟩
  have N2 : Fns2 K mg _ _ _ _ _ _ _ _ _ _ := ⟨F_changes, B_changes, M_changes, F_one_rod_further, B_one_rod_further, M_one_rod_further, F_distances_from_first, B_distances_from_first, M_distances_from_first, F_count_and_first, B_count_and_first, M_count_and_first, F_least_and_first, B_least_and_first, M_least_and_first⟩
  have M : Mts K C _ _ _ _ _ _ _ _ _ _ _ _ _ _ _ _ _ _ _ _ _ _ _ _ _ _ _ _ := ⟨MK, F_minit, B_minit, F_mrenew, B_mrenew, Y_mrenew, F_mfold, B_mfold, Y_mfold, F_mturn, B_mturn, Y_mturn, F_mlies, B_mlies, Y_mlies, F_mways, B_mways, Y_mways, F_mways_within, B_mways_within, Y_mways_within, F_mshortest, B_mshortest, Y_mshortest, F_mfits, B_mfits, Y_mfits, F_mthinnest, B_mthinnest, Y_mthinnest, F_mclosed, B_mclosed, Y_mclosed, F_mmark, B_mmark, Y_mmark, F_mmarks, B_mmarks, Y_mmarks, F_mchange, B_mchange, Y_mchange⟩
  exact ⟨_, fun s us hu => match us, hu with | [_], _ => .of_eq rfl, fun base _ _ => ok_answers F_answers T B U V' N N2 M F_numbers_begin B_numbers_begin M_numbers_begin F_numbers_end B_numbers_end M_numbers_end F_answer_of B_answer_of M_answer_of⟩
end Fr
open PySem PySem.W PyProof.Rows
set_option maxRecDepth 100000 in
set_option maxHeartbeats 0 in
theorem PySem.Challenge.cw_foldingrule_s01_answers_holds : PySem.Challenge.rw_foldingrule_s01_answers.Holds := by
  w_on; k_headS; (case hw => exact ⟨[.list [.int 3]], by decide +kernel, by decide +kernel⟩)
  k_fillS
  refine L2.walk_specK (r := PySem.Challenge.rw_foldingrule_s01_answers) (k := 6) (CX := L2.CX0) (ps := ["calls"]) (sp := Fr.spAnswers) (by decide +kernel) rfl rfl ⟨rfl, by decide, by decide⟩ (fun w h Y => PySem.W.kIn_of Y) ?F ?S (fun _ _ _ _ z => z)
  case F =>
    intro w mg fa h Y KX G hmg
    refine' Fr.all_mk KX G hmg ?aC ?a_are_rods ?l_are_rods ?c_are_rods ?k_are_rods ?a_are_hinges ?l_are_hinges ?c_are_hinges ?k_are_hinges ?a_joint_places ?l_joint_places ?c_joint_places ?k_joint_places ?a_spread ?l_spread ?c_spread ?k_spread ?a_rods_right_of ?l_rods_right_of ?c_rods_right_of ?k_rods_right_of ?a_thickness ?l_thickness ?c_thickness ?k_thickness ?a_all_ways ?l_all_ways ?c_all_ways ?k_all_ways ?a_changes ?l_changes ?c_changes ?k_changes ?a_one_rod_further ?l_one_rod_further ?c_one_rod_further ?k_one_rod_further ?a_distances_from_first ?l_distances_from_first ?c_distances_from_first ?k_distances_from_first ?a_count_and_first ?l_count_and_first ?c_count_and_first ?k_count_and_first ?a_least_and_first ?l_least_and_first ?c_least_and_first ?k_least_and_first ?a_numbers_begin ?l_numbers_begin ?c_numbers_begin ?k_numbers_begin ?a_numbers_end ?l_numbers_end ?c_numbers_end ?k_numbers_end ?a_answer_of ?l_answer_of ?c_answer_of ?k_answer_of ?a_answers ?l_answers ?c_answers ?k_answers ?a_minit ?i_minit ?l_minit ?c_minit ?k_minit ?a_mrenew ?i_mrenew ?l_mrenew ?c_mrenew ?k_mrenew ?a_mfold ?i_mfold ?l_mfold ?c_mfold ?k_mfold ?a_mturn ?i_mturn ?l_mturn ?c_mturn ?k_mturn ?a_mlies ?i_mlies ?l_mlies ?c_mlies ?k_mlies ?a_mways ?i_mways ?l_mways ?c_mways ?k_mways ?a_mways_within ?i_mways_within ?l_mways_within ?c_mways_within ?k_mways_within ?a_mshortest ?i_mshortest ?l_mshortest ?c_mshortest ?k_mshortest ?a_mfits ?i_mfits ?l_mfits ?c_mfits ?k_mfits ?a_mthinnest ?i_mthinnest ?l_mthinnest ?c_mthinnest ?k_mthinnest ?a_mclosed ?i_mclosed ?l_mclosed ?c_mclosed ?k_mclosed ?a_mmark ?i_mmark ?l_mmark ?c_mmark ?k_mmark ?a_mmarks ?i_mmarks ?l_mmarks ?c_mmarks ?k_mmarks ?a_mchange ?i_mchange ?l_mchange ?c_mchange ?k_mchange ?n_RULE ?n_FOLD ?n_TURN ?n_LIES ?n_SHORTEST ?n_FITS ?n_THINNEST ?n_CLOSED ?n_MARK ?n_MARKS ?n_CHANGE ?n_MOST_RODS ?n_LONGEST_ROD ?n_WRONG_ROW ?n_NO_LENGTH ?n_NO_SUCH_HINGE ?n_NO_WAY_SO_SMALL ?z_zip ?z_max ?z_min ?z_len ?z_all ?z_sum ?z_list ?z_range ?z_abs ?z_enumerate ?pg ?hd ?po ?sa ?mk ?kc ?no_rods ?no_hinges
    (case aC => k_is)
    (case a_are_rods => k_is)
    (case l_are_rods => k_is)
    (case c_are_rods => k_is)
    (case k_are_rods => k_is)
    (case a_are_hinges => k_is)
    (case l_are_hinges => k_is)
    (case c_are_hinges => k_is)
    (case k_are_hinges => k_is)
    (case a_joint_places => k_is)
    (case l_joint_places => k_is)
    (case c_joint_places => k_is)
    (case k_joint_places => k_is)
    (case a_spread => k_is)
    (case l_spread => k_is)
    (case c_spread => k_is)
    (case k_spread => k_is)
    (case a_rods_right_of => k_is)
    (case l_rods_right_of => k_is)
    (case c_rods_right_of => k_is)
    (case k_rods_right_of => k_is)
    (case a_thickness => k_is)
    (case l_thickness => k_is)
    (case c_thickness => k_is)
    (case k_thickness => k_is)
    (case a_all_ways => k_is)
    (case l_all_ways => k_is)
    (case c_all_ways => k_is)
    (case k_all_ways => k_is)
    (case a_changes => k_is)
    (case l_changes => k_is)
    (case c_changes => k_is)
    (case k_changes => k_is)
    (case a_one_rod_further => k_is)
    (case l_one_rod_further => k_is)
    (case c_one_rod_further => k_is)
    (case k_one_rod_further => k_is)
    (case a_distances_from_first => k_is)
    (case l_distances_from_first => k_is)
    (case c_distances_from_first => k_is)
    (case k_distances_from_first => k_is)
    (case a_count_and_first => k_is)
    (case l_count_and_first => k_is)
    (case c_count_and_first => k_is)
    (case k_count_and_first => k_is)
    (case a_least_and_first => k_is)
    (case l_least_and_first => k_is)
    (case c_least_and_first => k_is)
    (case k_least_and_first => k_is)
    (case a_numbers_begin => k_is)
    (case l_numbers_begin => k_is)
    (case c_numbers_begin => k_is)
    (case k_numbers_begin => k_is)
    (case a_numbers_end => k_is)
    (case l_numbers_end => k_is)
    (case c_numbers_end => k_is)
    (case k_numbers_end => k_is)
    (case a_answer_of => k_is)
    (case l_answer_of => k_is)
    (case c_answer_of => k_is)
    (case k_answer_of => k_is)
    (case a_answers => k_is)
    (case l_answers => k_is)
    (case c_answers => k_is)
    (case k_answers => k_is)
    (case a_minit => k_is)
    (case i_minit => k_is)
    (case l_minit => k_is)
    (case c_minit => k_is)
    (case k_minit => k_is)
    (case a_mrenew => k_is)
    (case i_mrenew => k_is)
    (case l_mrenew => k_is)
    (case c_mrenew => k_is)
    (case k_mrenew => k_is)
    (case a_mfold => k_is)
    (case i_mfold => k_is)
    (case l_mfold => k_is)
    (case c_mfold => k_is)
    (case k_mfold => k_is)
    (case a_mturn => k_is)
    (case i_mturn => k_is)
    (case l_mturn => k_is)
    (case c_mturn => k_is)
    (case k_mturn => k_is)
    (case a_mlies => k_is)
    (case i_mlies => k_is)
    (case l_mlies => k_is)
    (case c_mlies => k_is)
    (case k_mlies => k_is)
    (case a_mways => k_is)
    (case i_mways => k_is)
    (case l_mways => k_is)
    (case c_mways => k_is)
    (case k_mways => k_is)
    (case a_mways_within => k_is)
    (case i_mways_within => k_is)
    (case l_mways_within => k_is)
    (case c_mways_within => k_is)
    (case k_mways_within => k_is)
    (case a_mshortest => k_is)
    (case i_mshortest => k_is)
    (case l_mshortest => k_is)
    (case c_mshortest => k_is)
    (case k_mshortest => k_is)
    (case a_mfits => k_is)
    (case i_mfits => k_is)
    (case l_mfits => k_is)
    (case c_mfits => k_is)
    (case k_mfits => k_is)
    (case a_mthinnest => k_is)
    (case i_mthinnest => k_is)
    (case l_mthinnest => k_is)
    (case c_mthinnest => k_is)
    (case k_mthinnest => k_is)
    (case a_mclosed => k_is)
    (case i_mclosed => k_is)
    (case l_mclosed => k_is)
    (case c_mclosed => k_is)
    (case k_mclosed => k_is)
    (case a_mmark => k_is)
    (case i_mmark => k_is)
    (case l_mmark => k_is)
    (case c_mmark => k_is)
    (case k_mmark => k_is)
    (case a_mmarks => k_is)
    (case i_mmarks => k_is)
    (case l_mmarks => k_is)
    (case c_mmarks => k_is)
    (case k_mmarks => k_is)
    (case a_mchange => k_is)
    (case i_mchange => k_is)
    (case l_mchange => k_is)
    (case c_mchange => k_is)
    (case k_mchange => k_is)
    (case n_RULE => k_is)
    (case n_FOLD => k_is)
    (case n_TURN => k_is)
    (case n_LIES => k_is)
    (case n_SHORTEST => k_is)
    (case n_FITS => k_is)
    (case n_THINNEST => k_is)
    (case n_CLOSED => k_is)
    (case n_MARK => k_is)
    (case n_MARKS => k_is)
    (case n_CHANGE => k_is)
    (case n_MOST_RODS => k_is)
    (case n_LONGEST_ROD => k_is)
    (case n_WRONG_ROW => k_is)
    (case n_NO_LENGTH => k_is)
    (case n_NO_SUCH_HINGE => k_is)
    (case n_NO_WAY_SO_SMALL => k_is)
    (case z_zip => k_is)
    (case z_max => k_is)
    (case z_min => k_is)
    (case z_len => k_is)
    (case z_all => k_is)
    (case z_sum => k_is)
    (case z_list => k_is)
    (case z_range => k_is)
    (case z_abs => k_is)
    (case z_enumerate => k_is)
    (case pg => k_is)
    (case hd => k_is)
    (case po => k_is)
    (case sa => k_is)
    (case mk => k_is)
    (case kc => k_is)
    (case no_rods => k_is)
    (case no_hinges => k_is)
  case S =>
    intro K H xs a hO hwi hask hx
    cases hx with
    | cons h1 h2 =>
      cases h2
      cases h1 with
      | lst hs ha =>
        have e := L2.ints_dw a.1 _ ha
        subst e
        have q : ((Codec.inLen 0 1680 a.1 && a.1.all (Codec.inInt 0 4294967295)) && true) = true := hwi
        rw [Bool.and_eq_true, Bool.and_eq_true] at q
        have small : FM.Small a.1 := fun x hx => Codec.inInt_iff.mp (List.all_eq_true.mp q.1.2 x hx)
        exact ⟨_, a.1, rfl, hs, (Codec.inNat_iff.mp q.1.1).2, small, hask, fun H' p hp => .lst (L2.SqL.of hp) (L2.dw_ints _)⟩

