import PyProof.Rows.All
import Wide.All
import OpenK.AllK
import Wide.FinOn
import PyProof.EqAt
import PyProof.EqKinds
import PyProof.TupleCall
import KE.BitLaws
import Open.SpecLaws
import KE.OsHead
import KE.OsGo
import KE.KDictSum
import PyProof.Rows.SortShellAny
import KE.IntBitsLaws
import PySem.Challenge.RW_barframe_s05_ri_steps
set_option Elab.async false
set_option linter.all false
set_option maxRecDepth 100000
/-! THE HAND LAYER, for ints, bools, texts, own classes, lists, tuples, dicts, comprehensions, walks over dicts, enumerate, zip, reversed, texts, calls, loops. Paste it whole ahead of your own text; what your proof does not reach may be deleted. -/
namespace L2
open PySem PySem.Spec PyProof.Rows

/-- a key: an int or a str -/
abbrev Key := Sum Int Str
def keyIs : Key → Value → Bool
  | .inl k, v => Value.isInt k v
  | .inr x, v => Value.isStrOf x v
def keyH (w : World) : Key → Int
  | .inl k => hashInt k
  | .inr x => hashStr w x
theorem keyIs_shape : ∀ {k : Key} {v : Value}, keyIs k v = true → (∃ i t, k = Sum.inl i ∧ v = Value.int i t) ∨ (∃ x t, k = Sum.inr x ∧ v = Value.str x t)
  | .inl i, v, h => by
    obtain ⟨t, e⟩ := Value.isInt_shape (k := i) (v := v) h
    exact .inl ⟨i, t, rfl, e⟩
  | .inr x, v, h => by
    obtain ⟨t, e⟩ := Value.isStrOf_shape (x := x) (v := v) h
    exact .inr ⟨x, t, rfl, e⟩
theorem keyIs_int (i : Int) (t : Tok) : keyIs (.inl i) (.int i t) = true := by simp [keyIs, Value.isInt]
theorem keyIs_str (x : Str) (t : Tok) : keyIs (.inr x) (.str x t) = true := by simp [keyIs, Value.isStrOf]
theorem key_ll (a b : Int) : decide ((Sum.inl a : Key) = Sum.inl b) = (a == b) := by
  by_cases e : a = b
  · subst e; simp
  · have h : ¬ (Sum.inl a : Key) = Sum.inl b := fun q => e (Sum.inl.inj q)
    rw [decide_eq_false h]
    exact (beq_eq_false_iff_ne.mpr e).symm
theorem key_rr (a b : Str) : decide ((Sum.inr a : Key) = Sum.inr b) = decide (a = b) := by
  by_cases e : a = b
  · subst e; simp
  · have h : ¬ (Sum.inr a : Key) = Sum.inr b := fun q => e (Sum.inr.inj q)
    rw [decide_eq_false h, decide_eq_false e]
theorem key_lr (a : Int) (b : Str) : decide ((Sum.inl a : Key) = Sum.inr b) = false := decide_eq_false (fun q => nomatch q)
theorem key_rl (a : Str) (b : Int) : decide ((Sum.inr a : Key) = Sum.inl b) = false := decide_eq_false (fun q => nomatch q)

def mixKind (prog : Program) (w : World) : PySem.KeyKind prog w Key where
  is := keyIs
  hash := keyH w
  inj := fun v a b ha hb => by
    rcases keyIs_shape ha with ⟨i, t, rfl, rfl⟩ | ⟨x, t, rfl, rfl⟩
    · rcases keyIs_shape hb with ⟨j, u, rfl, e⟩ | ⟨y, u, rfl, e⟩
      · injection e with e1 _; rw [e1]
      · exact nomatch e
    · rcases keyIs_shape hb with ⟨j, u, rfl, e⟩ | ⟨y, u, rfl, e⟩
      · exact nomatch e
      · injection e with e1 _; rw [e1]
  byValue := fun k v h => by
    rcases keyIs_shape h with ⟨i, t, rfl, rfl⟩ | ⟨x, t, rfl, rfl⟩ <;> rfl
  pyHash := fun hv h => by
    rcases keyIs_shape hv with ⟨i, t, rfl, rfl⟩ | ⟨x, t, rfl, rfl⟩
    · exact wpAny_pyHash_int h
    · exact wpAny_pyHash_str h
  eqBool := fun hu hv h => by
    rcases keyIs_shape hu with ⟨i, t, rfl, rfl⟩ | ⟨x, t, rfl, rfl⟩
    · rcases keyIs_shape hv with ⟨j, u, rfl, rfl⟩ | ⟨y, u, rfl, rfl⟩
      · rw [key_ll] at h; exact wpAny_eqBool_int h
      · rw [key_lr] at h; exact SeqAt.EqAt.int_str i t y u _ _ _ _ h
    · rcases keyIs_shape hv with ⟨j, u, rfl, rfl⟩ | ⟨y, u, rfl, rfl⟩
      · rw [key_rl] at h; exact SeqAt.EqAt.str_int x t j u _ _ _ _ h
      · rw [key_rr] at h; exact wpAny_eqBool_str h
  «strs» := fun k x t v h => by
    rcases keyIs_shape h with ⟨i, u, rfl, e⟩ | ⟨y, u, rfl, e⟩
    · exact nomatch e
    · injection e with e1 _
      subst e1
      cases v <;> rfl

theorem mixKind_int (prog : Program) (w : World) (i : Int) (t : Tok) : (mixKind prog w).is (.inl i) (.int i t) = true := keyIs_int i t
theorem mixKind_str (prog : Program) (w : World) (x : Str) (t : Tok) : (mixKind prog w).is (.inr x) (.str x t) = true := keyIs_str x t
end L2

namespace L2
open PySem PySem.Spec PyProof.Rows

/-- a value, without the heap -/
inductive V where
  | non | bl (b : Bool) | int (i : Int) | str (x : Str) | byt (b : Array UInt8) | flt (b : UInt64) | ref (a : Addr) | ty (n : String)
  deriving DecidableEq

def RelV : V → Value → Prop
  | .non, u => u = Value.none
  | .bl b, u => u = Value.bool b
  | .int i, u => ∃ t, u = Value.int i t
  | .str x, u => ∃ t, u = Value.str x t
  | .byt b, u => ∃ t, u = Value.bytes b t
  | .flt b, u => ∃ t, u = Value.float b t
  | .ref a, u => u = Value.ref a
  | .ty n, u => u = Value.type n

abbrev Vals : List V → List Value → Prop := Paired RelV
theorem Vals.length {xs : List V} {us : List Value} (r : Vals xs us) : xs.length = us.length := Paired.length r
theorem Vals.get : ∀ {xs : List V} {us : List Value} {i : Nat} {x : V}, Vals xs us → xs[i]? = some x → ∃ u, us[i]? = some u ∧ RelV x u
  | _, _, _, _, .nil, e => by simp at e
  | _, _, 0, _, .cons r _, e => by simp at e; subst e; exact ⟨_, rfl, r⟩
  | _, _, i + 1, x, .cons _ t, e => by
    obtain ⟨u, h1, h2⟩ := Vals.get (i := i) (x := x) t (by simpa using e)
    exact ⟨u, by simpa using h1, h2⟩
theorem Vals.set {x : V} {u : Value} (r : RelV x u) : ∀ {xs : List V} {us : List Value} (i : Nat), Vals xs us → Vals (xs.set i x) (us.set i u)
  | _, _, _, .nil => .nil
  | _, _, 0, .cons _ t => .cons r t
  | _, _, i + 1, .cons q t => .cons q (Vals.set r i t)
theorem Vals.append : ∀ {xs ys : List V} {us ws : List Value}, Vals xs us → Vals ys ws → Vals (xs ++ ys) (us ++ ws)
  | _, _, _, _, .nil, s => s
  | _, _, _, _, .cons r t, s => .cons r (Vals.append t s)
theorem Vals.take : ∀ {xs : List V} {us : List Value} (n : Nat), Vals xs us → Vals (xs.take n) (us.take n)
  | _, _, 0, _ => .nil
  | _, _, _ + 1, .nil => .nil
  | _, _, n + 1, .cons r t => .cons r (Vals.take n t)
theorem Vals.drop : ∀ {xs : List V} {us : List Value} (n : Nat), Vals xs us → Vals (xs.drop n) (us.drop n)
  | _, _, 0, r => r
  | _, _, _ + 1, .nil => .nil
  | _, _, n + 1, .cons _ t => Vals.drop n t
theorem Vals.none_of : ∀ {xs : List V} {us : List Value} {i : Nat}, Vals xs us → xs[i]? = none → us[i]? = none := fun {xs us i} r e => by
  have h1 := r.length
  have h2 : xs.length ≤ i := List.getElem?_eq_none_iff.mp e
  exact List.getElem?_eq_none_iff.mpr (by omega)

def RelO : Option V → Option Value → Prop
  | some v, some u => RelV v u
  | none, none => True
  | _, _ => False
def KV {κ : Type} : List (κ × V) → List (κ × Value) → Prop := Paired fun (p : κ × V) (q : κ × Value) => p.1 = q.1 ∧ RelV p.2 q.2

/-- a key of a dict (00_mix): an int or a text -/
def kV : Key → V
  | .inl i => .int i
  | .inr x => .str x

/-- what stands at a tracked address -/
inductive HO where
  /-- a list -/
  | lst (xs : List V)
  /-- a tuple (never changes) -/
  | tup (xs : List V)
  /-- a dict whose keys are ints and texts; one whose keys are tuples of ints and texts (the empty one is both) -/
  | dK (kvs : List (Key × V)) | dT (kvs : List (List Key × V))
  /-- a set of ints: its members, its size -/
  | set (S : Int → Bool) (n : Nat)
  /-- an instance of the class at C, its dict at dx, its attributes -/
  | ins (C dx : Addr) (fs : List (Str × V))
  /-- the dict of the instance at x -/
  | own (x : Addr)
  /-- the dict of an exception -/
  | xd (fs : List (Str × V))
  /-- a bound method, f of x -/
  | met (f x : Addr)
  /-- a range object lo, lo + 1, .. below hi -/
  | rng (lo hi : Int)
  /-- a thing that is known to the object (the script; a dict while a loop walks it): read, never written while it is so -/
  | frz (o : Obj) (u : HO)
  /-- a code object's table -/
  | tbl (ps : Array Value)
  /-- any other thing, by what is true of its one object (a def of one's own: SetO a S n := HO.ext fun h => ..) -/
  | ext (φ : Heap → Prop)

abbrev Hp := Addr → Option HO
def upd (H : Hp) (a : Addr) (o : HO) : Hp := fun b => if b = a then some o else H b
theorem upd_same {H : Hp} {a : Addr} {o : HO} : upd H a o a = some o := by unfold upd; rw [if_pos rfl]
theorem upd_ne {H : Hp} {a b : Addr} {o : HO} (h : b ≠ a) : upd H a o b = H b := by unfold upd; rw [if_neg h]
/-- two objects of different content stand apart -/
theorem ne_of {H : Hp} {a b : Addr} {o u : HO} (h : H a = some o) (h' : H b = some u) (d : o ≠ u) : a ≠ b := by
  intro e; subst e; rw [h] at h'; exact d (Option.some.inj h')
theorem ne_of_none {H : Hp} {a b : Addr} {o : HO} (h : H a = some o) (h' : H b = none) : a ≠ b := by
  intro e; subst e; rw [h] at h'; cases h'

section
variable (P : Program) (w : World)
def ObjOk (H : Hp) (h : Heap) (a : Addr) : HO → Prop
  | .lst xs => xs.length ≤ sizeLine ∧ ∃ (its : List Value) (n : Nat), Vals xs its ∧ h.get? a = some { cls := .type "list", data := .seq its.toArray n }
  | .tup xs => xs.length ≤ sizeLine ∧ ∃ its : List Value, Vals xs its ∧ IsTup h a its.toArray
  | .dK kvs => kvs.length ≤ sizeLine ∧ (a == sysModules) = false ∧ ∃ vs, KV kvs vs ∧ h.DictOf (mixKind P w) a vs
  | .dT kvs => kvs.length ≤ sizeLine ∧ (a == sysModules) = false ∧ ∃ xs : List (List Key × Addr × Value),
      Paired (fun (p : List Key × V) (q : List Key × Addr × Value) => p.1 = q.1 ∧ H q.2.1 = some (.tup (p.1.map kV)) ∧ RelV p.2 q.2.2) kvs xs ∧
      ∃ o es ep, h.get? a = some o ∧ o.ExactDict ∧ o.data = .dict es ep ∧ es.toList = xs.map (entryOfKey (tupleKind (mixKind P w))) ∧ (xs.map (·.1)).Nodup
  | .set S n => h.SetOf (intKind P w) a S n
  | .ins C dx fs => H dx = some (.own a) ∧ fs.length ≤ 1000 ∧ dx ≠ a ∧ h.get? a = some (PySem.W.instObj C dx) ∧
      ∃ mA, h.Ns1 dx mA ∧ (∀ f, RelO (fs.lookup f) (mA f)) ∧ PySem.Within mA (fs.map (·.1))
  | .own _ => ∃ o, h.get? a = some o
  | .xd fs => ∃ mA, h.Ns1 a mA ∧ ∀ f, RelO (fs.lookup f) (mA f)
  | .rng lo hi => ∃ t u v, h.get? a = some { cls := .type "range", data := .fields #[.int lo t, .int hi u, .int 1 v] }
  | .frz o u => h.get? a = some o ∧ ObjOk H h a u
  | .tbl ps => h.get? a = some { cls := .none, data := .fields ps }
  | .met f x => h.get? a = some (PySem.W.methodObj (.ref f) (.ref x))
  | .ext φ => φ h ∧ (∃ o, h.get? a = some o) ∧ ∀ h1 h2 : Heap, φ h1 → (∀ o, h1.get? a = some o → h2.get? a = some o) → φ h2
/-- the abstract heap is held -/
def HOk (H : Hp) (h : Heap) : Prop := ∀ a o, H a = some o → ObjOk P w H h a o
end

section
variable {P : Program} {w : World} {H H' : Hp} {h h' : Heap} {a : Addr} {o : HO}
theorem ObjOk.lt (x : ObjOk P w H h a o) : a < h.objs.size := by
  cases o with
  | lst xs => obtain ⟨_, _, _, _, e⟩ := x; exact Heap.lt_size e
  | tup xs => obtain ⟨_, _, _, p⟩ := x; exact p.lt
  | dK kvs => obtain ⟨_, _, _, _, o, _, _, e, _⟩ := x; exact Heap.lt_size e
  | dT kvs => obtain ⟨_, _, _, _, o, _, _, e, _⟩ := x; exact Heap.lt_size e
  | set S n => obtain ⟨o, _, _, _, e, _⟩ := x; exact Heap.lt_size e
  | ins C dx fs => obtain ⟨_, _, _, e, _⟩ := x; exact Heap.lt_size e
  | own y => obtain ⟨_, e⟩ := x; exact Heap.lt_size e
  | xd fs => obtain ⟨_, ⟨_, _, _, e, _⟩, _⟩ := x; exact Heap.lt_size e
  | rng lo hi => obtain ⟨_, _, _, e⟩ := x; exact Heap.lt_size e
  | frz ob u => obtain ⟨e, _⟩ := x; exact Heap.lt_size e
  | tbl ps => exact Heap.lt_size (show h.get? a = some _ from x)
  | met f y => exact Heap.lt_size (show h.get? a = some _ from x)
  | ext φ => obtain ⟨_, ⟨_, e⟩, _⟩ := x; exact Heap.lt_size e
theorem Paired.mapP {α β : Type} {F G : α → β → Prop} : ∀ {l₁ : List α} {l₂ : List β}, Paired F l₁ l₂ → (∀ a b, F a b → G a b) → Paired G l₁ l₂
  | _, _, .nil, _ => .nil
  | _, _, .cons r t, f => .cons (f _ _ r) (Paired.mapP t f)
/-- what an object's description leans on: its own object, its own dict, the tuples -/
theorem ObjOk.stay (x : ObjOk P w H h a o) (k : ∀ b u, (b = a ∨ H b = some (.own a)) → h.get? b = some u → h'.get? b = some u)
    (ho : ∀ b, H b = some (.own a) → H' b = some (.own a)) (ht : ∀ b xs, H b = some (.tup xs) → H' b = some (.tup xs)) : ObjOk P w H' h' a o := by
  induction o with
  | lst xs => obtain ⟨z, its, n, r, e⟩ := x; exact ⟨z, its, n, r, k _ _ (.inl rfl) e⟩
  | tup xs => obtain ⟨z, its, r, ob, e, c⟩ := x; exact ⟨z, its, r, ob, k _ _ (.inl rfl) e, c⟩
  | dK kvs => obtain ⟨z, y, vs, r, ob, es, ep, e, c⟩ := x; exact ⟨z, y, vs, r, ob, es, ep, k _ _ (.inl rfl) e, c⟩
  | dT kvs =>
    obtain ⟨z, y, xs, r, ob, es, ep, e, c⟩ := x
    exact ⟨z, y, xs, Paired.mapP r fun p q z => ⟨z.1, ht _ _ z.2.1, z.2.2⟩, ob, es, ep, k _ _ (.inl rfl) e, c⟩
  | set S n => obtain ⟨ob, es, ep, t, e, c⟩ := x; exact ⟨ob, es, ep, t, k _ _ (.inl rfl) e, c⟩
  | ins C dx fs =>
    obtain ⟨d, z, ne, e, mA, ⟨od, es, ep, e2, c⟩, r⟩ := x
    exact ⟨ho _ d, z, ne, k _ _ (.inl rfl) e, mA, ⟨od, es, ep, k _ _ (.inr d) e2, c⟩, r⟩
  | own y => obtain ⟨ob, e⟩ := x; exact ⟨ob, k _ _ (.inl rfl) e⟩
  | xd fs => obtain ⟨mA, ⟨od, es, ep, e, c⟩, r⟩ := x; exact ⟨mA, ⟨od, es, ep, k _ _ (.inl rfl) e, c⟩, r⟩
  | rng lo hi => obtain ⟨t, u, v, e⟩ := x; exact ⟨t, u, v, k _ _ (.inl rfl) e⟩
  | frz ob u ih => obtain ⟨e, q⟩ := x; exact ⟨k _ _ (.inl rfl) e, ih q⟩
  | tbl ps =>
    have e : h.get? a = some { cls := .none, data := .fields ps } := x
    show h'.get? a = some { cls := .none, data := .fields ps }
    exact k a _ (.inl rfl) e
  | met f y =>
    have e : h.get? a = some (PySem.W.methodObj (.ref f) (.ref y)) := x
    show h'.get? a = some (PySem.W.methodObj (.ref f) (.ref y))
    exact k a _ (.inl rfl) e
  | ext φ => obtain ⟨p, ⟨o, e⟩, st⟩ := x; exact ⟨st _ _ p fun o q => k _ _ (.inl rfl) q, ⟨o, k _ _ (.inl rfl) e⟩, st⟩
theorem HOk.lt (x : HOk P w H h) (e : H a = some o) : a < h.objs.size := (x a o e).lt
theorem HOk.fresh (x : HOk P w H h) (e : h.objs.size ≤ a) : H a = none := by
  cases q : H a with
  | none => rfl
  | some u => exact absurd (Nat.lt_of_lt_of_le (x.lt q) e) (Nat.lt_irrefl _)
/-- every object of the heap is kept -/
theorem HOk.kept (x : HOk P w H h) (k : ∀ b u, h.get? b = some u → h'.get? b = some u) : HOk P w H h' := fun a o e =>
  (x a o e).stay (fun b u _ q => k b u q) (fun _ q => q) fun _ _ q => q
/-- a new object is laid and tracked -/
theorem HOk.laid (x : HOk P w H h) (k : ∀ b u, h.get? b = some u → h'.get? b = some u) (hp : h.objs.size ≤ a) (new : ObjOk P w (upd H a o) h' a o) : HOk P w (upd H a o) h' := fun b u e => by
  have hn := x.fresh hp
  by_cases hb : b = a
  · subst hb; rw [upd_same] at e; cases e; exact new
  · rw [upd_ne hb] at e
    exact (x b u e).stay (fun c v _ q => k c v q) (fun c q => by rw [upd_ne (ne_of_none q hn)]; exact q) fun c xs q => by rw [upd_ne (ne_of_none q hn)]; exact q
end

/-- what may be read as u: it is u, or a known u -/
def Rd (H : Hp) (a : Addr) (u : HO) : Prop := H a = some u ∨ ∃ o, H a = some (.frz o u)
theorem Rd.of {H : Hp} {a : Addr} {u : HO} (h : H a = some u) : Rd H a u := .inl h
theorem Rd.ok {P : Program} {w : World} {H : Hp} {h : Heap} {a : Addr} {u : HO} (r : Rd H a u) (x : HOk P w H h) : ObjOk P w H h a u := by
  rcases r with r | ⟨o, r⟩
  · exact x a u r
  · obtain ⟨_, q⟩ := x a _ r
    exact q
/-- what may be written -/
def Mut : Option HO → Prop
  | some (.lst _) => True
  | some (.dK _) => True
  | some (.dT _) => True
  | some (.set _ _) => True
  | some (.ins _ _ _) => True
  | some (.ext _) => True
  | _ => False
section
variable {P : Program} {w : World} {H : Hp} {h h' : Heap} {x e : Addr} {o' : HO}
/-- the object at e is changed: x itself, or the dict of the instance x -/
theorem HOk.write (ok : HOk P w H h) (mu : Mut (H x)) (he : e = x ∨ H e = some (.own x)) (k : ∀ b u, b ≠ e → h.get? b = some u → h'.get? b = some u) (heo : ∃ u, h'.get? e = some u)
    (new : ObjOk P w (upd H x o') h' x o') : HOk P w (upd H x o') h' := fun b u q => by
  have nown : ∀ c y, H c = some (.own y) → c ≠ x := fun c y r z => by subst z; rw [r] at mu; exact mu
  have ntup : ∀ c xs, H c = some (.tup xs) → c ≠ x := fun c xs r z => by subst z; rw [r] at mu; exact mu
  by_cases hb : b = x
  · subst hb; rw [upd_same] at q; cases q; exact new
  · rw [upd_ne hb] at q
    by_cases hbe : b = e
    · have q' : H b = some (.own x) := by
        rcases he with z | z
        · exact absurd (hbe.trans z) hb
        · rw [hbe]; exact z
      rw [q] at q'; cases q'
      obtain ⟨v, hv⟩ := heo
      exact ⟨v, by rw [hbe]; exact hv⟩
    · refine (ok b u q).stay (fun c v hc r => k c v ?_ r) (fun c r => by rw [upd_ne (nown c b r)]; exact r) fun c xs r => by rw [upd_ne (ntup c xs r)]; exact r
      rcases hc with rfl | hc
      · exact hbe
      · rintro rfl
        rcases he with z | z
        · exact nown c b hc z
        · rw [hc] at z; cases z; exact hb rfl
end

/-! ### kept unless tracked; of the frames at fs (the callers') the slots may change (an exception that passes writes there); of the records at ex (iterators) nothing is said -/
structure Un (fs ex : List Addr) (H H' : Hp) (h h' : Heap) : Prop where
  keep : ∀ b o, h.get? b = some o → H b = none → b ∉ fs → b ∉ ex → h'.get? b = some o
  slot : ∀ b o, h.get? b = some o → H b = none → b ∈ fs → b ∉ ex → ∃ sl, h'.get? b = some { o with slots := sl }
  free : ∀ b o, h.get? b = some o → H b = none → b ∉ ex → H' b = none
  there : ∀ b o, h.get? b = some o → b ∉ ex → ∃ o', h'.get? b = some o'
  tups : ∀ b xs, H b = some (.tup xs) → H' b = some (.tup xs)
  frzs : ∀ b o u, H b = some (.frz o u) → H' b = some (.frz o u)
  tbls : ∀ b ps, H b = some (.tbl ps) → ∃ more, H' b = some (.tbl (ps ++ more))
section
variable {fs fs' ex ex' : List Addr} {H H1 H2 : Hp} {h h1 h2 h' : Heap} {a x e : Addr} {o : HO}
theorem Un.any (u : Un fs ex H H1 h h1) {b : Addr} {ob : Obj} (q : h.get? b = some ob) (n : H b = none) (hx : b ∉ ex) : ∃ sl, h1.get? b = some { ob with slots := sl } := by
  by_cases hb : b ∈ fs
  · exact u.slot b ob q n hb hx
  · exact ⟨ob.slots, u.keep b ob q n hb hx⟩
theorem Un.trans (a : Un fs ex H H1 h h1) (b : Un fs ex H1 H2 h1 h2) : Un fs ex H H2 h h2 where
  keep := fun c ob q n hc hx => b.keep c ob (a.keep c ob q n hc hx) (a.free c ob q n hx) hc hx
  slot := fun c ob q n hc hx => by
    obtain ⟨sl, e1⟩ := a.slot c ob q n hc hx
    obtain ⟨sl', e2⟩ := b.slot c _ e1 (a.free c ob q n hx) hc hx
    exact ⟨sl', e2⟩
  free := fun c ob q n hx => by
    obtain ⟨o', e1⟩ := a.there c ob q hx
    exact b.free c o' e1 (a.free c ob q n hx) hx
  there := fun c ob q hx => by
    obtain ⟨o', e1⟩ := a.there c ob q hx
    exact b.there c o' e1 hx
  tups := fun c xs q => b.tups c xs (a.tups c xs q)
  frzs := fun c ob xs q => b.frzs c ob xs (a.frzs c ob xs q)
  tbls := fun c ps q => by
    obtain ⟨m1, e1⟩ := a.tbls c ps q
    obtain ⟨m2, e2⟩ := b.tbls c _ e1
    exact ⟨m1 ++ m2, by rw [e2, Array.append_assoc]⟩
theorem Un.kept (k : ∀ b u, h.get? b = some u → h'.get? b = some u) : Un fs ex H H h h' :=
  ⟨fun b ob q _ _ _ => k b ob q, fun b ob q _ _ _ => ⟨ob.slots, k b ob q⟩, fun _ _ _ n _ => n, fun b ob q _ => ⟨ob, k b ob q⟩, fun _ _ q => q, fun _ _ _ q => q, fun _ ps q => ⟨#[], by rw [q]; simp⟩⟩
theorem Un.refl : Un fs ex H H h h := Un.kept fun _ _ q => q
theorem Un.laid (k : ∀ b u, h.get? b = some u → h'.get? b = some u) (hp : h.objs.size ≤ a) (hn : H a = none) : Un fs ex H (upd H a o) h h' where
  keep := fun b u q _ _ _ => k b u q
  slot := fun b u q _ _ _ => ⟨u.slots, k b u q⟩
  free := fun b u q n _ => by rw [upd_ne (Nat.ne_of_lt (Nat.lt_of_lt_of_le (Heap.lt_size q) hp))]; exact n
  there := fun b u q _ => ⟨u, k b u q⟩
  tups := fun b xs q => by rw [upd_ne (ne_of_none q hn)]; exact q
  frzs := fun b u xs q => by rw [upd_ne (ne_of_none q hn)]; exact q
  tbls := fun b ps q => ⟨#[], by rw [upd_ne (ne_of_none q hn), q]; simp⟩
theorem Un.write (mu : Mut (H x)) (he : e = x ∨ H e = some (.own x)) (k : ∀ b u, b ≠ e → h.get? b = some u → h'.get? b = some u) (heo : ∃ u, h'.get? e = some u) : Un fs ex H (upd H x o) h h' := by
  have hx : ∀ b, H b = none → b ≠ x := fun b n z => by subst z; rw [n] at mu; exact mu
  have hb : ∀ b, H b = none → b ≠ e := fun b n z => by
    subst z
    rcases he with r | r
    · exact hx b n r
    · rw [n] at r; cases r
  have hm : ∀ b u, H b = some u → ¬ Mut (some u) → b ≠ x := fun b u q nm z => by subst z; rw [q] at mu; exact nm mu
  refine ⟨fun b u q n _ _ => k b u (hb b n) q, fun b u q n _ _ => ⟨u.slots, k b u (hb b n) q⟩, fun b u q n _ => by rw [upd_ne (hx b n)]; exact n, fun b u q _ => ?_,
    fun b xs q => by rw [upd_ne (hm b _ q fun z => z)]; exact q, fun b u xs q => by rw [upd_ne (hm b _ q fun z => z)]; exact q, fun b ps q => ⟨#[], by rw [upd_ne (hm b _ q fun z => z), q]; simp⟩⟩
  by_cases hbe : b = e
  · subst hbe; exact heo
  · exact ⟨u, k b u hbe q⟩
theorem Un.mono (u : Un fs ex H H1 h h1) (hs : ∀ b ∈ fs, b ∈ fs') (hx : ∀ b ∈ ex, b ∈ ex') : Un fs' ex' H H1 h h1 :=
  ⟨fun b ob q n hb he => u.keep b ob q n (fun z => hb (hs b z)) fun z => he (hx b z), fun _ _ q n _ he => u.any q n fun z => he (hx _ z), fun b ob q n he => u.free b ob q n fun z => he (hx b z), fun b ob q he => u.there b ob q fun z => he (hx b z), u.tups, u.frzs, u.tbls⟩
end

/-! ### the heap without what is tracked -/
def trk (h : Heap) (H : Hp) : List Addr := (List.range h.objs.size).filter fun a => (H a).isSome
def hidT (h : Heap) (H : Hp) : Heap := PySem.W.hideAll h (trk h H)
theorem hidT_size (h : Heap) (H : Hp) : (hidT h H).objs.size = h.objs.size := PySem.W.hideAll_size _ _
theorem hidT_get {h : Heap} {H : Hp} {b : Addr} {o : Obj} (e : h.get? b = some o) (n : H b = none) : (hidT h H).get? b = some o :=
  PySem.W.hideAll_get _ e fun hm => by
    have q : (H b).isSome = true := (List.mem_filter.mp hm).2
    rw [n] at q; simp at q
theorem of_hidT {h : Heap} {H : Hp} {b : Addr} {o : Obj} (e : (hidT h H).get? b = some o) : h.get? b = some o ∧ H b = none := by
  have e' : h.get? b = some o := PySem.W.of_hideAll (trk h H) e
  refine ⟨e', ?_⟩
  cases q : H b with
  | none => rfl
  | some x =>
    have hm : b ∈ trk h H := List.mem_filter.mpr ⟨List.mem_range.mpr (Heap.lt_size e'), by simp [q]⟩
    have z : (hidT h H).get? b = none := PySem.W.hideAll_none (trk h H) hm
    rw [z] at e; cases e

/-! ### OpenK's ledger, filled with every new object but one -/
def allNews (g h : Heap) (L : Addr) : List (Addr × Obj) := (List.range h.objs.size).filterMap fun a => if a = L ∨ (g.get? a).isSome = true then none else (h.get? a).map fun o => (a, o)
def rest (g h : Heap) (L d : Addr) : List (Addr × Obj) := (allNews g h L).filter fun p => decide (p.1 ≠ d)
end L2

namespace L2
open PySem PySem.Spec PyProof.Rows

/-- the module's facts, over the base: the heap at the law's entry without what is tracked there -/
structure Mod (K : PySem.W.Frag) (mg : Str → Option Value) (base : Heap) : Prop where
  kin : K.In base
  glob : base.Ns mainGlobals mg
  blt : ∃ mb, base.Ns builtinsNs mb ∧ ∀ x : Str, x ≠ "__name__" → mb x = bootBuiltins x
  nolimit : base.NoLimit

/-- the context: a def's body (or a comprehension's block) running. base: fixed through the whole law; s₀, H₀: the entry; outer: the frames whose slots others may change (a def's callers); stack: all frames that run;
   ex: iterators that were made ahead of the entry and are walked here (a comprehension's); fn: the names whose cells were made at the entry (a def: all; a comprehension's block: its own); calm: not within an except suite; pn: pins that every state bears; xe: what is wanted of an exception that leaves the code -/
structure Cx where
  prog : Program
  w : World
  K : PySem.W.Frag
  mg : Str → Option Value
  base : Heap
  A : Around
  N : List Str
  s_0 : Shared
  H_0 : Hp
  env : Env
  outer : List Env
  stack : List Env
  ex : List Addr
  fn : Str → Bool
  calm : Bool
  pn : List (Addr × Obj)
  xe : Value → Shared → Prop
/-- the callers' frames -/
def frs (l : List Env) : List Addr := l.filterMap (·.frame)
abbrev Cx.fs (X : Cx) : List Addr := frs X.outer

def Vis (sc : Scope) (x : Str) : Prop := sc.names.lookup x = some .local ∨ sc.names.lookup x = some .cell ∨ sc.names.lookup x = some .free
def Loc (sc : Scope) (x : Str) : Prop := sc.names.lookup x = some .local ∨ sc.names.lookup x = some .cell
def Look (env : Env) (h : Heap) (m : Str → Option Value) (x : Str) (u : Value) : Prop :=
  (env.kindOf x = some .local ∧ m x = some u) ∨ ((env.kindOf x = some .cell ∨ env.kindOf x = some .free) ∧ ∃ c, env.cells.lookup x = some c ∧ h.IsCell c (some u))

structure Cx.Ok (X : Cx) : Prop where
  mod : Mod X.K X.mg X.base
  kind : X.env.scope.kind = .function
  glob : X.env.globals = mainGlobals
  blt : X.env.builtins = builtinsNs
  above : X.s_0.heap.objs.size ≤ X.env.locals
  inj : ∀ x y c, X.env.cells.lookup x = some c → X.env.cells.lookup y = some c → x = y
  has : ∀ x, (X.env.kindOf x = some .cell ∨ X.env.kindOf x = some .free) → ∃ c, X.env.cells.lookup x = some c
  cab : ∀ x c, X.fn x = true → X.env.cells.lookup x = some c → X.s_0.heap.objs.size ≤ c
  hd : X.calm = true → X.A.handled = none
  frames : X.A.frames = some X.stack
  stk : X.stack = X.outer ∨ (X.stack = X.env :: X.outer ∧ X.env.frame = some X.env.locals)
  exf : ∀ b ∈ X.ex, b ≠ X.env.locals ∧ ∀ x c, X.env.cells.lookup x = some c → c ≠ b
  bs : ∀ b o, X.base.get? b = some o → X.s_0.heap.get? b = some o ∧ X.H_0 b = none
  bsz : X.base.objs.size ≤ X.s_0.heap.objs.size
  noex : ∀ b o, X.base.get? b = some o → b ∉ X.ex
  exfs : ∀ b ∈ X.ex, b ∉ X.fs
  funs : X.s_0.heap.FunFrames X.base X.outer
  frf : ∀ b ∈ X.fs, X.H_0 b = none

structure Inv (X : Cx) (pins : List (Addr × Obj)) (σ : List (Option V)) (H : Hp) (s : Shared) : Prop where
  ok : X.Ok
  os : s.os = X.s_0.os
  bare : AllBare s.gens
  base : Un X.fs X.ex X.H_0 H X.s_0.heap s.heap
  loc : ∃ m, s.heap.Ns X.env.locals m ∧ ∀ (i : Nat) (x : Str) (v : V), X.N[i]? = some x → σ[i]? = some (some v) → Vis X.env.scope x → ∃ u, RelV v u ∧ Look X.env s.heap m x u
  cell : ∀ x c, X.env.cells.lookup x = some c → ∃ v, s.heap.IsCell c v
  free : H X.env.locals = none
  freeC : ∀ x c, X.env.cells.lookup x = some c → H c = none
  pin : ∀ p ∈ X.pn ++ pins, s.heap.get? p.1 = some p.2 ∧ H p.1 = none ∧ p.1 ≠ X.env.locals ∧ p.1 ∉ X.fs ∧ ∀ v, p.2.data ≠ .cell v
  hok : HOk X.prog X.w H s.heap
  len : σ.length = X.N.length

section
variable {X : Cx} {pins : List (Addr × Obj)} {σ : List (Option V)} {H H' : Hp} {s : Shared} {h' : Heap}

theorem Cx.Ok.nofr (ok : X.Ok) {b : Addr} {o : Obj} (e : X.base.get? b = some o) : b ∉ X.fs := fun hb => by
  have := (ok.funs.mem hb).1
  rw [e] at this; cases this
theorem Inv.bs (I : Inv X pins σ H s) : ∀ b o, X.base.get? b = some o → s.heap.get? b = some o ∧ H b = none := fun b o e =>
  ⟨I.base.keep b o (I.ok.bs b o e).1 (I.ok.bs b o e).2 (I.ok.nofr e) (I.ok.noex b o e), I.base.free b o (I.ok.bs b o e).1 (I.ok.bs b o e).2 (I.ok.noex b o e)⟩
theorem Inv.bk (I : Inv X pins σ H s) : ∀ b o, X.base.get? b = some o → s.heap.get? b = some o := fun b o e => (I.bs b o e).1
theorem Inv.mod (I : Inv X pins σ H s) : Mod X.K X.mg X.base := I.ok.mod
theorem Inv.kIn (I : Inv X pins σ H s) : X.K.In s.heap := I.ok.mod.kin.keeps I.bk
theorem Inv.nolimit (I : Inv X pins σ H s) : s.heap.NoLimit := I.ok.mod.nolimit.keeps I.bk
/-- the frame over the base: for OpenK's rules (K.In X.base is I.mod.kin) -/
theorem Inv.fr (I : Inv X pins σ H s) : ∃ m, Fr X.base X.env.locals s.heap m :=
  let ⟨m, hn, _⟩ := I.loc
  ⟨m, hn, I.bk, Nat.le_trans I.ok.bsz I.ok.above⟩
theorem Inv.lt (I : Inv X pins σ H s) : X.env.locals < s.heap.objs.size := let ⟨_, hn, _⟩ := I.loc; hn.lt
theorem Inv.sz (I : Inv X pins σ H s) : X.s_0.heap.objs.size ≤ s.heap.objs.size := Nat.le_trans I.ok.above (Nat.le_of_lt I.lt)
theorem Inv.nofs (I : Inv X pins σ H s) {a : Addr} (h : s.heap.objs.size ≤ a) : a ∉ X.fs := fun hb => by
  obtain ⟨_, o, ho, _⟩ := I.ok.funs.mem hb
  exact absurd (Nat.lt_of_lt_of_le (Heap.lt_size ho) (Nat.le_trans I.sz h)) (Nat.lt_irrefl _)
theorem Inv.cne (I : Inv X pins σ H s) : ∀ x c, X.env.cells.lookup x = some c → c ≠ X.env.locals := fun x c e z => by
  obtain ⟨v, o, ho, hd⟩ := I.cell x c e
  obtain ⟨m, ⟨o', es, ep, ho', hd', _⟩, _⟩ := I.loc
  rw [z, ho'] at ho; cases ho; rw [hd'] at hd; cases hd
theorem Inv.funs (I : Inv X pins σ H s) : s.heap.FunFrames X.base X.outer := by
  have all : ∀ (l : List Env), (∀ b ∈ frs l, b ∈ X.fs) → X.s_0.heap.FunFrames X.base l → s.heap.FunFrames X.base l := by
    intro l
    induction l with
    | nil => intro _ _; trivial
    | cons env r ih =>
      intro hs hl
      obtain ⟨hk, ⟨L, o, hf, hn, ho, hd⟩, hr⟩ := hl
      have hL : L ∈ X.fs := hs L (by unfold frs; rw [List.filterMap_cons, hf]; exact List.mem_cons_self)
      obtain ⟨sl, e⟩ := I.base.slot L o ho (I.ok.frf L hL) hL fun z => I.ok.exfs L z hL
      exact ⟨hk, ⟨L, _, hf, hn, e, hd⟩, ih (fun b hb => hs b (by unfold frs; rw [List.filterMap_cons, hf]; exact List.mem_cons_of_mem _ hb)) hr⟩
  exact all X.outer (fun _ hb => hb) I.ok.funs

/-- the frames that run, for a call -/
theorem Inv.stack (I : Inv X pins σ H s) : s.heap.FunFrames X.base X.stack := by
  rcases I.ok.stk with e | ⟨e, hf⟩
  · rw [e]; exact I.funs
  · rw [e]
    obtain ⟨m, hn, _⟩ := I.loc
    refine .cons (by rw [I.ok.kind]; decide) hf hn ?_ I.funs
    exact Heap.get?_none_of_le (Nat.le_trans I.ok.bsz I.ok.above)
theorem Inv.stkSub (I : Inv X pins σ H s) : ∀ b ∈ frs X.stack, b ∈ X.env.locals :: X.fs := fun b hb => by
  rcases I.ok.stk with e | ⟨e, hf⟩
  · rw [e] at hb; exact List.mem_cons_of_mem _ hb
  · rw [e] at hb
    unfold frs at hb
    rw [List.filterMap_cons, hf] at hb
    exact hb
theorem Inv.stkFree (I : Inv X pins σ H s) : ∀ b ∈ frs X.stack, H b = none := fun b hb => by
  rcases List.mem_cons.mp (I.stkSub b hb) with e | hb
  · rw [e]; exact I.free
  · obtain ⟨_, o, ho, _⟩ := I.ok.funs.mem hb
    exact I.base.free b o ho (I.ok.frf b hb) fun z => I.ok.exfs b z hb

/-- THE STEP: the untracked objects but the frame and the records at ch are kept (the callers' frames up to slots), the frame's map is kept, the new abstract heap is held -/
theorem Inv.step {g' : Array GenState} {t' : Nat} {d' : Drawn} {ch : List Addr} (I : Inv X pins σ H s)
    (hch : ∀ b ∈ ch, (b ∈ X.ex ∨ X.s_0.heap.objs.size ≤ b) ∧ b ≠ X.env.locals ∧ (∀ x c, X.env.cells.lookup x = some c → c ≠ b) ∧ ∀ p ∈ X.pn ++ pins, p.1 ≠ b)
    (keep : ∀ b o, b ≠ X.env.locals → b ∉ X.fs → b ∉ ch → s.heap.get? b = some o → H b = none → h'.get? b = some o)
    (slot : ∀ b o, b ≠ X.env.locals → b ∈ X.fs → b ∉ ch → s.heap.get? b = some o → H b = none → ∃ sl, h'.get? b = some { o with slots := sl }) (free : ∀ b o, b ∉ ch → s.heap.get? b = some o → H b = none → H' b = none)
    (there : ∀ b o, b ∉ ch → s.heap.get? b = some o → ∃ o', h'.get? b = some o')
    (tups : ∀ b xs, H b = some (.tup xs) → H' b = some (.tup xs)) (frzs : ∀ b o u, H b = some (.frz o u) → H' b = some (.frz o u)) (tbls : ∀ b ps, H b = some (.tbl ps) → ∃ more, H' b = some (.tbl (ps ++ more)))
    (ns : ∀ m, s.heap.Ns X.env.locals m → h'.Ns X.env.locals m) (hok : HOk X.prog X.w H' h') (hg : AllBare g') :
    Inv X pins σ H' { s with heap := h', gens := g', drawn := d', toks := t' } := by
  have neL : ∀ b o, X.s_0.heap.get? b = some o → b ≠ X.env.locals := fun b o e => Nat.ne_of_lt (Nat.lt_of_lt_of_le (Heap.lt_size e) I.ok.above)
  have neC : ∀ b o, X.s_0.heap.get? b = some o → b ∉ X.ex → b ∉ ch := fun b o e hx hb => by
    rcases (hch b hb).1 with z | z
    · exact hx z
    · exact absurd (Nat.lt_of_lt_of_le (Heap.lt_size e) z) (Nat.lt_irrefl _)
  have cellK : ∀ x c, X.env.cells.lookup x = some c → ∀ v, s.heap.IsCell c v → h'.IsCell c v := fun x c e v ⟨o, ho, hd⟩ => by
    have nch : c ∉ ch := fun z => (hch c z).2.2.1 x c e rfl
    by_cases hc : c ∈ X.fs
    · obtain ⟨sl, q⟩ := slot c o (I.cne x c e) hc nch ho (I.freeC x c e)
      exact ⟨_, q, hd⟩
    · exact ⟨o, keep c o (I.cne x c e) hc nch ho (I.freeC x c e), hd⟩
  refine ⟨I.ok, I.os, hg, ⟨fun b o e n hb hx => ?_, fun b o e n hb hx => ?_, fun b o e n hx => ?_, fun b o e hx => ?_, fun b xs e => tups b xs (I.base.tups b xs e), fun b o xs e => frzs b o xs (I.base.frzs b o xs e), fun b ps e => ?_⟩, ?_, fun x c e => ?_, ?_, fun x c e => ?_, fun p hp => ?_, hok, I.len⟩
  · exact keep b o (neL b o e) hb (neC b o e hx) (I.base.keep b o e n hb hx) (I.base.free b o e n hx)
  · obtain ⟨sl, e1⟩ := I.base.slot b o e n hb hx
    obtain ⟨sl', e2⟩ := slot b _ (neL b o e) hb (neC b o e hx) e1 (I.base.free b o e n hx)
    exact ⟨sl', e2⟩
  · obtain ⟨o', e1⟩ := I.base.there b o e hx
    exact free b o' (neC b o e hx) e1 (I.base.free b o e n hx)
  · obtain ⟨o', e1⟩ := I.base.there b o e hx
    exact there b o' (neC b o e hx) e1
  · obtain ⟨m1, e1⟩ := I.base.tbls b ps e
    obtain ⟨m2, e2⟩ := tbls b _ e1
    exact ⟨m1 ++ m2, by rw [e2, Array.append_assoc]⟩
  · obtain ⟨m, hn, hl⟩ := I.loc
    refine ⟨m, ns m hn, fun i x v e1 e2 e3 => ?_⟩
    obtain ⟨u, r, l⟩ := hl i x v e1 e2 e3
    refine ⟨u, r, ?_⟩
    rcases l with l | ⟨k, c, e, z⟩
    · exact .inl l
    · exact .inr ⟨k, c, e, cellK x c e _ z⟩
  · obtain ⟨v, z⟩ := I.cell x c e
    exact ⟨v, cellK x c e v z⟩
  · obtain ⟨m, ⟨o, _, _, ho, _⟩, _⟩ := I.loc
    exact free _ o (fun z => (hch _ z).2.1 rfl) ho I.free
  · obtain ⟨v, o, ho, hd⟩ := I.cell x c e
    exact free c o (fun z => (hch c z).2.2.1 x c e rfl) ho (I.freeC x c e)
  · obtain ⟨e, n, ne, nf, d⟩ := I.pin p hp
    have nch : p.1 ∉ ch := fun z => (hch p.1 z).2.2.2 p hp rfl
    exact ⟨keep p.1 p.2 ne nf nch e n, free p.1 p.2 nch e n, ne, nf, d⟩
/-- .. where the frame's own object is kept too -/
theorem Inv.un {t' : Nat} (I : Inv X pins σ H s) (u : Un X.fs [] H H' s.heap h') (hok : HOk X.prog X.w H' h') : Inv X pins σ H' { s with heap := h', toks := t' } := by
  obtain ⟨m, ⟨o, es, ep, ho, r⟩, _⟩ := id I.loc
  obtain ⟨sl, hL⟩ := u.any ho I.free (by simp)
  exact I.step (g' := s.gens) (d' := s.drawn) (ch := []) (fun _ z => nomatch z) (fun b o _ hb _ e n => u.keep b o e n hb (by simp)) (fun b o _ hb _ e n => u.slot b o e n hb (by simp)) (fun b o _ e n => u.free b o e n (by simp)) (fun b o _ e => u.there b o e (by simp)) u.tups u.frzs u.tbls (fun m' hm => by
    obtain ⟨o', es', ep', ho', r'⟩ := hm
    rw [ho] at ho'; cases ho'
    exact ⟨_, es', ep', hL, r'⟩) hok I.bare
/-- behind a call (or a comprehension's block): the slots of this frame may have changed too, the records at ch may have turned -/
theorem Inv.call {g' : Array GenState} {t' : Nat} {d' : Drawn} {ch : List Addr} (I : Inv X pins σ H s) (u : Un (frs X.stack) ch H H' s.heap h') (hok : HOk X.prog X.w H' h') (hg : AllBare g')
    (hch : ∀ b ∈ ch, (b ∈ X.ex ∨ X.s_0.heap.objs.size ≤ b) ∧ b ≠ X.env.locals ∧ (∀ x c, X.env.cells.lookup x = some c → c ≠ b) ∧ ∀ p ∈ X.pn ++ pins, p.1 ≠ b) :
    Inv X pins σ H' { s with heap := h', gens := g', drawn := d', toks := t' } := by
  obtain ⟨m, ⟨o, es, ep, ho, r⟩, _⟩ := id I.loc
  obtain ⟨sl, hL⟩ := u.any ho I.free fun z => (hch _ z).2.1 rfl
  exact I.step (ch := ch) hch (fun b o hL hb hc e n => u.keep b o e n (fun z => (List.mem_cons.mp (I.stkSub b z)).elim hL hb) hc) (fun b o _ _ hc e n => u.any e n hc) (fun b o hc e n => u.free b o e n hc) (fun b o hc e => u.there b o e hc) u.tups u.frzs u.tbls (fun m' hm => by
    obtain ⟨o', es', ep', ho', r'⟩ := hm
    rw [ho] at ho'; cases ho'
    exact ⟨_, es', ep', hL, r'⟩) hok hg
/-- an untracked record of ours (an iterator) has turned -/
theorem Inv.turned {t' : Nat} {it : Addr} (I : Inv X pins σ H s) (k : ∀ b o, b ≠ it → s.heap.get? b = some o → h'.get? b = some o) (hn : H it = none) (hL : it ≠ X.env.locals)
    (h1 : it ∈ X.ex ∨ X.s_0.heap.objs.size ≤ it) (h2 : ∀ x c, X.env.cells.lookup x = some c → c ≠ it) (h3 : ∀ p ∈ X.pn ++ pins, p.1 ≠ it) : Inv X pins σ H { s with heap := h', toks := t' } := by
  have nit : ∀ b u, H b = some u → b ≠ it := fun b u e z => by rw [z, hn] at e; cases e
  refine I.step (g' := s.gens) (d' := s.drawn) (ch := [it]) (fun b hb => ?_) (fun b o _ _ hc e _ => k b o (fun z => hc (by simp [z])) e) (fun b o _ _ hc e _ => ⟨o.slots, k b o (fun z => hc (by simp [z])) e⟩) (fun _ _ _ _ n => n)
    (fun b o hc e => ⟨o, k b o (fun z => hc (by simp [z])) e⟩) (fun _ _ e => e) (fun _ _ _ e => e) (fun b ps e => ⟨#[], by rw [e]; simp⟩) (fun m hm => ?_) (fun b u e => ?_) I.bare
  · have e : b = it := by simpa using hb
    subst e
    exact ⟨h1, hL, h2, h3⟩
  · obtain ⟨o, es, ep, ho, r⟩ := hm
    exact ⟨o, es, ep, k _ o (Ne.symm hL) ho, r⟩
  · refine (I.hok b u e).stay (fun c v hc q => k c v ?_ q) (fun _ q => q) fun _ _ q => q
    rcases hc with z | z
    · rw [z]; exact nit b u e
    · exact nit c _ z
theorem Inv.tok (I : Inv X pins σ H s) (t : Nat) : Inv X pins σ H { s with toks := t } := I.un (h' := s.heap) (t' := t) Un.refl I.hok
/-- all objects kept -/
theorem Inv.kept {t' : Nat} (I : Inv X pins σ H s) (k : ∀ b u, s.heap.get? b = some u → h'.get? b = some u) : Inv X pins σ H { s with heap := h', toks := t' } := I.un (Un.kept k) (I.hok.kept k)
/-- a new object laid and tracked -/
theorem Inv.laid {a : Addr} {o : HO} {t' : Nat} (I : Inv X pins σ H s) (k : ∀ b u, s.heap.get? b = some u → h'.get? b = some u) (hp : s.heap.objs.size ≤ a) (new : ObjOk X.prog X.w (upd H a o) h' a o) :
    Inv X pins σ (upd H a o) { s with heap := h', toks := t' } := I.un (Un.laid k hp (I.hok.fresh hp)) (I.hok.laid k hp new)
/-- an object written -/
theorem Inv.write {x e : Addr} {o : HO} {t' : Nat} (I : Inv X pins σ H s) (mu : Mut (H x)) (he : e = x ∨ H e = some (.own x)) (k : ∀ b u, b ≠ e → s.heap.get? b = some u → h'.get? b = some u) (heo : ∃ u, h'.get? e = some u)
    (new : ObjOk X.prog X.w (upd H x o) h' x o) : Inv X pins σ (upd H x o) { s with heap := h', toks := t' } := I.un (Un.write mu he k heo) (I.hok.write mu he k heo new)
/-- forgetting slots, pins -/
theorem Inv.weak {σ' : List (Option V)} (I : Inv X pins σ H s) (hl : σ'.length = σ.length) (w : ∀ (i : Nat) v, σ'[i]? = some (some v) → σ[i]? = some (some v)) : Inv X pins σ' H s :=
  ⟨I.ok, I.os, I.bare, I.base, let ⟨m, hn, hl'⟩ := I.loc; ⟨m, hn, fun i x v e1 e2 e3 => hl' i x v e1 (w i v e2) e3⟩, I.cell, I.free, I.freeC, I.pin, I.hok, hl.trans I.len⟩
theorem Inv.pins_of {pins' : List (Addr × Obj)} (I : Inv X pins σ H s) (h : ∀ p ∈ pins', s.heap.get? p.1 = some p.2 ∧ H p.1 = none ∧ p.1 ≠ X.env.locals ∧ p.1 ∉ X.fs ∧ ∀ v, p.2.data ≠ .cell v) : Inv X pins' σ H s :=
  ⟨I.ok, I.os, I.bare, I.base, I.loc, I.cell, I.free, I.freeC, fun p hp => (List.mem_append.mp hp).elim (fun z => I.pin p (List.mem_append_left _ z)) (h p), I.hok, I.len⟩

theorem nodup_ix {N : List Str} (hN : N.Nodup) {i j : Nat} {x : Str} (a : N[i]? = some x) (b : N[j]? = some x) : i = j := by
  obtain ⟨h1, e1⟩ := List.getElem?_eq_some_iff.mp a
  obtain ⟨h2, e2⟩ := List.getElem?_eq_some_iff.mp b
  exact (List.getElem_inj hN).mp (e1.trans e2.symm)

/-- a name is stored; what changed -/
theorem store_ok2 {M : Model} {A : Around} {E : Value → Shared → Prop} {i : Nat} {x : Str} {v : V} {u : Value} {Q : Unit → Shared → Prop} (I : Inv X pins σ H s) (hN : X.N.Nodup) (hi : X.N[i]? = some x) (hx : Loc X.env.scope x) (r : RelV v u)
    (h : ∀ s', Inv X pins (σ.set i (some v)) H s' → (∃ a, Heap.SameBut a s.heap s'.heap ∧ (a = X.env.locals ∨ X.env.cells.lookup x = some a)) → Q () s') (hf : X.fn x = true ∨ X.env.scope.names.lookup x = some .local := by first | exact .inl rfl | exact .inr rfl | assumption) : wpAny M A (storeName X.env x u) Q E s := by
  obtain ⟨m, hn, hl⟩ := id I.loc
  have hcls : (X.env.scope.kind == .class || (X.env.scope.kind == .module && X.env.locals != X.env.globals)) = false := by rw [I.ok.kind]; rfl
  have hiσ : i < σ.length := by rw [I.len]; exact (List.getElem?_eq_some_iff.mp hi).1
  have cne := I.cne
  have tracked : ∀ {a : Addr} {h' : Heap}, (∃ o, s.heap.get? a = some o ∧ H a = none) → Heap.SameBut a s.heap h' → HOk X.prog X.w H h' := fun {a h'} ha hs b ob e => by
    obtain ⟨_, _, hfree⟩ := ha
    refine (I.hok b ob e).stay (fun c w' hc q => (hs.2 c ?_).trans q) (fun _ q => q) fun _ _ q => q
    rintro rfl
    rcases hc with rfl | hc
    · rw [hfree] at e; cases e
    · rw [hfree] at hc; cases hc
  rcases hx with hk | hk
  · refine wpAny_storeName_local hk hn (fun h' hn' hs => ?_) hcls
    obtain ⟨oL, _, _, hoL, _⟩ := id hn
    refine h _ ⟨I.ok, I.os, I.bare, ⟨fun b o e n hb hx => ?_, fun b o e n hb hx => ?_, I.base.free, fun b o e hx => ?_, I.base.tups, I.base.frzs, I.base.tbls⟩, ⟨_, hn', fun j y v' e1 e2 e3 => ?_⟩, fun y c e => ?_, I.free, I.freeC, fun p hp => ?_, tracked ⟨oL, hoL, I.free⟩ hs, by simpa using I.len⟩ ⟨_, hs, .inl rfl⟩
    · exact (hs.2 b (Nat.ne_of_lt (Nat.lt_of_lt_of_le (Heap.lt_size e) I.ok.above))).trans (I.base.keep b o e n hb hx)
    · obtain ⟨sl, e1⟩ := I.base.slot b o e n hb hx
      exact ⟨sl, (hs.2 b (Nat.ne_of_lt (Nat.lt_of_lt_of_le (Heap.lt_size e) I.ok.above))).trans e1⟩
    · obtain ⟨o', e1⟩ := I.base.there b o e hx
      exact ⟨o', (hs.2 b (Nat.ne_of_lt (Nat.lt_of_lt_of_le (Heap.lt_size e) I.ok.above))).trans e1⟩
    · by_cases hj : j = i
      · subst hj
        rw [hi] at e1; cases e1
        rw [List.getElem?_set_self hiσ] at e2
        cases e2
        exact ⟨u, r, .inl ⟨hk, by simp⟩⟩
      · rw [List.getElem?_set_ne (Ne.symm hj)] at e2
        obtain ⟨u', r', q⟩ := hl j y v' e1 e2 e3
        refine ⟨u', r', ?_⟩
        rcases q with ⟨k, e⟩ | ⟨k, c, e, z⟩
        · refine .inl ⟨k, ?_⟩
          have : y ≠ x := fun e => hj (nodup_ix hN e1 (e ▸ hi))
          simp [this, e]
        · exact .inr ⟨k, c, e, z.sameBut hs (cne y c e)⟩
    · obtain ⟨w', z⟩ := I.cell y c e
      exact ⟨w', z.sameBut hs (cne y c e)⟩
    · obtain ⟨e, n, ne, nf, d⟩ := I.pin p hp
      exact ⟨(hs.2 p.1 ne).trans e, n, ne, nf, d⟩
  · have hfn : X.fn x = true := by
      rcases hf with z | z
      · exact z
      · rw [z] at hk; cases hk
    obtain ⟨c, hc⟩ := I.ok.has x (.inl hk)
    obtain ⟨w', z⟩ := I.cell x c hc
    refine wpAny_storeName_cell I.ok.kind hk hc z (fun h' hc' hs => ?_)
    obtain ⟨oc, hoc, hocd⟩ := id z
    refine h { s with heap := h' } ⟨I.ok, I.os, I.bare, ⟨fun b o e n hb hx => ?_, fun b o e n hb hx => ?_, I.base.free, fun b o e hx => ?_, I.base.tups, I.base.frzs, I.base.tbls⟩, ⟨m, hn.sameBut hs (Ne.symm (cne x c hc)), fun j y v' e1 e2 e3 => ?_⟩, fun y c' e => ?_, I.free, I.freeC, fun p hp => ?_, tracked ⟨oc, hoc, I.freeC x c hc⟩ hs, by simpa using I.len⟩ ⟨c, hs, .inr hc⟩
    · exact (hs.2 b (Nat.ne_of_lt (Nat.lt_of_lt_of_le (Heap.lt_size e) (I.ok.cab x c hfn hc)))).trans (I.base.keep b o e n hb hx)
    · obtain ⟨sl, e1⟩ := I.base.slot b o e n hb hx
      exact ⟨sl, (hs.2 b (Nat.ne_of_lt (Nat.lt_of_lt_of_le (Heap.lt_size e) (I.ok.cab x c hfn hc)))).trans e1⟩
    · obtain ⟨o', e1⟩ := I.base.there b o e hx
      exact ⟨o', (hs.2 b (Nat.ne_of_lt (Nat.lt_of_lt_of_le (Heap.lt_size e) (I.ok.cab x c hfn hc)))).trans e1⟩
    · by_cases hj : j = i
      · subst hj
        rw [hi] at e1; cases e1
        rw [List.getElem?_set_self hiσ] at e2
        cases e2
        exact ⟨u, r, .inr ⟨.inl hk, c, hc, hc'⟩⟩
      · rw [List.getElem?_set_ne (Ne.symm hj)] at e2
        obtain ⟨u', r', q⟩ := hl j y v' e1 e2 e3
        refine ⟨u', r', ?_⟩
        rcases q with q | ⟨k, c', e, z'⟩
        · exact .inl q
        · refine .inr ⟨k, c', e, z'.sameBut hs ?_⟩
          rintro rfl
          exact hj (nodup_ix hN e1 (I.ok.inj _ _ _ e hc ▸ hi))
    · by_cases hcc : c' = c
      · subst hcc; exact ⟨_, hc'⟩
      · obtain ⟨w2, z2⟩ := I.cell y c' e
        exact ⟨w2, z2.sameBut hs hcc⟩
    · obtain ⟨e, n, ne, nf, d⟩ := I.pin p hp
      refine ⟨(hs.2 p.1 ?_).trans e, n, ne, nf, d⟩
      intro q
      rw [q, hoc] at e
      have q' : oc = p.2 := Option.some.inj e
      exact d w' (by rw [← q']; exact hocd)
theorem store_ok {M : Model} {A : Around} {E : Value → Shared → Prop} {i : Nat} {x : Str} {v : V} {u : Value} {Q : Unit → Shared → Prop} (I : Inv X pins σ H s) (hN : X.N.Nodup) (hi : X.N[i]? = some x) (hx : Loc X.env.scope x) (r : RelV v u)
    (h : ∀ s', Inv X pins (σ.set i (some v)) H s' → Q () s') (hf : X.fn x = true ∨ X.env.scope.names.lookup x = some .local := by first | exact .inl rfl | exact .inr rfl | assumption) : wpAny M A (storeName X.env x u) Q E s :=
  store_ok2 I hN hi hx r (fun s' I' _ => h s' I') hf
/-- behind a call or a block, the state as it is -/
theorem Inv.call' {s' : Shared} {ch : List Addr} (I : Inv X pins σ H s) (ho : s'.os = s.os) (u : Un (frs X.stack) ch H H' s.heap s'.heap) (hok : HOk X.prog X.w H' s'.heap) (hg : AllBare s'.gens)
    (hch : ∀ b ∈ ch, (b ∈ X.ex ∨ X.s_0.heap.objs.size ≤ b) ∧ b ≠ X.env.locals ∧ (∀ x c, X.env.cells.lookup x = some c → c ≠ b) ∧ ∀ p ∈ X.pn ++ pins, p.1 ≠ b) : Inv X pins σ H' s' := by
  obtain ⟨h', g', d', t', o'⟩ := s'
  have e : o' = s.os := ho
  subst e
  exact I.call (g' := g') (t' := t') (d' := d') u hok hg hch
end

/-! ### the judgements -/
/-- an exception: its class, its own dict's address (where it has one), the abstract heap behind it -/
abbrev XK := Value → Option Addr → Hp → Prop
abbrev St := List (Option V)
abbrev VK := V → Hp → Prop
/-- an expression's reading; a test's; an argument list's -/
abbrev TE := St → Hp → VK → Prop
abbrev TT := St → Hp → (Bool → Hp → Prop) → Prop
abbrev TA := St → Hp → (List V → Hp → Prop) → Prop
/-- what is wanted behind a statement -/
structure Ends where
  nx : St → Hp → Prop
  rt : VK
  bk : St → Hp → Prop := fun _ _ => False
  ct : St → Hp → Prop := fun _ _ => False
abbrev TS := Ends → St → Hp → Prop

def EP (X : Cx) (pins : List (Addr × Obj)) (σ : St) (Q : VK) (u : Value) (s' : Shared) : Prop := ∃ v H', Inv X pins σ H' s' ∧ RelV v u ∧ Q v H'
def TP (X : Cx) (pins : List (Addr × Obj)) (σ : St) (Q : Bool → Hp → Prop) (b : Bool) (s' : Shared) : Prop := ∃ H', Inv X pins σ H' s' ∧ Q b H'
def AP (X : Cx) (pins : List (Addr × Obj)) (σ : St) (Q : List V → Hp → Prop) (us : List Value) (s' : Shared) : Prop := ∃ vs H', Inv X pins σ H' s' ∧ Vals vs us ∧ Q vs H'
def SP (X : Cx) (pins : List (Addr × Obj)) (D : Ends) (f : Flow) (s' : Shared) : Prop :=
  match f with
  | .next => ∃ σ' H', Inv X pins σ' H' s' ∧ D.nx σ' H'
  | .brk => ∃ σ' H', Inv X pins σ' H' s' ∧ D.bk σ' H'
  | .cont => ∃ σ' H', Inv X pins σ' H' s' ∧ D.ct σ' H'
  | .ret u => ∃ v σ' H', Inv X pins σ' H' s' ∧ RelV v u ∧ D.rt v H'

def PE (X : Cx) (e : Expr) (t : TE) : Prop :=
  ∀ (pins : List (Addr × Obj)) (s : Shared) (σ : St) (H : Hp) (Q : VK), Inv X pins σ H s → t σ H Q → wpAny (model X.prog X.w) X.A (eval e X.env) (EP X pins σ Q) X.xe s
def PT (X : Cx) (e : Expr) (t : TT) : Prop :=
  ∀ (pins : List (Addr × Obj)) (s : Shared) (σ : St) (H : Hp) (Q : Bool → Hp → Prop), Inv X pins σ H s → t σ H Q → wpAny (model X.prog X.w) X.A (isTrue e X.env (eval e X.env)) (TP X pins σ Q) X.xe s
/-- a test whatever its 'whole' is (and, or) -/
def PW (X : Cx) (e : Expr) (t : TT) : Prop :=
  ∀ (whole : Sem Value) (pins : List (Addr × Obj)) (s : Shared) (σ : St) (H : Hp) (Q : Bool → Hp → Prop), Inv X pins σ H s → t σ H Q → wpAny (model X.prog X.w) X.A (isTrue e X.env whole) (TP X pins σ Q) X.xe s
theorem PW.pt {X : Cx} {e : Expr} {t : TT} (h : PW X e t) : PT X e t := h _
/-- an argument list (no star), from the left -/
def PA (X : Cx) (es : List Expr) (t : TA) : Prop :=
  ∀ (pos : Pos) (pins : List (Addr × Obj)) (s : Shared) (σ : St) (H : Hp) (Q : List V → Hp → Prop), Inv X pins σ H s → t σ H Q → wpAny (model X.prog X.w) X.A (spliced (backTo pos (starEach es X.env))) (AP X pins σ Q) X.xe s
def PS (X : Cx) (st : Stmt) (t : TS) : Prop :=
  ∀ (pins : List (Addr × Obj)) (s : Shared) (σ : St) (H : Hp) (D : Ends), Inv X pins σ H s → t D σ H → wpAny (model X.prog X.w) X.A (exec st X.env) (SP X pins D) X.xe s
def PSs (X : Cx) (st : List Stmt) (t : TS) : Prop :=
  ∀ (pins : List (Addr × Obj)) (s : Shared) (σ : St) (H : Hp) (D : Ends), Inv X pins σ H s → t D σ H → wpAny (model X.prog X.w) X.A (execs st X.env) (SP X pins D) X.xe s
/-- weaken the end -/
theorem thn {α : Type} {t : Sem α} {Q Q' : α → Shared → Prop} {M : Model} {A : Around} {E : Value → Shared → Prop} {s : Shared} (h : wpAny M A t Q E s) (hQ : ∀ a s, Q a s → Q' a s) : wpAny M A t Q' E s := wpAny_mono h hQ fun _ _ x => x
end L2

namespace L2
open PySem PySem.Spec PyProof.Rows
section
variable {X : Cx}

/-- two expressions in a row -/
theorem bin {a b : Expr} {ta tb : TE} (ha : PE X a ta) (hb : PE X b tb) {pins : List (Addr × Obj)} {s : Shared} {σ : St} {H : Hp} {R : V → V → Hp → Prop} (I : Inv X pins σ H s) (h : ta σ H fun x H1 => tb σ H1 fun y H2 => R x y H2)
    {α : Type} {Q : α → Shared → Prop} {f : Value → Value → Sem α}
    (hf : ∀ v u s2 x y H2, Inv X pins σ H2 s2 → RelV x v → RelV y u → R x y H2 → wpAny (model X.prog X.w) X.A (f v u) Q X.xe s2) :
    wpAny (model X.prog X.w) X.A (eval a X.env) (fun v s₁ => wpAny (model X.prog X.w) X.A (eval b X.env) (fun u s₂ => wpAny (model X.prog X.w) X.A (f v u) Q X.xe s₂) X.xe s₁) X.xe s := by
  refine thn (ha pins s σ H _ I h) fun v s1 ⟨x, H1, I1, r1, q1⟩ => ?_
  refine thn (hb pins s1 σ H1 _ I1 q1) fun u s2 ⟨y, H2, I2, r2, q2⟩ => ?_
  exact hf v u s2 x y H2 I2 r1 r2 q2

/-! ### names and constants -/
def tVar (i : Nat) : TE := fun σ H Q => ∃ v, σ[i]? = some (some v) ∧ Q v H
def tC (v : V) : TE := fun _ H Q => Q v H
theorem pe_var {i : Nat} {x : Str} {pos : Pos} (hN : X.N[i]? = some x) (hv : Vis X.env.scope x) (hd : (x == ("__debug__" : Str)) = false := by decide) (hcd : (x == ("__classdict__" : Str)) = false := by decide) : PE X (.Name x pos) (tVar i) := by
  intro pins s σ H Q I h
  obtain ⟨v, e, h⟩ := h
  obtain ⟨m, hn, hl⟩ := I.loc
  obtain ⟨u, r, l⟩ := hl i x v hN e hv
  have fin : EP X pins σ Q u s := ⟨v, H, I, r, h⟩
  rcases l with ⟨hk, hm⟩ | ⟨hk, c, hc, hcell⟩
  · exact wpAny_Name (wpAny_loadName_local I.ok.kind hk hn hm fin) hd
  · rcases hk with hk | hk
    · exact wpAny_Name (wpAny_loadName_cell I.ok.kind hk hc hcell fin) hd
    · exact wpAny_Name (wpAny_loadName_free I.ok.kind hk hc hcell fin hcd) hd
theorem pe_int {i j pos} : PE X (.Constant (.int i) j pos) (tC (.int i)) := fun _ _ _ H _ I h => wpAny_Constant_int ⟨.int i, H, I.tok _, ⟨_, rfl⟩, h⟩
theorem pe_bl {b j pos} : PE X (.Constant (.bool b) j pos) (tC (.bl b)) := fun _ _ _ H _ I h => Constant_bool ⟨.bl b, H, I, rfl, h⟩
theorem pe_non {j pos} : PE X (.Constant .none j pos) (tC .non) := fun _ _ _ H _ I h => Constant_none ⟨.non, H, I, rfl, h⟩
/-- a global name of the def -/
def Gl (X : Cx) (x : Str) : Prop := X.env.kindOf x = some .globalImplicit
theorem ld_glob {E : Value → Shared → Prop} {pins : List (Addr × Obj)} {s : Shared} {σ : St} {H : Hp} {x : Str} {u : Value} {pos : Pos} {Q : Value → Shared → Prop} (I : Inv X pins σ H s) (hg : Gl X x) (hm : X.mg x = some u) (h : Q u s)
    (hd : (x == ("__debug__" : Str)) = false := by decide) : wpAny (model X.prog X.w) X.A (eval (.Name x pos) X.env) Q E s :=
  Calls.Name_function_global I.ok.kind hg (Calls.loadGlobal_global (by rw [I.ok.glob]; exact I.mod.glob.keeps I.bk) hm h) hd
theorem ld_blt {E : Value → Shared → Prop} {pins : List (Addr × Obj)} {s : Shared} {σ : St} {H : Hp} {x : Str} {u : Value} {pos : Pos} {Q : Value → Shared → Prop} (I : Inv X pins σ H s) (hg : Gl X x) (hm : X.mg x = none) (hv : bootBuiltins x = some u) (h : Q u s)
    (hn : x ≠ "__name__" := by decide) (hd : (x == ("__debug__" : Str)) = false := by decide) : wpAny (model X.prog X.w) X.A (eval (.Name x pos) X.env) Q E s := by
  obtain ⟨mb, h1, h2⟩ := I.mod.blt
  exact Calls.Name_function_global I.ok.kind hg (Calls.loadGlobal_builtin (by rw [I.ok.glob]; exact I.mod.glob.keeps I.bk) hm (by rw [I.ok.blt]; exact h1.keeps I.bk) ((h2 x hn).trans hv) h) hd
/-- a module's constant, a class, a function, as a value -/
theorem pe_glob {x : Str} {v : V} {u : Value} {pos : Pos} (hg : Gl X x) (hm : X.mg x = some u) (r : RelV v u) (hd : (x == ("__debug__" : Str)) = false := by decide) : PE X (.Name x pos) (tC v) :=
  fun _ _ _ H _ I h => ld_glob I hg hm ⟨v, H, I, r, h⟩ hd
/-! ### arithmetic -/
/-- two ints -/
def t2I (ta tb : TE) (k : Int → Int → Hp → Prop) : St → Hp → Prop := fun σ H => ta σ H fun x H1 => tb σ H1 fun y H2 => ∃ i j, x = .int i ∧ y = .int j ∧ k i j H2
variable {a b : Expr} {ta tb : TE} {pos : Pos}
/-! ### comparisons -/
def PC (X : Cx) (op : CmpOp) (a b : Expr) (t : TE) : Prop :=
  ∀ (pins : List (Addr × Obj)) (s : Shared) (σ : St) (H : Hp) (Q : VK), Inv X pins σ H s → t σ H Q →
    wpAny (model X.prog X.w) X.A (eval a X.env) (fun v s₁ => wpAny (model X.prog X.w) X.A (eval b X.env) (fun u s₂ => wpAny (model X.prog X.w) X.A (compareOp op v u) (EP X pins σ Q) X.xe s₂) X.xe s₁) X.xe s
theorem nobehind (b : Expr) {op : CmpOp} (h : op ≠ .In) (h2 : op ≠ .NotIn) : behindInMarks op b = false := by
  have e1 : (op == CmpOp.In) = false := by cases op <;> first | rfl | exact absurd rfl h
  have e2 : (op == CmpOp.NotIn) = false := by cases op <;> first | rfl | exact absurd rfl h2
  cases b <;> simp [behindInMarks, e1, e2]
def tCmp (p : Int → Int → Bool) (ta tb : TE) : TE := fun σ H Q => t2I ta tb (fun i j H2 => Q (.bl (p i j)) H2) σ H
abbrev tLt : TE → TE → TE := tCmp fun i j => decide (i < j)
abbrev tGt : TE → TE → TE := tCmp fun i j => decide (j < i)
abbrev tGe : TE → TE → TE := tCmp fun i j => decide (j ≤ i)
abbrev tEqI : TE → TE → TE := tCmp fun i j => decide (i = j)
abbrev tNeI : TE → TE → TE := tCmp fun i j => !decide (i = j)
/-- a comparison of two ints, by its rule -/
theorem pc_int {op : CmpOp} {p : Int → Int → Bool} (ha : PE X a ta) (hb : PE X b tb)
    (rule : ∀ (i j : Int) (t u : Tok) (Q : Value → Shared → Prop) (s : Shared), Q (.bool (p i j)) s → wpAny (model X.prog X.w) X.A (compareOp op (.int i t) (.int j u)) Q X.xe s) : PC X op a b (tCmp p ta tb) := by
  intro pins s σ H Q I h
  refine bin ha hb I h fun v u s2 x y H2 I2 rx ry q => ?_
  obtain ⟨i, j, rfl, rfl, q⟩ := q
  obtain ⟨t, rfl⟩ := rx
  obtain ⟨t', rfl⟩ := ry
  exact rule i j t t' _ s2 ⟨.bl _, H2, I2, rfl, q⟩
theorem pc_lt (ha : PE X a ta) (hb : PE X b tb) : PC X .Lt a b (tLt ta tb) := pc_int ha hb fun _ _ _ _ _ _ h => lt_int h
theorem pc_gt (ha : PE X a ta) (hb : PE X b tb) : PC X .Gt a b (tGt ta tb) := pc_int ha hb fun _ _ _ _ _ _ h => gt_int h
theorem pc_ge (ha : PE X a ta) (hb : PE X b tb) : PC X .GtE a b (tGe ta tb) := pc_int ha hb fun _ _ _ _ _ _ h => ge_int h
theorem pc_eqI (ha : PE X a ta) (hb : PE X b tb) : PC X .Eq a b (tEqI ta tb) := pc_int ha hb fun _ _ _ _ _ _ h => eq_int (by rw [Bool.beq_eq_decide_eq]; exact h)
theorem pc_neI (ha : PE X a ta) (hb : PE X b tb) : PC X .NotEq a b (tNeI ta tb) := pc_int ha hb fun _ _ _ _ _ _ h => ne_int (by rw [bne, Bool.beq_eq_decide_eq]; exact h)
/-- is None -/
def tIsN (ta : TE) : TE := fun σ H Q => ta σ H fun x H1 => Q (.bl (decide (x = .non))) H1
theorem RelV.none_iff {x : V} {v : Value} (r : RelV x v) : (v == Value.none) = decide (x = .non) := by
  cases x with
  | non => cases r; rfl
  | bl _ => cases r; rfl
  | int _ => obtain ⟨t, rfl⟩ := r; rfl
  | str _ => obtain ⟨t, rfl⟩ := r; rfl
  | byt _ => obtain ⟨t, rfl⟩ := r; rfl
  | flt _ => obtain ⟨t, rfl⟩ := r; rfl
  | ref _ => cases r; rfl
  | ty _ => cases r; rfl
theorem pc_isN {j pos'} (ha : PE X a ta) : PC X .Is a (.Constant .none j pos') (tIsN ta) := by
  intro pins s σ H Q I h
  refine thn (ha pins s σ H _ I h) fun v s1 ⟨x, H1, I1, r1, q1⟩ => ?_
  exact Constant_none (is_none_gen ⟨.bl _, H1, I1, by rw [r1.none_iff]; rfl, q1⟩)
/-- a comparison as a value, as a test -/
def tB (t : TE) : TT := fun σ H Q => t σ H fun x H1 => ∃ c, x = .bl c ∧ Q c H1
theorem pt_cmp {op : CmpOp} {t : TE} (h : PC X op a b t) (h1 : behindInMarks op b = false := by first | exact nobehind _ (by decide) (by decide) | rfl) : PT X (.Compare a [op] [b] pos) (tB t) := by
  intro pins s σ H Q I hw
  refine wpAny_isTrue_Compare1 (thn (h pins s σ H _ I hw) fun v s1 h1 => thn h1 fun u s2 h2 => thn h2 fun c s3 ⟨x, H1, I1, r1, q1⟩ => ?_) h1
  obtain ⟨d, rfl, q⟩ := q1
  cases r1
  exact wpAny_truthy_bool ⟨H1, I1, q⟩
/-- an expression whose value is a bool, as a test -/
theorem pt_val {e : Expr} {t : TE} (h : PE X e t) (he : ∀ whole, isTrue e X.env whole = (do let v ← whole; standAt e.pos; holding [v] (truthy v)) := by intro _; rfl) : PT X e (tB t) := by
  intro pins s σ H Q I hw
  refine isTrue_plain (thn (h pins s σ H _ I hw) fun v s1 ⟨x, H1, I1, r1, q1⟩ => ?_) (he _)
  obtain ⟨d, rfl, q⟩ := q1
  cases r1
  exact wpAny_truthy_bool ⟨H1, I1, q⟩

/-! ### and, or, not -/
variable {tA tB' : TT} {rest : List Expr}
def tAnd (t u : TT) : TT := fun σ H Q => t σ H fun c H1 => if c = true then u σ H1 Q else Q false H1
def tOr (t u : TT) : TT := fun σ H Q => t σ H fun c H1 => if c = true then Q true H1 else u σ H1 Q
def tNot (t : TT) : TT := fun σ H Q => t σ H fun c H1 => Q (!c) H1
theorem pw_and1 (ha : PT X a tA) : PW X (.BoolOp .And [a] pos) tA := by
  intro wh pins s σ H Q I h
  refine isTrue_and (thn (ha pins s σ H Q I h) fun c s1 e => ?_)
  cases c with
  | true => exact isTrue_and_nil e
  | false => exact e
theorem pw_or1 (ha : PT X a tA) : PW X (.BoolOp .Or [a] pos) tA := by
  intro wh pins s σ H Q I h
  refine isTrue_or (thn (ha pins s σ H Q I h) fun c s1 e => ?_)
  cases c with
  | false => exact isTrue_or_nil e
  | true => exact e
theorem pw_and (ha : PT X a tA) (hb : PW X (.BoolOp .And (b :: rest) pos) tB') : PW X (.BoolOp .And (a :: b :: rest) pos) (tAnd tA tB') := by
  intro wh pins s σ H Q I h
  refine isTrue_and (thn (ha pins s σ H _ I h) fun c s1 ⟨H1, I1, q1⟩ => ?_)
  cases c with
  | true => exact hb wh pins s1 σ H1 Q I1 q1
  | false => exact ⟨H1, I1, q1⟩
theorem pw_or (ha : PT X a tA) (hb : PW X (.BoolOp .Or (b :: rest) pos) tB') : PW X (.BoolOp .Or (a :: b :: rest) pos) (tOr tA tB') := by
  intro wh pins s σ H Q I h
  refine isTrue_or (thn (ha pins s σ H _ I h) fun c s1 ⟨H1, I1, q1⟩ => ?_)
  cases c with
  | true => exact ⟨H1, I1, q1⟩
  | false => exact hb wh pins s1 σ H1 Q I1 q1
theorem pt_not (ha : PT X a tA) : PT X (.UnaryOp .Not a pos) (tNot tA) := by
  intro pins s σ H Q I h
  exact isTrue_not (ha pins s σ H (fun c H1 => Q (!c) H1) I h)
/-- .. as values (bools) -/
def tAndV (ta tb : TE) : TE := fun σ H Q => ta σ H fun x H1 => ∃ c, x = .bl c ∧ if c = true then tb σ H1 Q else Q (.bl false) H1
theorem pe_one {op} {t : TE} (h : PE X a t) : PE X (.BoolOp op [a] pos) t := fun pins s σ H Q I hw => BoolOp_one (h pins s σ H Q I hw)
theorem pe_and (ha : PE X a ta) (hb : PE X (.BoolOp .And (b :: rest) pos) tb) : PE X (.BoolOp .And (a :: b :: rest) pos) (tAndV ta tb) := by
  intro pins s σ H Q I h
  refine BoolOp_and (thn (ha pins s σ H _ I h) fun v s1 ⟨x, H1, I1, r1, q1⟩ => ?_)
  obtain ⟨c, rfl, q1⟩ := q1
  cases r1
  refine wpAny_truthy_bool ?_
  cases c with
  | true => exact hb pins s1 σ H1 Q I1 q1
  | false => exact ⟨.bl false, H1, I1, rfl, q1⟩
end
end L2

namespace L2
open PySem PySem.Spec PyProof.Rows

/-! ### a list, a tuple that is read: tracked, frozen, or an object of the module -/
def SqL (K : PySem.W.Frag) (H : Hp) (a : Addr) (xs : List V) : Prop :=
  Rd H a (.lst xs) ∨
    ∃ (o : Obj) (its : Array Value) (n : Nat), K.lookup a = some o ∧ o.cls = .type "list" ∧ o.dict = none ∧ o.data = .seq its n ∧ its.size ≤ sizeLine ∧ Vals xs its.toList
def SqT (K : PySem.W.Frag) (H : Hp) (a : Addr) (xs : List V) : Prop :=
  Rd H a (.tup xs) ∨
    ∃ (o : Obj) (its : Array Value) (n : Nat), K.lookup a = some o ∧ o.cls = .type "tuple" ∧ o.data = .seq its n ∧ its.size ≤ sizeLine ∧ Vals xs its.toList
def absV : Value → Option V
  | .none => some .non
  | .bool b => some (.bl b)
  | .int i _ => some (.int i)
  | .str x _ => some (.str x)
  | .bytes b _ => some (.byt b)
  | .float b _ => some (.flt b)
  | .ref a => some (.ref a)
  | .type n => some (.ty n)
  | _ => none
theorem RelV.abs {x : V} {u : Value} (r : RelV x u) : absV u = some x := by
  cases x with
  | non => cases r; rfl
  | bl _ => cases r; rfl
  | int _ => obtain ⟨t, rfl⟩ := r; rfl
  | str _ => obtain ⟨t, rfl⟩ := r; rfl
  | byt _ => obtain ⟨t, rfl⟩ := r; rfl
  | flt _ => obtain ⟨t, rfl⟩ := r; rfl
  | ref _ => cases r; rfl
  | ty _ => cases r; rfl
theorem RelV.inj {x y : V} {u : Value} (r : RelV x u) (q : RelV y u) : x = y := Option.some.inj (r.abs.symm.trans q.abs)
theorem Vals.inj : ∀ {xs ys : List V} {us : List Value}, Vals xs us → Vals ys us → xs = ys
  | _, _, _, .nil, .nil => rfl
  | _, _, _, .cons r t, .cons r' t' => by rw [r.inj r', Vals.inj t t']
section
variable {X : Cx} {pins : List (Addr × Obj)} {σ : St} {H : Hp} {s : Shared} {a : Addr} {xs ys : List V}
theorem SqL.of {K : PySem.W.Frag} (h : H a = some (.lst xs)) : SqL K H a xs := .inl (.inl h)
theorem SqT.of {K : PySem.W.Frag} (h : H a = some (.tup xs)) : SqT K H a xs := .inl (.inl h)
theorem Inv.list (I : Inv X pins σ H s) (h : SqL X.K H a xs) : ∃ its : List Value, Vals xs its ∧ PlainL s.heap a its.toArray ∧ xs.length ≤ sizeLine := by
  rcases h with h | ⟨o, its, n, hk, hc, hd, hs, hz, r⟩
  · obtain ⟨z, its, n, r, e⟩ := h.ok I.hok
    exact ⟨its, r, ⟨_, n, e, rfl, rfl, rfl⟩, z⟩
  · refine ⟨its.toList, r, ⟨o, n, I.kIn a o hk, hc, hd, by simpa using hs⟩, ?_⟩
    have e := r.length
    simp only [Array.length_toList] at e
    omega
theorem Inv.tuple (I : Inv X pins σ H s) (h : SqT X.K H a xs) : ∃ its : List Value, Vals xs its ∧ IsTup s.heap a its.toArray ∧ xs.length ≤ sizeLine := by
  rcases h with h | ⟨o, its, n, hk, hc, hs, hz, r⟩
  · obtain ⟨z, its, r, p⟩ := h.ok I.hok
    exact ⟨its, r, p, z⟩
  · refine ⟨its.toList, r, ⟨o, I.kIn a o hk, hc, n, by simpa using hs⟩, ?_⟩
    have e := r.length
    simp only [Array.length_toList] at e
    omega
theorem Inv.list_inj (I : Inv X pins σ H s) (h : SqL X.K H a xs) (h' : SqL X.K H a ys) : xs = ys := by
  obtain ⟨its, r, ⟨o, n, e, _, _, d⟩, _⟩ := I.list h
  obtain ⟨its', r', ⟨o', n', e', _, _, d'⟩, _⟩ := I.list h'
  rw [e] at e'; cases e'
  rw [d] at d'
  injection d' with d1 _
  have : its = its' := by simpa using congrArg Array.toList d1
  subst this
  exact r.inj r'
end

/-! ### another wish about exceptions -/
abbrev Cx.wish (X : Cx) (E : Value → Shared → Prop) : Cx := { X with xe := E }
/-- no exception leaves -/
abbrev Cx.nox (X : Cx) : Cx := X.wish fun _ _ => False
theorem Cx.Ok.wish {X : Cx} (ok : X.Ok) (E : Value → Shared → Prop) : (X.wish E).Ok :=
  ⟨ok.mod, ok.kind, ok.glob, ok.blt, ok.above, ok.inj, ok.has, ok.cab, ok.hd, ok.frames, ok.stk, ok.exf, ok.bs, ok.bsz, ok.noex, ok.exfs, ok.funs, ok.frf⟩
theorem Cx.Ok.unwish {X : Cx} {E : Value → Shared → Prop} (ok : (X.wish E).Ok) : X.Ok :=
  ⟨ok.mod, ok.kind, ok.glob, ok.blt, ok.above, ok.inj, ok.has, ok.cab, ok.hd, ok.frames, ok.stk, ok.exf, ok.bs, ok.bsz, ok.noex, ok.exfs, ok.funs, ok.frf⟩
section
variable {X : Cx} {pins : List (Addr × Obj)} {σ : St} {H : Hp} {s : Shared} {E : Value → Shared → Prop}
theorem Inv.wish (I : Inv X pins σ H s) (E : Value → Shared → Prop) : Inv (X.wish E) pins σ H s := ⟨I.ok.wish E, I.os, I.bare, I.base, I.loc, I.cell, I.free, I.freeC, I.pin, I.hok, I.len⟩
theorem Inv.unwish (I : Inv (X.wish E) pins σ H s) : Inv X pins σ H s := ⟨I.ok.unwish, I.os, I.bare, I.base, I.loc, I.cell, I.free, I.freeC, I.pin, I.hok, I.len⟩
theorem SP.unwish {D : Ends} {f : Flow} {s' : Shared} (h : SP (X.wish E) pins D f s') : SP X pins D f s' := by
  cases f with
  | next => obtain ⟨σ', H', I, q⟩ := h; exact ⟨σ', H', I.unwish, q⟩
  | brk => obtain ⟨σ', H', I, q⟩ := h; exact ⟨σ', H', I.unwish, q⟩
  | cont => obtain ⟨σ', H', I, q⟩ := h; exact ⟨σ', H', I.unwish, q⟩
  | ret u => obtain ⟨v, σ', H', I, r, q⟩ := h; exact ⟨v, σ', H', I.unwish, r, q⟩
theorem PE.nox {e : Expr} {t : TE} (h : PE X.nox e t) : PE X e t := fun pins s σ H Q I hw =>
  wpAny_mono (h pins s σ H Q (I.wish _) hw) (fun _ _ ⟨v, H', I', r, q⟩ => ⟨v, H', I'.unwish, r, q⟩) fun _ _ z => False.elim z
theorem PT.nox {e : Expr} {t : TT} (h : PT X.nox e t) : PT X e t := fun pins s σ H Q I hw =>
  wpAny_mono (h pins s σ H Q (I.wish _) hw) (fun _ _ ⟨H', I', q⟩ => ⟨H', I'.unwish, q⟩) fun _ _ z => False.elim z
theorem PSs.nox {st : List Stmt} {t : TS} (h : PSs X.nox st t) : PSs X st t := fun pins s σ H D I hw =>
  wpAny_mono (h pins s σ H D (I.wish _) hw) (fun _ _ q => q.unwish) fun _ _ z => False.elim z
end

/-! ### blocks and small statements -/
section
variable {X : Cx} {st : Stmt} {rest : List Stmt} {t u : TS} {e : Expr} {te : TE} {pos : Pos}
def tNext : TS := fun D σ H => D.nx σ H
def tSeq (t u : TS) : TS := fun D σ H => t { D with nx := u D } σ H
theorem pss_nil : PSs X [] tNext := fun _ _ σ H _ I h => wpAny_execs_nil ⟨σ, H, I, h⟩
theorem pss_cons (h1 : PS X st t) (h2 : PSs X rest u) : PSs X (st :: rest) (tSeq t u) := by
  intro pins s σ H D I h
  refine wpAny_execs_cons (thn (h1 pins s σ H { D with nx := u D } I h) fun f s1 q => ?_)
  cases f with
  | next =>
    obtain ⟨σ', H', I', q⟩ := q
    exact h2 pins s1 σ' H' D I' q
  | ret v => exact q
  | brk => exact q
  | cont => exact q
theorem pss_one (h1 : PS X st t) : PSs X [st] t := by
  intro pins s σ H D I h
  refine wpAny_execs_cons (thn (h1 pins s σ H D I h) fun f s1 q => ?_)
  cases f with
  | next => exact wpAny_execs_nil q
  | ret v => exact q
  | brk => exact q
  | cont => exact q
/-- in a def's body nothing is shown -/
theorem Inv.quiet {pins : List (Addr × Obj)} {σ : St} {H : Hp} {s : Shared} (I : Inv X pins σ H s) : interactive X.env = false := by simp [interactive, I.ok.kind]
/-- an expression whose value is dropped -/
def tDrop (te : TE) : TS := fun D σ H => te σ H fun _ H1 => D.nx σ H1
theorem ps_expr (he : PE X e te) (hs : swapsWith e none pos.line X.env = pure false := by rfl) : PS X (.Expr e pos) (tDrop te) := by
  intro pins s σ H D I h
  exact wpAny_Expr_any (thn (he pins s σ H _ I h) fun v s1 ⟨x, H1, I1, r1, q1⟩ => ⟨σ, H1, I1, q1⟩) I.quiet hs
def tRet (te : TE) : TS := fun D σ H => te σ H D.rt
theorem ps_ret (he : PE X e te) : PS X (.Return (some e) pos) (tRet te) := by
  intro pins s σ H D I h
  exact wpAny_Return_some (thn (he pins s σ H _ I h) fun v s1 ⟨x, H1, I1, r1, q1⟩ => ⟨x, σ, H1, I1, r1, q1⟩)
def tIfS (c : TT) (t u : TS) : TS := fun D σ H => c σ H fun b H1 => if b = true then t D σ H1 else u D σ H1
theorem ps_if {c : Expr} {a b : List Stmt} {tc : TT} (hc : PT X c tc) (ha : PSs X a t) (hb : PSs X b u) : PS X (.If c a b pos) (tIfS tc t u) := by
  intro pins s σ H D I h
  refine wpAny_If (thn (hc pins s σ H _ I h) fun d s1 ⟨H1, I1, q1⟩ => ?_)
  cases d with
  | true => exact ha pins s1 σ H1 D I1 q1
  | false => exact hb pins s1 σ H1 D I1 q1
end

/-! ### targets -/
abbrev TG := V → St → Hp → (St → Hp → Prop) → Prop
def PG (X : Cx) (target : Expr) (t : TG) : Prop :=
  ∀ (pins : List (Addr × Obj)) (s : Shared) (σ : St) (H : Hp) (v : V) (u : Value) (Q : St → Hp → Prop), Inv X pins σ H s → RelV v u → t v σ H Q →
    wpAny (model X.prog X.w) X.A (assign target X.env u) (fun _ s' => ∃ σ' H', Inv X pins σ' H' s' ∧ Q σ' H') X.xe s
/-- o[i] = v, by values -/
abbrev TSet := V → V → V → Hp → (Hp → Prop) → Prop
def PSet (X : Cx) (t : TSet) : Prop :=
  ∀ (pins : List (Addr × Obj)) (s : Shared) (σ : St) (H : Hp) (o i v : V) (ov iv u : Value) (Q : Hp → Prop), Inv X pins σ H s → RelV o ov → RelV i iv → RelV v u → t o i v H Q →
    wpAny (model X.prog X.w) X.A (setItem ov iv u) (fun _ s' => ∃ H', Inv X pins σ H' s' ∧ Q H') X.xe s
/-- a op= b, by values -/
abbrev TIp := V → V → Hp → VK → Prop
def PIp (X : Cx) (op : Operator) (t : TIp) : Prop :=
  ∀ (pins : List (Addr × Obj)) (s : Shared) (σ : St) (H : Hp) (x y : V) (v u : Value) (Q : VK), Inv X pins σ H s → RelV x v → RelV y u → t x y H Q →
    wpAny (model X.prog X.w) X.A (inplaceOp op v u) (EP X pins σ Q) X.xe s
section
variable {X : Cx} {pos : Pos}
def gName (i : Nat) : TG := fun v σ H Q => Q (σ.set i (some v)) H
theorem pg_name {i : Nat} {x : Str} (hN : X.N.Nodup) (hi : X.N[i]? = some x) (hx : Loc X.env.scope x) (hf : X.fn x = true ∨ X.env.scope.names.lookup x = some .local := by first | exact .inl rfl | exact .inr rfl | assumption) : PG X (.Name x pos) (gName i) := by
  intro pins s σ H v u Q I r h
  exact wpAny_assign_Name (store_ok I hN hi hx r (fun s' I' => ⟨_, H, I', h⟩) hf)
/-- target = value -/
def tAsg (te : TE) (g : TG) : TS := fun D σ H => te σ H fun x H1 => g x σ H1 D.nx
/-- name = value -/
theorem ps_set {i : Nat} {x : Str} {e : Expr} {te : TE} {pos' : Pos} (hN : X.N.Nodup) (hi : X.N[i]? = some x) (hx : Loc X.env.scope x) (he : PE X e te) (hs : swapsWith e (some (.Name x pos')) pos.line X.env = pure false := by rfl) (hf : X.fn x = true ∨ X.env.scope.names.lookup x = some .local := by first | exact .inl rfl | exact .inr rfl | assumption) :
    PS X (.Assign [.Name x pos'] e pos) (tAsg te (gName i)) := by
  intro pins s σ H D I h
  refine wpAny_Assign_Name (thn (he pins s σ H _ I h) fun v s1 ⟨y, H1, I1, r1, q1⟩ => ?_) hs
  exact store_ok I1 hN hi hx r1 (fun s2 I2 => ⟨_, H1, I2, q1⟩) hf
/-- name op= e -/
def tAug (i : Nat) (te : TE) (ti : TIp) : TS := fun D σ H => ∃ x, σ[i]? = some (some x) ∧ te σ H fun y H1 => ti x y H1 fun z H2 => D.nx (σ.set i (some z)) H2
theorem ps_aug {i : Nat} {x : Str} {e : Expr} {te : TE} {op : Operator} {ti : TIp} {pos' : Pos} (hN : X.N.Nodup) (hi : X.N[i]? = some x) (hx : Loc X.env.scope x) (he : PE X e te) (ho : PIp X op ti) (hf : X.fn x = true ∨ X.env.scope.names.lookup x = some .local := by first | exact .inl rfl | exact .inr rfl | assumption) :
    PS X (.AugAssign (.Name x pos') op e pos) (tAug i te ti) := by
  intro pins s σ H D I h
  obtain ⟨v, e1, h⟩ := h
  obtain ⟨m, hn, hl⟩ := I.loc
  have vis : Vis X.env.scope x := by rcases hx with k | k; exact .inl k; exact .inr (.inl k)
  obtain ⟨u, r, l⟩ := hl i x v hi e1 vis
  refine wpAny_AugAssign_Name ?_
  have go : wpAny (model X.prog X.w) X.A (eval e X.env) (fun w s₂ => wpAny (model X.prog X.w) X.A (inplaceOp op u w) (fun r s₃ => wpAny (model X.prog X.w) X.A (storeName X.env x r) (fun _ => SP X pins D .next) X.xe s₃) X.xe s₂) X.xe s := by
    refine thn (he pins s σ H _ I h) fun w s1 ⟨y, H1, I1, r1, q1⟩ => ?_
    refine thn (ho pins s1 σ H1 v y u w _ I1 r r1 q1) fun z s2 ⟨zv, H2, I2, r2, q2⟩ => ?_
    exact store_ok I2 hN hi hx r2 (fun s3 I3 => ⟨_, H2, I3, q2⟩) hf
  rcases l with ⟨hk, hm⟩ | ⟨hk, c, hc, hcell⟩
  · exact wpAny_loadName_local I.ok.kind hk hn hm go
  · rcases hk with hk | hk
    · exact wpAny_loadName_cell I.ok.kind hk hc hcell go
    · rcases hx with k | k
      · have : X.env.scope.names.lookup x = some .free := hk
        rw [k] at this; cases this
      · have : X.env.scope.names.lookup x = some .free := hk
        rw [k] at this; cases this
/-- o[i] op= e -/
def tAugS (to ti te : TE) (tget : V → V → Hp → VK → Prop) (tip : TIp) (tset : TSet) : TS := fun D σ H => to σ H fun o H1 => ti σ H1 fun i H2 => tget o i H2 fun x H3 => te σ H3 fun y H4 => tip x y H4 fun z H5 => tset o i z H5 fun H6 => D.nx σ H6
/-- o[i], by values -/
def PGet (X : Cx) (t : V → V → Hp → VK → Prop) : Prop :=
  ∀ (pins : List (Addr × Obj)) (s : Shared) (σ : St) (H : Hp) (o i : V) (ov iv : Value) (Q : VK), Inv X pins σ H s → RelV o ov → RelV i iv → t o i H Q →
    wpAny (model X.prog X.w) X.A (getItem ov iv) (EP X pins σ Q) X.xe s
theorem ps_augS {o i e : Expr} {to ti te : TE} {tget : V → V → Hp → VK → Prop} {tip : TIp} {tset : TSet} {op : Operator} {tpos : Pos} (ho : PE X o to) (hi : PE X i ti) (hg : PGet X tget) (he : PE X e te) (hp : PIp X op tip) (hs : PSet X tset)
    (ha : ∀ ov iv new, augStore i ov iv new = (do holding [new, ov, iv] (setItem ov iv new); release [new, ov, iv] []; pure .next) := by intros; rfl) : PS X (.AugAssign (.Subscript o i tpos) op e pos) (tAugS to ti te tget tip tset) := by
  intro pins s σ H D I h
  refine wpAny_AugAssign_SubscriptAny (thn (ho pins s σ H _ I h) fun ov s1 ⟨x1, H1, I1, r1, q1⟩ => ?_) ha
  refine thn (hi pins s1 σ H1 _ I1 q1) fun iv s2 ⟨x2, H2, I2, r2, q2⟩ => ?_
  refine thn (hg pins s2 σ H2 x1 x2 ov iv _ I2 r1 r2 q2) fun old s3 ⟨x3, H3, I3, r3, q3⟩ => ?_
  refine thn (he pins s3 σ H3 _ I3 q3) fun v s4 ⟨x4, H4, I4, r4, q4⟩ => ?_
  refine thn (hp pins s4 σ H4 x3 x4 old v _ I4 r3 r4 q4) fun new s5 ⟨x5, H5, I5, r5, q5⟩ => ?_
  exact thn (hs pins s5 σ H5 x1 x2 x5 ov iv new _ I5 r1 r2 r5 q5) fun _ s6 ⟨H6, I6, q6⟩ => ⟨σ, H6, I6, q6⟩
/-- ints -/
def ipI (f : Int → Int → Int) : TIp := fun x y H Q => ∃ i j, x = .int i ∧ y = .int j ∧ Q (.int (f i j)) H
theorem ip_add : PIp X .Add (ipI fun i j => i + j) := by
  intro pins s σ H x y v u Q I r1 r2 h
  obtain ⟨i, j, e1, e2, q⟩ := h
  subst e1; subst e2
  obtain ⟨t, rfl⟩ := r1
  obtain ⟨t', rfl⟩ := r2
  exact iadd_int ⟨.int _, H, I.tok _, ⟨_, rfl⟩, q⟩
theorem ip_sub : PIp X .Sub (ipI fun i j => i - j) := by
  intro pins s σ H x y v u Q I r1 r2 h
  obtain ⟨i, j, e1, e2, q⟩ := h
  subst e1; subst e2
  obtain ⟨t, rfl⟩ := r1
  obtain ⟨t', rfl⟩ := r2
  exact isub_int ⟨.int _, H, I.tok _, ⟨_, rfl⟩, q⟩
end

/-! ### while -/
section
variable {X : Cx} {pos : Pos}
/-- the invariant W with its measure -/
def tWhile (c : TT) (tb : TS) : TS := fun D σ H => ∃ W : Nat → St → Hp → Prop, (∃ m, W m σ H) ∧ ∀ m σ H, W m σ H →
  c σ H fun b H1 => if b = true then ∃ N : St → Hp → Prop, (∀ σ' H', N σ' H' → ∃ m', m' < m ∧ W m' σ' H') ∧ tb { D with nx := N, ct := N, bk := D.nx } σ H1 else D.nx σ H1
theorem ps_while {c : Expr} {body : List Stmt} {tc : TT} {tb : TS} (hp : PassesOwn (model X.prog X.w) X.A X.env X.xe) (hc : PT X c tc) (hb : PSs X body tb) : PS X (.While c body [] pos) (tWhile tc tb) := by
  intro pins s σ H D I h
  obtain ⟨W, ⟨m0, w0⟩, turn⟩ := h
  refine wpAny_While (codeAny_whileLoop (fun n s' => ∃ σ' H', Inv X pins σ' H' s' ∧ W n σ' H') ?_ m0 ⟨σ, H, I, w0⟩)
  rintro n s1 ⟨σ1, H1, I1, w1⟩
  refine wpAny_passesOwn hp (thn (hc pins s1 σ1 H1 _ I1 (turn n σ1 H1 w1)) fun b s2 ⟨H2, I2, q2⟩ => ?_)
  cases b with
  | true =>
    obtain ⟨N, hN, q2⟩ := q2
    rw [if_pos rfl]
    refine wpAny_passesOwn hp (thn (hb pins s2 σ1 H2 _ I2 q2) fun f s3 q3 => ?_)
    cases f with
    | next =>
      obtain ⟨σ3, H3, I3, n3⟩ := q3
      obtain ⟨m', hm, w3⟩ := hN σ3 H3 n3
      exact ⟨m', hm, σ3, H3, I3, w3⟩
    | cont =>
      obtain ⟨σ3, H3, I3, n3⟩ := q3
      obtain ⟨m', hm, w3⟩ := hN σ3 H3 n3
      exact ⟨m', hm, σ3, H3, I3, w3⟩
    | brk => exact q3
    | ret v => exact q3
  | false =>
    rw [if_neg Bool.false_ne_true]
    exact wpAny_execs_nil ⟨σ1, H2, I2, q2⟩
end

/-! ### what a loop or a comprehension walks -/
/-- at turn i: it yields x (the heap may grow), or it stops -/
structure It where
  go : Nat → Hp → Prop
  yld : Nat → Hp → V → Hp → Prop
  stop : Nat → Hp → Prop
/-- the iterator's own objects may turn: they are not the frame's, not pinned, younger than the entry (or a comprehension's own) -/
def FpOk (X : Cx) (pins : List (Addr × Obj)) (H : Hp) (b : Addr) : Prop :=
  H b = none ∧ b ≠ X.env.locals ∧ b ∉ X.fs ∧ (b ∈ X.ex ∨ X.s_0.heap.objs.size ≤ b) ∧ (∀ x c, X.env.cells.lookup x = some c → c ≠ b) ∧ ∀ p ∈ X.pn ++ pins, p.1 ≠ b
theorem Inv.fpOk {X : Cx} {pins : List (Addr × Obj)} {σ : St} {H H' : Hp} {s : Shared} {b : Addr} (I : Inv X pins σ H s) (hb : s.heap.objs.size ≤ b) (hn : H' b = none) : FpOk X pins H' b := by
  refine ⟨hn, Nat.ne_of_gt (Nat.lt_of_lt_of_le I.lt hb), I.nofs hb, .inr (Nat.le_trans I.sz hb), fun x c e z => ?_, fun p hp z => ?_⟩
  · obtain ⟨v, q⟩ := I.cell x c e
    exact absurd (Nat.lt_of_lt_of_le q.lt (by rw [z]; exact hb)) (Nat.lt_irrefl _)
  · exact absurd (Nat.lt_of_lt_of_le (Heap.lt_size (I.pin p hp).1) (by rw [z]; exact hb)) (Nat.lt_irrefl _)
structure Turn (P : Program) (w : World) (K : PySem.W.Frag) (tg : Expr) (J : It) (fp : List Addr) (it : Addr) (tn : Nat → Heap → Prop) : Prop where
  mem : it ∈ fp
  obj : ∀ i h, tn i h → ∀ b ∈ fp, ∃ o, h.get? b = some o ∧ ∀ v, o.data ≠ .cell v
  keep : ∀ i h h', tn i h → (∀ b ∈ fp, ∀ o, h.get? b = some o → h'.get? b = some o) → tn i h'
  item : ∀ (X : Cx), X.prog = P → X.w = w → X.K = K → X.calm = true → ∀ (i : Nat) (pins : List (Addr × Obj)) (s : Shared) (σ : St) (H : Hp) (E : Value → Shared → Prop), Inv X pins σ H s → (∀ b ∈ fp, FpOk X pins H b) → tn i s.heap → J.go i H →
    wpAny (model P w) X.A (pyNext (.ref it)) (fun r s1 => ∃ u, r = some u ∧
      wpAny (model P w) X.A (letOwnedTupleGo tg (.ref it) u) (fun _ s2 => ∃ x H', Inv X pins σ H' s2 ∧ RelV x u ∧ J.yld i H x H' ∧ tn (i + 1) s2.heap ∧ ∀ b ∈ fp, H' b = none) E s1) E s
  done : ∀ (X : Cx), X.prog = P → X.w = w → X.K = K → X.calm = true → ∀ (i : Nat) (pins : List (Addr × Obj)) (s : Shared) (σ : St) (H : Hp) (E : Value → Shared → Prop), Inv X pins σ H s → (∀ b ∈ fp, FpOk X pins H b) → tn i s.heap → J.stop i H →
    wpAny (model P w) X.A (pyNext (.ref it)) (fun r s1 => r = none ∧ Inv X pins σ H s1) E s
  self : ∀ (A : Around) (i : Nat) (s : Shared) (Q : Value → Shared → Prop) (E : Value → Shared → Prop), tn i s.heap → Q (.ref it) s → wpAny (model P w) A (pyIter (.ref it)) Q E s
abbrev TI := St → Hp → (It → Hp → Prop) → Prop
/-- an iterator has come -/
def PIE (X : Cx) (pins : List (Addr × Obj)) (σ : St) (tg : Expr) (R : It → Hp → Prop) (itv : Value) (s2 : Shared) : Prop :=
  ∃ (it : Addr) (fp : List Addr) (tn : Nat → Heap → Prop) (J : It) (H' : Hp), itv = .ref it ∧ Inv X pins σ H' s2 ∧ Turn X.prog X.w X.K tg J fp it tn ∧ tn 0 s2.heap ∧ (∀ b ∈ fp, FpOk X pins H' b) ∧ R J H'
def PI (X : Cx) (tg iter : Expr) (wi : TI) : Prop :=
  ∀ (pins : List (Addr × Obj)) (s : Shared) (σ : St) (H : Hp) (R : It → Hp → Prop), Inv X pins σ H s → wi σ H R →
    wpAny (model X.prog X.w) X.A (eval iter X.env) (fun v s1 => wpAny (model X.prog X.w) X.A (pyIter v) (PIE X pins σ tg R) X.xe s1) X.xe s

/-- the step ahead of the store is nothing for an iterator that keeps no tuple -/
theorem go_of {M : Model} {A : Around} {E : Value → Shared → Prop} {s : Shared} {tg : Expr} {it : Addr} {u : Value} {o : Obj} {n : String} {vs : Array Value} {Q : Unit → Shared → Prop} (ho : s.heap.get? it = some o) (hc : o.cls = .type n) (hd : o.data = .fields vs)
    (hn : ["enumerate", "zip", "dict_itemiterator", "dict_reverseitemiterator", "odict_iterator", "itertools.zip_longest", "itertools.pairwise"].contains n = false) (hQ : Q () s) : wpAny M A (letOwnedTupleGo tg (.ref it) u) Q E s := by
  unfold letOwnedTupleGo
  cases tg <;> first
    | exact wpAny_pure hQ
    | (cases u <;> first
        | exact wpAny_pure hQ
        | (refine wpAny_bind (wpAny_load ho ?_)
           rw [hc, hd]
           show wpAny M A (if (["enumerate", "zip", "dict_itemiterator", "dict_reverseitemiterator", "odict_iterator", "itertools.zip_longest", "itertools.pairwise"].contains n && vs[0]? == some (rawInt _)) = true then _ else _) Q E s
           rw [if_neg (by intro h; rw [hn, Bool.false_and] at h; cases h)]
           exact wpAny_pure hQ))

/-- the list at a, as it stands at each turn (a loop may append to it) -/
def Itl (K : PySem.W.Frag) (a : Addr) : It :=
  ⟨fun i H => ∃ xs x, SqL K H a xs ∧ xs[i]? = some x, fun i H x H' => H' = H ∧ ∀ xs, SqL K H a xs → xs[i]? = some x, fun i H => ∃ xs, SqL K H a xs ∧ xs.length ≤ i⟩
/-- lo, lo + 1, .. (n of them) -/
def Itr (lo : Int) (n : Nat) : It := ⟨fun i _ => i < n, fun i H x H' => H' = H ∧ x = .int (lo + i), fun i _ => n ≤ i⟩
theorem turn_list {P : Program} {w : World} {K : PySem.W.Frag} {tg : Expr} (a it : Addr) : Turn P w K tg (Itl K a) [it] it (fun i h => h.IsListIter it a i) where
  mem := by simp
  obj := fun i h st b hb => by
    have e : b = it := by simpa using hb
    subst e
    obtain ⟨o, e, c, d⟩ := st
    exact ⟨o, e, fun v z => by rw [d] at z; cases z⟩
  keep := fun i h h' st k => st.at fun o e => k it (by simp) o e
  item := by
    intro X hP hw hK hc i pins s σ H E I hf st hg
    subst hP hw hK
    obtain ⟨xs, x, hq, hx⟩ := hg
    obtain ⟨its, rv, p, hz⟩ := I.list hq
    obtain ⟨u, hu, ru⟩ := rv.get hx
    obtain ⟨f0, f1, f2, f3, f4, f5⟩ := hf it (by simp)
    refine wpAny_pyNext_list_item st p.isList (x := u) (by simpa using hu) fun h' st' sb => ?_
    have I1 : Inv X pins σ H { s with heap := h' } := I.turned (t' := s.toks) (fun b o hb e => (sb.2 b hb).trans e) f0 f1 f3 f4 f5
    obtain ⟨o, e, c, d⟩ := id st'
    exact ⟨u, rfl, go_of (s := { s with heap := h' }) e c d (by decide) ⟨x, H, I1, ru, ⟨rfl, fun ys hy => by rw [I.list_inj hy hq]; exact hx⟩, st', fun b hb => (hf b hb).1⟩⟩
  done := by
    intro X hP hw hK hc i pins s σ H E I hf st hg
    subst hP hw hK
    obtain ⟨xs, hq, hx⟩ := hg
    obtain ⟨its, rv, p, hz⟩ := I.list hq
    obtain ⟨f0, f1, f2, f3, f4, f5⟩ := hf it (by simp)
    have hl := rv.length
    exact wpAny_pyNext_list_end (I.ok.hd hc) st p.isList (by simp; omega) fun h' eb => ⟨rfl, I.turned (t' := s.toks) (fun b o hb e => eb b o hb e) f0 f1 f3 f4 f5⟩
  self := fun _ _ _ _ _ st h => wpAny_pyIter_listiter st h
theorem turn_range {P : Program} {w : World} {K : PySem.W.Frag} {tg : Expr} (it : Addr) (lo : Int) (n : Nat) : Turn P w K tg (Itr lo n) [it] it (fun i h => IsRangeIter h it (lo + (i : Nat) * 1) ((n : Int) - (i : Nat)) 1) where
  mem := by simp
  obj := fun i h st b hb => by
    have e : b = it := by simpa using hb
    subst e
    exact ⟨_, st, fun v z => by
      have z' : Data.fields _ = Data.cell v := z
      cases z'⟩
  keep := fun i h h' st k => k it (by simp) _ st
  item := by
    intro X hP hw hK hc i pins s σ H E I hf st hg
    subst hP hw hK
    obtain ⟨f0, f1, f2, f3, f4, f5⟩ := hf it (by simp)
    have W := Walks.range (prog := X.prog) (w := X.w) (I.ok.hd hc) it lo 1 n
    refine W.item i s _ _ hg st fun v h' tk hv st' kk => ?_
    obtain ⟨t, rfl⟩ := hv
    have I1 : Inv X pins σ H { s with heap := h', toks := tk } := I.turned (fun b o hb e => kk b o (by simpa using hb) e) f0 f1 f3 f4 f5
    refine ⟨_, rfl, go_of (s := { s with heap := h', toks := tk }) (n := "range_iterator") st' rfl rfl (by decide) ⟨.int (lo + i), H, I1, ⟨t, ?_⟩, ⟨rfl, rfl⟩, st', fun b hb => (hf b hb).1⟩⟩
    rw [Int.mul_one]
  done := by
    intro X hP hw hK hc i pins s σ H E I hf st hg
    subst hP hw hK
    obtain ⟨f0, f1, f2, f3, f4, f5⟩ := hf it (by simp)
    exact wpAny_pyNext_range_end (I.ok.hd hc) st (by have : n ≤ i := hg; omega) fun h' eb => ⟨rfl, I.turned (t' := s.toks) (fun b o hb e => eb b o hb e) f0 f1 f3 f4 f5⟩
  self := fun _ _ _ _ _ st h => wpAny_pyIter_rangeiter st h
end L2

namespace L2
open PySem PySem.Spec PyProof.Rows
section
variable {X : Cx} {tg : Expr}
def iList (K : PySem.W.Frag) (tl : TE) : TI := fun σ H R => tl σ H fun x H1 => ∃ a, x = .ref a ∧ (∃ xs, SqL K H1 a xs) ∧ R (Itl K a) H1
theorem pi_list {l : Expr} {tl : TE} (hl : PE X l tl) : PI X tg l (iList X.K tl) := by
  intro pins s σ H R I h
  refine thn (hl pins s σ H _ I h) fun v s1 ⟨x, H1, I1, r1, q1⟩ => ?_
  obtain ⟨a, e, ⟨xs, hq⟩, q⟩ := q1
  subst e
  cases r1
  obtain ⟨its, rv, p, hz⟩ := I1.list hq
  refine wpAny_pyIter_list p.isList ?_
  refine ⟨s1.heap.objs.size, [s1.heap.objs.size], _, _, H1, rfl, I1.kept (t' := s1.toks) fun b o e => Heap.get?_push_of_some _ e, turn_list a _, ⟨_, Heap.get?_push_size _ rfl, rfl, rfl⟩, fun b hb => ?_, q⟩
  have e : b = s1.heap.objs.size := by simpa using hb
  subst e
  exact I1.fpOk (Nat.le_refl _) (I1.hok.fresh (Nat.le_refl _))
/-- a range object just made, walked -/
theorem range_it {pins : List (Addr × Obj)} {σ : St} {H : Hp} {s : Shared} {R : It → Hp → Prop} {E : Value → Shared → Prop} {lo hi : Int} {t u v : Tok} {tk : Nat} (I : Inv X pins σ H s) (h1 : -(2 ^ 62) ≤ lo) (h2 : lo < 2 ^ 62) (h3 : -(2 ^ 62) ≤ hi) (h4 : hi < 2 ^ 62)
    (q : R (Itr lo (hi - lo).toNat) H) : wpAny (model X.prog X.w) X.A (pyIter (.ref s.heap.objs.size)) (PIE X pins σ tg R) E { s with heap := s.heap.push { cls := .type "range", data := .fields #[.int lo t, .int hi u, .int 1 v] }, toks := tk } := by
  refine wpAny_pyIter_range (IsRange.new ..) (small_one h1 h2 h3 h4) ?_
  have I1 : Inv X pins σ H { s with heap := s.heap.push { cls := .type "range", data := .fields #[.int lo t, .int hi u, .int 1 v] }, toks := tk } := I.kept fun b o e => Heap.get?_push_of_some _ e
  refine ⟨(s.heap.push { cls := .type "range", data := .fields #[.int lo t, .int hi u, .int 1 v] }).objs.size, [(s.heap.push { cls := .type "range", data := .fields #[.int lo t, .int hi u, .int 1 v] }).objs.size], _, _, H, rfl,
    I1.kept (t' := tk) fun b o e => Heap.get?_push_of_some _ e, turn_range _ lo (hi - lo).toNat, ?_, fun b hb => ?_, q⟩
  · have e1 : lo + ((0 : Nat) : Int) * 1 = lo := by simp
    have e2 : (((hi - lo).toNat : Nat) : Int) - ((0 : Nat) : Int) = Builtin.Range.rangeSize lo hi 1 := by rw [rangeSize_one]; split <;> omega
    show IsRangeIter _ _ (lo + ((0 : Nat) : Int) * 1) ((((hi - lo).toNat : Nat) : Int) - ((0 : Nat) : Int)) 1
    rw [e1, e2]
    exact Heap.get?_push_size _ rfl
  · have e : b = (s.heap.push { cls := .type "range", data := .fields #[.int lo t, .int hi u, .int 1 v] }).objs.size := by simpa using hb
    subst e
    exact I1.fpOk (Nat.le_refl _) (I1.hok.fresh (Nat.le_refl _))
def iRng1 (ta : TA) : TI := fun σ H R => ta σ H fun vs H1 => ∃ j : Int, vs = [.int j] ∧ -(2 ^ 62) ≤ j ∧ j < 2 ^ 62 ∧ R (Itr 0 j.toNat) H1
theorem pi_range1 {a : Expr} {ta : TA} {p pos : Pos} (hg : Gl X "range") (hm : X.mg "range" = none) (ha : PA X [a] ta) (hs : starEach [a] X.env = [(false, eval a X.env)] := by rfl) : PI X tg (.Call (.Name "range" p) [a] [] pos) (iRng1 ta) := by
  intro pins s σ H R I h
  refine Call_ (ld_blt I hg hm boot_range (PyProof.Rows.callWith_type1 (thn (ha pos pins s σ H _ I h) fun us s1 ⟨vs, H1, I1, r1, q1⟩ => ?_) hs rfl))
  obtain ⟨j, e, q1, q2, q⟩ := q1
  subst e
  cases r1 with
  | cons r rr =>
    cases rr
    obtain ⟨t, rfl⟩ := r
    exact call_range_1 (range_it I1 (by omega) (by omega) q1 q2 (by simpa using q))
/-! ### for -/
/-- W: the invariant by the turn and a measure; N: what the body is to reach -/
def tFor (wi : TI) (g : TG) (tb : TS) : TS := fun D σ H => wi σ H fun J H1 => ∃ W : Nat → Nat → St → Hp → Prop, (∃ m, W 0 m σ H1) ∧ ∀ i m σ H, W i m σ H →
  (J.stop i H ∧ D.nx σ H) ∨ (J.go i H ∧ ∃ N : St → Hp → Prop, (∀ σ' H', N σ' H' → ∃ m', m' < m ∧ W (i + 1) m' σ' H') ∧ ∀ x H', J.yld i H x H' → g x σ H' fun σ2 H2 => tb { D with nx := N, ct := N, bk := D.nx } σ2 H2)
/-- the records at fp as they stand -/
def pinsAt (fp : List Addr) (h : Heap) : List (Addr × Obj) := fp.filterMap fun b => (h.get? b).map fun o => (b, o)
theorem mem_pinsAt {fp : List Addr} {h : Heap} {b : Addr} {o : Obj} (hb : b ∈ fp) (e : h.get? b = some o) : (b, o) ∈ pinsAt fp h := List.mem_filterMap.mpr ⟨b, hb, by rw [e]; rfl⟩
theorem of_pinsAt {fp : List Addr} {h : Heap} {p : Addr × Obj} (hp : p ∈ pinsAt fp h) : p.1 ∈ fp ∧ h.get? p.1 = some p.2 := by
  obtain ⟨b, hb, e⟩ := List.mem_filterMap.mp hp
  cases q : h.get? b with
  | none => rw [q] at e; cases e
  | some o =>
    rw [q] at e
    have e' : (b, o) = p := Option.some.inj e
    subst e'
    exact ⟨hb, q⟩
theorem Inv.pinned {pins : List (Addr × Obj)} {σ : St} {H : Hp} {s : Shared} {fp : List Addr} (I : Inv X pins σ H s) (hf : ∀ b ∈ fp, FpOk X pins H b) (ho : ∀ b ∈ fp, ∃ o, s.heap.get? b = some o ∧ ∀ v, o.data ≠ .cell v) : Inv X (pins ++ pinsAt fp s.heap) σ H s :=
  I.pins_of fun p hp => (List.mem_append.mp hp).elim (fun z => I.pin p (List.mem_append_right _ z)) fun z => by
    obtain ⟨hb, e⟩ := of_pinsAt z
    obtain ⟨f0, f1, f2, _⟩ := hf p.1 hb
    obtain ⟨o, e', d⟩ := ho p.1 hb
    rw [e] at e'; cases e'
    exact ⟨e, f0, f1, f2, d⟩
theorem Inv.unpinned {pins pl : List (Addr × Obj)} {σ : St} {H : Hp} {s : Shared} (I : Inv X (pins ++ pl) σ H s) : Inv X pins σ H s := I.pins_of fun p hp => I.pin p (List.mem_append_right _ (List.mem_append_left _ hp))
theorem ps_for {iter : Expr} {body : List Stmt} {wi : TI} {g : TG} {tb : TS} {pos : Pos} (hp : PassesOwn (model X.prog X.w) X.A X.env X.xe) (hc : X.calm = true) (hi : PI X tg iter wi) (hg : PG X tg g) (hb : PSs X body tb)
    (hs : ∀ x, foldedSetIterable iter X.env x = pure x := by intro _; rfl) : PS X (.For tg iter body [] pos) (tFor wi g tb) := by
  intro pins s σ H D I h
  refine wpAny_For (thn (hi pins s σ H _ I h) fun v s1 h1 => thn h1 fun itv s2 h2 => ?_) hs
  obtain ⟨it, fp, tn, J, H2, e, I2, T, st2, f2, W, ⟨m0, w0⟩, turn⟩ := h2
  subst e
  -- what stays true of the iterator's objects through the loop
  have stat : ∀ {H' : Hp}, (∀ b ∈ fp, H' b = none) → ∀ b ∈ fp, FpOk X pins H' b := fun hn b hb => ⟨hn b hb, (f2 b hb).2⟩
  refine codeAny_forLoop_any (fun n s' => ∃ i σ' H', Inv X pins σ' H' s' ∧ tn i s'.heap ∧ (∀ b ∈ fp, H' b = none) ∧ W i n σ' H') ?_ m0 ⟨0, σ, H2, I2, st2, fun b hb => (f2 b hb).1, w0⟩
  rintro n s3 ⟨i, σ3, H3, I3, st3, fr3, w3⟩
  rcases turn i n σ3 H3 w3 with ⟨stop, qn⟩ | ⟨go, N, hN, step⟩
  · refine wpAny_passesOwn hp (thn (T.done X rfl rfl rfl hc i pins s3 σ3 H3 X.xe I3 (stat fr3) st3 stop) fun r s4 ⟨hr, I4⟩ => ?_)
    subst hr
    exact wpAny_execs_nil ⟨σ3, H3, I4, qn⟩
  · refine wpAny_passesOwn hp (thn (T.item X rfl rfl rfl hc i pins s3 σ3 H3 X.xe I3 (stat fr3) st3 go) fun r s4 ⟨u, hr, h4⟩ => ?_)
    subst hr
    refine wpAny_passesOwn hp (thn h4 fun _ s5 ⟨x, H5, I5, r5, y5, st5, fr5⟩ => ?_)
    have I5' := I5.pinned (stat fr5) (T.obj _ _ st5)
    refine wpAny_passesOwn hp (thn (hg _ s5 σ3 H5 x u _ I5' r5 (step x H5 y5)) fun _ s6 ⟨σ6, H6, I6, q6⟩ => ?_)
    refine wpAny_passesOwn hp (thn (hb _ s6 σ6 H6 _ I6 q6) fun f s7 q7 => ?_)
    have again : ∀ {σ7 : St} {H7 : Hp}, Inv X (pins ++ pinsAt fp s5.heap) σ7 H7 s7 → N σ7 H7 → ∃ m, m < n ∧ ∃ i σ' H', Inv X pins σ' H' s7 ∧ tn i s7.heap ∧ (∀ b ∈ fp, H' b = none) ∧ W i m σ' H' := fun {σ7 H7} I7 n7 => by
      obtain ⟨m', hm, w7⟩ := hN σ7 H7 n7
      refine ⟨m', hm, i + 1, σ7, H7, I7.unpinned, T.keep _ _ _ st5 fun b hb o e => (I7.pin (b, o) (List.mem_append_right _ (List.mem_append_right _ (mem_pinsAt hb e)))).1, fun b hb => ?_, w7⟩
      obtain ⟨o, e, d⟩ := T.obj _ _ st5 b hb
      exact (I7.pin (b, o) (List.mem_append_right _ (List.mem_append_right _ (mem_pinsAt hb e)))).2.1
    cases f with
    | next => obtain ⟨σ7, H7, I7, n7⟩ := q7; exact again I7 n7
    | cont => obtain ⟨σ7, H7, I7, n7⟩ := q7; exact again I7 n7
    | brk => obtain ⟨σ7, H7, I7, q7⟩ := q7; exact ⟨σ7, H7, I7.unpinned, q7⟩
    | ret v => obtain ⟨x7, σ7, H7, I7, r7, q7⟩ := q7; exact ⟨x7, σ7, H7, I7.unpinned, r7, q7⟩
end

/-! ### the forms one uses -/
/-- over a list that the body leaves as it is -/
theorem for_list {K : PySem.W.Frag} {a : Addr} {xs : List V} {g : TG} {tb : TS} {D : Ends} {σ : St} {H : Hp} (Pv : Nat → St → Hp → Prop) (h0 : Pv 0 σ H) (hl : ∀ i σ H, i ≤ xs.length → Pv i σ H → SqL K H a xs)
    (hs : ∀ i x σ H, xs[i]? = some x → Pv i σ H → g x σ H fun σ2 H2 => tb { D with nx := Pv (i + 1), ct := Pv (i + 1), bk := D.nx } σ2 H2) (hd : ∀ σ H, Pv xs.length σ H → D.nx σ H) :
    ∃ W : Nat → Nat → St → Hp → Prop, (∃ m, W 0 m σ H) ∧ ∀ i m σ H, W i m σ H →
      ((Itl K a).stop i H ∧ D.nx σ H) ∨ ((Itl K a).go i H ∧ ∃ N : St → Hp → Prop, (∀ σ' H', N σ' H' → ∃ m', m' < m ∧ W (i + 1) m' σ' H') ∧ ∀ x H', (Itl K a).yld i H x H' → g x σ H' fun σ2 H2 => tb { D with nx := N, ct := N, bk := D.nx } σ2 H2) := by
  refine ⟨fun i m σ H => m = xs.length - i ∧ i ≤ xs.length ∧ Pv i σ H, ⟨xs.length, by simp, Nat.zero_le _, h0⟩, ?_⟩
  rintro i m σ H ⟨rfl, hi, p⟩
  have q := hl i σ H hi p
  by_cases hlt : i < xs.length
  · refine .inr ⟨⟨xs, xs[i], q, by simp [hlt]⟩, Pv (i + 1), fun σ' H' p' => ⟨xs.length - (i + 1), by omega, rfl, hlt, p'⟩, fun x H' y => ?_⟩
    obtain ⟨e, y⟩ := y
    subst e
    exact hs i x σ _ (y xs q) p
  · have e : i = xs.length := by omega
    subst e
    exact .inl ⟨⟨xs, q, Nat.le_refl _⟩, hd σ H p⟩
theorem for_range {lo : Int} {n : Nat} {g : TG} {tb : TS} {D : Ends} {σ : St} {H : Hp} (Pv : Nat → St → Hp → Prop) (h0 : Pv 0 σ H)
    (hs : ∀ i σ H, i < n → Pv i σ H → g (.int (lo + i)) σ H fun σ2 H2 => tb { D with nx := Pv (i + 1), ct := Pv (i + 1), bk := D.nx } σ2 H2) (hd : ∀ σ H, Pv n σ H → D.nx σ H) :
    ∃ W : Nat → Nat → St → Hp → Prop, (∃ m, W 0 m σ H) ∧ ∀ i m σ H, W i m σ H →
      ((Itr lo n).stop i H ∧ D.nx σ H) ∨ ((Itr lo n).go i H ∧ ∃ N : St → Hp → Prop, (∀ σ' H', N σ' H' → ∃ m', m' < m ∧ W (i + 1) m' σ' H') ∧ ∀ x H', (Itr lo n).yld i H x H' → g x σ H' fun σ2 H2 => tb { D with nx := N, ct := N, bk := D.nx } σ2 H2) := by
  refine ⟨fun i m σ H => m = n - i ∧ i ≤ n ∧ Pv i σ H, ⟨n, by simp, Nat.zero_le _, h0⟩, ?_⟩
  rintro i m σ H ⟨rfl, hi, p⟩
  by_cases hlt : i < n
  · refine .inr ⟨hlt, Pv (i + 1), fun σ' H' p' => ⟨n - (i + 1), by omega, rfl, hlt, p'⟩, fun x H' y => ?_⟩
    obtain ⟨e, y⟩ := y
    subst e y
    exact hs i σ _ hlt p
  · have e : i = n := by omega
    subst e
    exact .inl ⟨Nat.le_refl _, hd σ H p⟩
end L2

namespace L2
open PySem PySem.Spec PyProof.Rows

abbrev R2 := V → V → Hp → VK → Prop
/-- a two-place operation on values: f is binaryOp op, inplaceOp op or compareOp op -/
def OpR (X : Cx) (f : Value → Value → Sem Value) (r : R2) : Prop :=
  ∀ (pins : List (Addr × Obj)) (s : Shared) (σ : St) (H : Hp) (x y : V) (v u : Value) (Q : VK), Inv X pins σ H s → RelV x v → RelV y u → r x y H Q →
    wpAny (model X.prog X.w) X.A (f v u) (EP X pins σ Q) X.xe s
/-- a one-place operation -/
def UnR (X : Cx) (f : Value → Sem Value) (r : V → Hp → VK → Prop) : Prop :=
  ∀ (pins : List (Addr × Obj)) (s : Shared) (σ : St) (H : Hp) (x : V) (v : Value) (Q : VK), Inv X pins σ H s → RelV x v → r x H Q →
    wpAny (model X.prog X.w) X.A (f v) (EP X pins σ Q) X.xe s
/-- a call of a value that is known (a builtin, a type) with values -/
def CallR (X : Cx) (f : Value) (r : List V → Hp → VK → Prop) : Prop :=
  ∀ (pins : List (Addr × Obj)) (s : Shared) (σ : St) (H : Hp) (xs : List V) (us : List Value) (Q : VK), Inv X pins σ H s → Vals xs us → r xs H Q →
    wpAny (model X.prog X.w) X.A (call f us) (EP X pins σ Q) X.xe s
def tOp (r : R2) (ta tb : TE) : TE := fun σ H Q => ta σ H fun x H1 => tb σ H1 fun y H2 => r x y H2 Q
def tUn (r : V → Hp → VK → Prop) (ta : TE) : TE := fun σ H Q => ta σ H fun x H1 => r x H1 Q
/-- ints in, under C, and a value out -/
def rI (C : Int → Int → Prop) (g : Int → Int → V) : R2 := fun x y H Q => ∃ i j, x = .int i ∧ y = .int j ∧ C i j ∧ Q (g i j) H
def rI0 (g : Int → Int → V) : R2 := fun x y H Q => ∃ i j, x = .int i ∧ y = .int j ∧ Q (g i j) H
def rU (g : Int → V) : V → Hp → VK → Prop := fun x H Q => ∃ i, x = .int i ∧ Q (g i) H

section
variable {X : Cx} {a b c : Expr} {ta tb tc : TE} {pos : Pos}

theorem binT (ha : PE X a ta) (hb : PE X b tb) {pins : List (Addr × Obj)} {s : Shared} {σ : St} {H : Hp} {R : V → V → Hp → Prop} (I : Inv X pins σ H s)
    (h : ta σ H fun x H1 => tb σ H1 fun y H2 => R x y H2) {Q : Value → Shared → Prop} {f : Value → Value → Sem Value}
    (hf : ∀ v u s2 x y H2, Inv X pins σ H2 s2 → RelV x v → RelV y u → R x y H2 → wpAny (model X.prog X.w) X.A (f v u) Q X.xe s2) :
    wpAny (model X.prog X.w) X.A (eval a X.env) (fun v s₁ => wpAny (model X.prog X.w) X.A (eval b X.env) (fun u s₂ => wpAny (model X.prog X.w) X.A (f v u) Q X.xe s₂) X.xe s₁) X.xe s := by
  refine thn (ha pins s σ H _ I h) fun v s1 ⟨x, H1, I1, r1, q1⟩ => ?_
  refine thn (hb pins s1 σ H1 _ I1 q1) fun u s2 ⟨y, H2, I2, r2, q2⟩ => ?_
  exact hf v u s2 x y H2 I2 r1 r2 q2

theorem pe_op {op : Operator} {r : R2} (ho : OpR X (binaryOp op) r) (ha : PE X a ta) (hb : PE X b tb) : PE X (.BinOp a op b pos) (tOp r ta tb) := by
  intro pins s σ H Q I h
  exact wpAny_BinOp (binT ha hb I h fun v u s2 x y H2 I2 rx ry q => ho pins s2 σ H2 x y v u Q I2 rx ry q)
theorem pe_un {op : UnaryOp} {r : V → Hp → VK → Prop} (ho : UnR X (unaryOp op) r) (ha : PE X a ta) : PE X (.UnaryOp op a pos) (tUn r ta) := by
  intro pins s σ H Q I h
  exact UnaryOp_ (thn (ha pins s σ H _ I h) fun v s1 ⟨x, H1, I1, r1, q1⟩ => ho pins s1 σ H1 x v Q I1 r1 q1)
/-! ### ints -/
theorem opI {f : Value → Value → Sem Value} {C : Int → Int → Prop} {g : Int → Int → Int}
    (rule : ∀ (i j : Int) (t u : Tok) (s : Shared) (Q : Value → Shared → Prop) (E : Value → Shared → Prop), C i j → Q (.int (g i j) s.toks) { s with toks := s.toks + 1 } → wpAny (model X.prog X.w) X.A (f (.int i t) (.int j u)) Q E s) :
    OpR X f (rI C fun i j => .int (g i j)) := by
  intro pins s σ H x y v u Q I rx ry h
  obtain ⟨i, j, rfl, rfl, hc, q⟩ := h
  obtain ⟨t, rfl⟩ := rx
  obtain ⟨t', rfl⟩ := ry
  exact rule i j t t' s _ _ hc ⟨.int (g i j), H, I.tok _, ⟨_, rfl⟩, q⟩
theorem opI0 {f : Value → Value → Sem Value} {g : Int → Int → Int}
    (rule : ∀ (i j : Int) (t u : Tok) (s : Shared) (Q : Value → Shared → Prop) (E : Value → Shared → Prop), Q (.int (g i j) s.toks) { s with toks := s.toks + 1 } → wpAny (model X.prog X.w) X.A (f (.int i t) (.int j u)) Q E s) :
    OpR X f (rI0 fun i j => .int (g i j)) := by
  intro pins s σ H x y v u Q I rx ry h
  obtain ⟨i, j, rfl, rfl, q⟩ := h
  obtain ⟨t, rfl⟩ := rx
  obtain ⟨t', rfl⟩ := ry
  exact rule i j t t' s _ _ ⟨.int (g i j), H, I.tok _, ⟨_, rfl⟩, q⟩
def CDiv (i j : Int) : Prop := 0 < j ∧ j < 1073741824
def CMul (i j : Int) : Prop := (-(2 ^ 64) < i ∧ i < 2 ^ 64) ∨ (-(2 ^ 64) < j ∧ j < 2 ^ 64)
theorem CMul.ok {i j : Int} (h : CMul i j) : IntMulOk i j := by
  rcases h with ⟨h1, h2⟩ | ⟨h1, h2⟩
  · exact .of_left (intBits_le_64 h1 h2)
  · exact .of_right (intBits_le_64 h1 h2)
theorem op_add : OpR X (binaryOp .Add) (rI0 fun i j => .int (i + j)) := opI0 fun _ _ _ _ _ _ _ q => add_int q
theorem op_sub : OpR X (binaryOp .Sub) (rI0 fun i j => .int (i - j)) := opI0 fun _ _ _ _ _ _ _ q => sub_int q
theorem op_mul : OpR X (binaryOp .Mult) (rI CMul fun i j => .int (i * j)) := opI fun _ _ _ _ _ _ _ hc q => mul_int q hc.ok
/-- // by a positive divisor -/
theorem op_fdiv : OpR X (binaryOp .FloorDiv) (rI CDiv fun i j => .int (i / j)) := opI fun i j _ _ _ _ _ hc q => by
  have h1 : (0 : Int) < j := hc.1
  have h2 : j < 1073741824 := hc.2
  exact floordiv_int (by omega) (by rw [Int.fdiv_eq_ediv_of_nonneg i (by omega)]; exact q) (.inl (PyProof.noPylong_small (by omega)))
theorem unI {f : Value → Sem Value} {g : Int → Int}
    (rule : ∀ (i : Int) (t : Tok) (s : Shared) (Q : Value → Shared → Prop) (E : Value → Shared → Prop), Q (.int (g i) s.toks) { s with toks := s.toks + 1 } → wpAny (model X.prog X.w) X.A (f (.int i t)) Q E s) :
    UnR X f (rU fun i => .int (g i)) := by
  intro pins s σ H x v Q I rx h
  obtain ⟨i, rfl, q⟩ := h
  obtain ⟨t, rfl⟩ := rx
  exact rule i t s _ _ ⟨.int (g i), H, I.tok _, ⟨_, rfl⟩, q⟩
theorem un_neg : UnR X (unaryOp .USub) (rU fun i => .int (-i)) := unI fun _ _ _ _ _ q => neg_int q
/-! ### bools among ints: n += (a < b) -/
end

/-! ### comparisons -/
section
variable {X : Cx} {a b c : Expr} {ta tb tc : TE} {pos : Pos}
/-- two rules for one operation: by cases -/
theorem OpR.or {f : Value → Value → Sem Value} {r r' : R2} (h : OpR X f r) (h' : OpR X f r') : OpR X f (fun x y H Q => r x y H Q ∨ r' x y H Q) := by
  intro pins s σ H x y v u Q I rx ry q
  rcases q with q | q
  · exact h pins s σ H x y v u Q I rx ry q
  · exact h' pins s σ H x y v u Q I rx ry q

/-- a reading of a value as a test -/
def tTest (t : TE) : TT := fun σ H Q => t σ H fun x H' => ∃ k, x = .bl k ∧ Q k H'
theorem pt_cmpR {op : CmpOp} {r : R2} (ho : OpR X (compareOp op) r) (ha : PE X a ta) (hb : PE X b tb) (hm : behindInMarks op b = false) : PT X (.Compare a [op] [b] pos) (tTest (tOp r ta tb)) := by
  intro pins s σ H Q I h
  refine wpAny_isTrue_Compare1 (thn (ha pins s σ H _ I h) fun v s1 ⟨x, H1, I1, r1, q1⟩ => thn (hb pins s1 σ H1 _ I1 q1) fun u s2 ⟨y, H2, I2, r2, q2⟩ =>
    thn (ho pins s2 σ H2 x y v u _ I2 r1 r2 q2) fun c s3 ⟨z, H3, I3, r3, k, e, q3⟩ => ?_) hm
  subst e
  cases r3
  exact wpAny_truthy_bool ⟨H3, I3, q3⟩
/-! ### truth -/
theorem line63 : (sizeLine : Nat) < 2 ^ 63 := by rw [sizeLine_eq]; decide
/-! ### strs and bytes -/
/-! ### scalar builtins, by CallR -/
theorem vals1 {x : V} {us : List Value} (r : Vals [x] us) : ∃ u, us = [u] ∧ RelV x u := by
  cases r with
  | cons r1 r2 => cases r2; exact ⟨_, rfl, r1⟩
theorem vals2 {x y : V} {us : List Value} (r : Vals [x, y] us) : ∃ u w', us = [u, w'] ∧ RelV x u ∧ RelV y w' := by
  cases r with
  | cons r1 r2 =>
    cases r2 with
    | cons r3 r4 => cases r4; exact ⟨_, _, rfl, r1, r3⟩
theorem call_max2 (hc : X.calm = true) : CallR X (.builtin "max") (fun xs H Q => ∃ i j, xs = [.int i, .int j] ∧ Q (.int (if j > i then j else i)) H) := by
  intro pins s σ H xs us Q I r h
  obtain ⟨i, j, rfl, q⟩ := h
  obtain ⟨u, w', rfl, ⟨t, rfl⟩, ⟨t', rfl⟩⟩ := vals2 r
  refine max_two_ints (I.ok.hd hc) fun h' tk k => ⟨_, H, I.kept k, ?_, q⟩
  by_cases hj : j > i
  · rw [if_pos hj, if_pos hj]; exact ⟨_, rfl⟩
  · rw [if_neg hj, if_neg hj]; exact ⟨_, rfl⟩
theorem call_min2 (hc : X.calm = true) : CallR X (.builtin "min") (fun xs H Q => ∃ i j, xs = [.int i, .int j] ∧ Q (.int (if j < i then j else i)) H) := by
  intro pins s σ H xs us Q I r h
  obtain ⟨i, j, rfl, q⟩ := h
  obtain ⟨u, w', rfl, ⟨t, rfl⟩, ⟨t', rfl⟩⟩ := vals2 r
  refine min_two_ints (I.ok.hd hc) fun h' tk k => ⟨_, H, I.kept k, ?_, q⟩
  by_cases hj : j < i
  · rw [if_pos hj, if_pos hj]; exact ⟨_, rfl⟩
  · rw [if_neg hj, if_neg hj]; exact ⟨_, rfl⟩
end
end L2

namespace L2
open PySem PySem.Spec PyProof.Rows

/-! ### an instance, its attributes a map -/
structure ObjM (h : Heap) (x dx C : Addr) (mA : Str → Option Value) : Prop where
  obj : h.get? x = some (PySem.W.instObj C dx)
  ns : h.Ns1 dx mA
  ne : dx ≠ x

theorem lookIn_ns {h : Heap} {dx : Addr} {mA : Str → Option Value} (n : h.Ns1 dx mA) : ∃ od, h.get? dx = some od ∧ ∀ name, PySem.W.lookIn name od = some (mA name) := by
  obtain ⟨o, es, ep, ho, hd, hk, _, hm⟩ := n
  refine ⟨o, ho, fun name => ?_⟩
  have e := hm name
  unfold nsFind findBy at e
  rw [← Array.find?_toList] at e
  unfold PySem.W.lookIn
  rw [hd]
  dsimp only
  split
  · rename_i y q
    rw [q] at e
    exact congrArg some e
  · rename_i q
    rw [q] at e
    have a : es.toList.any (·.refKey) = false := by
      rw [List.any_eq_false]
      intro y hy
      obtain ⟨z, t, hkey⟩ := hk y (Array.mem_toList_iff.mp hy)
      simp [DictEntry.refKey, hkey]
    have a' : ¬ es.toList.any (·.refKey) = true := by rw [a]; exact Bool.false_ne_true
    rw [if_neg a']
    exact congrArg some e

theorem ObjM.look {h : Heap} {x dx C : Addr} {mA : Str → Option Value} (I : ObjM h x dx C mA) : ∃ od, PySem.W.InstAt h x (PySem.W.instObj C dx) C (some od) ∧ ∀ name, PySem.W.lookIn name od = some (mA name) :=
  let ⟨od, ho, hl⟩ := lookIn_ns I.ns
  ⟨od, ⟨I.obj, rfl, rfl, ho⟩, hl⟩

section
variable {prog : Program} {w : World} {A : Around} {E : Value → Shared → Prop} {s : Shared} {K : PySem.W.Frag} {x dx C f : Addr} {mA : Str → Option Value} {name : Str} {v : Value}

theorem get_map {expr : Bool} {Q : Value → Shared → Prop} (X : K.In s.heap) (I : ObjM s.heap x dx C mA) (hg : PySem.W.plainGet K C name = true) (hh : PySem.W.hasDictIn K C = true)
    (ha : PySem.W.findIn K (.ref C) name = some none) (hv : mA name = some v) (hv' : PySem.W.handedIn v = true) (h : Q v { s with toks := s.toks + 1 }) :
    wpAny (model prog w) A (getAttr (.ref x) name expr) Q E s := by
  obtain ⟨od, J, hl⟩ := I.look
  exact PySem.W.get_value X J (PySem.W.plainGet_of hg).1 (PySem.W.findObj_own hh ha rfl (by rw [hl, hv])) hv' h

theorem get_meth {pl : Sem Bool} {Q : Value × List Value → Shared → Prop} (X : K.In s.heap) (I : ObjM s.heap x dx C mA) (hg : PySem.W.plainGet K C name = true)
    (hf : PySem.W.findIn K (.ref C) name = some (some (.ref f))) (ht : PySem.W.isFn K (.ref f) = true) (hv : mA name = none) (h : Q (.ref f, [.ref x]) s) :
    wpAny (model prog w) A (getMethod (.ref x) name pl) Q E s := by
  obtain ⟨od, J, hl⟩ := I.look
  exact PySem.W.method_fn X J (PySem.W.plainGet_of hg).1 (PySem.W.plainGet_of hg).2 hf (beq_iff_eq.mp ht) (by show (PySem.W.lookIn name od).map (·.isSome) = some false; rw [hl, hv]; rfl) h

theorem set_map {ns : List Str} {Q : Unit → Shared → Prop} (X : K.In s.heap) (I : ObjM s.heap x dx C mA)
    (hs : PySem.W.findIn K (.ref C) "__setattr__" = some (some (.builtin "object.__setattr__"))) (hp : PySem.W.plainOver K C = true) (ht : PySem.W.takerIn K C name = some none) (hh : PySem.W.hasDictIn K C = true)
    (hw : PySem.Within mA ns) (hsz : ns.length ≤ sizeLine)
    (h : ∀ h', ObjM h' x dx C (fun y => if y = name then some v else mA y) → Heap.SameBut dx s.heap h' → Q () { s with heap := h', toks := s.toks + 2 }) :
    wpAny (model prog w) A (setAttr (.ref x) name v) Q E s := by
  obtain ⟨od, J, hl⟩ := I.look
  refine PySem.W.set_plain X J hs (PySem.W.osa_open (s := { s with toks := s.toks + 1 }) (r := none) X J hp ht fun b => ?_)
  obtain ⟨cd, hc, hd'⟩ := PySem.W.any_some hh
  have hx : s.heap.get? x = some ⟨.ref C, some dx, .plain, #[]⟩ := I.obj
  refine wpAny_bind (wpAny_pure (wpAny_bind (wpAny_bind (wpAny_loadPart hx (wpAny_bind (PySem.W.Looks.here (s := { s with toks := s.toks + 1 }) (PySem.W.looks_clsIn X hc) ?_))))))
  rw [hd']
  refine wpAny_pure (a := some dx) (wpAny_bind (wpAny_pure (wpAny_bind ?_)))
  refine wpAny_nsSet1 (s := { s with toks := s.toks + 1 }) I.ns fun h' hn2 hs2 => ?_
  obtain ⟨oD, esD, epD, hoD, hdD, hcD⟩ := hn2.count (PySem.Within.cons name v hw)
  refine wpAny_bind (wpAny_lookBehind hoD (by rw [hdD]; exact pastItsLine_dict (Nat.le_trans hcD (by rw [List.length_cons]; omega))) ?_)
  exact wpAny_pure (h _ ⟨(hs2.2 _ (Ne.symm I.ne)).trans I.obj, hn2, I.ne⟩ hs2)

/-- C(..): the dict at the heap's end, the instance behind it; then its __init__ -/
theorem make_map {R : Result → Shared → Prop} {vs : List Value} {kw : List (Str × Value)} (X : K.In s.heap) (hm : PySem.W.makesIn K C = true)
    (hi : PySem.W.findIn K (.ref C) "__init__" = some (some (.ref f))) (hf : PySem.W.typeIn K (.ref f) = some (.type "function"))
    (h : codeAny (model prog w) (A.under (.builtin "type.__call__" ⟨.ref C :: vs, kw⟩)) (.call (.ref f) ⟨.ref (s.heap.objs.size + 1) :: vs, kw⟩) (PySem.W.InitBack (s.heap.objs.size + 1) R)
      { s with heap := (s.heap.push PySem.W.emptyDict).push (PySem.W.instObj C s.heap.objs.size) }) :
    codeAny (model prog w) A (.call (.ref C) ⟨vs, kw⟩) R s := by
  obtain ⟨hh, g, d, t, os⟩ := s
  exact PySem.W.make_core (PySem.W.makes_of X hm) (PySem.W.looks_findIn X hi) (fun self => PySem.W.bind_fn X self hf) (.inl rfl) h
end

/-! ### the attributes as a list of pairs -/
def putF (f : Str) (v : V) : List (Str × V) → List (Str × V)
  | [] => [(f, v)]
  | (g, x) :: r => if g = f then (g, v) :: r else (g, x) :: putF f v r
theorem lookup_putF (f g : Str) (v : V) : ∀ fs : List (Str × V), (putF f v fs).lookup g = if g = f then some v else fs.lookup g
  | [] => by
    show List.lookup g [(f, v)] = _
    by_cases h : g = f
    · have hb : (g == f) = true := beq_iff_eq.mpr h
      simp only [List.lookup, hb, if_pos h]
    · have hb : (g == f) = false := beq_eq_false_iff_ne.mpr h
      simp only [List.lookup, hb, if_neg h]
  | (k, x) :: r => by
    have ih := lookup_putF f g v r
    rw [show putF f v ((k, x) :: r) = (if k = f then (k, v) :: r else (k, x) :: putF f v r) from rfl]
    by_cases hk : k = f
    · rw [if_pos hk]
      by_cases h : g = k
      · have hb : (g == k) = true := beq_iff_eq.mpr h
        simp only [List.lookup, hb, if_pos (h.trans hk)]
      · have hb : (g == k) = false := beq_eq_false_iff_ne.mpr h
        simp only [List.lookup, hb, if_neg (fun e : g = f => h (e.trans hk.symm))]
    · rw [if_neg hk]
      by_cases h : g = k
      · have hb : (g == k) = true := beq_iff_eq.mpr h
        simp only [List.lookup, hb, if_neg (fun e : g = f => hk (h.symm.trans e))]
      · have hb : (g == k) = false := beq_eq_false_iff_ne.mpr h
        simp only [List.lookup, hb]
        exact ih
theorem keys_putF (f : Str) (v : V) : ∀ fs : List (Str × V), f ∈ (putF f v fs).map (·.1) ∧ ∀ g, g ∈ fs.map (·.1) → g ∈ (putF f v fs).map (·.1)
  | [] => ⟨by simp [putF], fun g h => by simp at h⟩
  | (k, x) :: r => by
    obtain ⟨i1, i2⟩ := keys_putF f v r
    rw [show putF f v ((k, x) :: r) = (if k = f then (k, v) :: r else (k, x) :: putF f v r) from rfl]
    by_cases hk : k = f
    · rw [if_pos hk]
      subst hk
      exact ⟨by simp, fun g h => by simpa using h⟩
    · rw [if_neg hk]
      refine ⟨?_, fun g h => ?_⟩
      · rw [List.map_cons]
        exact List.mem_cons_of_mem _ i1
      · rw [List.map_cons] at h ⊢
        rcases List.mem_cons.mp h with e | e
        · exact List.mem_cons.mpr (.inl e)
        · exact List.mem_cons_of_mem _ (i2 g e)
theorem length_putF (f : Str) (v : V) : ∀ fs : List (Str × V), (putF f v fs).length ≤ fs.length + 1
  | [] => by simp [putF]
  | (k, x) :: r => by
    have ih := length_putF f v r
    rw [show putF f v ((k, x) :: r) = (if k = f then (k, v) :: r else (k, x) :: putF f v r) from rfl]
    by_cases hk : k = f
    · rw [if_pos hk, List.length_cons, List.length_cons]; omega
    · rw [if_neg hk, List.length_cons, List.length_cons]; omega

theorem RelO.some_of {v : V} {o : Option Value} (r : RelO (some v) o) : ∃ u, o = some u ∧ RelV v u := by
  cases o with
  | none => exact (show False from r).elim
  | some u => exact ⟨u, rfl, r⟩
theorem RelO.none_of {o : Option Value} (r : RelO none o) : o = none := by
  cases o with
  | none => rfl
  | some u => exact (show False from r).elim
theorem handed_of {v : V} {u : Value} (r : RelV v u) : PySem.W.handedIn u = true := by
  cases v with
  | non => cases (show u = Value.none from r); rfl
  | bl b => cases (show u = Value.bool b from r); rfl
  | int i => obtain ⟨t, e⟩ := (show ∃ t, u = Value.int i t from r); cases e; rfl
  | str x => obtain ⟨t, e⟩ := (show ∃ t, u = Value.str x t from r); cases e; rfl
  | byt b => obtain ⟨t, e⟩ := (show ∃ t, u = Value.bytes b t from r); cases e; rfl
  | flt b => obtain ⟨t, e⟩ := (show ∃ t, u = Value.float b t from r); cases e; rfl
  | ref a => cases (show u = Value.ref a from r); rfl
  | ty n => cases (show u = Value.type n from r); rfl

section
variable {P : Program} {w : World} {H H' : Hp} {h h' : Heap} {a C dx : Addr} {fs fs' : List (Str × V)}
theorem ins_get (hok : HOk P w H h) (e : H a = some (.ins C dx fs)) : ∃ mA, ObjM h a dx C mA ∧ (∀ f, RelO (fs.lookup f) (mA f)) ∧ PySem.Within mA (fs.map (·.1)) ∧ fs.length ≤ 1000 ∧ H dx = some (.own a) := by
  obtain ⟨d, z, ne, ob, mA, n, r, q⟩ := (show ObjOk P w H h a (.ins C dx fs) from hok a _ e)
  exact ⟨mA, ⟨ob, n, ne⟩, r, q, z, d⟩
end

/-! ### what of the text a class must have -/
structure Cls (K : PySem.W.Frag) (C : Addr) : Prop where
  pg : PySem.W.plainGet K C Str.empty = true
  hd : PySem.W.hasDictIn K C = true
  po : PySem.W.plainOver K C = true
  sa : PySem.W.findIn K (.ref C) "__setattr__" = some (some (.builtin "object.__setattr__"))
theorem Cls.get {K : PySem.W.Frag} {C : Addr} (c : Cls K C) (f : Str) : PySem.W.plainGet K C f = true := c.pg
/-- no class of it has the name -/
def NoAttr (K : PySem.W.Frag) (C : Addr) (f : Str) : Prop := PySem.W.findIn K (.ref C) f = some none
theorem NoAttr.taker {K : PySem.W.Frag} {C : Addr} {f : Str} (n : NoAttr K C f) : PySem.W.takerIn K C f = some none := by
  unfold PySem.W.takerIn
  rw [show PySem.W.findIn K (.ref C) f = some none from n]
  rfl
/-- a method: a plain def of the class or of one above it -/
structure Meth (K : PySem.W.Frag) (C : Addr) (m : Str) (f : Addr) : Prop where
  at_ : PySem.W.findIn K (.ref C) m = some (some (.ref f))
  fn : PySem.W.isFn K (.ref f) = true
  kp : PySem.W.keepIn K (.ref f) = true

section
variable {X : Cx} {pins : List (Addr × Obj)} {σ : St} {H : Hp} {s : Shared} {a C dx : Addr} {fs : List (Str × V)} {f : Str} {v : V} {A : Around} {E : Value → Shared → Prop}

theorem getattr_ok {b : Bool} {Q : Value → Shared → Prop} (I : Inv X pins σ H s) (e : H a = some (.ins C dx fs)) (c : Cls X.K C) (n : NoAttr X.K C f) (l : fs.lookup f = some v)
    (h : ∀ u s', Inv X pins σ H s' → RelV v u → Q u s') : wpAny (model X.prog X.w) A (getAttr (.ref a) f b) Q E s := by
  obtain ⟨mA, O, r, _, _, _⟩ := ins_get I.hok e
  obtain ⟨u, hu, ru⟩ := RelO.some_of (v := v) (o := mA f) (by rw [← l]; exact r f)
  exact get_map I.kIn O (c.get f) c.hd n hu (handed_of ru) (h u _ (I.tok _) ru)

theorem getmeth_ok {m : Str} {g : Addr} {pl : Sem Bool} {Q : Value × List Value → Shared → Prop} (I : Inv X pins σ H s) (e : H a = some (.ins C dx fs)) (c : Cls X.K C) (k : Meth X.K C m g) (l : fs.lookup m = none)
    (h : Q (.ref g, [.ref a]) s) : wpAny (model X.prog X.w) A (getMethod (.ref a) m pl) Q E s := by
  obtain ⟨mA, O, r, _, _, _⟩ := ins_get I.hok e
  have hn : mA m = none := RelO.none_of (by rw [← l]; exact r m)
  exact get_meth I.kIn O (c.get m) k.at_ k.fn hn h

theorem setattr_ok {y : V} {u : Value} {Q : Unit → Shared → Prop} (I : Inv X pins σ H s) (e : H a = some (.ins C dx fs)) (c : Cls X.K C) (n : NoAttr X.K C f) (hl : fs.length < 1000) (ry : RelV y u)
    (h : ∀ s', Inv X pins σ (upd H a (.ins C dx (putF f y fs))) s' → Q () s') : wpAny (model X.prog X.w) A (setAttr (.ref a) f u) Q E s := by
  obtain ⟨mA, O, r, wi, _, ho⟩ := ins_get I.hok e
  have hz : (fs.map (·.1)).length ≤ sizeLine := by rw [List.length_map, sizeLine_eq]; omega
  refine set_map I.kIn O c.sa c.po n.taker c.hd wi hz fun h' O' sb => h _ ?_
  have hd : ∃ o, h'.get? dx = some o := let ⟨o, _, _, e', _⟩ := O'.ns; ⟨o, e'⟩
  refine I.write (x := a) (e := dx) (by rw [e]; exact True.intro) (.inr ho) (fun b q hb z => (sb.2 b hb).trans z) hd ?_
  refine ⟨by rw [upd_ne O.ne]; exact ho, ?_, O.ne, O'.obj, _, O'.ns, fun g => ?_, fun g hg => ?_⟩
  · have := length_putF f y fs; omega
  · show RelO ((putF f y fs).lookup g) (if g = f then some u else mA g)
    rw [lookup_putF]
    by_cases q : g = f
    · rw [if_pos q, if_pos q]; exact ry
    · rw [if_neg q, if_neg q]; exact r g
  · by_cases q : g = f
    · rw [q]; exact (keys_putF f y fs).1
    · refine (keys_putF f y fs).2 g (wi g fun z => hg ?_)
      show (if g = f then some u else mA g) = none
      rw [if_neg q]; exact z

/-- a new instance, tracked, without attributes -/
theorem Inv.made (I : Inv X pins σ H s) : Inv X pins σ (upd (upd H s.heap.objs.size (.own (s.heap.objs.size + 1))) (s.heap.objs.size + 1) (.ins C s.heap.objs.size []))
    { s with heap := (s.heap.push PySem.W.emptyDict).push (PySem.W.instObj C s.heap.objs.size) } := by
  have e1 : (s.heap.push PySem.W.emptyDict).get? s.heap.objs.size = some PySem.W.emptyDict := Heap.get?_push_size s.heap rfl
  have e2 : ((s.heap.push PySem.W.emptyDict).push (PySem.W.instObj C s.heap.objs.size)).get? (s.heap.objs.size + 1) = some (PySem.W.instObj C s.heap.objs.size) := by
    have := Heap.get?_push_size (s.heap.push PySem.W.emptyDict) (o := PySem.W.instObj C s.heap.objs.size) rfl
    rwa [Heap.size_push] at this
  have e3 : (s.heap.push PySem.W.emptyDict).Ns s.heap.objs.size (fun _ => none) := ⟨PySem.W.emptyDict, #[], _, e1, rfl, (fun e he => absurd he (by simp)), fun _ => rfl⟩
  have I1 := I.laid (a := s.heap.objs.size) (o := .own (s.heap.objs.size + 1)) (h' := s.heap.push PySem.W.emptyDict) (t' := s.toks) (fun b u q => Heap.get?_push_of_some _ q) (Nat.le_refl _) ⟨_, e1⟩
  refine I1.laid (a := s.heap.objs.size + 1) (o := .ins C s.heap.objs.size []) (t' := s.toks) (fun b u q => Heap.get?_push_of_some _ q) (Nat.le_of_eq (Heap.size_push _ _)) ?_
  have ne : s.heap.objs.size ≠ s.heap.objs.size + 1 := Nat.ne_of_lt (Nat.lt_succ_self _)
  refine ⟨by rw [upd_ne ne, upd_same], Nat.zero_le _, ne, e2, fun _ => none, (Heap.Ns1.of_empty e3).at fun o q => Heap.get?_push_of_some _ q, fun _ => True.intro, fun y hy => absurd rfl hy⟩

/-- e.f where nothing but the object is asked: through attributeBase (super) and the last hold -/
theorem attr_of {prog : Program} {w : World} {env : Env} {e : Expr} {f : Str} {pos : Pos} {s : Shared} {Q : Value → Shared → Prop} (hb : attributeBase e f env (eval e env) = eval e env)
    (h : wpAny (model prog w) A (eval e env) (fun o s₁ => wpAny (model prog w) A (getAttr o f true) Q E s₁) E s) : wpAny (model prog w) A (eval (.Attribute e f pos) env) Q E s :=
  Attribute_any_ h (by rw [arm_eval_Attribute, hb])
end

/-! ### readings and rules -/
/-- e.f, an attribute of the instance -/
def tFld (K : PySem.W.Frag) (ta : TE) (f : Str) : TE := fun σ H Q => ta σ H fun x H1 => ∃ a C dx fs v, x = .ref a ∧ H1 a = some (.ins C dx fs) ∧ Cls K C ∧ NoAttr K C f ∧ fs.lookup f = some v ∧ Q v H1
/-- e.f = value -/
def sFld (K : PySem.W.Frag) (ta tv : TE) (f : Str) : TS := fun D σ H => tv σ H fun y H1 => ta σ H1 fun x H2 => ∃ a C dx fs, x = .ref a ∧ H2 a = some (.ins C dx fs) ∧ Cls K C ∧ NoAttr K C f ∧ fs.length < 1000 ∧
  D.nx σ (upd H2 a (.ins C dx (putF f y fs)))
section
variable {X : Cx} {o e value : Expr} {f : Str} {pos pos' tpos : Pos} {ta tv : TE}
theorem pe_fld (he : PE X e ta) (hb : attributeBase e f X.env (eval e X.env) = eval e X.env) : PE X (.Attribute e f pos) (tFld X.K ta f) := by
  intro pins s σ H Q I h
  refine attr_of hb (thn (he pins s σ H _ I h) fun u s1 ⟨x, H1, I1, rx, a, C, dx, fs, v, ex, ea, c, n, l, q⟩ => ?_)
  subst ex
  obtain rfl : u = Value.ref a := rx
  exact getattr_ok I1 ea c n l fun u' s2 I2 ru => ⟨v, H1, I2, ru, q⟩
theorem ps_fld (ha : PE X o ta) (hv : PE X value tv) (hs : swapsWith value (some (.Attribute o f pos')) pos.line X.env = pure false) : PS X (.Assign [.Attribute o f pos'] value pos) (sFld X.K ta tv f) := by
  intro pins s σ H D I h
  refine plainObj_wpAny_Assign_Attribute (thn (hv pins s σ H _ I h) fun u s1 ⟨y, H1, I1, ry, q⟩ => thn (ha pins s1 σ H1 _ I1 q) fun ov s2 ⟨x, H2, I2, rx, a, C, dx, fs, ex, ea, c, n, l, q2⟩ => ?_) hs
  subst ex
  obtain rfl : ov = Value.ref a := rx
  exact setattr_ok I2 ea c n l ry fun s3 I3 => ⟨σ, _, I3, q2⟩
end

/-! ### isinstance -/
section
variable {X : Cx} {pins : List (Addr × Obj)} {σ : St} {H : Hp} {s : Shared} {A : Around} {E : Value → Shared → Prop} {Q : Value → Shared → Prop} {c : Value} {b : Bool}
end
end L2

namespace L2
open PySem PySem.Spec PyProof.Rows

/-! ### room -/
structure Room (k : Nat) (A : Around) : Prop where
  hd : A.handled = none
  dp : A.depth + 3 * k + 5 < recursionLimit
  un : A.units + 16 * k + 200 < cLine
theorem Room.mono {j k : Nat} {A : Around} (r : Room k A) (h : j ≤ k) : Room j A := ⟨r.hd, by have := r.dp; omega, by have := r.un; omega⟩
theorem Room.deeper {k : Nat} {A : Around} (r : Room (k + 1) A) (env : Env) : Room k (A.deeper env) :=
  ⟨r.hd, by have := r.dp; show A.depth + 1 + 3 * k + 5 < _; omega, by have := r.un; show A.units + 3 + 16 * k + 200 < _; omega⟩
theorem Room.in1 {k : Nat} {A : Around} (r : Room (k + 1) A) : Room k A.in1 :=
  ⟨r.hd, by have := r.dp; show A.depth + 3 * k + 5 < _; omega, by have := r.un; show A.units + 1 + 16 * k + 200 < _; omega⟩
theorem make_depth {A : Around} {C : Addr} {us : List Value} {kw : List (Str × Value)} : (A.under (.builtin "type.__call__" ⟨.ref C :: us, kw⟩)).depth = A.depth + 1 := by
  first | rfl | simp [Around.under, Code.weight, Code.isCreation, Code.isGuard, Code.isCaller, Code.frames, Code.isFrame, guardIds]
theorem make_units {A : Around} {C : Addr} {us : List Value} {kw : List (Str × Value)} : (A.under (.builtin "type.__call__" ⟨.ref C :: us, kw⟩)).units = A.units + 1 := by
  first | rfl | simp [Around.under, Code.cUnits, Code.frames, Code.isFrame]
theorem Room.make {k : Nat} {A : Around} (r : Room (k + 1) A) (C : Addr) (us : List Value) (kw : List (Str × Value)) : Room k (A.under (.builtin "type.__call__" ⟨.ref C :: us, kw⟩)) :=
  ⟨r.hd, by have := r.dp; rw [make_depth]; omega, by have := r.un; rw [make_units]; omega⟩
theorem Room.depth {k : Nat} {A : Around} (r : Room k A) : A.depth < recursionLimit := by have := r.dp; omega
theorem Room.units {k : Nat} {A : Around} (r : Room k A) : A.units + 64 < cLine := by have := r.un; omega
/-! ### argument lists and displays -/
def tNil : TA := fun _ H Q => Q [] H
def tCons (ta : TE) (tr : TA) : TA := fun σ H Q => ta σ H fun x H1 => tr σ H1 fun xs H2 => Q (x :: xs) H2
section
variable {X : Cx} {e : Expr} {es : List Expr} {te : TE} {t : TA} {pos : Pos}
theorem pa_nil : PA X [] tNil := fun _ _ _ _ H Q I h => Calls.spliced_nil ⟨[], H, I, .nil, h⟩
theorem pa_cons (ha : PE X e te) (hr : PA X es t) (hs : starEach (e :: es) X.env = (false, eval e X.env) :: starEach es X.env := by rfl) : PA X (e :: es) (tCons te t) := by
  intro pos pins s σ H Q I h
  rw [hs]
  show wpAny _ _ (spliced ((false, eval e X.env) :: backTo pos (starEach es X.env))) _ _ s
  refine Calls.spliced_cons (thn (ha pins s σ H _ I h) fun u s1 ⟨x, H1, I1, r1, q1⟩ => ?_)
  exact thn (hr pos pins s1 σ H1 _ I1 q1) fun us s2 ⟨xs, H2, I2, r2, q2⟩ => ⟨x :: xs, H2, I2, .cons r1 r2, q2⟩

/-- a tuple, a list of written items -/
def tTup (t : TA) : TE := fun σ H Q => t σ H fun xs H1 => xs.length ≤ sizeLine ∧ ∀ p, H1 p = none → Q (.ref p) (upd H1 p (.tup xs))
def tLst (t : TA) : TE := fun σ H Q => t σ H fun xs H1 => xs.length ≤ sizeLine ∧ ∀ p, H1 p = none → Q (.ref p) (upd H1 p (.lst xs))
theorem pe_tup {x1} (h : PA X es t) : PE X (.Tuple es x1 pos) (tTup t) := by
  intro pins s σ H Q I hq
  refine wpAny_Tuple_spliced (thn (h pos pins s σ H _ I hq) fun us s1 ⟨xs, H1, I1, r, z, q⟩ => ⟨by rw [← r.length]; exact z, ?_⟩)
  have hf : H1 s1.heap.objs.size = none := I1.hok.fresh (Nat.le_refl _)
  refine ⟨.ref s1.heap.objs.size, upd H1 s1.heap.objs.size (.tup xs), I1.laid (t' := s1.toks) (fun b u e => Heap.get?_push_of_some _ e) (Nat.le_refl _) ?_, rfl, q _ hf⟩
  exact ⟨z, us, r, ⟨_, Heap.get?_push_size _ rfl, rfl, _, rfl⟩⟩
theorem pe_lst (h : PA X es t) : PE X (.List es pos) (tLst t) := by
  intro pins s σ H Q I hq
  refine wpAny_List_spliced (thn (h pos pins s σ H _ I hq) fun us s1 ⟨xs, H1, I1, r, z, q⟩ => ⟨by rw [← r.length]; exact z, ?_⟩)
  have hf : H1 s1.heap.objs.size = none := I1.hok.fresh (Nat.le_refl _)
  refine ⟨.ref s1.heap.objs.size, upd H1 s1.heap.objs.size (.lst xs), I1.laid (t' := s1.toks) (fun b u e => Heap.get?_push_of_some _ e) (Nat.le_refl _) ?_, rfl, q _ hf⟩
  exact ⟨z, us, 0, r, Heap.get?_push_size _ rfl⟩
end

/-! ### what a def promises -/
/-- a def's promise: the bound arguments in the parameters' order, the heap, the wanted end, the wanted exception -/
abbrev Sp := List V → Hp → VK → XK → Prop
/-- how an exception lies behind a call (file 08 gives it): the callers' frames, abstract heap and state ahead of the call, the wish, the exception, the state -/
abbrev CXT := List Env → Hp → Shared → XK → Value → Shared → Prop

/-- the state at a call -/
structure Env0 (P : Program) (w : World) (K : PySem.W.Frag) (mg : Str → Option Value) (base : Heap) (A : Around) (outer : List Env) (s : Shared) (H : Hp) : Prop where
  frames : A.frames = some outer
  mod : Mod K mg base
  bs : ∀ b o, base.get? b = some o → s.heap.get? b = some o ∧ H b = none
  bsz : base.objs.size ≤ s.heap.objs.size
  funs : s.heap.FunFrames base outer
  frf : ∀ b ∈ frs outer, H b = none
  hok : HOk P w H s.heap
  bare : AllBare s.gens
/-- a call's end -/
def CE (outer : List Env) (P : Program) (w : World) (H : Hp) (s : Shared) (Q : VK) (u : Value) (s' : Shared) : Prop :=
  ∃ v H', s'.os = s.os ∧ AllBare s'.gens ∧ Un (frs outer) [] H H' s.heap s'.heap ∧ HOk P w H' s'.heap ∧ RelV v u ∧ Q v H'
def CR (CX : CXT) (outer : List Env) (P : Program) (w : World) (H : Hp) (s : Shared) (Q : VK) (E : XK) (r : Result) (s' : Shared) : Prop :=
  match r with
  | .ok (.ret u) => CE outer P w H s Q u s'
  | .ok _ => False
  | .error e => CX outer H s E e s'
structure FnOk (P : Program) (w : World) (K : PySem.W.Frag) (mg : Str → Option Value) (base : Heap) (CX : CXT) (k : Nat) (f : Addr) (fd : FuncData) (ps : List Str) (sp : Sp) : Prop where
  len : ∀ vs H Q E, sp vs H Q E → vs.length = ps.length
  run : ∀ (A : Around) (outer : List Env) (s : Shared) (H : Hp) (args : Args) (us : List Value) (vs : List V) (Q : VK) (E : XK), Room k A → Env0 P w K mg base A outer s H → BindsTo s fd args (ps.zip us) → Vals vs us → sp vs H Q E →
    codeAny (model P w) A (.call (.ref f) args) (CR CX outer P w H s Q E) s
theorem FnOk.mono {P : Program} {w : World} {K : PySem.W.Frag} {mg : Str → Option Value} {base : Heap} {CX : CXT} {j k : Nat} {f : Addr} {fd : FuncData} {ps : List Str} {sp : Sp} (F : FnOk P w K mg base CX j f fd ps sp) (h : j ≤ k) :
    FnOk P w K mg base CX k f fd ps sp := ⟨F.len, fun A outer s H args us vs Q E hr => F.run A outer s H args us vs Q E (hr.mono h)⟩
/-- a weaker promise -/
theorem FnOk.imp {P : Program} {w : World} {K : PySem.W.Frag} {mg : Str → Option Value} {base : Heap} {CX : CXT} {k : Nat} {f : Addr} {fd : FuncData} {ps : List Str} {sp sp' : Sp} (F : FnOk P w K mg base CX k f fd ps sp)
    (h : ∀ vs H Q E, sp' vs H Q E → sp vs H Q E) : FnOk P w K mg base CX k f fd ps sp' :=
  ⟨fun vs H Q E q => F.len vs H Q E (h _ _ _ _ q), fun A outer s H args us vs Q E hr he hb hv hs => F.run A outer s H args us vs Q E hr he hb hv (h _ _ _ _ hs)⟩

theorem Env0.make {P : Program} {w : World} {K : PySem.W.Frag} {mg : Str → Option Value} {base : Heap} {A : Around} {outer : List Env} {s : Shared} {H : Hp} (e : Env0 P w K mg base A outer s H) (C : Addr) (us : List Value) (kw : List (Str × Value)) :
    Env0 P w K mg base (A.under (.builtin "type.__call__" ⟨.ref C :: us, kw⟩)) outer s H := ⟨by first | exact e.frames | (simpa [Around.under, Code.envs, Code.isFrame, pushEnvs] using e.frames), e.mod, e.bs, e.bsz, e.funs, e.frf, e.hok, e.bare⟩
theorem Env0.in1 {P : Program} {w : World} {K : PySem.W.Frag} {mg : Str → Option Value} {base : Heap} {A : Around} {outer : List Env} {s : Shared} {H : Hp} (e : Env0 P w K mg base A outer s H) :
    Env0 P w K mg base A.in1 outer s H := ⟨e.frames, e.mod, e.bs, e.bsz, e.funs, e.frf, e.hok, e.bare⟩

section
variable {X : Cx} {pins : List (Addr × Obj)} {σ : St} {H : Hp} {s s' : Shared}
/-- from a body: what a callee wants -/
theorem Inv.env0 (I : Inv X pins σ H s) : Env0 X.prog X.w X.K X.mg X.base X.A X.stack s H :=
  ⟨I.ok.frames, I.ok.mod, I.bs, Nat.le_trans I.ok.bsz I.sz, I.stack, I.stkFree, I.hok, I.bare⟩
/-- behind a call -/
theorem Inv.after {Q : VK} {u : Value} (I : Inv X pins σ H s) (h : CE X.stack X.prog X.w H s Q u s') : EP X pins σ Q u s' := by
  obtain ⟨v, H', os, bare, un, hok, r, q⟩ := h
  obtain ⟨hh, g, d, t, os'⟩ := s'
  obtain rfl : os' = s.os := os
  exact ⟨v, H', I.call (h' := hh) (g' := g) (d' := d) (t' := t) (ch := []) un hok bare (fun b z => absurd z (by simp)), r, q⟩
end

/-! ### calls -/
/-- f(..): the written arguments, then the defaults dvs; E: what is wanted of an exception -/
def tCall (sp : Sp) (dvs : List V) (E : XK) (t : TA) : TE := fun σ H Q => t σ H fun vs H1 => sp (vs ++ dvs) H1 Q E
/-- o.m(..) of an instance of the class at C -/
def tMeth (C : Addr) (m : Str) (sp : Sp) (dvs : List V) (E : XK) (ta : TE) (t : TA) : TE := fun σ H Q => ta σ H fun x H1 => ∃ a dx fs, x = .ref a ∧ H1 a = some (.ins C dx fs) ∧ fs.lookup m = none ∧
  t σ H1 fun vs H2 => sp (x :: (vs ++ dvs)) H2 Q E
/-- C(..): a new instance and its dict, then __init__ -/
def tMake (C : Addr) (sp : Sp) (dvs : List V) (E : XK) (t : TA) : TE := fun σ H Q => t σ H fun vs H1 => ∀ x dx, H1 x = none → H1 dx = none → dx ≠ x →
  sp (.ref x :: (vs ++ dvs)) (upd (upd H1 dx (.own x)) x (.ins C dx [])) (fun v H2 => v = .non ∧ Q (.ref x) H2) E

/-- how the parameters are bound: us the positional arguments, kw the keywords' values by name, ds the defaults that fill up -/
def Binds (K : PySem.W.Frag) (fd : FuncData) (ps : List Str) (ds : List Value) : Prop :=
  ∀ (s : Shared) (us : List Value), K.In s.heap → (us ++ ds).length = ps.length → BindsTo s fd ⟨us, []⟩ (ps.zip (us ++ ds))
/-- every parameter is given -/
theorem Binds.all {K : PySem.W.Frag} {fd : FuncData} {ps : List Str} (h : ∀ us : List Value, us.length = ps.length → bindArgs fd ⟨us, []⟩ = pure (ps.zip us)) : Binds K fd ps [] := fun s us _ hl => by
  rw [List.append_nil] at hl ⊢
  exact .of_eq (h us hl)

/-- an exception of a callee reaches what this body wants of exceptions -/
def Passes (CX : CXT) (X : Cx) (E : XK) : Prop := ∀ (pins : List (Addr × Obj)) (σ : St) (H : Hp) (s : Shared) (e : Value) (s' : Shared), Inv X pins σ H s → CX X.stack H s E e s' → X.xe e s'

section
variable {X : Cx} {CX : CXT} {k : Nat} {f C : Addr} {fd : FuncData} {ps : List Str} {sp : Sp} {dvs : List V} {ds : List Value} {E : XK} {x m : Str} {p pos apos : Pos} {e o : Expr} {es : List Expr} {ta : TE} {t : TA}

/-- the callee runs -/
theorem run_fn {pins : List (Addr × Obj)} {σ : St} {H : Hp} {s : Shared} {Q : VK} {us : List Value} {vs : List V} (F : FnOk X.prog X.w X.K X.mg X.base CX k f fd ps sp) (hr : Room k X.A) (hb : Binds X.K fd ps ds) (hd : Vals dvs ds) (hx : Passes CX X E)
    (I : Inv X pins σ H s) (r : Vals vs us) (h : sp (vs ++ dvs) H Q E) : wpAny (model X.prog X.w) X.A (call (.ref f) us) (EP X pins σ Q) X.xe s := by
  have r2 : Vals (vs ++ dvs) (us ++ ds) := r.append hd
  have hl : (us ++ ds).length = ps.length := by rw [← r2.length]; exact F.len _ _ _ _ h
  refine wpAny_call (codeAny_mono (F.run X.A X.stack s H ⟨us, []⟩ (us ++ ds) (vs ++ dvs) Q E hr I.env0 (hb s us I.kIn hl) r2 h) fun r s' hq => ?_)
  cases r with
  | error e => exact hx pins σ H s e s' I hq
  | ok fl =>
    cases fl with
    | ret u => exact I.after hq
    | next => exact False.elim hq
    | brk => exact False.elim hq
    | cont => exact False.elim hq

theorem pe_call (F : FnOk X.prog X.w X.K X.mg X.base CX k f fd ps sp) (hr : Room k X.A) (hg : Gl X x) (hm : X.mg x = some (.ref f)) (hk : PySem.W.keepIn X.K (.ref f) = true) (hb : Binds X.K fd ps ds) (hd : Vals dvs ds) (hx : Passes CX X E)
    (ha : PA X (e :: es) t) (hdb : (x == ("__debug__" : Str)) = false := by decide) (he : starEach (e :: es) X.env = (false, eval e X.env) :: starEach es X.env := by rfl) (hpl : (backTo pos (starEach es X.env)).any (·.1) = false := by rfl) :
    PE X (.Call (.Name x p) (e :: es) [] pos) (tCall sp dvs E t) := by
  intro pins s σ H Q I h
  refine wpAny_Call_Name_kw (ld_glob I hg hm ?_ hdb)
  refine PySem.W.callWith_K (h₀ := X.base) I.ok.mod.kin hk (thn (ha pos pins s σ H _ I h) fun us s1 ⟨vs, H1, I1, r, q⟩ => ⟨I1.kIn, ?_⟩) he hpl
  exact run_fn F hr hb hd hx I1 r q
/-- o.m(e, ..) -/
theorem pe_meth {pl : Sem Bool} (he : PE X o ta) (c : Cls X.K C) (hm : Meth X.K C m f) (F : FnOk X.prog X.w X.K X.mg X.base CX k f fd ps sp) (hr : Room k X.A) (hb : Binds X.K fd ps ds) (hd : Vals dvs ds) (hx : Passes CX X E) (ha : PA X (e :: es) t)
    (hst : starEach (e :: es) X.env = (false, eval e X.env) :: starEach es X.env := by rfl) (hpl : (backTo pos (starEach es X.env)).any (·.1) = false := by rfl)
    (ht : eval (.Call (.Attribute o m apos) (e :: es) [] pos) X.env = (do
      let ov ← eval o X.env
      standAt apos.atName
      let (f, first) ← holding [ov] (getMethod ov m pl)
      callWith pos f first (backTo pos (starEach (e :: es) X.env)) (backToKw pos (keywordEach [] X.env))) := by rfl) :
    PE X (.Call (.Attribute o m apos) (e :: es) [] pos) (tMeth C m sp dvs E ta t) := by
  intro pins s σ H Q I h
  refine PySem.W.methodCall_KW (pl := pl) (thn (he pins s σ H _ I h) fun u s1 ⟨x, H1, I1, rx, a, dx, fs, ex, ea, l, q⟩ => ?_) ht
  subst ex
  obtain rfl : u = Value.ref a := rx
  refine getmeth_ok I1 ea c hm l ?_
  refine PySem.W.callWith_K (first := [.ref a]) (h₀ := X.base) I.ok.mod.kin hm.kp (thn (ha pos pins s1 σ H1 _ I1 q) fun us s2 ⟨vs, H2, I2, r, q2⟩ => ⟨I2.kIn, ?_⟩) hst hpl
  exact run_fn (us := .ref a :: us) (vs := .ref a :: vs) F hr hb hd hx I2 (.cons rfl r) q2
/-- what a class must have to be made -/
structure Mk (K : PySem.W.Frag) (C f : Addr) : Prop where
  makes : PySem.W.makesIn K C = true
  init : PySem.W.findIn K (.ref C) "__init__" = some (some (.ref f))
  fn : PySem.W.isFn K (.ref f) = true
  kp : PySem.W.keepIn K (.ref C) = true

theorem run_make {pins : List (Addr × Obj)} {σ : St} {H : Hp} {s : Shared} {Q : VK} {us : List Value} {vs : List V} (M : Mk X.K C f) (F : FnOk X.prog X.w X.K X.mg X.base CX k f fd ps sp) (hr : Room (k + 1) X.A) (hb : Binds X.K fd ps ds) (hd : Vals dvs ds)
    (hx : Passes CX X E) (I : Inv X pins σ H s) (r : Vals vs us)
    (h : ∀ x dx, H x = none → H dx = none → dx ≠ x → sp (.ref x :: (vs ++ dvs)) (upd (upd H dx (.own x)) x (.ins C dx [])) (fun v H2 => v = .non ∧ Q (.ref x) H2) E) :
    wpAny (model X.prog X.w) X.A (call (.ref C) us) (EP X pins σ Q) X.xe s := by
  have hq := h (s.heap.objs.size + 1) s.heap.objs.size (I.hok.fresh (Nat.le_succ _)) (I.hok.fresh (Nat.le_refl _)) (Nat.ne_of_lt (Nat.lt_succ_self _))
  have I2 := Inv.made (C := C) I
  have r2 : Vals (V.ref (s.heap.objs.size + 1) :: (vs ++ dvs)) (Value.ref (s.heap.objs.size + 1) :: (us ++ ds)) := .cons rfl (r.append hd)
  have hl : (Value.ref (s.heap.objs.size + 1) :: us ++ ds).length = ps.length := by
    have e := r2.length
    rw [F.len _ _ _ _ hq] at e
    exact e.symm
  refine wpAny_call (make_map (f := f) I.kIn M.makes M.init (beq_iff_eq.mp M.fn) (codeAny_mono (F.run _ X.stack _ _ ⟨Value.ref (s.heap.objs.size + 1) :: us, []⟩ (Value.ref (s.heap.objs.size + 1) :: (us ++ ds)) _ _ E (hr.make C us [])
    (I2.env0.make C us []) (hb _ (Value.ref (s.heap.objs.size + 1) :: us) I2.kIn hl) r2 hq) fun r s' hq' => ?_))
  cases r with
  | error e => exact hx pins σ _ _ e s' I2 hq'
  | ok fl =>
    cases fl with
    | ret u =>
      obtain ⟨v, H', I3, rv, ev, q3⟩ := I2.after hq'
      subst ev
      exact ⟨rv, ⟨V.ref (s.heap.objs.size + 1), H', I3, rfl, q3⟩⟩
    | next => exact False.elim hq'
    | brk => exact False.elim hq'
    | cont => exact False.elim hq'
theorem pe_make (M : Mk X.K C f) (F : FnOk X.prog X.w X.K X.mg X.base CX k f fd ps sp) (hr : Room (k + 1) X.A) (hg : Gl X x) (hm : X.mg x = some (.ref C)) (hb : Binds X.K fd ps ds) (hd : Vals dvs ds) (hx : Passes CX X E)
    (ha : PA X (e :: es) t) (hdb : (x == ("__debug__" : Str)) = false := by decide) (he : starEach (e :: es) X.env = (false, eval e X.env) :: starEach es X.env := by rfl) (hpl : (backTo pos (starEach es X.env)).any (·.1) = false := by rfl) :
    PE X (.Call (.Name x p) (e :: es) [] pos) (tMake C sp dvs E t) := by
  intro pins s σ H Q I h
  refine wpAny_Call_Name_kw (ld_glob I hg hm ?_ hdb)
  refine PySem.W.callWith_K (h₀ := X.base) I.ok.mod.kin M.kp (thn (ha pos pins s σ H _ I h) fun us s1 ⟨vs, H1, I1, r, q⟩ => ⟨I1.kIn, ?_⟩) he hpl
  exact run_make M F hr hb hd hx I1 r q
end

/-! ### keywords -/
section
variable {X : Cx} {CX : CXT} {k : Nat} {f C : Addr} {fd : FuncData} {ps ks : List Str} {sp : Sp} {E : XK} {x m : Str} {p pos apos kpos : Pos} {e o : Expr} {es : List Expr} {kws : List Keyword} {te ta : TE} {t tk : TA} {nm : Option Str}
variable {g : List Value → List Value → List Value} {gV : List V → List V → List V}
end

/-! ### a def's body keeps its promise -/
/-- names: the parameters first -/
structure FnScope (N P : List Str) (sc : Scope) : Prop where
  kind : sc.kind = .function
  co : sc.isCoroutine = false
  gen : sc.isGenerator = false
  nd : N.Nodup
  pre : N.take P.length = P
  par : ∀ x ∈ P, sc.names.lookup x = some .local ∨ sc.names.lookup x = some .cell
  nofree : ∀ y ∈ sc.names, y.2 ≠ .free

theorem bindL_out {kindOf : Str → Option NameKind} {x : Str} : ∀ {binds : List (Str × Value)} {m : Str → Option Value}, (∀ v, (x, v) ∉ binds) → bindL kindOf binds m x = m x
  | [], _, _ => rfl
  | (n, v) :: r, m, h => by
    unfold bindL
    rw [bindL_out fun w hw => h w (List.mem_cons_of_mem _ hw)]
    split
    · have : x ≠ n := by rintro rfl; exact h v List.mem_cons_self
      simp [this]
    · rfl
theorem bindC_out {kindOf : Str → Option NameKind} {x : Str} : ∀ {binds : List (Str × Value)} {m : Str → Option Value}, (∀ v, (x, v) ∉ binds) → bindC kindOf binds m x = m x
  | [], _, _ => rfl
  | (n, v) :: r, m, h => by
    unfold bindC
    rw [bindC_out fun w hw => h w (List.mem_cons_of_mem _ hw)]
    split
    · rfl
    · have : x ≠ n := by rintro rfl; exact h v List.mem_cons_self
      simp [this]
theorem bindL_get {kindOf : Str → Option NameKind} {x : Str} {v : Value} : ∀ {P : List Str} {vs : List Value} {i : Nat} {m : Str → Option Value}, P.Nodup → P[i]? = some x → vs[i]? = some v → kindOf x = some .local →
    bindL kindOf (P.zip vs) m x = some v
  | [], _, _, _, _, h, _, _ => by simp at h
  | _ :: _, [], _, _, _, _, h, _ => by simp at h
  | p :: P, w :: vs, 0, m, nd, h1, h2, hk => by
    simp at h1 h2; subst h1; subst h2
    show bindL kindOf ((p, w) :: P.zip vs) m p = _
    unfold bindL
    rw [bindL_out fun v hv => (List.nodup_cons.mp nd).1 (List.of_mem_zip hv).1, if_pos hk]
    simp
  | p :: P, w :: vs, i + 1, m, nd, h1, h2, hk => by
    show bindL kindOf ((p, w) :: P.zip vs) m x = _
    unfold bindL
    exact bindL_get (i := i) (List.nodup_cons.mp nd).2 (by simpa using h1) (by simpa using h2) hk
theorem bindC_get {kindOf : Str → Option NameKind} {x : Str} {v : Value} : ∀ {P : List Str} {vs : List Value} {i : Nat} {m : Str → Option Value}, P.Nodup → P[i]? = some x → vs[i]? = some v → kindOf x ≠ some .local →
    bindC kindOf (P.zip vs) m x = some v
  | [], _, _, _, _, h, _, _ => by simp at h
  | _ :: _, [], _, _, _, _, h, _ => by simp at h
  | p :: P, w :: vs, 0, m, nd, h1, h2, hk => by
    simp at h1 h2; subst h1; subst h2
    show bindC kindOf ((p, w) :: P.zip vs) m p = _
    unfold bindC
    rw [bindC_out fun v hv => (List.nodup_cons.mp nd).1 (List.of_mem_zip hv).1, if_neg hk]
    simp
  | p :: P, w :: vs, i + 1, m, nd, h1, h2, hk => by
    show bindC kindOf ((p, w) :: P.zip vs) m x = _
    unfold bindC
    exact bindC_get (i := i) (List.nodup_cons.mp nd).2 (by simpa using h1) (by simpa using h2) hk

/-- the names' values at the entry -/
def start (N : List Str) (vs : List V) : St := vs.map some ++ List.replicate (N.length - vs.length) none

/-- the context of a def's body, at its entry; an exception leaves the frame, then lies as CX says -/
def cxOf (CX : CXT) (P : Program) (w : World) (K : PySem.W.Frag) (mg : Str → Option Value) (base : Heap) (N : List Str) (qual : Str) (scope : Scope) (f : Addr) (cd : Value) (A : Around) (outer : List Env) (s : Shared) (H : Hp) (E : XK) : Cx where
  prog := P
  w := w
  K := K
  mg := mg
  base := base
  A := A.deeper (envOfC qual scope s.heap.objs.size f cd)
  N := N
  s_0 := s
  H_0 := H
  env := envOfC qual scope s.heap.objs.size f cd
  outer := outer
  stack := envOfC qual scope s.heap.objs.size f cd :: outer
  ex := []
  calm := true
  fn := fun _ => true
  pn := []
  xe := fun e s' => wpAny (model P w) (A.deeper (envOfC qual scope s.heap.objs.size f cd)) (leaving (envOfC qual scope s.heap.objs.size f cd) e) (fun _ s'' => CX outer H s E e s'') (fun e' s'' => CX outer H s E e' s'') s'

theorem cell_has {sc : Scope} {n : Nat} {x : Str} (h : sc.names.lookup x = some .cell) : ∃ c, (cellsFrom n sc.names []).lookup x = some c := by
  have q := PySem.W.cellsFrom_some sc.names n [] (.inl h)
  exact Option.isSome_iff_exists.mp q

theorem inv_start {CX : CXT} {P : Program} {w : World} {K : PySem.W.Frag} {mg : Str → Option Value} {base : Heap} {N ps : List Str} {qual : Str} {scope : Scope} {f : Addr} {cd : Value} {A : Around} {outer : List Env} {s s1 : Shared} {H : Hp} {E : XK} {us : List Value} {vs : List V}
    (S : FnScope N ps scope) (hd : A.handled = none) (e0 : Env0 P w K mg base A outer s H) (hl : vs.length = ps.length) (r : Vals vs us)
    (x : InCallC s s.heap.objs.size (bindL (envOfC qual scope s.heap.objs.size f cd).kindOf (ps.zip us) fun _ => none) (cellsFrom (s.heap.objs.size + 1) scope.names []) (bindC (envOfC qual scope s.heap.objs.size f cd).kindOf (ps.zip us) fun _ => none) s1) :
    Inv (cxOf CX P w K mg base N qual scope f cd A outer s H E) [] (start N vs) H s1 := by
  have hpl : ps.length ≤ N.length := by have := congrArg List.length S.pre; rw [List.length_take] at this; omega
  obtain ⟨h1, tk, rfl, hk⟩ := x.done
  have noA : ∀ b : Addr, b ∉ (cxOf CX P w K mg base N qual scope f cd A outer s H E).ex := fun b z => absurd (show b ∈ ([] : List Addr) from z) (by simp)
  refine ⟨⟨e0.mod, S.kind, rfl, rfl, Nat.le_refl _, fun y z c h1 h2 => ?_, fun y hy => ?_, fun y c _ h => ?_, fun _ => hd, Around.frames_deeper e0.frames, .inr ⟨rfl, rfl⟩, fun b z => absurd z (noA b), e0.bs, e0.bsz, fun b _ _ => noA b, fun b z => absurd z (noA b), e0.funs, e0.frf⟩,
    rfl, e0.bare, Un.kept hk, ⟨_, x.toInCall.ns, fun i y v h1 h2 h3 => ?_⟩, fun y c h => ⟨_, x.cell y c h⟩, e0.hok.fresh (Nat.le_refl _), fun y c h => ?_, fun p hp => absurd (show p ∈ ([] : List (Addr × Obj)) from hp) (by simp), e0.hok.kept hk, ?_⟩
  · exact name_of_addr x.apart (PySem.mem_of_lookup h1) (PySem.mem_of_lookup h2)
  · have hy : scope.names.lookup y = some .cell ∨ scope.names.lookup y = some .free := hy
    rcases hy with hy | hy
    · exact cell_has hy
    · exact absurd rfl (S.nofree _ (PySem.mem_of_lookup hy))
  · exact Nat.le_of_lt (x.above y c (PySem.mem_of_lookup h))
  · have hi : i < vs.length := by
      unfold start at h2
      by_cases hi : i < vs.length
      · exact hi
      · rw [List.getElem?_append_right (by simpa using hi)] at h2
        rw [List.getElem?_replicate] at h2
        split at h2 <;> cases h2
    have ha : vs[i]? = some v := by
      unfold start at h2
      rw [List.getElem?_append_left (by simpa using hi), List.getElem?_map] at h2
      cases e : vs[i]? with
      | none => rw [e] at h2; cases h2
      | some a => rw [e] at h2; cases h2; rfl
    obtain ⟨u, hu, rv⟩ := r.get ha
    have hp : ps[i]? = some y := by
      rw [← S.pre, List.getElem?_take_of_lt (by omega)]; exact h1
    have ndP : ps.Nodup := by rw [← S.pre]; exact S.nd.sublist (List.take_sublist _ _)
    refine ⟨u, rv, ?_⟩
    rcases S.par y (List.mem_of_getElem? hp) with k | k
    · exact .inl ⟨k, bindL_get ndP hp hu k⟩
    · obtain ⟨c, e⟩ := cell_has (n := s.heap.objs.size + 1) k
      refine .inr ⟨.inl k, c, e, ?_⟩
      have q := x.cell y c e
      rw [bindC_get ndP hp hu (by show scope.names.lookup y ≠ _; rw [k]; decide)] at q
      exact q
  · exact e0.hok.fresh (Nat.le_of_lt (x.above y c (PySem.mem_of_lookup h)))
  · unfold start
    show _ = N.length
    rw [List.length_append, List.length_map, List.length_replicate]
    omega

/-- THE RULE: a def (or a method) of the text, by its body. The body's reading t is chosen for each entry; it is run at the parameters' values -/
theorem fn_of {CX : CXT} {P : Program} {w : World} {K : PySem.W.Frag} {mg : Str → Option Value} {base : Heap} {k : Nat} {f : Addr} {name qual : Str} {params : Arguments} {body : List Stmt} {scope : Scope} {dV kV doc pm cdv ct oc : Value} {an od : Option Addr}
    {osl : Array (Option Value)} {N ps : List Str} {sp : Sp} (lk : K.lookup f = some ⟨oc, od, .func (PySem.W.fnOf name qual params body scope dV kV doc pm an cdv ct), osl⟩) (hcd : PySem.W.codeIn K cdv qual = true) (S : FnScope N ps scope)
    (len : ∀ vs H Q E, sp vs H Q E → vs.length = ps.length)
    (hbody : ∀ (A : Around) (outer : List Env) (s : Shared) (H : Hp) (vs : List V) (Q : VK) (E : XK), Room k (A.deeper (envOfC qual scope s.heap.objs.size f cdv)) → sp vs H Q E →
      ∃ t, PSs (cxOf CX P w K mg base N qual scope f cdv A outer s H E) body t ∧ t { nx := fun _ H' => Q .non H', rt := Q } (start N vs) H) :
    FnOk P w K mg base CX (k + 1) f (PySem.W.fnOf name qual params body scope dV kV doc pm an cdv ct) ps sp := by
  refine ⟨len, fun A outer s H args us vs Q E hr e0 hb r hsp => ?_⟩
  have hl := len _ _ _ _ hsp
  have KX : K.In s.heap := e0.mod.kin.keeps fun b o e => (e0.bs b o e).1
  have lim : s.heap.NoLimit := e0.mod.nolimit.keeps fun b o e => (e0.bs b o e).1
  have hkind : ∀ y ∈ ps.zip us, scope.names.lookup y.1 = some .local ∨ (scope.names.lookup y.1 = some .cell ∧ ((cellsFrom (s.heap.objs.size + 1) scope.names []).lookup y.1).isSome = true) := fun ⟨n, v⟩ hy => by
    rcases S.par n (List.of_mem_zip hy).1 with q | q
    · exact .inl q
    · exact .inr ⟨q, PySem.W.cellsFrom_some _ _ _ (.inl q)⟩
  refine codeAny_call_function hr.depth (KX _ _ lk) rfl S.co S.gen rfl (PySem.W.codeRec_of KX hcd) (hb _ _ _ _ ?_)
  refine wpAny_newFunctionEnv_cells S.kind hkind fun env he s1 x => ?_
  subst he
  refine ⟨lim.keeps x.toInCall.keep, codeAny_func ?_⟩
  obtain ⟨t, ht, hq⟩ := hbody A outer s H vs Q E (hr.deeper _) hsp
  have I : Inv (cxOf CX P w K mg base N qual scope f cdv A outer s H E) [] (start N vs) H s1 := inv_start S hr.hd e0 hl r x
  refine wpAny_mono (ht [] s1 (start N vs) H _ I hq) (fun fl s' hs => ?_) fun e s' hs => hs
  have fin : ∀ {σ' : St} {H' : Hp} {v : V} {u : Value}, Inv (cxOf CX P w K mg base N qual scope f cdv A outer s H E) [] σ' H' s' → RelV v u → Q v H' → CE outer P w H s Q u s' :=
    fun {σ' H' v u} J rv q => ⟨v, H', J.os, J.bare, J.base, J.hok, rv, q⟩
  cases fl with
  | ret u =>
    obtain ⟨v, σ', H', J, rv, q⟩ := hs
    exact fin J rv q
  | next =>
    obtain ⟨σ', H', J, q⟩ := hs
    exact fin (v := V.non) (u := Value.none) J rfl q
  | brk =>
    obtain ⟨_, _, _, q⟩ := hs
    exact False.elim q
  | cont =>
    obtain ⟨_, _, _, q⟩ := hs
    exact False.elim q
end L2

namespace L2
open PySem PySem.Spec PyProof.Rows
section
variable {X : Cx} {x : Str} {p pos : Pos} {e : Expr} {es : List Expr} {t : TA} {id T : String} {r : List V → Hp → VK → Prop}

def tCB (r : List V → Hp → VK → Prop) (t : TA) : TE := fun σ H Q => t σ H fun vs H1 => r vs H1 Q
/-- f(e, ..), f a built-in function -/
theorem pe_callB (hc : CallR X (.builtin id) r) (hg : Gl X x) (hm : X.mg x = none) (hv : bootBuiltins x = some (.builtin id)) (ha : PA X (e :: es) t) (hn : x ≠ "__name__" := by decide) (hdb : (x == ("__debug__" : Str)) = false := by decide)
    (he : starEach (e :: es) X.env = (false, eval e X.env) :: starEach es X.env := by rfl) (hpl : (backTo pos (starEach es X.env)).any (·.1) = false := by rfl) : PE X (.Call (.Name x p) (e :: es) [] pos) (tCB r t) := by
  intro pins s σ H Q I h
  refine wpAny_Call_Name_kw (ld_blt I hg hm hv ?_ hn hdb)
  exact PyProof.Rows.callWith_builtin1 (thn (ha pos pins s σ H _ I h) fun us s1 ⟨vs, H1, I1, r1, q1⟩ => hc pins s1 σ H1 vs us Q I1 r1 q1) he hpl
end
end L2

namespace HT
open PySem PyProof.Rows

section
open PySem.SeqAt
open PySem.AutoSeq1 (wpAny_loadPart')
open PySem.MeetsSeq PySem.MeetsSeq2 PySem.MeetsSeq3

end

section
variable {prog : Program} {w : World} {A : Around} {E : Value → Shared → Prop} {s : Shared}

/-! ### t[a:b], not the whole -/
end
end HT

namespace L2
open PySem PySem.Spec PyProof.Rows

/-! ### the parts of a slice -/
abbrev TO := St → Hp → (Option Int → Hp → Prop) → Prop
section
variable {X : Cx} {e : Expr} {te : TE} {lo hi : Option Expr} {tl th : TO} {pos p2 : Pos}

/-- what a slice of a value is, by values: the slice object stands at sl -/
def SlR (X : Cx) (r : V → Option Int → Option Int → Hp → VK → Prop) : Prop :=
  ∀ (pins : List (Addr × Obj)) (s : Shared) (σ : St) (H : Hp) (x : V) (v vl vu : Value) (lo hi : Option Int) (sl : Addr) (Q : VK), Inv X pins σ H s → RelV x v → s.heap.IsSliceOf sl vl vu .none → IsPart vl lo → IsPart vu hi → r x lo hi H Q →
    ∃ T id, typeLookup (.type T) "__getitem__" = pure (some (.builtin id)) ∧ s.TypeIs v T ∧ wpAny (model X.prog X.w) X.A (getItem v (.ref sl)) (EP X pins σ Q) X.xe s
theorem SlR.or {r r' : V → Option Int → Option Int → Hp → VK → Prop} (h : SlR X r) (h' : SlR X r') : SlR X (fun x lo hi H Q => r x lo hi H Q ∨ r' x lo hi H Q) := by
  intro pins s σ H x v vl vu lo hi sl Q I rx hs pl pu q
  rcases q with q | q
  · exact h pins s σ H x v vl vu lo hi sl Q I rx hs pl pu q
  · exact h' pins s σ H x v vl vu lo hi sl Q I rx hs pl pu q
/-! ### t < u, t + u -/
end
end L2

namespace L2
open PySem PySem.Spec PyProof.Rows

/-! ### places -/
/-- the place that an index of any sign means -/
def ixN (n : Nat) (i : Int) : Option Nat := if 0 ≤ i then (if i < n then some i.toNat else none) else if -(n : Int) ≤ i then some (i + n).toNat else none
def atI {α : Type} (xs : List α) (i : Int) : Option α := (ixN xs.length i).bind fun j => xs[j]?
theorem ixN_seq {n : Nat} {i : Int} {j : Nat} (h : ixN n i = some j) : seqIndex? i n = some j ∧ j < n ∧ -(n : Int) ≤ i ∧ i < n := by
  unfold ixN at h
  by_cases h0 : 0 ≤ i
  · rw [if_pos h0] at h
    by_cases h1 : i < n
    · rw [if_pos h1] at h
      have e : i.toNat = j := Option.some.inj h
      exact ⟨by rw [seqIndex_of h0 h1, e], by omega, by omega, h1⟩
    · rw [if_neg h1] at h; cases h
  · rw [if_neg h0] at h
    by_cases h1 : -(n : Int) ≤ i
    · rw [if_pos h1] at h
      have e : (i + n).toNat = j := Option.some.inj h
      exact ⟨by rw [seqIndex_neg (by omega) h1, e], by omega, h1, by omega⟩
    · rw [if_neg h1] at h; cases h
theorem atI_get {α : Type} {xs : List α} {i : Int} {v : α} (h : atI xs i = some v) : ∃ j, seqIndex? i xs.length = some j ∧ xs[j]? = some v ∧ j < xs.length ∧ -(xs.length : Int) ≤ i ∧ i < xs.length := by
  unfold atI at h
  cases e : ixN xs.length i with
  | none => rw [e] at h; cases h
  | some j =>
    rw [e] at h
    obtain ⟨h1, h2, h3, h4⟩ := ixN_seq e
    exact ⟨j, h1, h, h2, h3, h4⟩
theorem atI_nat {α : Type} {xs : List α} {j : Nat} {v : α} (h : xs[j]? = some v) : atI xs (j : Int) = some v := by
  have hj : j < xs.length := (List.getElem?_eq_some_iff.mp h).1
  have e : ixN xs.length (j : Int) = some j := by
    unfold ixN
    rw [if_pos (by omega), if_pos (by omega)]; simp
  unfold atI; rw [e]; exact h
/-! ### what may be subscripted -/
/-- what stands as an index of a plain subscript -/
def PlainIx (b : Expr) : Prop := ∀ o i, subscripted b false o i = operate [o, i] (getItem o i)
/-- a subscript by values -/
def IxR (X : Cx) (r : R2) : Prop :=
  ∀ (value slice : Expr) (pins : List (Addr × Obj)) (s : Shared) (σ : St) (H : Hp) (x y : V) (v u : Value) (Q : VK), Inv X pins σ H s → RelV x v → RelV y u → r x y H Q →
    subscripted slice false v u = operate [v, u] (getItem v u) → wpAny (model X.prog X.w) X.A (subscriptTail value slice v u) (EP X pins σ Q) X.xe s
/-- a call of a builtin's method by values: the receiver, the arguments -/
def MtR (X : Cx) (id : String) (r : V → List V → Hp → VK → Prop) : Prop :=
  ∀ (pins : List (Addr × Obj)) (s : Shared) (σ : St) (H : Hp) (x : V) (xs : List V) (v : Value) (us : List Value) (Q : VK), Inv X pins σ H s → RelV x v → Vals xs us → r x xs H Q →
    wpAny (model X.prog X.w) X.A (call (.builtin id) (v :: us)) (EP X pins σ Q) X.xe s
section
variable {X : Cx} {a b : Expr} {ta tb : TE} {pos : Pos}
theorem IxR.or {r r' : R2} (h : IxR X r) (h' : IxR X r') : IxR X (fun x y H Q => r x y H Q ∨ r' x y H Q) := by
  intro value slice pins s σ H x y v u Q I rx ry q hs
  rcases q with q | q
  · exact h value slice pins s σ H x y v u Q I rx ry q hs
  · exact h' value slice pins s σ H x y v u Q I rx ry q hs
theorem MtR.or {id : String} {r r' : V → List V → Hp → VK → Prop} (h : MtR X id r) (h' : MtR X id r') : MtR X id (fun x xs H Q => r x xs H Q ∨ r' x xs H Q) := by
  intro pins s σ H x xs v us Q I rx rs q
  rcases q with q | q
  · exact h pins s σ H x xs v us Q I rx rs q
  · exact h' pins s σ H x xs v us Q I rx rs q
/-- a[b] -/
theorem pe_ix {r : R2} (hr : IxR X r) (ha : PE X a ta) (hb : PE X b tb) (hs : PlainIx b) : PE X (.Subscript a b pos) (tOp r ta tb) := by
  intro pins s σ H Q I h
  exact Subscript_ (binT ha hb I h fun v u s2 x y H2 I2 rx ry q => hr a b pins s2 σ H2 x y v u Q I2 rx ry q (hs _ _))

def rIxL (K : PySem.W.Frag) : R2 := fun x y H Q => ∃ p xs i v, x = .ref p ∧ y = .int i ∧ SqL K H p xs ∧ atI xs i = some v ∧ Q v H
def rIxT (K : PySem.W.Frag) : R2 := fun x y H Q => ∃ p xs i v, x = .ref p ∧ y = .int i ∧ SqT K H p xs ∧ atI xs i = some v ∧ Q v H
theorem ix_list : IxR X (rIxL X.K) := by
  intro value slice pins s σ H x y v u Q I rx ry h hs
  obtain ⟨p, xs, i, z, rfl, rfl, hq, he, q⟩ := h
  cases rx
  obtain ⟨t, rfl⟩ := ry
  obtain ⟨its, r, pl, hz⟩ := I.list hq
  obtain ⟨j, h1, h2, h3, h4, h5⟩ := atI_get he
  obtain ⟨w, ew, rw'⟩ := r.get h2
  have hl := r.length
  have hn := line63
  have fin : EP X pins σ Q w s := ⟨z, H, I, rw', q⟩
  by_cases h0 : 0 ≤ i
  · have hj : i.toNat = j := by
      rw [seqIndex_of h0 h5] at h1
      exact Option.some.inj h1
    exact item_listR pl.isList h0 (by omega) (by rw [hj]; simpa using ew) fin hs
  · have hj : (i + (its.toArray.size : Int)).toNat = j := by
      rw [seqIndex_neg (by omega) h4] at h1
      rw [List.size_toArray, ← hl]
      exact Option.some.inj h1
    exact subscriptTail_builtinR (x := w) pl.isList.typeIs slot_list_getitem.lookup
      (wpAny_getItem_list_neg (Q := fun r s' => r = w ∧ EP X pins σ Q r s') pl.isList (by omega) (by rw [List.size_toArray] <;> omega) (by omega) (by rw [hj]; simpa using ew) ⟨rfl, fin⟩) hs
theorem ix_tup : IxR X (rIxT X.K) := by
  intro value slice pins s σ H x y v u Q I rx ry h hs
  obtain ⟨p, xs, i, z, rfl, rfl, hq, he, q⟩ := h
  cases rx
  obtain ⟨t, rfl⟩ := ry
  obtain ⟨its, r, pl, hz⟩ := I.tuple hq
  obtain ⟨j, h1, h2, h3, h4, h5⟩ := atI_get he
  obtain ⟨w, ew, rw'⟩ := r.get h2
  have hl := r.length
  have hn := line63
  have fin : EP X pins σ Q w s := ⟨z, H, I, rw', q⟩
  exact subscriptTail_builtinR (x := w) pl.typeIs slot_tuple_getitem.lookup
    (getItem_tuple (j := j) (Q := fun r s' => r = w ∧ EP X pins σ Q r s') pl (by omega) (by omega) (by rw [List.size_toArray, ← hl]; exact h1) (by simpa using ew) ⟨rfl, fin⟩) hs
/-! ### xs[i] = v, any sign -/
/-- the list's object behind a store -/
theorem mapSeq_set (its : List Value) (n j : Nat) (u : Value) : Obj.mapSeq (·.setIfInBounds j u) { cls := .type "list", data := .seq its.toArray n } = { cls := .type "list", data := .seq (its.set j u).toArray n } := by
  simp [Obj.mapSeq]
theorem Inv.lst {pins : List (Addr × Obj)} {σ : St} {H : Hp} {s : Shared} {p : Addr} {xs : List V} (I : Inv X pins σ H s) (h : H p = some (.lst xs)) :
    ∃ (its : List Value) (n : Nat), Vals xs its ∧ s.heap.get? p = some { cls := .type "list", data := .seq its.toArray n } ∧ xs.length ≤ sizeLine := by
  obtain ⟨z, its, n, r, e⟩ := I.hok p _ h
  exact ⟨its, n, r, e, z⟩
/-- the list at p is written by an update of its object -/
theorem Inv.lstUpd {pins : List (Addr × Obj)} {σ : St} {H : Hp} {s : Shared} {p : Addr} {xs ys : List V} {its its' : List Value} {n n' : Nat} {f : Obj → Obj} (I : Inv X pins σ H s) (h : H p = some (.lst xs))
    (ho : s.heap.get? p = some { cls := .type "list", data := .seq its.toArray n }) (hf : f { cls := .type "list", data := .seq its.toArray n } = { cls := .type "list", data := .seq its'.toArray n' }) (r : Vals ys its') (hz : ys.length ≤ sizeLine) (t : Nat) :
    Inv X pins σ (upd H p (.lst ys)) { s with heap := s.heap.update p f, toks := t } := by
  have e : (s.heap.update p f).get? p = some { cls := .type "list", data := .seq its'.toArray n' } := by
    rw [Heap.get?_update_self f ho (by rw [hf] <;> rfl), hf]
  refine I.write (x := p) (e := p) (by rw [h]; trivial) (.inl rfl) (fun b u hb q => (Heap.get?_update_other _ _ (Ne.symm hb)).trans q) ⟨_, e⟩ ?_
  exact ⟨hz, its', n', r, e⟩
def rSetL : V → V → V → Hp → (Hp → Prop) → Prop := fun o i v H Q => ∃ p xs k j, o = .ref p ∧ i = .int k ∧ H p = some (.lst xs) ∧ ixN xs.length k = some j ∧ Q (upd H p (.lst (xs.set j v)))
theorem set_list : PSet X rSetL := by
  intro pins s σ H o i v ov iv u Q I ro ri rv h
  obtain ⟨p, xs, k, j, rfl, rfl, hp, hj, q⟩ := h
  cases ro
  obtain ⟨t, rfl⟩ := ri
  obtain ⟨its, n, r, ho, hz⟩ := I.lst hp
  obtain ⟨h1, h2, h3, h4⟩ := ixN_seq hj
  have hl := r.length
  have hn := line63
  have I' : Inv X pins σ (upd H p (.lst (xs.set j v))) { s with heap := s.heap.update p (Obj.mapSeq (·.setIfInBounds j u)) } :=
    I.lstUpd hp ho (mapSeq_set its n j u) (r.set rv j) (by rw [List.length_set]; exact hz) s.toks
  by_cases h0 : 0 ≤ k
  · have hk : k.toNat = j := by
      rw [seqIndex_of h0 h4] at h1
      exact Option.some.inj h1
    exact PySem.W.ki_setAt ho h0 (by omega) (by rw [List.size_toArray, ← hl]; exact h4) (by rw [hk]; exact ⟨_, I', q⟩)
  · have hk : (k + (its.toArray.size : Int)).toNat = j := by
      rw [seqIndex_neg (by omega) h3] at h1
      rw [List.size_toArray, ← hl]
      exact Option.some.inj h1
    exact PySem.W.ki_setBack ho (by omega) (by rw [List.size_toArray, ← hl]; exact h3) (by omega) (by rw [hk]; exact ⟨_, I', q⟩)

/-! ### slices -/
/-! ### in, not in: flat items -/
def flatV : V → Bool
  | .non => true
  | .bl _ => true
  | .int _ => true
  | .str _ => true
  | _ => false
/-- == of flat values -/
def eqV : V → V → Bool
  | .non, .non => true
  | .bl a, .bl b => a == b
  | .bl a, .int b => (if a then 1 else 0) == b
  | .int a, .bl b => a == (if b then 1 else 0)
  | .int a, .int b => a == b
  | .str a, .str b => a == b
  | _, _ => false
theorem eqAt_V {A : Around} {s : Shared} {y x : V} {u v : Value} (ry : RelV y u) (rx : RelV x v) (fy : flatV y = true) (fx : flatV x = true) : SeqAt.EqAt A s u v (eqV y x) := by
  cases y with
  | non =>
    cases ry
    cases x with
    | non => cases rx; exact SeqAt.EqAt.same _
    | bl b => cases rx; exact SeqAt.EqAt.none_bool b
    | int b => obtain ⟨t, rfl⟩ := rx; exact SeqAt.EqAt.none_int b t
    | str b => obtain ⟨t, rfl⟩ := rx; exact SeqAt.EqAt.none_str b t
    | _ => exact absurd (show false = true from fx) Bool.false_ne_true
  | bl a =>
    cases ry
    cases x with
    | non => cases rx; exact SeqAt.EqAt.bool_none a
    | bl b => cases rx; exact SeqAt.EqAt.bool_bool a b
    | int b => obtain ⟨t, rfl⟩ := rx; exact SeqAt.EqAt.bool_int a b t
    | str b => obtain ⟨t, rfl⟩ := rx; exact SeqAt.EqAt.bool_str a b t
    | _ => exact absurd (show false = true from fx) Bool.false_ne_true
  | int a =>
    obtain ⟨t', rfl⟩ := ry
    cases x with
    | non => cases rx; exact SeqAt.EqAt.int_none a t'
    | bl b => cases rx; exact SeqAt.EqAt.int_bool a t' b
    | int b => obtain ⟨t, rfl⟩ := rx; exact SeqAt.EqAt.int_int a t' b t
    | str b => obtain ⟨t, rfl⟩ := rx; exact SeqAt.EqAt.int_str a t' b t
    | _ => exact absurd (show false = true from fx) Bool.false_ne_true
  | str a =>
    obtain ⟨t', rfl⟩ := ry
    cases x with
    | non => cases rx; exact SeqAt.EqAt.str_none a t'
    | bl b => cases rx; exact SeqAt.EqAt.str_bool a t' b
    | int b => obtain ⟨t, rfl⟩ := rx; exact SeqAt.EqAt.str_int a t' b t
    | str b => obtain ⟨t, rfl⟩ := rx; exact SeqAt.EqAt.str_str a t' b t
    | _ => exact absurd (show false = true from fx) Bool.false_ne_true
  | _ => exact absurd (show false = true from fy) Bool.false_ne_true
/-- the items' answers, read off the values (a value's own answer does not lean on its token) -/
def eqU (x : V) (u : Value) : Bool := match u with
  | .none => eqV .non x
  | .bool b => eqV (.bl b) x
  | .int i _ => eqV (.int i) x
  | .str z _ => eqV (.str z) x
  | _ => false
theorem eqU_of {x y : V} {u : Value} (r : RelV y u) (f : flatV y = true) : eqU x u = eqV y x := by
  cases y with
  | non => cases r; rfl
  | bl b => cases r; rfl
  | int i => obtain ⟨t, rfl⟩ := r; rfl
  | str z => obtain ⟨t, rfl⟩ := r; rfl
  | _ => exact absurd (show false = true from f) Bool.false_ne_true
theorem any_eqU {x : V} : ∀ {xs : List V} {us : List Value}, Vals xs us → xs.all flatV = true → us.any (eqU x) = xs.any fun y => eqV y x
  | _, _, .nil, _ => rfl
  | y :: xs, u :: us, .cons r t, f => by
    rw [List.all_cons, Bool.and_eq_true] at f
    rw [List.any_cons, List.any_cons, eqU_of r f.1, any_eqU t f.2]
theorem mem_eqAt {A : Around} {s : Shared} {x : V} {v : Value} (rx : RelV x v) (fx : flatV x = true) : ∀ {xs : List V} {us : List Value}, Vals xs us → xs.all flatV = true → ∀ u ∈ us, SeqAt.EqAt A s u v (eqU x u)
  | _, _, .nil, _ => fun u hu => by cases hu
  | y :: xs, u :: us, .cons r t, f => fun u' hu => by
    rw [List.all_cons, Bool.and_eq_true] at f
    rcases List.mem_cons.mp hu with rfl | hu
    · rw [eqU_of r f.1]; exact eqAt_V r rx f.1 fx
    · exact mem_eqAt rx fx t f.2 u' hu
def inV (x : V) (xs : List V) : Bool := xs.any fun y => eqV y x
/-- x in a list or tuple of flat items -/
def rIn (K : PySem.W.Frag) (neg : Bool) : R2 := fun x y H Q => ∃ p xs, y = .ref p ∧ (SqL K H p xs ∨ SqT K H p xs) ∧ flatV x = true ∧ xs.all flatV = true ∧ Q (.bl (if neg then !inV x xs else inV x xs)) H
theorem op_in_seq : OpR X (compareOp .In) (rIn X.K false) := by
  intro pins s σ H x y v u Q I rx ry h
  obtain ⟨p, xs, rfl, hq, fx, fs, q⟩ := h
  cases ry
  rcases hq with hq | hq
  · obtain ⟨its, r, pl, hz⟩ := I.list hq
    refine SeqAt.in_listAt (eqU x) pl.isList (fun w hw => mem_eqAt rx fx r fs w (by simpa using hw)) ⟨.bl _, H, I, rfl, ?_⟩
    rw [show its.toArray.any (eqU x) = its.any (eqU x) by simp, any_eqU r fs]
    exact q
  · obtain ⟨its, r, pl, hz⟩ := I.tuple hq
    refine SeqAt.in_tupleAt (eqU x) pl (fun w hw => mem_eqAt rx fx r fs w (by simpa using hw)) ⟨.bl _, H, I, rfl, ?_⟩
    rw [show its.toArray.any (eqU x) = its.any (eqU x) by simp, any_eqU r fs]
    exact q
theorem op_notIn_seq : OpR X (compareOp .NotIn) (rIn X.K true) := by
  intro pins s σ H x y v u Q I rx ry h
  obtain ⟨p, xs, rfl, hq, fx, fs, q⟩ := h
  cases ry
  rcases hq with hq | hq
  · obtain ⟨its, r, pl, hz⟩ := I.list hq
    refine SeqAt.notIn_listAt (eqU x) pl.isList (fun w hw => mem_eqAt rx fx r fs w (by simpa using hw)) ⟨.bl _, H, I, rfl, ?_⟩
    rw [show its.toArray.any (eqU x) = its.any (eqU x) by simp, any_eqU r fs]
    exact q
  · obtain ⟨its, r, pl, hz⟩ := I.tuple hq
    refine SeqAt.notIn_tupleAt (eqU x) pl (fun w hw => mem_eqAt rx fx r fs w (by simpa using hw)) ⟨.bl _, H, I, rfl, ?_⟩
    rw [show its.toArray.any (eqU x) = its.any (eqU x) by simp, any_eqU r fs]
    exact q
/-! ### len, list(x), tuple(x) of any list or tuple that is read -/
theorem call_len_seq : CallR X (.builtin "len") (fun xs H Q => ∃ p ys, xs = [.ref p] ∧ (SqL X.K H p ys ∨ SqT X.K H p ys) ∧ Q (.int ys.length) H) := by
  intro pins s σ H xs us Q I r h
  obtain ⟨p, ys, rfl, hq, q⟩ := h
  obtain ⟨u, rfl, rx⟩ := vals1 r
  cases rx
  have hn := line63
  rcases hq with hq | hq
  · obtain ⟨its, r', pl, hz⟩ := I.list hq
    have hlen := r'.length
    exact Calls.call_len_list pl.isList (by simp only [List.size_toArray] <;> omega) ⟨.int ys.length, H, I.tok _, ⟨s.toks + 1, by rw [List.size_toArray, hlen]⟩, q⟩
  · obtain ⟨its, r', pl, hz⟩ := I.tuple hq
    have hlen := r'.length
    exact len_tuple pl (by simp only [List.size_toArray] <;> omega) ⟨.int ys.length, H, I.tok _, ⟨s.toks + 1, by rw [List.size_toArray, hlen]⟩, q⟩
theorem CallR.or {f : Value} {r r' : List V → Hp → VK → Prop} (h : CallR X f r) (h' : CallR X f r') : CallR X f (fun xs H Q => r xs H Q ∨ r' xs H Q) := by
  intro pins s σ H xs us Q I rs q
  rcases q with q | q
  · exact h pins s σ H xs us Q I rs q
  · exact h' pins s σ H xs us Q I rs q
/-! ### the call of a builtin's method: o.m(..) -/
/-- the value is of that builtin type -/
def tyV (K : PySem.W.Frag) (T : String) (x : V) (H : Hp) : Prop := match x with
  | .str _ => T = "str"
  | .int _ => T = "int"
  | .ref p => (T = "list" ∧ ∃ xs, SqL K H p xs) ∨ (T = "tuple" ∧ ∃ o, K.lookup p = some o ∧ o.cls = .type "tuple" ∧ o.dict = none) ∨
      (T = "dict" ∧ ((∃ kvs, H p = some (.dK kvs)) ∨ ∃ kvs, H p = some (.dT kvs))) ∨ (T = "set" ∧ ∃ S n, H p = some (.set S n))
  | _ => False
theorem tyV_is {pins : List (Addr × Obj)} {σ : St} {H : Hp} {s : Shared} {T : String} {x : V} {v : Value} (I : Inv X pins σ H s) (r : RelV x v) (ty : tyV X.K T x H) :
    s.TypeIs v T ∧ ∀ a, v = .ref a → ∃ ob, s.heap.get? a = some ob ∧ ob.dict = none := by
  cases x with
  | str z =>
    obtain ⟨t, rfl⟩ := r
    cases (show T = "str" from ty)
    exact ⟨typeIs_str s z t, fun _ e => nomatch e⟩
  | int i =>
    obtain ⟨t, rfl⟩ := r
    cases (show T = "int" from ty)
    exact ⟨typeIs_int s i t, fun _ e => nomatch e⟩
  | ref p =>
    cases r
    rcases ty with ⟨rfl, xs, hq⟩ | ⟨rfl, o, hk, hc, hd⟩ | ⟨rfl, hk⟩ | ⟨rfl, S, n, hk⟩
    · obtain ⟨its, _, pl, _⟩ := I.list hq
      refine ⟨pl.isList.typeIs, fun a e => ?_⟩
      cases e
      obtain ⟨o, n, e, c, hd, _⟩ := pl
      exact ⟨o, e, hd⟩
    · refine ⟨⟨o, I.kIn p o hk, hc⟩, fun a e => ?_⟩
      cases e
      exact ⟨o, I.kIn _ o hk, hd⟩
    · have z : ∃ o, s.heap.get? p = some o ∧ o.ExactDict := by
        rcases hk with ⟨kvs, hk⟩ | ⟨kvs, hk⟩
        · obtain ⟨_, _, _, _, o, _, _, e, ex, _⟩ := I.hok p _ hk
          exact ⟨o, e, ex⟩
        · obtain ⟨_, _, _, _, o, _, _, e, ex, _⟩ := I.hok p _ hk
          exact ⟨o, e, ex⟩
      obtain ⟨o, e, ex⟩ := z
      refine ⟨⟨o, e, ex.1⟩, fun a e2 => ?_⟩
      cases e2
      exact ⟨o, e, ex.2.1⟩
    · obtain ⟨o, _, _, _, e, ex, _⟩ := I.hok p _ hk
      refine ⟨⟨o, e, ex.1⟩, fun a e2 => ?_⟩
      cases e2
      exact ⟨o, e, ex.2.1⟩
  | _ => exact False.elim ty
def tBM (K : PySem.W.Frag) (T : String) (r : V → List V → Hp → VK → Prop) (to : TE) (t : TA) : TE := fun σ H Q => to σ H fun x H1 => tyV K T x H1 ∧ t σ H1 fun xs H2 => r x xs H2 Q
variable {o e : Expr} {es : List Expr} {to : TE} {t : TA} {name : Str} {apos cpos : Pos} {T id : String} {r : V → List V → Hp → VK → Prop}
theorem pe_bm (pa : PlainAttrs T) (slot : Slot T name id) (hty : typeOf (.builtin id) = pure (.type "method_descriptor")) (hm : MtR X id r) (ho : PE X o to) (ha : PA X (e :: es) t)
    (hbase : attributeBase o name X.env (eval o X.env) = eval o X.env := by rfl)
    (hfew : ((backTo cpos (starEach (e :: es) X.env)).all (fun x => !x.1) && (backToKw cpos (keywordEach [] X.env)).all (fun x => x.1.isSome)
      && decide ((e :: es).length + ([] : List Keyword).length + (if ([] : List Keyword).isEmpty then 0 else 1) < 30)) = true := by rfl)
    (hline : (apos.endLine == cpos.line) = true := by rfl) (hs : starEach (e :: es) X.env = (false, eval e X.env) :: starEach es X.env := by rfl) (hplain : (backTo cpos (starEach es X.env)).any (·.1) = false := by rfl) :
    PE X (.Call (.Attribute o name apos) (e :: es) [] cpos) (tBM X.K T r to t) := by
  intro pins s σ H Q I h
  refine wpAny_Call_method_late hbase hfew hline rfl (thn (ho pins s σ H _ I h) fun v s1 ⟨x, H1, I1, r1, ty, q1⟩ => ?_)
  obtain ⟨h1, h2⟩ := tyV_is I1 r1 ty
  refine ⟨T, id, pa, slot, hty, h1, h2, ?_⟩
  have hA := ha cpos pins s1 σ H1 _ I1 q1
  rw [hs] at hA ⊢
  refine Calls.callWith_builtin (by show (false || (backTo cpos (starEach es X.env)).any (·.1)) = false; rw [hplain] <;> rfl) (Calls.evalArgs_plain ?_)
  exact thn hA fun us s2 ⟨vs, H2, I2, r2, q2⟩ => hm pins s2 σ H2 x vs v us Q I2 r1 r2 q2
/- xs.append(e), list.index on a module's tuple .. are MtR facts of 06m -/
end
end L2

namespace L2
open PySem PySem.Spec PyProof.Rows

def MtM (X : Cx) (id : String) (r : V → List V → Hp → VK → Prop) : Prop :=
  ∀ (pins : List (Addr × Obj)) (s : Shared) (σ : St) (H : Hp) (x : V) (xs : List V) (v : Value) (us : List Value) (Q : VK), Inv X pins σ H s → RelV x v → Vals xs us → r x xs H Q →
    wpAny (model X.prog X.w) X.A (call (.builtin id) (v :: us)) (EP X pins σ Q) X.xe s

/-! ### lists of values -/
theorem Vals.one : ∀ {x : V} {us : List Value}, Vals [x] us → ∃ u, us = [u] ∧ RelV x u
  | _, _, .cons r .nil => ⟨_, rfl, r⟩
theorem Vals.two : ∀ {x y : V} {us : List Value}, Vals [x, y] us → ∃ u v, us = [u, v] ∧ RelV x u ∧ RelV y v
  | _, _, _, .cons r (.cons q .nil) => ⟨_, _, rfl, r, q⟩
theorem Vals.zero : ∀ {us : List Value}, Vals [] us → us = []
  | _, .nil => rfl
theorem Vals.eraseIdx : ∀ {xs : List V} {us : List Value} (i : Nat), Vals xs us → Vals (xs.eraseIdx i) (us.eraseIdx i)
  | _, _, _, .nil => .nil
  | _, _, 0, .cons _ t => t
  | _, _, i + 1, .cons r t => .cons r (Vals.eraseIdx i t)
theorem Vals.rep {xs : List V} {us : List Value} (h : Vals xs us) : ∀ k : Nat, Vals (List.replicate k xs).flatten (List.replicate k us).flatten
  | 0 => .nil
  | k + 1 => by
    rw [List.replicate_succ, List.replicate_succ, List.flatten_cons, List.flatten_cons]
    exact Vals.append h (Vals.rep h k)
theorem len_erase {α : Type} : ∀ (l : List α) (i : Nat), (l.eraseIdx i).length ≤ l.length
  | [], _ => Nat.le_refl _
  | _ :: _, 0 => Nat.le_succ _
  | _ :: r, i + 1 => Nat.succ_le_succ (len_erase r i)
theorem foldl_rep (its : List Value) : ∀ (k : Nat) (acc : List Value),
    List.foldl (fun x1 x2 => x1 ++ x2) acc.toArray (List.replicate k its.toArray) = (acc ++ (List.replicate k its).flatten).toArray
  | 0, acc => by simp
  | k + 1, acc => by
    have e : acc.toArray ++ its.toArray = (acc ++ its).toArray := by simp
    have e2 : (acc ++ its) ++ (List.replicate k its).flatten = acc ++ (List.replicate (k + 1) its).flatten := by
      rw [List.replicate_succ, List.flatten_cons, List.append_assoc]
    rw [← e2, ← foldl_rep its k (acc ++ its), ← e, List.replicate_succ, List.foldl_cons]

section
variable {X : Cx} {pins : List (Addr × Obj)} {σ : St} {H : Hp} {s : Shared} {l b : Addr} {xs ys zs : List V}

/-! ### the two steps: a tracked list is rewritten, a new list is laid -/
theorem Inv.lset {its its' : List Value} {n : Nat} {f : Array Value → Array Value} {t' : Nat} (I : Inv X pins σ H s) (hH : H l = some (.lst xs))
    (e : s.heap.get? l = some { cls := .type "list", data := .seq its.toArray n }) (hf : f its.toArray = its'.toArray) (hv : Vals ys its') (hz : ys.length ≤ sizeLine) :
    Inv X pins σ (upd H l (.lst ys)) { s with heap := s.heap.update l (Obj.mapSeq f), toks := t' } := by
  have q := PySem.IsL.update e f
  rw [hf] at q
  refine I.write (x := l) (e := l) (by rw [hH]; exact trivial) (.inl rfl) (fun b' u hb hu => (Heap.get?_update_other s.heap (Obj.mapSeq f) (Ne.symm hb)).trans hu) ⟨_, q⟩ ?_
  exact ⟨hz, its', _, hv, q⟩
theorem Inv.lnew {its : List Value} {t' : Nat} (I : Inv X pins σ H s) (hv : Vals ys its) (hz : ys.length ≤ sizeLine) :
    Inv X pins σ (upd H s.heap.objs.size (.lst ys)) { s with heap := s.heap.push { cls := .type "list", data := .seq its.toArray }, toks := t' } :=
  I.laid (fun _ _ q => Heap.get?_push_of_some _ q) (Nat.le_refl _) ⟨hz, its, 0, hv, Heap.get?_push_size _ rfl⟩
theorem Inv.fresh (I : Inv X pins σ H s) : H s.heap.objs.size = none := I.hok.fresh (Nat.le_refl _)
theorem Inv.lstM (I : Inv X pins σ H s) (hH : H l = some (.lst xs)) : xs.length ≤ sizeLine ∧ ∃ (its : List Value) (n : Nat), Vals xs its ∧ xs.length = its.length ∧ s.heap.get? l = some { cls := .type "list", data := .seq its.toArray n } := by
  obtain ⟨z, its, n, r, e⟩ := I.hok l _ hH
  exact ⟨z, its, n, r, r.length, e⟩

theorem notLongL {n : Nat} (h : n ≤ sizeLine) : Builtin.List.listTooLong n = false := by
  unfold Builtin.List.listTooLong
  exact decide_eq_false (by omega)
end

section
variable {X : Cx}

/-! ### methods -/
def rAppend : V → List V → Hp → VK → Prop := fun x vs H Q => ∃ l xs y, x = .ref l ∧ vs = [y] ∧ H l = some (.lst xs) ∧ xs.length < sizeLine ∧ Q .non (upd H l (.lst (xs ++ [y])))
theorem mt_append : MtM X "list.append" rAppend := by
  intro pins s σ H x vs v us Q I rx rv h
  obtain ⟨l, xs, y, rfl, rfl, hH, hz, q⟩ := h
  cases rx
  obtain ⟨u, rfl, ru⟩ := rv.one
  obtain ⟨z, its, n, r, hl, e⟩ := I.lstM hH
  refine call_meets F.slot_list_append ⟨_, e, rfl⟩ F.entry_list_append (F.args_list_append_2 _ _) (PySem.list_append l its.toArray n u (by rw [List.size_toArray]; omega)) ⟨e, ?_⟩
  refine ⟨.non, _, I.lset (its' := its ++ [u]) hH e (by simp) (r.append (.cons ru .nil)) ?_, rfl, q⟩
  rw [List.length_append, List.length_singleton]
  omega

def rExtend : V → List V → Hp → VK → Prop := fun x vs H Q => ∃ l b xs zs, x = .ref l ∧ vs = [.ref b] ∧ H l = some (.lst xs) ∧ H b = some (.lst zs) ∧ xs.length + zs.length ≤ sizeLine ∧ Q .non (upd H l (.lst (xs ++ zs)))
theorem mt_extend : MtM X "list.extend" rExtend := by
  intro pins s σ H x vs v us Q I rx rv h
  obtain ⟨l, b, xs, zs, rfl, rfl, hH, hB, hz, q⟩ := h
  cases rx
  obtain ⟨u, rfl, ru⟩ := rv.one
  cases ru
  obtain ⟨z, its, n, r, hl, e⟩ := I.lstM hH
  obtain ⟨z2, its2, n2, r2, hl2, e2⟩ := I.lstM hB
  have hsz : its.toArray.size + its2.toArray.size ≤ sizeLine := by rw [List.size_toArray, List.size_toArray]; omega
  have hlong : ¬ (!its.toArray.isEmpty && Builtin.List.listTooLong (its.toArray.size + its2.toArray.size)) = true := by
    rw [notLongL hsz, Bool.and_false]
    exact Bool.false_ne_true
  refine call_meets F.slot_list_extend ⟨_, e, rfl⟩ F.entry_list_extend (F.args_list_extend_2 _ _)
    (AutoSeq1.list_extend_list_list_0 l its.toArray n b its2.toArray n2 hlong (by rw [List.size_toArray]; omega) (by omega)) ⟨e, e2, ?_⟩
  refine ⟨.non, _, I.lset (its' := its ++ its2) hH e (by simp) (r.append r2) ?_, rfl, q⟩
  rw [List.length_append]
  omega

/-! ### list + list, list += list, list * int -/
def rCat : R2 := fun x y H Q => ∃ l b xs zs, x = .ref l ∧ y = .ref b ∧ H l = some (.lst xs) ∧ H b = some (.lst zs) ∧ xs.length + zs.length ≤ sizeLine ∧ ∀ p, H p = none → Q (.ref p) (upd H p (.lst (xs ++ zs)))
theorem op_cat : OpR X (binaryOp .Add) rCat := by
  intro pins s σ H x y v u Q I rx ry h
  obtain ⟨l, b, xs, zs, rfl, rfl, hH, hB, hz, q⟩ := h
  cases rx
  cases ry
  obtain ⟨z, its, n, r, hl, e⟩ := I.lstM hH
  obtain ⟨z2, its2, n2, r2, hl2, e2⟩ := I.lstM hB
  refine PySem.P.add_list e e2 ?_ (by rw [List.size_toArray, List.size_toArray]; omega)
  have ea : its.toArray ++ its2.toArray = (its ++ its2).toArray := by simp
  rw [ea]
  exact ⟨.ref _, _, I.lnew (t' := s.toks) (r.append r2) (by rw [List.length_append]; omega), rfl, q _ I.fresh⟩
/-- a list times an int (a negative one is nothing) -/
def rRep : R2 := fun x y H Q => ∃ l k xs, x = .ref l ∧ y = .int k ∧ H l = some (.lst xs) ∧ -(2 ^ 63) ≤ k ∧ k < 2 ^ 63 ∧ xs.length * k.toNat ≤ sizeLine ∧
  ∀ p, H p = none → Q (.ref p) (upd H p (.lst (List.replicate k.toNat xs).flatten))
theorem len_rep {α : Type} (xs : List α) (k : Nat) : (List.replicate k xs).flatten.length = k * xs.length := by
  induction k with
  | zero => simp
  | succ k ih => rw [List.replicate_succ, List.flatten_cons, List.length_append, ih, Nat.succ_mul, Nat.add_comm]
theorem op_rep : OpR X (binaryOp .Mult) rRep := by
  intro pins s σ H x y v u Q I rx ry h
  obtain ⟨l, k, xs, rfl, rfl, hH, h1, h2, hz, q⟩ := h
  cases rx
  obtain ⟨t, rfl⟩ := ry
  obtain ⟨z, its, n, r, hl, e⟩ := I.lstM hH
  have hlen : its.toArray.size * k.toNat ≤ sizeLine := by rw [List.size_toArray, ← hl]; exact hz
  have hcap : ¬ its.toArray.size * k.toNat > (2 ^ 63 - 1) / 8 := by
    have : (sizeLine : Nat) ≤ (2 ^ 63 - 1) / 8 := by decide
    omega
  have hfit : ¬ (!Builtin.List.listFitsIndex k) = true := by
    rw [fitsIndex_both h1 h2]
    exact Bool.false_ne_true
  have hlong : ¬ Builtin.List.listTooLong (its.toArray.size * k.toNat) = true := by
    rw [notLongL hlen]
    exact Bool.false_ne_true
  have hnew : List.foldl (fun x1 x2 => x1 ++ x2) #[] (List.replicate (if its.toArray.isEmpty = true then 0 else k.toNat) its.toArray) = (List.replicate k.toNat its).flatten.toArray := by
    have f0 : ∀ m : Nat, List.foldl (fun x1 x2 => x1 ++ x2) #[] (List.replicate m its.toArray) = (List.replicate m its).flatten.toArray := fun m => by
      have := foldl_rep its m []
      rw [List.nil_append] at this
      exact this
    rw [f0]
    cases its with
    | nil => simp
    | cons a r' => rw [if_neg (by simp)]
  refine wpAny_binaryOp_repeat_ref (T := "list") (U := "int") (by decide) ⟨_, e, rfl⟩ (fun s' => typeIs_int s' k t) noFill_list_mul F.fills_int_mul F.slot_int_rmul repeat_list F.slot_int_index.lookup
    (call_meets F.slot_int_rmul (typeIs_int s k t) F.entry_int_rmul (F.args_int_rmul_2 _ _) (int___rmul___int_list k t l its.toArray n)
      ⟨e, rfl, ⟨_, e, rfl⟩, call_meets F.slot_list_mul ⟨_, e, rfl⟩ F.entry_list_mul (F.args_list_mul_2 _ _) (AutoListH.list___mul___list_int_3 l its.toArray n k t hfit hcap hlong) ⟨e, ?_⟩⟩)
  rw [hnew]
  exact ⟨.ref _, _, I.lnew (t' := s.toks) (r.rep k.toNat) (by rw [len_rep, Nat.mul_comm]; exact hz), rfl, q _ I.fresh⟩

/-! ### del xs[i] -/
end

/-! ### xs[a:b] = ys -/
section
variable {prog : Program} {w : World} {A : Around} {E : Value → Shared → Prop} {s : Shared}
set_option maxRecDepth 100000 in
end

section
variable {X : Cx}
end
end L2

namespace L2
open PySem PySem.Spec PyProof.Rows

theorem Vals.ints : ∀ {ns : List Int} {us : List Value}, Vals (ns.map V.int) us → IntsAre us ns
  | [], us, h => by
    rw [List.map_nil] at h
    cases h
    exact IntsAre.nil
  | n :: ns, us, h => by
    rw [List.map_cons] at h
    cases h with
    | cons r t =>
      obtain ⟨k, rfl⟩ := r
      exact IntsAre.cons n k (Vals.ints t)
theorem vals_of_ints : ∀ {us : List Value} {ns : List Int}, IntsAre us ns → Vals (ns.map V.int) us
  | _, _, .nil => by rw [List.map_nil]; exact Paired.nil
  | _, _, .cons n t h => by rw [List.map_cons]; exact Paired.cons (show RelV (V.int n) (Value.int n t) from ⟨t, rfl⟩) (vals_of_ints h)
theorem Vals.strs : ∀ {xs : List Str} {us : List Value}, Vals (xs.map V.str) us → StrsAre us xs
  | [], us, h => by
    rw [List.map_nil] at h
    cases h
    exact StrsAre.nil
  | x :: xs, us, h => by
    rw [List.map_cons] at h
    cases h with
    | cons r t =>
      obtain ⟨k, rfl⟩ := r
      exact StrsAre.cons x k (Vals.strs t)
theorem Vals.ref1 {a : Addr} {us : List Value} (r : Vals [V.ref a] us) : us = [Value.ref a] := by
  cases r with
  | cons r t =>
    cases t
    cases r
    rfl
/-! ### the library's walks over a list of ints, kept objects alone -/
section
variable {prog : Program} {w : World} {A : Around} {E : Value → Shared → Prop} {s : Shared} {l : Addr} {its : List Value} {ns : List Int} {Q : Value → Shared → Prop}
end

/-! ### the calls, by values (CallR of 03t; MtR of 06l) -/
section
variable {X : Cx}
/-! sorted, sort (fewer than 64 items: the library's own bound) -/
def rSorted (K : PySem.W.Frag) : List V → Hp → VK → Prop := fun vs H Q => ∃ (a : Addr) (ns : List Int), vs = [V.ref a] ∧ SqL K H a (ns.map V.int) ∧ ns.length < 64 ∧
  ∀ (ns' : List Int) (p : Addr), ns'.Perm ns → ns'.Pairwise (· ≤ ·) → H p = none → Q (.ref p) (upd H p (.lst (ns'.map V.int)))
theorem small64 {n : Nat} (h : n < 64) : n ≤ sizeLine := by rw [sizeLine_eq]; omega
theorem cr_sorted : CallR X (.builtin "sorted") (rSorted X.K) := by
  intro pins s σ H vs us Q I r h
  obtain ⟨a, ns, rfl, hs, h64, q⟩ := h
  obtain ⟨its, rv, hl, _⟩ := I.list hs
  rw [Vals.ref1 r]
  have hi := rv.ints
  refine PyProof.Rows.sorted_ints hl.isList hi (by rw [hi.length]; exact h64) fun out ns' h1 h2 h3 => ?_
  obtain ⟨ep, he'⟩ := PyProof.Rows.sortedAll_at s.heap its out
  have hlen : (ns'.map V.int).length ≤ sizeLine := by rw [List.length_map, h2.length_eq]; exact small64 h64
  exact ⟨.ref _, upd H (s.heap.objs.size + 1) (.lst (ns'.map V.int)), I.laid (t' := s.toks) (fun _ _ => PyProof.Rows.sortedAll_old) (Nat.le_succ _) ⟨hlen, out.toList, ep, vals_of_ints h1, he'⟩, rfl, q ns' _ h2 h3 (I.hok.fresh (Nat.le_succ _))⟩
end

/-! ### list.index, flat items -/
section
variable {X : Cx}
end

/-! ### type(x) of an own instance; is, is not of a module's class -/
section
variable {X : Cx}
end

/-! ### any(xs), all(xs) of a list of bools -/
section
variable {X : Cx}
end

/-! ### == and != of data at any depth: none, bools, ints, texts, lists, tuples -/
mutual
inductive Dp (K : PySem.W.Frag) (H : Hp) : V → PyData → Prop
  | non : Dp K H .non .none
  | bl (b : Bool) : Dp K H (.bl b) (.bool b)
  | int (i : Int) : Dp K H (.int i) (.int i)
  | str (x : Str) : Dp K H (.str x) (.str x)
  | lst {a : Addr} {xs : List V} {ds : List PyData} : SqL K H a xs → DpAll K H xs ds → Dp K H (.ref a) (.list ds)
  | tup {a : Addr} {xs : List V} {ds : List PyData} : SqT K H a xs → DpAll K H xs ds → Dp K H (.ref a) (.tuple ds)
inductive DpAll (K : PySem.W.Frag) (H : Hp) : List V → List PyData → Prop
  | nil : DpAll K H [] []
  | cons {v : V} {vs : List V} {d : PyData} {ds : List PyData} : Dp K H v d → DpAll K H vs ds → DpAll K H (v :: vs) (d :: ds)
end
section
variable {X : Cx} {pins : List (Addr × Obj)} {σ : St} {H : Hp} {s : Shared}
mutual
theorem Dp.reads (I : Inv X pins σ H s) : ∀ (d : PyData) (v : V) (u : Value), Dp X.K H v d → RelV v u → ∃ as, Reads s.heap u d as
  | .none, _, _, h, r => by
    cases h
    cases r
    exact ⟨_, Reads.none⟩
  | .bool b, _, _, h, r => by
    cases h
    cases r
    exact ⟨_, Reads.bool b⟩
  | .int i, _, _, h, r => by
    cases h
    obtain ⟨t, rfl⟩ := r
    exact ⟨_, Reads.int i t⟩
  | .str x, _, _, h, r => by
    cases h
    obtain ⟨t, rfl⟩ := r
    exact ⟨_, Reads.str x t⟩
  | .list ds, _, _, h, r => by
    cases h with
    | lst hs ha =>
      cases r
      obtain ⟨its, rv, ⟨o, n, ho, hc, _, hd⟩, _⟩ := I.list hs
      obtain ⟨as, hr⟩ := Dp.readsAll I ds _ its ha rv
      exact ⟨_, Reads.list ho hc hd hr⟩
  | .tuple ds, _, _, h, r => by
    cases h with
    | tup hs ha =>
      cases r
      obtain ⟨its, rv, ⟨o, ho, hc, n, hd⟩, _⟩ := I.tuple hs
      obtain ⟨as, hr⟩ := Dp.readsAll I ds _ its ha rv
      exact ⟨_, Reads.tuple ho hc hd hr⟩
  | .dict _, _, _, h, _ => by cases h
theorem Dp.readsAll (I : Inv X pins σ H s) : ∀ (ds : List PyData) (vs : List V) (us : List Value), DpAll X.K H vs ds → Vals vs us → ∃ as, ReadsAll s.heap us ds as
  | [], _, _, h, r => by
    cases h
    cases r
    exact ⟨_, ReadsAll.nil⟩
  | d :: ds, _, _, h, r => by
    cases h with
    | cons h1 h2 =>
      cases r with
      | cons r1 r2 =>
        obtain ⟨as, q1⟩ := Dp.reads I d _ _ h1 r1
        obtain ⟨bs, q2⟩ := Dp.readsAll I ds _ _ h2 r2
        exact ⟨_, ReadsAll.cons q1 q2⟩
end
end
section
variable {X : Cx}
end
end L2

namespace L2
open PySem PySem.Spec PyProof.Rows
abbrev CellAt (h : Heap) (c : Addr) (v : Option Value) : Prop := h.IsCell c v
def relS (scope sc : Scope) : Scope :=
  { scope with names := scope.names.map fun (n, k) => if (k == .free && sc.kind == .function && sc.names.lookup n == some .cell) then (n, .cell) else (n, k) }

def cloFrom (cells : List (Str × Addr)) : List (Str × NameKind) → List (Str × Addr) → List (Str × Addr)
  | [], acc => acc
  | (n, k) :: r, acc => if k == .free then cloFrom cells r ((n, (cells.lookup n).getD 0) :: acc) else cloFrom cells r acc

theorem closure_loop (env : Env) (f : Str × NameKind → List (Str × Addr) → Sem (ForInStep (List (Str × Addr))))
    (hf : ∀ n k c, f (n, k) c = if k == .free then (do let a ← cellOf env n; pure (.yield ((n, a) :: c))) else pure (.yield c)) :
    ∀ (names : List (Str × NameKind)) (acc : List (Str × Addr)), (∀ y ∈ names, y.2 = .free → ∃ c, env.cells.lookup y.1 = some c) → forIn names acc f = pure (cloFrom env.cells names acc)
  | [], acc, _ => by rw [List.forIn_nil]; rfl
  | (n, k) :: r, acc, h => by
    rw [List.forIn_cons, hf]
    have ih := fun acc => closure_loop env f hf r acc fun y hy => h y (List.mem_cons_of_mem _ hy)
    unfold cloFrom
    by_cases hk : (k == NameKind.free) = true
    · rw [if_pos hk, if_pos hk]
      obtain ⟨c, hc⟩ := h (n, k) List.mem_cons_self (by simpa using hk)
      have e : cellOf env n = pure c := by unfold cellOf; rw [hc]
      rw [e]
      have e2 : (env.cells.lookup n).getD 0 = c := by rw [hc]; rfl
      rw [e2]
      exact ih _
    · rw [if_neg hk, if_neg hk]
      exact ih _
theorem closure_ok {scope : Scope} {env : Env} (h : ∀ y ∈ scope.names, y.2 = .free → ∃ c, env.cells.lookup y.1 = some c) : closureFor scope env = pure (cloFrom env.cells scope.names []) := by
  simp only [closureFor]
  rw [closure_loop env _ (fun n k c => rfl) scope.names [] h]
  rfl

theorem mem_lookup {α : Type} : ∀ {l : List (Str × α)} {n : Str} {c : α}, (n, c) ∈ l → ∃ c', l.lookup n = some c'
  | (k, v) :: r, n, c, h => by
    rw [List.lookup_cons]
    cases hb : n == k with
    | true => exact ⟨_, rfl⟩
    | false =>
      rcases List.mem_cons.mp h with e | h
      · cases e; simp at hb
      · exact mem_lookup h

theorem cloFrom_mem {cells : List (Str × Addr)} : ∀ {names : List (Str × NameKind)} {acc : List (Str × Addr)} {n : Str} {c : Addr}, (n, c) ∈ cloFrom cells names acc → (n, c) ∈ acc ∨ ((n, .free) ∈ names ∧ c = (cells.lookup n).getD 0)
  | [], _, _, _, h => .inl h
  | (m, k) :: r, acc, n, c, h => by
    unfold cloFrom at h
    split at h
    · rename_i hk
      have hk : k = .free := by simpa using hk
      rcases cloFrom_mem h with h | ⟨h1, h2⟩
      · rcases List.mem_cons.mp h with e | h
        · cases e; exact .inr ⟨hk ▸ List.mem_cons_self, rfl⟩
        · exact .inl h
      · exact .inr ⟨List.mem_cons_of_mem _ h1, h2⟩
    · rcases cloFrom_mem h with h | ⟨h1, h2⟩
      · exact .inl h
      · exact .inr ⟨List.mem_cons_of_mem _ h1, h2⟩
theorem cloFrom_acc {cells : List (Str × Addr)} : ∀ {names : List (Str × NameKind)} {acc : List (Str × Addr)} {p : Str × Addr}, p ∈ acc → p ∈ cloFrom cells names acc
  | [], _, _, h => h
  | (m, k) :: r, acc, p, h => by
    unfold cloFrom
    split
    · exact cloFrom_acc (List.mem_cons_of_mem _ h)
    · exact cloFrom_acc h
theorem cloFrom_has {cells : List (Str × Addr)} : ∀ {names : List (Str × NameKind)} {acc : List (Str × Addr)} {n : Str}, (n, .free) ∈ names → (n, (cells.lookup n).getD 0) ∈ cloFrom cells names acc
  | (m, k) :: r, acc, n, h => by
    unfold cloFrom
    rcases List.mem_cons.mp h with e | h
    · cases e
      exact cloFrom_acc List.mem_cons_self
    · split
      · exact cloFrom_has h
      · exact cloFrom_has h

theorem cells_mem : ∀ {names : List (Str × NameKind)} {h : Heap} {acc : List (Str × Addr)} {x : Str} {c : Addr}, (x, c) ∈ cellsFrom h.objs.size names acc →
    (x, c) ∈ acc ∨ ((x, .cell) ∈ names ∧ h.objs.size ≤ c ∧ CellAt (pushCells h names) c none)
  | [], _, _, _, _, h => .inl h
  | (n, k) :: r, h, acc, x, c, hm => by
    unfold cellsFrom at hm
    unfold pushCells
    split at hm
    · rename_i hk
      rw [if_pos hk]
      have hk : k = .cell := by simpa using hk
      rw [← Heap.size_push h { cls := .type "cell", data := .cell none }] at hm
      rcases cells_mem hm with hm | ⟨h1, h2, h3⟩
      · rcases List.mem_cons.mp hm with e | hm
        · cases e
          exact .inr ⟨hk ▸ List.mem_cons_self, Nat.le_refl _, _, pushCells_keeps r _ _ _ (Heap.get?_push_size _ rfl), rfl⟩
        · exact .inl hm
      · rw [Heap.size_push] at h2
        exact .inr ⟨List.mem_cons_of_mem _ h1, Nat.le_of_succ_le h2, h3⟩
    · rename_i hk
      rw [if_neg hk]
      rcases cells_mem hm with hm | ⟨h1, h2, h3⟩
      · exact .inl hm
      · exact .inr ⟨List.mem_cons_of_mem _ h1, h2, h3⟩
theorem cells_acc : ∀ {names : List (Str × NameKind)} {n : Nat} {acc : List (Str × Addr)} {p : Str × Addr}, p ∈ acc → p ∈ cellsFrom n names acc
  | [], _, _, _, h => h
  | (m, k) :: r, n, acc, p, h => by
    unfold cellsFrom
    split
    · exact cells_acc (List.mem_cons_of_mem _ h)
    · exact cells_acc h
theorem cells_has : ∀ {names : List (Str × NameKind)} {n : Nat} {acc : List (Str × Addr)} {x : Str}, (x, .cell) ∈ names → ∃ c, (x, c) ∈ cellsFrom n names acc
  | (m, k) :: r, n, acc, x, h => by
    unfold cellsFrom
    rcases List.mem_cons.mp h with e | h
    · cases e
      exact ⟨n, cells_acc List.mem_cons_self⟩
    · split
      · exact cells_has h
      · exact cells_has h
theorem cells_inj : ∀ {names : List (Str × NameKind)} {h : Heap} {acc : List (Str × Addr)} {x y : Str} {c : Addr}, (∀ p ∈ acc, p.2 < h.objs.size) → (∀ x y c, (x, c) ∈ acc → (y, c) ∈ acc → x = y) →
    (x, c) ∈ cellsFrom h.objs.size names acc → (y, c) ∈ cellsFrom h.objs.size names acc → x = y
  | [], _, _, _, _, _, _, hi, h1, h2 => hi _ _ _ h1 h2
  | (n, k) :: r, h, acc, x, y, c, hl, hi, h1, h2 => by
    unfold cellsFrom at h1 h2
    split at h1
    · rename_i hk
      rw [if_pos hk] at h2
      rw [← Heap.size_push h { cls := .type "cell", data := .cell none }] at h1 h2
      refine cells_inj (h := h.push _) (fun p hp => ?_) (fun x y c a b => ?_) h1 h2
      · rw [Heap.size_push]
        rcases List.mem_cons.mp hp with rfl | hp
        · exact Nat.lt_succ_self _
        · exact Nat.lt_succ_of_lt (hl p hp)
      · rcases List.mem_cons.mp a with e | a <;> rcases List.mem_cons.mp b with e' | b
        · cases e; cases e'; rfl
        · cases e; exact absurd (hl _ b) (Nat.lt_irrefl _)
        · cases e'; exact absurd (hl _ a) (Nat.lt_irrefl _)
        · exact hi _ _ _ a b
    · rename_i hk
      rw [if_neg hk] at h2
      exact cells_inj hl hi h1 h2

theorem newEnv_comp {M : Model} {A : Around} {E : Value → Shared → Prop} {s : Shared} {scope : Scope} {globals : Addr} {closure : List (Str × Addr)} {qual : Str} {func : Option Addr} {code : Value} {around : Env} {builtins : Addr} {Q : Env → Shared → Prop}
    (h : Q (newEnv scope s.heap.objs.size globals (cellsFrom (s.heap.objs.size + 1) scope.names closure) qual func code (some around) builtins)
      { s with heap := pushCells (s.heap.push { cls := .type "dict", data := .dict #[] }) scope.names }) :
    wpAny M A (newFunctionEnv scope globals closure [] qual func code (some around) builtins) Q E s := by
  simp only [newFunctionEnv, Option.isSome_some, if_true]
  refine wpAny_bind (wpAny_alloc ?_)
  refine wpAny_bind (wpAny_layCells _ (fun n k c => rfl) scope.names closure _ _ ?_)
  rw [show ({ s with heap := s.heap.push { cls := .type "dict", data := .dict #[] } } : Shared).heap.objs.size = s.heap.objs.size + 1 from Heap.size_push ..]
  rw [List.forIn_nil]
  exact wpAny_bind (wpAny_pure (wpAny_pure h))

/-- every name of the written scope, in the scope that runs -/
theorem lookup_relS {sc : Scope} : ∀ {names : List (Str × NameKind)} {x : Str} {k : NameKind},
    (names.map fun (n, k) => if (k == NameKind.free && sc.kind == .function && sc.names.lookup n == some .cell) then (n, NameKind.cell) else (n, k)).lookup x = some k →
    ∃ k', names.lookup x = some k' ∧ (k = k' ∨ (k' = .free ∧ k = .cell))
  | [], _, _, h => by simp at h
  | (n, k₀) :: r, x, k, h => by
    have ih := @lookup_relS sc r x k
    have h' : List.lookup x ((if (k₀ == NameKind.free && sc.kind == .function && sc.names.lookup n == some .cell) = true then (n, NameKind.cell) else (n, k₀)) :: (r.map _)) = some k := h
    cases hx : x == n with
    | true =>
      simp only [List.lookup_cons, hx]
      by_cases hc : (k₀ == NameKind.free && sc.kind == .function && sc.names.lookup n == some .cell) = true
      · rw [if_pos hc] at h'
        simp only [List.lookup_cons, hx] at h'
        cases h'
        simp only [Bool.and_eq_true, beq_iff_eq] at hc
        exact ⟨k₀, rfl, .inr ⟨hc.1.1, rfl⟩⟩
      · rw [if_neg hc] at h'
        simp only [List.lookup_cons, hx] at h'
        cases h'
        exact ⟨_, rfl, .inl rfl⟩
    | false =>
      simp only [List.lookup_cons, hx]
      by_cases hc : (k₀ == NameKind.free && sc.kind == .function && sc.names.lookup n == some .cell) = true
      · rw [if_pos hc] at h'
        simp only [List.lookup_cons, hx] at h'
        exact ih h'
      · rw [if_neg hc] at h'
        simp only [List.lookup_cons, hx] at h'
        exact ih h'
/-- the names of a comprehension's block: its own (with their places in N), or captured -/
structure BlkOk (N : List Str) (sc scope : Scope) (own : List (Str × Nat)) : Prop where
  kind : scope.kind = .function
  uniq : ∀ y ∈ scope.names, scope.names.lookup y.1 = some y.2
  ix : ∀ p ∈ own, N[p.2]? = some p.1
  free : ∀ y ∈ scope.names, y.2 = .free → sc.names.lookup y.1 = some .cell ∨ sc.names.lookup y.1 = some .free
  own : ∀ y ∈ scope.names, y.2 = .local ∨ y.2 = .cell → y.1 ∈ own.map (·.1) ∨ y.1 ∉ N
/-- the slots of the block's own names forgotten -/
def wipe (σ : St) : List Nat → St
  | [] => σ
  | v :: vs => (wipe σ vs).set v none
theorem wipe_length (σ : St) : ∀ vs : List Nat, (wipe σ vs).length = σ.length
  | [] => rfl
  | v :: vs => by unfold wipe; rw [List.length_set, wipe_length σ vs]
theorem wipe_some {σ : St} {i : Nat} {x : V} : ∀ {vs : List Nat}, (wipe σ vs)[i]? = some (some x) → σ[i]? = some (some x) ∧ i ∉ vs
  | [], h => ⟨h, by simp⟩
  | v :: vs, h => by
    unfold wipe at h
    by_cases hi : v = i
    · subst hi
      by_cases hv : v < (wipe σ vs).length
      · rw [List.getElem?_set_self hv] at h; cases h
      · rw [List.getElem?_eq_none (by simpa using hv)] at h; cases h
    · rw [List.getElem?_set_ne hi] at h
      obtain ⟨h1, h2⟩ := wipe_some h
      exact ⟨h1, by simp only [List.mem_cons, not_or]; exact ⟨fun e => hi e.symm, h2⟩⟩

/-- the context of a block that starts at s, its iterator's objects at fp -/
abbrev Cx.blk (X : Cx) (s : Shared) (H : Hp) (scope : Scope) (cenv : Env) (fp : List Addr) : Cx := { X with s_0 := s, H_0 := H, env := cenv, outer := X.stack, ex := fp, fn := fun x => scope.names.lookup x == some .cell, pn := [], xe := fun _ _ => False }
section
variable {X : Cx} {pins : List (Addr × Obj)} {σ : St} {H : Hp} {s : Shared}
theorem block_start {scope : Scope} {own : List (Str × Nat)} {fp : List Addr} (I : Inv X pins σ H s) (ok : BlkOk X.N X.env.scope scope own) (hN : X.N.Nodup) (hfp : ∀ b ∈ fp, FpOk X pins H b ∧ b < s.heap.objs.size) :
    Inv (X.blk s H scope (compEnvC scope (cellsFrom (s.heap.objs.size + 1) scope.names (cloFrom X.env.cells scope.names [])) s.heap.objs.size X.env) fp) [] (wipe σ (own.map (·.2))) H { s with heap := pushCells (s.heap.push { cls := .type "dict", data := .dict #[] }) scope.names } := by
  have hfree : ∀ y ∈ scope.names, y.2 = .free → ∃ c, X.env.cells.lookup y.1 = some c := fun y hy e => by
    rcases ok.free y hy e with k | k
    · exact I.ok.has _ (.inl k)
    · exact I.ok.has _ (.inr k)
  generalize hcenv : compEnvC scope (cellsFrom (s.heap.objs.size + 1) scope.names (cloFrom X.env.cells scope.names [])) s.heap.objs.size X.env = cenv
  have kp : ∀ b o, s.heap.get? b = some o → (pushCells (s.heap.push { cls := .type "dict", data := .dict #[] }) scope.names).get? b = some o := fun b o e => pushCells_keeps _ _ _ _ (Heap.get?_push_of_some _ e)
  have hL : cenv.locals = s.heap.objs.size := by rw [← hcenv]; rfl
  have hcl : cenv.cells = cellsFrom (s.heap.objs.size + 1) scope.names (cloFrom X.env.cells scope.names []) := by rw [← hcenv]; rfl
  have hsc : cenv.scope = relS scope X.env.scope := by rw [← hcenv]; rfl
  rw [← Heap.size_push s.heap { cls := .type "dict", data := .dict #[] }] at hcl
  have cm : ∀ {y c}, (y, c) ∈ cloFrom X.env.cells scope.names [] → X.env.cells.lookup y = some c ∧ c < s.heap.objs.size := fun {y c} hm => by
    rcases cloFrom_mem hm with hm | ⟨h1, rfl⟩
    · cases hm
    · obtain ⟨c, hc⟩ := hfree _ h1 rfl
      rw [hc]
      obtain ⟨w, z⟩ := I.cell _ _ hc
      exact ⟨rfl, z.lt⟩
  have mem : ∀ {y c}, cenv.cells.lookup y = some c → (X.env.cells.lookup y = some c ∧ c < s.heap.objs.size) ∨ (s.heap.objs.size + 1 ≤ c ∧ CellAt (pushCells (s.heap.push { cls := .type "dict", data := .dict #[] }) scope.names) c none) := fun {y c} e => by
    rw [hcl] at e
    rcases cells_mem (PySem.mem_of_lookup e) with hm | ⟨_, h2, h3⟩
    · exact .inl (cm hm)
    · rw [Heap.size_push] at h2; exact .inr ⟨h2, h3⟩
  have look : ∀ {y}, scope.names.lookup y = some .free → ∃ c, cenv.cells.lookup y = some c ∧ X.env.cells.lookup y = some c := fun {y} hl => by
    have hy : (y, NameKind.free) ∈ scope.names := PySem.mem_of_lookup hl
    obtain ⟨c', e'⟩ := mem_lookup (cells_acc (names := scope.names) (n := (s.heap.push { cls := .type "dict", data := .dict #[] }).objs.size) (cloFrom_has (cells := X.env.cells) (acc := []) hy))
    rw [← hcl] at e'
    refine ⟨c', e', ?_⟩
    rw [hcl] at e'
    rcases cells_mem (PySem.mem_of_lookup e') with hm | ⟨h1, _, _⟩
    · exact (cm hm).1
    · have := ok.uniq _ h1
      rw [hl] at this; cases this
  have okB : (X.blk s H scope cenv fp).Ok := by
    refine ⟨I.ok.mod, by show cenv.scope.kind = _; rw [hsc]; exact ok.kind, by show cenv.globals = _; rw [← hcenv]; exact I.ok.glob, by show cenv.builtins = _; rw [← hcenv]; exact I.ok.blt, by show s.heap.objs.size ≤ cenv.locals; rw [hL]; exact Nat.le_refl _,
      fun y z c e1 e2 => ?_, fun y hy => ?_, fun y c z e => ?_, I.ok.hd, I.ok.frames, .inl rfl, fun b hb => ⟨?_, fun y c e z => ?_⟩, I.bs, Nat.le_trans I.ok.bsz I.sz, fun b o e hb => ?_, fun b hb z => ?_, I.stack, I.stkFree⟩
    · have e1 : cenv.cells.lookup y = some c := e1
      have e2 : cenv.cells.lookup z = some c := e2
      rw [hcl] at e1 e2
      refine cells_inj (fun p hp => ?_) (fun y z c a b => I.ok.inj y z c (cm a).1 (cm b).1) (PySem.mem_of_lookup e1) (PySem.mem_of_lookup e2)
      rw [Heap.size_push]
      exact Nat.lt_succ_of_lt (cm (y := p.1) (c := p.2) hp).2
    · show ∃ c, cenv.cells.lookup y = some c
      have key : ∀ k, cenv.kindOf y = some k → (k = .cell ∨ k = .free) → ∃ c, cenv.cells.lookup y = some c := fun k hk hk' => by
        unfold Env.kindOf at hk
        rw [hsc] at hk
        obtain ⟨k', e, r⟩ := lookup_relS hk
        have : k' = .cell ∨ k' = .free := by
          rcases r with rfl | ⟨rfl, _⟩
          · exact hk'
          · exact .inr rfl
        rcases this with rfl | rfl
        · obtain ⟨c, hm⟩ := cells_has (n := (s.heap.push { cls := .type "dict", data := .dict #[] }).objs.size) (acc := cloFrom X.env.cells scope.names []) (PySem.mem_of_lookup e)
          obtain ⟨c', e'⟩ := mem_lookup hm
          exact ⟨c', by rw [hcl]; exact e'⟩
        · obtain ⟨c, h1, _⟩ := look e
          exact ⟨c, h1⟩
      rcases hy with hy | hy
      · exact key _ hy (.inl rfl)
      · exact key _ hy (.inr rfl)
    · have z : (scope.names.lookup y == some NameKind.cell) = true := z
      have z : scope.names.lookup y = some .cell := by simpa using z
      have e : cenv.cells.lookup y = some c := e
      rw [hcl] at e
      rcases cells_mem (PySem.mem_of_lookup e) with hm | ⟨_, h2, _⟩
      · rcases cloFrom_mem hm with hm | ⟨h1, _⟩
        · cases hm
        · have q := ok.uniq _ h1
          rw [z] at q; cases q
      · rw [Heap.size_push] at h2
        exact Nat.le_of_succ_le h2
    · show b ≠ cenv.locals
      rw [hL]; exact Nat.ne_of_lt (hfp b hb).2
    · have e : cenv.cells.lookup y = some c := e
      rcases mem e with ⟨h1, _⟩ | ⟨h1, _⟩
      · exact (hfp b hb).1.2.2.2.2.1 y c h1 z
      · have h2 : s.heap.objs.size + 1 ≤ b := by rw [← z]; exact h1
        exact absurd (Nat.lt_of_lt_of_le (hfp b hb).2 (Nat.le_of_succ_le h2)) (Nat.lt_irrefl _)
    · rcases (hfp b hb).1.2.2.2.1 with z | z
      · exact I.ok.noex b o e z
      · exact absurd (Nat.lt_of_lt_of_le (Heap.lt_size e) (Nat.le_trans I.ok.bsz z)) (Nat.lt_irrefl _)
    · rcases List.mem_cons.mp (I.stkSub b z) with z | z
      · exact (hfp b hb).1.2.1 z
      · exact (hfp b hb).1.2.2.1 z
  refine ⟨okB, rfl, I.bare, Un.kept kp, ⟨fun _ => none, ?_, fun i y av e1 e2 e3 => ?_⟩, fun y c e => ?_, ?_, fun y c e => ?_, fun p hp => ?_, I.hok.kept kp, by rw [wipe_length]; exact I.len⟩
  · show Heap.Ns _ cenv.locals _
    rw [hL]
    exact Heap.Ns.keeps (Heap.Ns.new ..) fun b o e => pushCells_keeps _ _ _ _ e
  · obtain ⟨e2, hne⟩ := wipe_some e2
    have hfr : scope.names.lookup y = some .free ∧ (cenv.kindOf y = some .cell ∨ cenv.kindOf y = some .free) := by
      have key : ∀ k, cenv.scope.names.lookup y = some k → k = .local ∨ k = .cell ∨ k = .free → scope.names.lookup y = some .free ∧ (cenv.kindOf y = some .cell ∨ cenv.kindOf y = some .free) := fun k hk hk' => by
        have hk0 := hk
        rw [hsc] at hk
        obtain ⟨k', e, r⟩ := lookup_relS hk
        have no : ¬ (k' = .local ∨ k' = .cell) := fun hh => by
          rcases ok.own _ (PySem.mem_of_lookup e) hh with e' | e'
          · obtain ⟨p, hp, hpy⟩ := List.mem_map.mp e'
            have e3 := ok.ix p hp
            have : p.1 = y := hpy
            rw [this] at e3
            exact hne (List.mem_map.mpr ⟨p, hp, nodup_ix hN e3 e1⟩)
          · exact e' (List.mem_of_getElem? e1)
        rcases r with rfl | ⟨rfl, rfl⟩
        · rcases hk' with rfl | rfl | rfl
          · exact absurd (.inl rfl) no
          · exact absurd (.inr rfl) no
          · exact ⟨e, .inr hk0⟩
        · exact ⟨e, .inl hk0⟩
      have e3 : Vis cenv.scope y := e3
      rcases e3 with e3 | e3 | e3
      · exact key _ e3 (.inl rfl)
      · exact key _ e3 (.inr (.inl rfl))
      · exact key _ e3 (.inr (.inr rfl))
    obtain ⟨m, hn, hl⟩ := I.loc
    have hvis : Vis X.env.scope y := (ok.free _ (PySem.mem_of_lookup hfr.1) rfl).elim (fun k => .inr (.inl k)) (fun k => .inr (.inr k))
    obtain ⟨w, r, q⟩ := hl i y av e1 e2 hvis
    refine ⟨w, r, .inr ⟨hfr.2, ?_⟩⟩
    obtain ⟨c, h1, h2⟩ := look hfr.1
    rcases q with ⟨k, _⟩ | ⟨_, c', e', z⟩
    · have k : X.env.scope.names.lookup y = some .local := k
      rcases ok.free _ (PySem.mem_of_lookup hfr.1) rfl with k' | k' <;> rw [show X.env.scope.names.lookup y = _ from k'] at k <;> cases k
    · rw [h2] at e'; cases e'
      exact ⟨c, h1, z.keeps kp⟩
  · have e : cenv.cells.lookup y = some c := e
    rcases mem e with ⟨h1, _⟩ | ⟨_, z⟩
    · obtain ⟨w, z⟩ := I.cell y c h1
      exact ⟨w, z.keeps kp⟩
    · exact ⟨_, z⟩
  · show H cenv.locals = none
    rw [hL]; exact I.hok.fresh (Nat.le_refl _)
  · have e : cenv.cells.lookup y = some c := e
    rcases mem e with ⟨h1, _⟩ | ⟨h1, _⟩
    · exact I.freeC y c h1
    · exact I.hok.fresh (Nat.le_of_succ_le h1)
  · exact absurd (show p ∈ ([] : List (Addr × Obj)) ++ [] from hp) (by simp)

/-- an item appended to a tracked list -/
theorem app_ok {E : Value → Shared → Prop} {D : Addr} {xs : List V} {y : V} {v : Value} {Q : Value → Shared → Prop} (I : Inv X pins σ H s) (hD : H D = some (.lst xs)) (hz : xs.length < sizeLine) (r : RelV y v)
    (h : ∀ s', Inv X pins σ (upd H D (.lst (xs ++ [y]))) s' → Q .none s') : wpAny (model X.prog X.w) X.A (call (.builtin "list.append") [.ref D, v]) Q E s := by
  obtain ⟨hz', its, n, ri, e⟩ := I.hok D _ hD
  have hl := ri.length
  refine append_at (hsz := by rw [List.size_toArray]; omega) e fun h' sb ho' => ?_
  refine h { s with heap := h' } (I.write (t' := s.toks) (by rw [hD]; trivial) (.inl rfl) (fun b u hb q => (sb.2 b hb).trans q) ⟨_, ho'⟩ ⟨by rw [List.length_append]; exact hz, its ++ [v], n + 1, ri.append (.cons r .nil), ?_⟩)
  rw [ho']
  simp

/-- a clause's tests -/
def PTs (X : Cx) (ifs : List Expr) (t : TT) : Prop :=
  ∀ (pins : List (Addr × Obj)) (s : Shared) (σ : St) (H : Hp) (Q : Bool → Hp → Prop), Inv X pins σ H s → t σ H Q →
    wpAny (model X.prog X.w) X.A (forIn ifs true fun c r => if r = true then do let ok ← isTrue c X.env (eval c X.env); pure (ForInStep.yield ok) else pure (ForInStep.yield r)) (TP X pins σ Q) X.xe s
def tYes : TT := fun _ H Q => Q true H
theorem pts_nil : PTs X [] tYes := fun _ _ _ H _ I h => wpAny_tests_nil ⟨H, I, h⟩
theorem pts_one {c : Expr} {t : TT} (h : PT X c t) : PTs X [c] t := fun pins s σ H Q I hw => wpAny_tests_one (h pins s σ H Q I hw)
end

theorem thnF {α : Type} {t : Sem α} {Q Q' : α → Shared → Prop} {M : Model} {A : Around} {E : Value → Shared → Prop} {s : Shared} (h : wpAny M A t Q (fun _ _ => False) s) (hQ : ∀ a s, Q a s → Q' a s) : wpAny M A t Q' E s := wpAny_mono h hQ fun _ _ z => False.elim z

/-- the loop of a list comprehension's block, the target of any form (codeAny_compLoop_tests asks a target that no tuple goes to; statement and proof follow it, PyProof/CompMap.lean:41-61, with the step letOwnedTupleGo kept) -/
theorem compLoop_any {prog : Program} {w : World} {A : Around} {R : Result → Shared → Prop} {s : Shared} {elt target iter : Expr} {ifs : List Expr} {scope : Scope} {pos : Pos} {it acc : Value} {env : Env} (I : Nat → Shared → Prop)
    (turn : ∀ n s, I n s → wpAny (model prog w) A (pyNext it) (fun r s₁ => match r with
      | none => R (.ok .next) s₁
      | some v => wpAny (model prog w) A (letOwnedTupleGo target it v) (fun _ s₁' => wpAny (model prog w) A (assign target env v) (fun _ s₂ =>
          wpAny (model prog w) A (forIn ifs true fun c r => if r = true then do let ok ← isTrue c env (eval c env); pure (ForInStep.yield ok) else pure (ForInStep.yield r)) (fun ok s₃ =>
            if ok = true then wpAny (model prog w) A (eval elt env) (fun x s₄ =>
              wpAny (model prog w) A (call (.builtin "list.append") [acc, x]) (fun _ s₅ => ∃ m, m < n ∧ I m s₅) (notedBy (model prog w) A env fun e s' => R (.error e) s') s₄) (notedBy (model prog w) A env fun e s' => R (.error e) s') s₃
            else ∃ m, m < n ∧ I m s₃) (notedBy (model prog w) A env fun e s' => R (.error e) s') s₂) (notedBy (model prog w) A env fun e s' => R (.error e) s') s₁') (notedBy (model prog w) A env fun e s' => R (.error e) s') s₁) (notedBy (model prog w) A env fun e s' => R (.error e) s') s)
    (n : Nat) (h : I n s) :
    codeAny (model prog w) A (.compLoop (.ListComp elt [⟨target, iter, ifs, 0⟩] scope pos) 0 it acc env) R s := by
  refine codeAny_loop rfl I (fun n s hI => ?_) n h
  show wpAny _ A ((compTurn (.ListComp elt [⟨target, iter, ifs, 0⟩] scope pos) 0 it acc env).onRaise (fun x => do noteFrame x env; theTreesLotGoes x)) _ _ s
  refine wpAny_noted ?_
  rw [compTurn_list]
  refine wpAny_bind (wpAny_standAt (wpAny_bind (wpAny_mono (turn n s hI) (fun r s₁ h₁ => ?_) fun _ _ h' => h')))
  cases r with
  | none => exact wpAny_pure h₁
  | some v =>
    refine wpAny_bind (wpAny_mono h₁ (fun _ s₁' h₁' => ?_) fun _ _ h' => h')
    refine wpAny_bind (wpAny_mono h₁' (fun _ s₂ h₂ => wpAny_bind (wpAny_mono h₂ (fun ok s₃ h₃ => ?_) fun _ _ h' => h')) fun _ _ h' => h')
    cases ok with
    | false => exact wpAny_pure ⟨rfl, h₃⟩
    | true =>
      exact wpAny_bind (wpAny_bind (wpAny_mono h₃ (fun x s₄ h₄ => wpAny_bind (wpAny_mono h₄ (fun _ s₅ h₅ => wpAny_pure (wpAny_pure ⟨rfl, h₅⟩)) fun _ _ h' => h')) fun _ _ h' => h'))

section
variable {X : Cx}
/-- [elt for target in iter if ..]: D the new list; W by the turn and a measure, Nx what a turn is to reach -/
def tLc (wi : TI) (g : TG) (tt : TT) (te : TE) (vs : List Nat) : TE := fun σ H Q => wi σ H fun J H1 => ∀ D, H1 D = none → ∃ W : Nat → Nat → Hp → Prop, (∃ m, W 0 m (upd H1 D (.lst []))) ∧ ∀ i m H, W i m H →
  (J.stop i H ∧ Q (.ref D) H) ∨ (J.go i H ∧ ∃ Nx : Hp → Prop, (∀ H', Nx H' → ∃ m', m' < m ∧ W (i + 1) m' H') ∧ ∀ x H', J.yld i H x H' → g x (wipe σ vs) H' fun σ2 H2 => wipe σ2 vs = wipe σ vs ∧ tt σ2 H2 fun b H3 =>
    if b = true then te σ2 H3 fun y H4 => ∃ acc, H4 D = some (.lst acc) ∧ acc.length < sizeLine ∧ Nx (upd H4 D (.lst (acc ++ [y]))) else Nx H3)
theorem lc_core {pins : List (Addr × Obj)} {s : Shared} {σ : St} {H : Hp} {Q : VK} {elt tg iter : Expr} {ifs : List Expr} {scope : Scope} {own : List (Str × Nat)} {pos pos' : Pos} {wi : TI} {g : TG} {tt : TT} {te : TE} {use : Option (Value → Sem Unit)} {Qf : Value → Shared → Prop}
    (hc : X.calm = true) (hN : X.N.Nodup) (I : Inv X pins σ H s) (hi : PI X tg iter wi) (ok : BlkOk X.N X.env.scope scope own)
    (hg : ∀ (s : Shared) (H : Hp) (C : Addr) (cl : List (Str × Addr)) (fp : List Addr), PG (X.blk s H scope (compEnvC scope cl C X.env) fp) tg g) (ht : ∀ (s : Shared) (H : Hp) (C : Addr) (cl : List (Str × Addr)) (fp : List Addr), PTs (X.blk s H scope (compEnvC scope cl C X.env) fp) ifs tt)
    (he : ∀ (s : Shared) (H : Hp) (C : Addr) (cl : List (Str × Addr)) (fp : List Addr), PE (X.blk s H scope (compEnvC scope cl C X.env) fp) elt te) (hs : ∀ x, foldedSetIterable iter X.env x = pure x)
    (h : tLc wi g tt te (own.map (·.2)) σ H Q)
    (hRR : ∀ D C s' m H', Inv X pins σ H' s' → Q (.ref D) H' → s'.heap.Ns C m → FpOk X pins H' C → compPost (model X.prog X.w) X.A X.xe use Qf (.ref D) C (.ok .next) s') :
    wpAny (model X.prog X.w) X.A (comprehension (.ListComp elt [⟨tg, iter, ifs, 0⟩] scope pos) scope X.env pos' (newList []) false (eval iter X.env) use) Qf X.xe s := by
  have hfree : ∀ y ∈ scope.names, y.2 = .free → ∃ c, X.env.cells.lookup y.1 = some c := fun y hy e => by
    rcases ok.free y hy e with k | k
    · exact I.ok.has _ (.inl k)
    · exact I.ok.has _ (.inr k)
  refine wpAny_comprehension_free (use := use) rfl hs (closure_ok hfree) ok.kind (fun y hy e => by rw [ok.uniq y hy, e])
    (thn (hi pins s σ H _ I h) fun xv s1 hx => thn hx fun itv s2 h2 => ?_)
  obtain ⟨it, fp, tn, J, H2, e, I2, T, st2, f2, q⟩ := h2
  subst e
  refine wpAny_newObj_type (newEnv_comp ?_) (by show 0 ≤ sizeLine; decide)
  generalize hD : s2.heap.objs.size = D
  have hDn : H2 D = none := I2.hok.fresh (Nat.le_of_eq hD)
  obtain ⟨W, ⟨m0, w0⟩, turn⟩ := q D hDn
  -- the new list
  generalize hs3 : ({ s2 with heap := s2.heap.push { cls := .type "list", data := .seq ([] : List Value).toArray } } : Shared) = s3
  have I3 : Inv X pins σ (upd H2 D (.lst [])) s3 := by
    rw [← hs3]
    refine I2.laid (t' := s2.toks) (fun b o e => Heap.get?_push_of_some _ e) (Nat.le_of_eq hD) ⟨Nat.zero_le _, [], 0, .nil, ?_⟩
    rw [← hD]
    exact Heap.get?_push_size _ rfl
  have h3 : s3.heap = s2.heap.push { cls := .type "list", data := .seq ([] : List Value).toArray } := by rw [← hs3]
  have sz : ∀ b ∈ fp, b < s2.heap.objs.size := fun b hb => by
    obtain ⟨o, e, _⟩ := T.obj _ _ st2 b hb
    exact Heap.lt_size e
  have f3 : ∀ b ∈ fp, FpOk X pins (upd H2 D (.lst [])) b ∧ b < s3.heap.objs.size := fun b hb => by
    have hlt := sz b hb
    refine ⟨⟨?_, (f2 b hb).2⟩, by rw [h3, Heap.size_push]; exact Nat.lt_succ_of_lt hlt⟩
    rw [upd_ne (by rw [← hD]; exact Nat.ne_of_lt hlt)]
    exact (f2 b hb).1
  have st3 : tn 0 s3.heap := T.keep _ _ _ st2 fun b _ o e => by rw [h3]; exact Heap.get?_push_of_some _ e
  have I4 := block_start I3 ok hN f3
  have pg := hg s3 (upd H2 D (.lst [])) s3.heap.objs.size (cellsFrom (s3.heap.objs.size + 1) scope.names (cloFrom X.env.cells scope.names [])) fp
  have pt := ht s3 (upd H2 D (.lst [])) s3.heap.objs.size (cellsFrom (s3.heap.objs.size + 1) scope.names (cloFrom X.env.cells scope.names [])) fp
  have pe := he s3 (upd H2 D (.lst [])) s3.heap.objs.size (cellsFrom (s3.heap.objs.size + 1) scope.names (cloFrom X.env.cells scope.names [])) fp
  show codeAny _ _ (.compStart (.ListComp elt [⟨tg, iter, ifs, 0⟩] scope pos) 0 (.ref it) (.ref D) (compEnvC scope (cellsFrom (s3.heap.objs.size + 1) scope.names (cloFrom X.env.cells scope.names [])) s3.heap.objs.size X.env)) (compPost (model X.prog X.w) X.A X.xe use Qf (.ref D) s3.heap.objs.size) { s3 with heap := pushCells (s3.heap.push { cls := .type "dict", data := .dict #[] }) scope.names }
  have nfp : ∀ b ∈ fp, (upd H2 D (.lst [])) b = none := fun b hb => (f3 b hb).1.1
  generalize hce : compEnvC scope (cellsFrom (s3.heap.objs.size + 1) scope.names (cloFrom X.env.cells scope.names [])) s3.heap.objs.size X.env = ce at I4 pg pt pe ⊢
  have cL : ce.locals = s3.heap.objs.size := by subst hce; rfl
  generalize hH3 : upd H2 D (.lst []) = H3 at I3 I4 pg pt pe w0 nfp f3
  generalize hs4 : ({ s3 with heap := pushCells (s3.heap.push { cls := .type "dict", data := .dict #[] }) scope.names } : Shared) = s4 at I4 ⊢
  have st4 : tn 0 s4.heap := T.keep _ _ _ st3 fun b _ o e => by rw [← hs4]; exact pushCells_keeps _ _ _ _ (Heap.get?_push_of_some _ e)
  have stat : ∀ {σ' : St} {H' : Hp} {s' : Shared}, Inv (X.blk s3 H3 scope ce fp) [] σ' H' s' → (∀ b ∈ fp, H' b = none) → ∀ b ∈ fp, FpOk (X.blk s3 H3 scope ce fp) [] H' b := fun {σ' H' s'} I' hn b hb =>
    ⟨hn b hb, (I'.ok.exf b hb).1, I'.ok.exfs b hb, .inl hb, fun x c e => (I'.ok.exf b hb).2 x c e, fun p hp => absurd (show p ∈ ([] : List (Addr × Obj)) ++ [] from hp) (by simp)⟩
  have loop : codeAny (model X.prog X.w) X.A (.compLoop (.ListComp elt [⟨tg, iter, ifs, 0⟩] scope pos) 0 (.ref it) (.ref D) ce) (compPost (model X.prog X.w) X.A X.xe use Qf (.ref D) s3.heap.objs.size) s4 := by
    refine compLoop_any (fun n s' => ∃ i H', Inv (X.blk s3 H3 scope ce fp) [] (wipe σ (own.map (·.2))) H' s' ∧ tn i s'.heap ∧ (∀ b ∈ fp, H' b = none) ∧ W i n H') ?_ m0 ⟨0, H3, I4, st4, nfp, w0⟩
    rintro n s5 ⟨i, H5, I5, st5, n5, w5⟩
    rcases turn i n H5 w5 with ⟨stop, qq⟩ | ⟨go, Nx, hNx, step⟩
    · have td := T.done (X.blk s3 H3 scope ce fp) rfl rfl rfl hc i [] s5 _ H5 (fun _ _ => False) I5 (stat I5 n5) st5 stop
      refine thnF td fun r s6 ⟨hr, I6⟩ => ?_
      subst hr
      -- back in the def's context
      have I7 : Inv X pins σ H5 s6 := I3.call' (ch := fp) I6.os I6.base I6.hok I6.bare fun b hb => ⟨(f3 b hb).1.2.2.2.1, (f3 b hb).1.2.1, (f3 b hb).1.2.2.2.2.1, (f3 b hb).1.2.2.2.2.2⟩
      have nC : H5 s3.heap.objs.size = none := by
        have z : H5 ce.locals = none := I6.free
        rw [cL] at z
        exact z
      obtain ⟨m, hn, _⟩ := I6.loc
      have hn : s6.heap.Ns ce.locals m := hn
      rw [cL] at hn
      exact hRR D s3.heap.objs.size s6 m H5 I7 qq hn (I3.fpOk (Nat.le_refl _) nC)
    · have ti := T.item (X.blk s3 H3 scope ce fp) rfl rfl rfl hc i [] s5 _ H5 (fun _ _ => False) I5 (stat I5 n5) st5 go
      refine thnF ti fun r s6 ⟨u, hr, h6⟩ => ?_
      subst hr
      refine thnF h6 fun _ s7 ⟨x, H7, I7, r7, y7, st7, n7⟩ => ?_
      have I7' := I7.pinned (stat I7 n7) (T.obj _ _ st7)
      refine thnF (pg _ s7 _ H7 x u _ I7' r7 (step x H7 y7)) fun _ s8 ⟨σ8, H8, I8, hw8, q8⟩ => ?_
      refine thnF (pt _ s8 σ8 H8 _ I8 q8) fun b s9 ⟨H9, I9, q9⟩ => ?_
      -- the turn's end
      have fin : ∀ {s' : Shared} {H' : Hp}, Inv (X.blk s3 H3 scope ce fp) ([] ++ pinsAt fp s7.heap) σ8 H' s' → Nx H' → ∃ m, m < n ∧ ∃ i H', Inv (X.blk s3 H3 scope ce fp) [] (wipe σ (own.map (·.2))) H' s' ∧ tn i s'.heap ∧ (∀ b ∈ fp, H' b = none) ∧ W i m H' := fun {s' H'} I' nx => by
        obtain ⟨m', hm, w'⟩ := hNx H' nx
        have pin' : ∀ b ∈ fp, ∀ o, s7.heap.get? b = some o → s'.heap.get? b = some o ∧ H' b = none := fun b hb o e =>
          let z := I'.pin (b, o) (List.mem_append_right _ (List.mem_append_right _ (mem_pinsAt hb e)))
          ⟨z.1, z.2.1⟩
        have hl : (wipe σ (own.map (·.2))).length = σ8.length := by rw [← hw8, wipe_length]
        refine ⟨m', hm, i + 1, H', (I'.unpinned (pins := [])).weak hl (fun j v e => ?_), T.keep _ _ _ st7 fun b hb o e => (pin' b hb o e).1, fun b hb => ?_, w'⟩
        · rw [← hw8] at e
          exact (wipe_some e).1
        · obtain ⟨o, e, _⟩ := T.obj _ _ st7 b hb
          exact (pin' b hb o e).2
      cases b with
      | false =>
        simp only [Bool.false_eq_true, if_false] at q9 ⊢
        exact fin I9 q9
      | true =>
        simp only [if_true] at q9 ⊢
        refine thnF (pe _ s9 σ8 H9 _ I9 q9) fun z s10 ⟨yv, H10, I10, r10, acc, hD10, hz10, nx⟩ => ?_
        exact app_ok (X := X.blk s3 H3 scope ce fp) I10 hD10 hz10 r10 fun s11 I11 => fin I11 nx
  exact codeAny_compStart_list loop (T.self X.A 0 _ _ _ st4 loop)
/-- as a value -/
theorem pe_lc {elt tg iter : Expr} {ifs : List Expr} {scope : Scope} {own : List (Str × Nat)} {pos : Pos} {wi : TI} {g : TG} {tt : TT} {te : TE} (hc : X.calm = true) (hN : X.N.Nodup) (hi : PI X tg iter wi) (ok : BlkOk X.N X.env.scope scope own)
    (hg : ∀ (s : Shared) (H : Hp) (C : Addr) (cl : List (Str × Addr)) (fp : List Addr), PG (X.blk s H scope (compEnvC scope cl C X.env) fp) tg g) (ht : ∀ (s : Shared) (H : Hp) (C : Addr) (cl : List (Str × Addr)) (fp : List Addr), PTs (X.blk s H scope (compEnvC scope cl C X.env) fp) ifs tt)
    (he : ∀ (s : Shared) (H : Hp) (C : Addr) (cl : List (Str × Addr)) (fp : List Addr), PE (X.blk s H scope (compEnvC scope cl C X.env) fp) elt te) (hs : ∀ x, foldedSetIterable iter X.env x = pure x := by intro _; rfl) :
    PE X (.ListComp elt [⟨tg, iter, ifs, 0⟩] scope pos) (tLc wi g tt te (own.map (·.2))) := by
  intro pins s σ H Q I h
  rw [eval_ListComp]
  refine lc_core hc hN I hi ok hg ht he hs h fun D C s' m H' I' q hn f => ⟨m, hn, fun h'' sb => ?_⟩
  obtain ⟨f0, f1, f2, f3, f4, f5⟩ := f
  exact ⟨.ref D, H', I'.turned (t' := s'.toks) (fun b o hb e => (sb.2 b hb).trans e) f0 f1 f3 f4 f5, rfl, q⟩
/-- name = [..] on one line, the name a local -/
theorem ps_setLc {i : Nat} {y : Str} {py : Pos} {elt tg iter : Expr} {ifs : List Expr} {scope : Scope} {own : List (Str × Nat)} {pos spos : Pos} {wi : TI} {g : TG} {tt : TT} {te : TE} (hc : X.calm = true) (hN : X.N.Nodup) (hy : X.N[i]? = some y) (hyl : X.env.scope.names.lookup y = some .local)
    (hsw : swapsWith (.ListComp elt [⟨tg, iter, ifs, 0⟩] scope pos) (some (.Name y py)) spos.line X.env = pure true) (hi : PI X tg iter wi) (ok : BlkOk X.N X.env.scope scope own)
    (hg : ∀ (s : Shared) (H : Hp) (C : Addr) (cl : List (Str × Addr)) (fp : List Addr), PG (X.blk s H scope (compEnvC scope cl C X.env) fp) tg g) (ht : ∀ (s : Shared) (H : Hp) (C : Addr) (cl : List (Str × Addr)) (fp : List Addr), PTs (X.blk s H scope (compEnvC scope cl C X.env) fp) ifs tt)
    (he : ∀ (s : Shared) (H : Hp) (C : Addr) (cl : List (Str × Addr)) (fp : List Addr), PE (X.blk s H scope (compEnvC scope cl C X.env) fp) elt te) (hs : ∀ x, foldedSetIterable iter X.env x = pure x := by intro _; rfl) :
    PS X (.Assign [.Name y py] (.ListComp elt [⟨tg, iter, ifs, 0⟩] scope pos) spos) (tAsg (tLc wi g tt te (own.map (·.2))) (gName i)) := by
  intro pins s σ H D I h
  rw [exec_Assign_Name_used _ _ _ _ hsw]
  refine wpAny_bind (wpAny_standAt (wpAny_bind ?_))
  show wpAny _ X.A (do let _ ← comprehension (.ListComp elt [⟨tg, iter, ifs, 0⟩] scope pos) scope X.env (firstIterPos [⟨tg, iter, ifs, 0⟩] pos) (newList []) false (eval iter X.env) (some (assign (.Name y py) X.env))) _ _ s
  have h : tLc wi g tt te (own.map (·.2)) σ H (fun x H1 => gName i x σ H1 D.nx) := h
  refine wpAny_bind (thn (lc_core (Qf := fun _ s' => SP X pins D .next s') hc hN I hi ok hg ht he hs h fun L C s' m H' I' q hn f => ?_) fun _ s' hq => wpAny_pure (wpAny_pure hq))
  show wpAny _ _ (assign (.Name y py) X.env (.ref L)) _ _ _
  refine wpAny_assign_Name (store_ok2 (v := V.ref L) I' hN hy (.inl hyl) rfl (fun s2 I2 ⟨a, sb, ha⟩ => ?_) (.inr hyl))
  obtain ⟨f0, f1, f2, f3, f4, f5⟩ := f
  have haC : C ≠ a := by
    rcases ha with z | z
    · rw [z]; exact f1
    · exact fun e => f4 y a z e.symm
  refine ⟨m, hn.sameBut sb haC, fun h3 sb3 => ?_⟩
  exact ⟨_, H', I2.turned (t' := s2.toks) (fun b o hb e => (sb3.2 b hb).trans e) f0 f1 f3 f4 f5, q⟩
theorem sw_true {elt : Expr} {gs : List Comprehension} {scope : Scope} {pos py : Pos} {y : Str} {l : Nat} {env : Env} (hk : env.scope.kind = .function) (hy : env.scope.names.lookup y = some .local) (hl : (py.line == pos.line) = true)
    (ha : (scope.names.any fun (n, k) => n == y && (k == .local || k == .cell)) = false) : swapsWith (.ListComp elt gs scope pos) (some (.Name y py)) l env = pure true := by
  have ky : env.kindOf y = some .local := hy
  have hb : env.blockKind = .function := by unfold Env.blockKind; rw [hk]; rfl
  unfold swapsWith
  simp only [hb, ky, ha, Expr.pos, hl]
  rfl
end

/-! ### the forms one uses -/
/-- over a range: Pv by the turn and the heap (the new list at D within) -/
theorem lc_range {lo : Int} {n : Nat} {g : TG} {tt : TT} {te : TE} {vs : List Nat} {σ : St} {H1 : Hp} {D : Addr} {Qd : Hp → Prop} (Pv : Nat → Hp → Prop) (h0 : Pv 0 (upd H1 D (.lst [])))
    (hs : ∀ i H, i < n → Pv i H → g (.int (lo + i)) (wipe σ vs) H fun σ2 H2 => wipe σ2 vs = wipe σ vs ∧ tt σ2 H2 fun b H3 =>
      if b = true then te σ2 H3 fun y H4 => ∃ acc, H4 D = some (.lst acc) ∧ acc.length < sizeLine ∧ Pv (i + 1) (upd H4 D (.lst (acc ++ [y]))) else Pv (i + 1) H3) (hd : ∀ H, Pv n H → Qd H) :
    ∃ W : Nat → Nat → Hp → Prop, (∃ m, W 0 m (upd H1 D (.lst []))) ∧ ∀ i m H, W i m H →
      ((Itr lo n).stop i H ∧ Qd H) ∨ ((Itr lo n).go i H ∧ ∃ Nx : Hp → Prop, (∀ H', Nx H' → ∃ m', m' < m ∧ W (i + 1) m' H') ∧ ∀ x H', (Itr lo n).yld i H x H' → g x (wipe σ vs) H' fun σ2 H2 => wipe σ2 vs = wipe σ vs ∧ tt σ2 H2 fun b H3 =>
        if b = true then te σ2 H3 fun y H4 => ∃ acc, H4 D = some (.lst acc) ∧ acc.length < sizeLine ∧ Nx (upd H4 D (.lst (acc ++ [y]))) else Nx H3) := by
  refine ⟨fun i m H => m = n - i ∧ i ≤ n ∧ Pv i H, ⟨n, by simp, Nat.zero_le _, h0⟩, ?_⟩
  rintro i m H ⟨rfl, hi, p⟩
  by_cases hlt : i < n
  · refine .inr ⟨hlt, Pv (i + 1), fun H' p' => ⟨n - (i + 1), by omega, rfl, hlt, p'⟩, fun x H' y => ?_⟩
    obtain ⟨e, y⟩ := y
    subst e y
    exact hs i _ hlt p
  · have e : i = n := by omega
    subst e
    exact .inl ⟨Nat.le_refl _, hd H p⟩
/-- over a list that the block leaves as it is -/
theorem lc_list {K : PySem.W.Frag} {a : Addr} {xs : List V} {g : TG} {tt : TT} {te : TE} {vs : List Nat} {σ : St} {H1 : Hp} {D : Addr} {Qd : Hp → Prop} (Pv : Nat → Hp → Prop) (h0 : Pv 0 (upd H1 D (.lst []))) (hl : ∀ i H, i ≤ xs.length → Pv i H → SqL K H a xs)
    (hs : ∀ i x H, xs[i]? = some x → Pv i H → g x (wipe σ vs) H fun σ2 H2 => wipe σ2 vs = wipe σ vs ∧ tt σ2 H2 fun b H3 =>
      if b = true then te σ2 H3 fun y H4 => ∃ acc, H4 D = some (.lst acc) ∧ acc.length < sizeLine ∧ Pv (i + 1) (upd H4 D (.lst (acc ++ [y]))) else Pv (i + 1) H3) (hd : ∀ H, Pv xs.length H → Qd H) :
    ∃ W : Nat → Nat → Hp → Prop, (∃ m, W 0 m (upd H1 D (.lst []))) ∧ ∀ i m H, W i m H →
      ((Itl K a).stop i H ∧ Qd H) ∨ ((Itl K a).go i H ∧ ∃ Nx : Hp → Prop, (∀ H', Nx H' → ∃ m', m' < m ∧ W (i + 1) m' H') ∧ ∀ x H', (Itl K a).yld i H x H' → g x (wipe σ vs) H' fun σ2 H2 => wipe σ2 vs = wipe σ vs ∧ tt σ2 H2 fun b H3 =>
        if b = true then te σ2 H3 fun y H4 => ∃ acc, H4 D = some (.lst acc) ∧ acc.length < sizeLine ∧ Nx (upd H4 D (.lst (acc ++ [y]))) else Nx H3) := by
  refine ⟨fun i m H => m = xs.length - i ∧ i ≤ xs.length ∧ Pv i H, ⟨xs.length, by simp, Nat.zero_le _, h0⟩, ?_⟩
  rintro i m H ⟨rfl, hi, p⟩
  have q := hl i H hi p
  by_cases hlt : i < xs.length
  · refine .inr ⟨⟨xs, xs[i], q, by simp [hlt]⟩, Pv (i + 1), fun H' p' => ⟨xs.length - (i + 1), by omega, rfl, hlt, p'⟩, fun x H' y => ?_⟩
    obtain ⟨e, y⟩ := y
    subst e
    exact hs i x _ (y xs q) p
  · have e : i = xs.length := by omega
    subst e
    exact .inl ⟨⟨xs, q, Nat.le_refl _⟩, hd H p⟩
def blkC (N : List Str) (sc scope : Scope) (own : List (Str × Nat)) : Bool :=
  (match scope.kind with | .function => true | _ => false) && (scope.names.all fun y => decide (scope.names.lookup y.1 = some y.2)) && (own.all fun p => decide (N[p.2]? = some p.1)) &&
    (scope.names.all fun y => match y.2 with
      | .free => (match sc.names.lookup y.1 with | some .cell => true | some .free => true | _ => false)
      | .local => decide (y.1 ∈ own.map (·.1)) || decide (y.1 ∉ N)
      | .cell => decide (y.1 ∈ own.map (·.1)) || decide (y.1 ∉ N)
      | _ => true)
theorem blkOk_by {N : List Str} {sc scope : Scope} {own : List (Str × Nat)} (h : blkC N sc scope own = true) : BlkOk N sc scope own := by
  unfold blkC at h
  simp only [Bool.and_eq_true, List.all_eq_true, decide_eq_true_eq] at h
  obtain ⟨⟨⟨h1, h2⟩, h3⟩, h4⟩ := h
  refine ⟨?_, h2, h3, fun y hy e => ?_, fun y hy e => ?_⟩
  · split at h1
    · assumption
    · cases h1
  · have q := h4 y hy
    simp only [e] at q
    split at q <;> first | exact .inl (by assumption) | exact .inr (by assumption) | cases q
  · have q := h4 y hy
    rcases e with e | e <;> (simp only [e, Bool.or_eq_true, decide_eq_true_eq] at q; exact q)
end L2

namespace L2
open PySem PySem.Spec PyProof.Rows

section
variable {prog : Program} {w : World} {A : Around} {R : Result → Shared → Prop} {s : Shared} {elt t0 i0 t1 i1 : Expr} {ifs0 ifs1 : List Expr} {scope : Scope} {pos : Pos} {it acc : Value} {env : Env}
end

section
variable {X : Cx}
end
end L2

namespace L2
open PySem PySem.Spec PyProof.Rows

/-! ### lists of pairs as tables -/
section
variable {κ : Type} [DecidableEq κ]
def valV (kvs : List (κ × V)) (k : κ) : Option V := (kvs.find? fun kv => decide (kv.1 = k)).map (·.2)
/-- in its place, or at the end -/
def putK (kvs : List (κ × V)) (k : κ) (v : V) : List (κ × V) :=
  if (kvs.any fun kv => decide (kv.1 = k)) = true then kvs.map (fun kv => if kv.1 = k then (kv.1, v) else kv) else kvs ++ [(k, v)]
def dropK (kvs : List (κ × V)) (k : κ) : List (κ × V) := kvs.filter fun kv => decide (kv.1 ≠ k)

theorem valV_pos {p : κ × V} {r : List (κ × V)} {k : κ} (e : p.1 = k) : valV (p :: r) k = some p.2 := by simp [valV, List.find?_cons, e]
theorem valV_neg {p : κ × V} {r : List (κ × V)} {k : κ} (e : ¬ p.1 = k) : valV (p :: r) k = valV r k := by simp [valV, List.find?_cons, e]
theorem valV_any (k : κ) : ∀ kvs : List (κ × V), (kvs.any fun kv => decide (kv.1 = k)) = (valV kvs k).isSome
  | [] => rfl
  | p :: r => by
    rw [List.any_cons]
    by_cases e : p.1 = k
    · simp only [valV_pos e, decide_eq_true e, Bool.true_or, Option.isSome_some]
    · rw [valV_neg e, decide_eq_false e, Bool.false_or]; exact valV_any k r
theorem length_putK (kvs : List (κ × V)) (k : κ) (v : V) : (putK kvs k v).length ≤ kvs.length + 1 := by
  unfold putK
  split
  · rw [List.length_map]; omega
  · rw [List.length_append, List.length_cons, List.length_nil]; omega
theorem putK_new {kvs : List (κ × V)} {k : κ} (v : V) (h : valV kvs k = none) : putK kvs k v = kvs ++ [(k, v)] := by
  unfold putK
  rw [valV_any, h]
  exact if_neg (by decide)

theorem RelO.isSome_eq {o : Option V} {u : Option Value} (r : RelO o u) : o.isSome = u.isSome := by
  cases o with
  | none => cases u with
    | none => rfl
    | some _ => exact (show False from r).elim
  | some _ => cases u with
    | none => exact (show False from r).elim
    | some _ => rfl
theorem RelO.getD {o : Option V} {u : Option Value} {d : V} {d' : Value} (r : RelO o u) (rd : RelV d d') : RelV (o.getD d) (u.getD d') := by
  cases o with
  | none => cases u with
    | none => exact rd
    | some _ => exact (show False from r).elim
  | some _ => cases u with
    | none => exact (show False from r).elim
    | some _ => exact r

/-- raw tables of the same keys -/
theorem KV.val {kvs : List (κ × V)} {vs : List (κ × Value)} (r : KV kvs vs) (k : κ) : RelO (valV kvs k) (valueAt vs k) := by
  unfold KV at r
  induction r with
  | nil => exact True.intro
  | @cons p q ps qs h t ih =>
    obtain ⟨h1, h2⟩ := h
    by_cases e : p.1 = k
    · have e' : q.1 = k := h1.symm.trans e
      have b : valueAt (q :: qs) k = some q.2 := by simp [valueAt, List.find?_cons, e']
      rw [valV_pos e, b]; exact h2
    · have e' : ¬ q.1 = k := fun z => e (h1.trans z)
      have b : valueAt (q :: qs) k = valueAt qs k := by simp [valueAt, List.find?_cons, e']
      rw [valV_neg e, b]; exact ih
theorem KV.any {kvs : List (κ × V)} {vs : List (κ × Value)} (r : KV kvs vs) (k : κ) : (kvs.any fun kv => decide (kv.1 = k)) = vs.any fun kv => decide (kv.1 = k) := by
  unfold KV at r
  induction r with
  | nil => rfl
  | cons h t ih => rw [List.any_cons, List.any_cons, ih, h.1]
theorem KV.repl {kvs : List (κ × V)} {vs : List (κ × Value)} (r : KV kvs vs) (k : κ) {y : V} {u : Value} (ry : RelV y u) :
    KV (kvs.map fun kv => if kv.1 = k then (kv.1, y) else kv) (vs.map fun kv => if kv.1 = k then (kv.1, u) else kv) := by
  unfold KV at r ⊢
  induction r with
  | nil => exact .nil
  | @cons p q ps qs h t ih =>
    rw [List.map_cons, List.map_cons]
    refine .cons ?_ ih
    obtain ⟨h1, h2⟩ := h
    by_cases e : p.1 = k
    · rw [if_pos e, if_pos (h1.symm.trans e)]; exact ⟨h1, ry⟩
    · rw [if_neg e, if_neg (fun z => e (h1.trans z))]; exact ⟨h1, h2⟩
theorem KV.put {kvs : List (κ × V)} {vs : List (κ × Value)} (r : KV kvs vs) (k : κ) {y : V} {u : Value} (ry : RelV y u) : KV (putK kvs k y) (stored vs k u) := by
  unfold putK stored
  rw [r.any k]
  by_cases e : (vs.any fun kv => decide (kv.1 = k)) = true
  · rw [if_pos e, if_pos e]; exact r.repl k ry
  · rw [if_neg e, if_neg e]; exact Paired.snoc r ⟨rfl, ry⟩
theorem KV.drop {kvs : List (κ × V)} {vs : List (κ × Value)} (r : KV kvs vs) (k : κ) : KV (dropK kvs k) (without vs k) := by
  unfold KV at r ⊢
  unfold dropK without
  induction r with
  | nil => exact .nil
  | @cons p q ps qs h t ih =>
    obtain ⟨h1, h2⟩ := h
    rw [List.filter_cons, List.filter_cons]
    by_cases e : p.1 = k
    · have a : ¬ decide (p.1 ≠ k) = true := by simp [e]
      have b : ¬ decide (q.1 ≠ k) = true := by simp [h1.symm.trans e]
      rw [if_neg a, if_neg b]; exact ih
    · have e' : ¬ q.1 = k := fun z => e (h1.trans z)
      have a : decide (p.1 ≠ k) = true := by simp [e]
      have b : decide (q.1 ≠ k) = true := by simp [e']
      rw [if_pos a, if_pos b]; exact .cons ⟨h1, h2⟩ ih
theorem KV.keys {kvs : List (κ × V)} {vs : List (κ × Value)} (r : KV kvs vs) : kvs.map (·.1) = vs.map (·.1) := by
  unfold KV at r
  induction r with
  | nil => rfl
  | cons h t ih => rw [List.map_cons, List.map_cons, ih, h.1]
theorem KV.length {kvs : List (κ × V)} {vs : List (κ × Value)} (r : KV kvs vs) : kvs.length = vs.length := Paired.length r
end


/-! ### a tracked dict, its keys ints and texts or tuples of these -/
theorem kV_is {P : Program} {w : World} {k : Key} {u : Value} (r : RelV (kV k) u) : (mixKind P w).is k u = true := by
  cases k with
  | inl i => obtain ⟨t, e⟩ := (show ∃ t, u = Value.int i t from r); subst e; exact mixKind_int P w i t
  | inr x => obtain ⟨t, e⟩ := (show ∃ t, u = Value.str x t from r); subst e; exact mixKind_str P w x t
theorem items_are {P : Program} {w : World} : ∀ {ks : List Key} {us : List Value}, Vals (ks.map kV) us → ItemsAre (mixKind P w) ks us
  | [], _, r => by rw [List.map_nil] at r; cases r; exact .nil
  | k :: ks, _, r => by
    rw [List.map_cons] at r
    cases r with
    | cons h t => exact .cons (kV_is h) (items_are t)

/-- raw entries of a dict with tuple keys -/
abbrev KT (H : Hp) : List (List Key × V) → List (List Key × Addr × Value) → Prop := Paired fun p q => p.1 = q.1 ∧ H q.2.1 = some (.tup (p.1.map kV)) ∧ RelV p.2 q.2.2
theorem KT.val {H : Hp} {kvs : List (List Key × V)} {xs : List (List Key × Addr × Value)} (r : KT H kvs xs) (k : List Key) : RelO (valV kvs k) ((atKey xs k).map (·.2)) := by
  induction r with
  | nil => exact True.intro
  | @cons p q ps qs h t ih =>
    obtain ⟨h1, _, h2⟩ := h
    by_cases e : p.1 = k
    · have e' : q.1 = k := h1.symm.trans e
      have b : atKey (q :: qs) k = some q.2 := by simp [atKey, List.find?_cons, e']
      rw [valV_pos e, b]; exact h2
    · have e' : ¬ q.1 = k := fun z => e (h1.trans z)
      have b : atKey (q :: qs) k = atKey qs k := by simp [atKey, List.find?_cons, e']
      rw [valV_neg e, b]; exact ih
theorem KT.repl {H : Hp} {kvs : List (List Key × V)} {xs : List (List Key × Addr × Value)} (r : KT H kvs xs) (k : List Key) {y : V} {u : Value} (ry : RelV y u) :
    KT H (kvs.map fun kv => if kv.1 = k then (kv.1, y) else kv) (xs.map (putAt k u)) := by
  induction r with
  | nil => exact .nil
  | @cons p q ps qs h t ih =>
    rw [List.map_cons, List.map_cons]
    refine .cons ?_ ih
    obtain ⟨h1, h2, h3⟩ := h
    unfold putAt
    by_cases e : p.1 = k
    · rw [if_pos e, if_pos (h1.symm.trans e)]; exact ⟨h1, h2, ry⟩
    · rw [if_neg e, if_neg (fun z => e (h1.trans z))]; exact ⟨h1, h2, h3⟩
theorem KT.put {H : Hp} {kvs : List (List Key × V)} {xs : List (List Key × Addr × Value)} (r : KT H kvs xs) (k : List Key) {b : Addr} {y : V} {u : Value} (hb : H b = some (.tup (k.map kV))) (ry : RelV y u) :
    KT H (putK kvs k y) (storedH xs k b u) := by
  have e : (kvs.any fun kv => decide (kv.1 = k)) = (atKey xs k).isSome := by
    rw [valV_any, (r.val k).isSome_eq, Option.isSome_map]
  unfold putK storedH
  rw [e]
  by_cases q : (atKey xs k).isSome = true
  · rw [if_pos q, if_pos q]; exact r.repl k ry
  · rw [if_neg q, if_neg q]; exact Paired.snoc r ⟨rfl, hb, ry⟩
theorem KT.keeps {H H' : Hp} {kvs : List (List Key × V)} {xs : List (List Key × Addr × Value)} (r : KT H kvs xs) (ht : ∀ b ys, H b = some (.tup ys) → H' b = some (.tup ys)) : KT H' kvs xs :=
  Paired.mapP r fun _ _ z => ⟨z.1, ht _ _ z.2.1, z.2.2⟩

section
variable {P : Program} {w : World} {H : Hp} {h : Heap} {a : Addr}
theorem rd_of {u : HO} (ok : HOk P w H h) (e : Rd H a u) : ObjOk P w H h a u := e.ok ok
theorem dk_rd {kvs : List (Key × V)} (ok : HOk P w H h) (e : Rd H a (.dK kvs)) : kvs.length ≤ sizeLine ∧ (a == sysModules) = false ∧ ∃ vs, KV kvs vs ∧ h.DictOf (mixKind P w) a vs :=
  show ObjOk P w H h a (.dK kvs) from rd_of ok e
theorem dk_of {kvs : List (Key × V)} (ok : HOk P w H h) (e : H a = some (.dK kvs)) : kvs.length ≤ sizeLine ∧ (a == sysModules) = false ∧ ∃ vs, KV kvs vs ∧ h.DictOf (mixKind P w) a vs := dk_rd ok (.inl e)
/-- a tracked tuple of ints and texts is a key -/
theorem key_of {ks : List Key} (ok : HOk P w H h) (e : H a = some (.tup (ks.map kV))) : (tupleKind (mixKind P w)).is h ks a := by
  obtain ⟨_, its, r, o, h1, h2, n, h3⟩ := (show ObjOk P w H h a (.tup (ks.map kV)) from ok a _ e)
  exact ⟨o, its.toArray, n, h1, h2, h3, by simpa using items_are r⟩
theorem dt_rd {kvs : List (List Key × V)} (ok : HOk P w H h) (e : Rd H a (.dT kvs)) : kvs.length ≤ sizeLine ∧ (a == sysModules) = false ∧
    ∃ xs, KT H kvs xs ∧ h.DictOfH (tupleKind (mixKind P w)) a xs := by
  obtain ⟨z, y, xs, r, o, es, ep, h1, h2, h3, h4, h5⟩ := (show ObjOk P w H h a (.dT kvs) from rd_of ok e)
  refine ⟨z, y, xs, r, o, es, ep, h1, h2, h3, h4, fun x hx => ?_, h5⟩
  have all : ∀ {l : List (List Key × V)} {m : List (List Key × Addr × Value)}, KT H l m → ∀ x ∈ m, (tupleKind (mixKind P w)).is h x.1 x.2.1 := by
    intro l m q
    induction q with
    | nil => intro x hx; exact nomatch hx
    | @cons p q ps qs hq t ih =>
      intro x hx
      rcases List.mem_cons.mp hx with e | hx
      · subst e
        exact key_of ok (by rw [← hq.1]; exact hq.2.1)
      · exact ih x hx
  exact all r x hx
theorem dt_of {kvs : List (List Key × V)} (ok : HOk P w H h) (e : H a = some (.dT kvs)) : kvs.length ≤ sizeLine ∧ (a == sysModules) = false ∧
    ∃ xs, KT H kvs xs ∧ h.DictOfH (tupleKind (mixKind P w)) a xs := dt_rd ok (.inl e)
end

/-- what the dict at a holds at the key y -/
def DGet (H : Hp) (a : Addr) (y : V) (r : Option V) : Prop :=
  (∃ kvs k, Rd H a (.dK kvs) ∧ y = kV k ∧ r = valV kvs k) ∨ ∃ kvs k b, Rd H a (.dT kvs) ∧ y = .ref b ∧ H b = some (.tup (k.map kV)) ∧ r = valV kvs k
/-- the heap behind a[y] = v -/
def DPut (H : Hp) (a : Addr) (y v : V) (H' : Hp) : Prop :=
  (∃ kvs k, H a = some (.dK kvs) ∧ y = kV k ∧ kvs.length < sizeLine ∧ H' = upd H a (.dK (putK kvs k v))) ∨
  ∃ kvs k b, H a = some (.dT kvs) ∧ y = .ref b ∧ H b = some (.tup (k.map kV)) ∧ kvs.length < sizeLine ∧ H' = upd H a (.dT (putK kvs k v))
theorem DGet.k {H : Hp} {a : Addr} {kvs : List (Key × V)} {k : Key} (e : H a = some (.dK kvs)) : DGet H a (kV k) (valV kvs k) := .inl ⟨kvs, k, .inl e, rfl, rfl⟩
theorem DGet.t {H : Hp} {a b : Addr} {kvs : List (List Key × V)} {k : List Key} (e : H a = some (.dT kvs)) (eb : H b = some (.tup (k.map kV))) : DGet H a (.ref b) (valV kvs k) := .inr ⟨kvs, k, b, .inl e, rfl, eb, rfl⟩
theorem DPut.k {H : Hp} {a : Addr} {kvs : List (Key × V)} {k : Key} {v : V} (e : H a = some (.dK kvs)) (hl : kvs.length < sizeLine) : DPut H a (kV k) v (upd H a (.dK (putK kvs k v))) := .inl ⟨kvs, k, e, rfl, hl, rfl⟩
theorem DPut.t {H : Hp} {a b : Addr} {kvs : List (List Key × V)} {k : List Key} {v : V} (e : H a = some (.dT kvs)) (eb : H b = some (.tup (k.map kV))) (hl : kvs.length < sizeLine) :
    DPut H a (.ref b) v (upd H a (.dT (putK kvs k v))) := .inr ⟨kvs, k, b, e, rfl, eb, hl, rfl⟩


section
variable {X : Cx} {pins : List (Addr × Obj)} {σ : St} {H : Hp} {s : Shared} {a : Addr} {y v : V} {u r : Value} {o : Option V} {A : Around} {E : Value → Shared → Prop}

theorem Inv.big (I : Inv X pins σ H s) : sysModules < s.heap.objs.size := by
  have h : mainGlobals < s.heap.objs.size := (I.mod.glob.keeps I.bk).lt
  exact Nat.lt_trans (by decide) h

/-- d[y], there -/
theorem d_getItem {Q : Value → Shared → Prop} (hu : A.units + 1 < cLine) (I : Inv X pins σ H s) (g : DGet H a y (some v)) (ry : RelV y u) (h : ∀ w' s', Inv X pins σ H s' → RelV v w' → Q w' s') :
    wpAny (model X.prog X.w) A (getItem (.ref a) u) Q E s := by
  rcases g with ⟨kvs, k, e, ey, l⟩ | ⟨kvs, k, b, e, ey, eb, l⟩
  · subst ey
    obtain ⟨z, hd, vs, rel, dd⟩ := dk_rd I.hok e
    obtain ⟨w', hw, rw'⟩ := RelO.some_of (v := v) (o := valueAt vs k) (by rw [l]; exact rel.val k)
    exact wpAny_getItem_of (kV_is ry) dd.mapOf hw (h w' _ (I.tok _) rw')
  · subst ey
    cases (show u = Value.ref b from ry)
    obtain ⟨z, hd, xs, rel, dd⟩ := dt_rd I.hok e
    obtain ⟨w', hw, rw'⟩ := RelO.some_of (v := v) (o := (atKey xs k).map (·.2)) (by rw [l]; exact rel.val k)
    obtain ⟨p, hp, hp2⟩ := Option.map_eq_some_iff.mp hw
    refine wpAny_getItem_heap (tupleKind_room_in1 hu) (key_of I.hok eb) dd hp ?_
    rw [hp2]
    exact h w' _ (I.tok _) rw'
/-- y in d -/
theorem d_in {Q : Value → Shared → Prop} (hu : A.units + 1 < cLine) (I : Inv X pins σ H s) (g : DGet H a y o) (ry : RelV y u) (h : ∀ s', Inv X pins σ H s' → Q (.bool o.isSome) s') :
    wpAny (model X.prog X.w) A (compareOp .In u (.ref a)) Q E s := by
  rcases g with ⟨kvs, k, e, ey, l⟩ | ⟨kvs, k, b, e, ey, eb, l⟩
  · subst ey
    obtain ⟨z, hd, vs, rel, dd⟩ := dk_rd I.hok e
    refine wpAny_in_of (kV_is ry) hd dd.mapOf ?_
    rw [← (rel.val k).isSome_eq, ← l]
    exact h _ (I.tok _)
  · subst ey
    cases (show u = Value.ref b from ry)
    obtain ⟨z, hd, xs, rel, dd⟩ := dt_rd I.hok e
    refine wpAny_in_heap (tupleKind_room_in1 hu) (key_of I.hok eb) hd dd ?_
    have q := (rel.val k).isSome_eq
    rw [Option.isSome_map] at q
    rw [← q, ← l]
    exact h _ (I.tok _)
theorem d_notIn {Q : Value → Shared → Prop} (hu : A.units + 1 < cLine) (I : Inv X pins σ H s) (g : DGet H a y o) (ry : RelV y u) (h : ∀ s', Inv X pins σ H s' → Q (.bool (!o.isSome)) s') :
    wpAny (model X.prog X.w) A (compareOp .NotIn u (.ref a)) Q E s := by
  rcases g with ⟨kvs, k, e, ey, l⟩ | ⟨kvs, k, b, e, ey, eb, l⟩
  · subst ey
    obtain ⟨z, hd, vs, rel, dd⟩ := dk_rd I.hok e
    refine wpAny_notIn_of (kV_is ry) hd dd.mapOf ?_
    rw [← (rel.val k).isSome_eq, ← l]
    exact h _ (I.tok _)
  · subst ey
    cases (show u = Value.ref b from ry)
    obtain ⟨z, hd, xs, rel, dd⟩ := dt_rd I.hok e
    refine wpAny_notIn_heap (tupleKind_room_in1 hu) (key_of I.hok eb) hd dd ?_
    have q := (rel.val k).isSome_eq
    rw [Option.isSome_map] at q
    rw [← q, ← l]
    exact h _ (I.tok _)
/-- a dict's object is replaced -/
theorem d_write {h' : Heap} {t' : Nat} {ob : HO} (I : Inv X pins σ H s) (mu : Mut (H a)) (hs : Heap.SameBut a s.heap h') (he : ∃ q, h'.get? a = some q) (new : ObjOk X.prog X.w (upd H a ob) h' a ob) :
    Inv X pins σ (upd H a ob) { s with heap := h', toks := t' } :=
  I.write (x := a) (e := a) mu (.inl rfl) (fun b q hb z => (hs.2 b hb).trans z) he new
theorem dk_new {P : Program} {w : World} {H' : Hp} {h' : Heap} {kvs : List (Key × V)} {vs : List (Key × Value)} (z : kvs.length ≤ sizeLine) (hd : (a == sysModules) = false) (rel : KV kvs vs) (dd : h'.DictOf (mixKind P w) a vs) :
    ObjOk P w H' h' a (.dK kvs) := ⟨z, hd, vs, rel, dd⟩
/-- d[y] = v -/
theorem d_setItem {H' : Hp} {Q : Unit → Shared → Prop} (hu : A.units + 1 < cLine) (I : Inv X pins σ H s) (g : DPut H a y v H') (ry : RelV y u) (rv : RelV v r) (h : ∀ s', Inv X pins σ H' s' → Q () s') :
    wpAny (model X.prog X.w) A (setItem (.ref a) u r) Q E s := by
  rcases g with ⟨kvs, k, e, ey, l, eH⟩ | ⟨kvs, k, b, e, ey, eb, l, eH⟩
  · subst ey eH
    obtain ⟨z, hd, vs, rel, dd⟩ := dk_of I.hok e
    have hz : vs.length ≤ sizeLine := by rw [← rel.length]; exact z
    have hl : (putK kvs k v).length ≤ sizeLine := by have := length_putK kvs k v; omega
    refine wpAny_setItem_pairs (hsz := hz) (kV_is ry) dd fun h' dd' hs => h _ ?_
    have he : ∃ q, h'.get? a = some q := let ⟨q, _, _, hq, _⟩ := dd'; ⟨q, hq⟩
    exact d_write I (by rw [e]; exact True.intro) hs he (dk_new hl hd (rel.put k rv) dd')
  · subst ey eH
    cases (show u = Value.ref b from ry)
    obtain ⟨z, hd, xs, rel, dd⟩ := dt_of I.hok e
    have hz : xs.length ≤ sizeLine := by rw [← Paired.length rel]; exact z
    have hl : (putK kvs k v).length ≤ sizeLine := by have := length_putK kvs k v; omega
    refine wpAny_setItem_heap (hsz := hz) (tupleKind_room_in1 hu) (key_of I.hok eb) dd fun h' dd' hs => h _ ?_
    obtain ⟨q, es, ep, hq, h2, h3, h4, _, h5⟩ := dd'
    refine d_write I (by rw [e]; exact True.intro) hs ⟨q, hq⟩ ⟨hl, hd, _, (rel.put k eb rv).keeps fun c ys ec => ?_, q, es, ep, hq, h2, h3, h4, h5⟩
    rw [upd_ne (ne_of ec e (fun z => nomatch z))]
    exact ec
end

section
variable {X : Cx} {pins : List (Addr × Obj)} {σ : St} {H : Hp} {s : Shared} {a : Addr} {kvs : List (Key × V)} {k : Key} {u : Value} {A : Around} {E : Value → Shared → Prop}
end


/-! ### readings and rules -/
/-- the element of a subscription, not a slice -/
def NoSl (i : Expr) : Prop := ∀ ov iv, subscripted i false ov iv = operate [ov, iv] (getItem ov iv)
theorem subD_of {prog : Program} {w : World} {A : Around} {E : Value → Shared → Prop} {s : Shared} {env : Env} {value slice : Expr} {pos : Pos} {T id : String} {Q : Value → Shared → Prop}
    (hl : typeLookup (.type T) "__getitem__" = pure (some (.builtin id))) (hs : NoSl slice)
    (h : wpAny (model prog w) A (eval value env) (fun o s₁ => wpAny (model prog w) A (eval slice env) (fun i s₂ => s₂.TypeIs o T ∧ wpAny (model prog w) A (getItem o i) Q E s₂) E s₁) E s) :
    wpAny (model prog w) A (eval (.Subscript value slice pos) env) Q E s := by
  refine Subscript_ (wpAny_mono h (fun o s₁ h₁ => wpAny_mono h₁ (fun i s₂ h₂ => ?_) fun _ _ x => x) fun _ _ x => x)
  obtain ⟨hT, h₂⟩ := h₂
  unfold subscriptTail
  refine wpAny_bind ?_
  rw [getitemInPython_of_ne hT.not_modules]
  refine wpAny_bind (wpAny_specialOf hT hl ?_)
  have fin : wpAny (model prog w) A (subscripted slice false o i) (fun r s₃ => wpAny (model prog w) A (letTemporaryGo value o r >>= fun _ => pure r) Q E s₃) E s₂ := by
    rw [hs o i]
    exact wpAny_operating (wpAny_mono h₂ (fun r s₃ h₃ => wpAny_bind (wpAny_letTemporaryGo (wpAny_pure h₃))) fun _ _ x => x)
  first
    | exact wpAny_pure (wpAny_bind fin)
    | exact wpAny_bind (wpAny_pure (wpAny_bind fin))
    | exact wpAny_bind fin

theorem dict_typeIs {X : Cx} {pins : List (Addr × Obj)} {σ : St} {H : Hp} {s : Shared} {a : Addr} {y : V} {o : Option V} (I : Inv X pins σ H s) (g : DGet H a y o) : s.TypeIs (.ref a) "dict" := by
  rcases g with ⟨kvs, k, e, _, _⟩ | ⟨kvs, k, b, e, _, _, _⟩
  · obtain ⟨_, _, vs, _, dd⟩ := dk_rd I.hok e
    exact dd.typeIs
  · obtain ⟨_, _, xs, _, dd⟩ := dt_rd I.hok e
    exact dd.typeIs
/-- d[y] -/
def tDGet (td ty : TE) : TE := fun σ H Q => td σ H fun x H1 => ty σ H1 fun y H2 => ∃ a v, x = .ref a ∧ DGet H2 a y (some v) ∧ Q v H2
/-- y in d, y not in d -/
def tDIn (ty td : TE) : TE := fun σ H Q => ty σ H fun y H1 => td σ H1 fun x H2 => ∃ a o, x = .ref a ∧ DGet H2 a y o ∧ Q (.bl o.isSome) H2
def tDNotIn (ty td : TE) : TE := fun σ H Q => ty σ H fun y H1 => td σ H1 fun x H2 => ∃ a o, x = .ref a ∧ DGet H2 a y o ∧ Q (.bl (!o.isSome)) H2
/-- d[y] = v -/
def sDPut (td ty tv : TE) : TS := fun D σ H => tv σ H fun v H1 => td σ H1 fun x H2 => ty σ H2 fun y H3 => ∃ a H4, x = .ref a ∧ DPut H3 a y v H4 ∧ D.nx σ H4
section
variable {X : Cx} {o i e value : Expr} {pos pos' tpos : Pos} {td ty tv : TE}
theorem pe_dget (hu : X.A.units + 1 < cLine) (ho : PE X o td) (hi : PE X i ty) (hs : NoSl i) : PE X (.Subscript o i pos) (tDGet td ty) := by
  intro pins s σ H Q I h
  refine subD_of PySem.F.slot_dict_getitem.lookup hs (thn (ho pins s σ H _ I h) fun u s1 ⟨x, H1, I1, rx, q1⟩ => thn (hi pins s1 σ H1 _ I1 q1) fun iv s2 ⟨y, H2, I2, ry, a, v, ex, g, q2⟩ => ?_)
  subst ex
  obtain rfl : u = Value.ref a := rx
  exact ⟨dict_typeIs I2 g, d_getItem hu I2 g ry fun w' s3 I3 rw' => ⟨v, H2, I3, rw', q2⟩⟩
theorem pc_din (hu : X.A.units + 1 < cLine) (hi : PE X i ty) (ho : PE X o td) : PC X .In i o (tDIn ty td) := by
  intro pins s σ H Q I h
  refine thn (hi pins s σ H _ I h) fun iv s1 ⟨y, H1, I1, ry, q1⟩ => thn (ho pins s1 σ H1 _ I1 q1) fun u s2 ⟨x, H2, I2, rx, a, ov, ex, g, q2⟩ => ?_
  subst ex
  obtain rfl : u = Value.ref a := rx
  exact d_in hu I2 g ry fun s3 I3 => ⟨.bl ov.isSome, H2, I3, rfl, q2⟩
theorem pc_dnotin (hu : X.A.units + 1 < cLine) (hi : PE X i ty) (ho : PE X o td) : PC X .NotIn i o (tDNotIn ty td) := by
  intro pins s σ H Q I h
  refine thn (hi pins s σ H _ I h) fun iv s1 ⟨y, H1, I1, ry, q1⟩ => thn (ho pins s1 σ H1 _ I1 q1) fun u s2 ⟨x, H2, I2, rx, a, ov, ex, g, q2⟩ => ?_
  subst ex
  obtain rfl : u = Value.ref a := rx
  exact d_notIn hu I2 g ry fun s3 I3 => ⟨.bl (!ov.isSome), H2, I3, rfl, q2⟩
theorem ps_dput (hu : X.A.units + 1 < cLine) (ho : PE X o td) (hi : PE X i ty) (hv : PE X value tv) (hs : swapsWith value (some (.Subscript o i pos')) pos.line X.env = pure false) :
    PS X (.Assign [.Subscript o i pos'] value pos) (sDPut td ty tv) := by
  intro pins s σ H D I h
  refine wpAny_Assign_Subscript (thn (hv pins s σ H _ I h) fun r s1 ⟨v, H1, I1, rv, q1⟩ => thn (ho pins s1 σ H1 _ I1 q1) fun u s2 ⟨x, H2, I2, rx, q2⟩ => thn (hi pins s2 σ H2 _ I2 q2) fun iv s3 ⟨y, H3, I3, ry, a, H4, ex, g, q3⟩ => ?_) hs
  subst ex
  obtain rfl : u = Value.ref a := rx
  exact d_setItem hu I3 g ry rv fun s4 I4 => ⟨σ, H4, I4, q3⟩
end


/-! ### displays -/
theorem dk_empty {P : Program} {w : World} {H : Hp} (h : Heap) (hb : sysModules < h.objs.size) : ObjOk P w H (h.push { cls := .type "dict", data := .dict #[] }) h.objs.size (.dK []) :=
  ⟨Nat.zero_le _, beq_eq_false_iff_ne.mpr (Ne.symm (Nat.ne_of_lt hb)), [], .nil, Heap.DictOf.new h⟩
theorem dt_empty {P : Program} {w : World} {H : Hp} (h : Heap) (hb : sysModules < h.objs.size) : ObjOk P w H (h.push { cls := .type "dict", data := .dict #[] }) h.objs.size (.dT []) :=
  ⟨Nat.zero_le _, beq_eq_false_iff_ne.mpr (Ne.symm (Nat.ne_of_lt hb)), [], .nil, _, #[], 0, Heap.get?_push_size _ rfl, ⟨rfl, rfl, rfl⟩, rfl, rfl, List.nodup_nil⟩
def tDNewT : TE := fun _ H Q => ∀ p, H p = none → Q (.ref p) (upd H p (.dT []))
section
variable {X : Cx} {pos : Pos}
theorem pe_dnewT : PE X (.Dict [] [] pos) tDNewT := fun pins s σ H Q I h =>
  wpAny_Dict_empty ⟨.ref s.heap.objs.size, _, I.laid (a := s.heap.objs.size) (o := .dT []) (t' := s.toks) (fun _ _ q => Heap.get?_push_of_some _ q) (Nat.le_refl _) (dt_empty s.heap I.big), rfl, h _ (I.hok.fresh (Nat.le_refl _))⟩
end

/-- the pairs of a display, from the left -/
def tPairs : List (TE × TE) → St → Hp → (List (V × V) → Hp → Prop) → Prop
  | [], _, H, Q => Q [] H
  | (tk, tv) :: r, σ, H, Q => tk σ H fun x H1 => tv σ H1 fun y H2 => tPairs r σ H2 fun ps H3 => Q ((x, y) :: ps) H3
abbrev VV : List (V × V) → List (Value × Value) → Prop := Paired fun p q => RelV p.1 q.1 ∧ RelV p.2 q.2
def PPs (X : Cx) (pos : Pos) (keys : List (Option Expr)) (values : List Expr) (trs : List (TE × TE)) : Prop :=
  ∀ (pins : List (Addr × Obj)) (s : Shared) (σ : St) (H : Hp) (Q : List (V × V) → Hp → Prop), Inv X pins σ H s → tPairs trs σ H Q →
    wpAny (model X.prog X.w) X.A (evalPairs (pairTrees keys values X.env pos)) (fun vs s' => ∃ ps H', Inv X pins σ H' s' ∧ VV ps vs ∧ Q ps H') X.xe s
theorem pps_nil {X : Cx} {pos : Pos} : PPs X pos [] [] [] := fun pins s σ H Q I h => pairTrees_nil_walk ⟨[], H, I, .nil, h⟩
theorem pps_cons {X : Cx} {pos : Pos} {k v : Expr} {ks : List (Option Expr)} {vs : List Expr} {tk tv : TE} {trs : List (TE × TE)} (hk : PE X k tk) (hv : PE X v tv) (hr : PPs X pos ks vs trs) :
    PPs X pos (some k :: ks) (v :: vs) ((tk, tv) :: trs) := fun pins s σ H Q I h =>
  pairTrees_cons_walk (thn (hk pins s σ H _ I h) fun u s1 ⟨x, H1, I1, rx, q1⟩ => thn (hv pins s1 σ H1 _ I1 q1) fun w2 s2 ⟨y, H2, I2, ry, q2⟩ =>
    thn (hr pins s2 σ H2 _ I2 q2) fun ws s3 ⟨ps, H3, I3, rel, q3⟩ => ⟨(x, y) :: ps, H3, I3, .cons ⟨rx, ry⟩ rel, q3⟩)

def mergeK (kvs more : List (Key × V)) : List (Key × V) := more.foldl (fun acc kv => putK acc kv.1 kv.2) kvs
theorem KV.merge : ∀ {more : List (Key × V)} {rs : List (Key × Value)} {kvs : List (Key × V)} {vs : List (Key × Value)}, KV more rs → KV kvs vs → KV (mergeK kvs more) (merged vs rs) := by
  intro more rs kvs vs r
  unfold KV at r
  induction r generalizing kvs vs with
  | nil => intro q; exact q
  | @cons p q ps qs h t ih =>
    intro r0
    have e : KV (putK kvs p.1 p.2) (stored vs q.1 q.2) := by
      have := r0.put p.1 h.2
      rw [← h.1]; exact this
    exact ih e
theorem length_mergeK : ∀ (more kvs : List (Key × V)), (mergeK kvs more).length ≤ kvs.length + more.length
  | [], kvs => by show kvs.length ≤ kvs.length + 0; omega
  | p :: r, kvs => by
    have h1 := length_mergeK r (putK kvs p.1 p.2)
    have h2 := length_putK kvs p.1 p.2
    show (mergeK (putK kvs p.1 p.2) r).length ≤ _
    rw [List.length_cons]; omega
theorem carries_of {P : Program} {w : World} : ∀ {kvs : List (Key × V)} {ws : List (Value × Value)}, VV (kvs.map fun kv => (kV kv.1, kv.2)) ws → ∃ rs, Carries (mixKind P w) ws rs ∧ KV kvs rs
  | [], _, r => by rw [List.map_nil] at r; cases r; exact ⟨[], True.intro, .nil⟩
  | p :: kvs, _, r => by
    rw [List.map_cons] at r
    cases r with
    | @cons a b as bs h t =>
      obtain ⟨rs, c, q⟩ := carries_of (P := P) (w := w) t
      obtain ⟨b1, b2⟩ := b
      exact ⟨(p.1, b2) :: rs, ⟨kV_is h.1, rfl, c⟩, .cons ⟨rfl, h.2⟩ q⟩
/-- {k: v, ..} with keys ints and texts; the new dict stands empty while the pairs are made -/
def tDisp (trs : List (TE × TE)) : TE := fun σ H Q => ∀ p, H p = none → tPairs trs σ (upd H p (.dK [])) fun ps H2 => H2 p = some (.dK []) ∧ ∃ kvs : List (Key × V), ps = kvs.map (fun kv => (kV kv.1, kv.2)) ∧ kvs.length ≤ 15 ∧ Q (.ref p) (upd H2 p (.dK (mergeK [] kvs)))
theorem pe_disp {X : Cx} {pos : Pos} {keys : List (Option Expr)} {values : List Expr} {trs : List (TE × TE)} (h : PPs X pos keys values trs) (hall : keys.all (·.isSome) = true) (hl : keys.length = values.length) (h0 : keys ≠ [])
    (h15 : keys.length ≤ 15) : PE X (.Dict keys values pos) (tDisp trs) := by
  intro pins s σ H Q I q
  have hn := I.hok.fresh (Nat.le_refl s.heap.objs.size)
  have I1 := I.laid (a := s.heap.objs.size) (o := .dK []) (h' := s.heap.push { cls := .type "dict", data := .dict #[] }) (t' := s.toks) (fun _ _ q => Heap.get?_push_of_some _ q) (Nat.le_refl _) (dk_empty s.heap I.big)
  refine wpAny_Dict_walk (knd := mixKind X.prog X.w) hall hl h0 h15 (thn (h pins _ σ _ _ I1 (q _ hn)) fun ws s2 ⟨ps, H2, I2, rel, e, kvs, ep, lk, q2⟩ => ?_)
  subst ep
  obtain ⟨rs, c, rk⟩ := carries_of (P := X.prog) (w := X.w) rel
  obtain ⟨z, hd, vs0, r0, dd⟩ := dk_of I2.hok e
  cases r0
  refine ⟨rs, c, dd, fun h' dd' hs => ⟨.ref s.heap.objs.size, _, ?_, rfl, q2⟩⟩
  have hz : (mergeK [] kvs).length ≤ sizeLine := by
    have h1 := length_mergeK kvs []
    rw [List.length_nil] at h1
    rw [sizeLine_eq]; omega
  have he : ∃ q, h'.get? s.heap.objs.size = some q := let ⟨q, _, _, hq, _⟩ := dd'; ⟨q, hq⟩
  exact d_write I2 (by rw [e]; exact True.intro) hs he (dk_new hz hd (rk.merge .nil) dd')


/-! ### methods -/
section
variable {X : Cx} {pins : List (Addr × Obj)} {σ : St} {H : Hp} {s : Shared} {a : Addr} {y d : V} {u r : Value} {o : Option V} {A : Around} {E : Value → Shared → Prop}
end

section
variable {X : Cx} {o e f : Expr} {apos cpos : Pos} {td ty tx : TE}
end

/-! ### dict(d): a copy -/
section
variable {X : Cx} {pins : List (Addr × Obj)} {σ : St} {H : Hp} {s : Shared} {a : Addr} {kvs : List (Key × V)} {A : Around} {E : Value → Shared → Prop}
end


section
variable {X : Cx} {pins : List (Addr × Obj)} {σ : St} {H : Hp} {s : Shared} {a : Addr} {y : V} {u : Value} {A : Around} {E : Value → Shared → Prop}
end
end L2

namespace L2
open PySem PySem.Spec PyProof.Rows

section
variable {prog : Program} {w : World} {A : Around} {E : Value → Shared → Prop}
end

section
variable {X : Cx}
end
end L2

namespace L2
open PySem PySem.Spec PyProof.Rows

section
variable {X : Cx} {pins : List (Addr × Obj)} {σ : St} {H : Hp} {s : Shared} {h' : Heap}
/-! ### locking a thing while a statement runs -/
end
section
variable {X : Cx}
/-! ### one iterator just laid -/
theorem pi_one {tg : Expr} {pins : List (Addr × Obj)} {σ : St} {H : Hp} {s : Shared} {R : It → Hp → Prop} {J : It} {tn : Nat → Heap → Prop} {tk : Nat} (I : Inv X pins σ H s) (o : Obj)
    (T : Turn X.prog X.w X.K tg J [s.heap.objs.size] s.heap.objs.size tn) (st : tn 0 (s.heap.push o)) (q : R J H) : PIE X pins σ tg R (.ref s.heap.objs.size) { s with heap := s.heap.push o, toks := tk } := by
  refine ⟨s.heap.objs.size, [s.heap.objs.size], tn, J, H, rfl, I.kept fun b ob e => Heap.get?_push_of_some _ e, T, st, fun b hb => ?_, q⟩
  have e : b = s.heap.objs.size := by simpa using hb
  subst e
  exact I.fpOk (Nat.le_refl _) (I.hok.fresh (Nat.le_refl _))
end

/-! ### range with a step -/
/-- lo, lo + c, .. (n of them) -/
def Itc (lo c : Int) (n : Nat) : It := ⟨fun i _ => i < n, fun i H x H' => H' = H ∧ x = .int (lo + (i : Nat) * c), fun i _ => n ≤ i⟩
theorem turn_rangeC {P : Program} {w : World} {K : PySem.W.Frag} {tg : Expr} (it : Addr) (lo c : Int) (n : Nat) : Turn P w K tg (Itc lo c n) [it] it (fun i h => IsRangeIter h it (lo + (i : Nat) * c) ((n : Int) - (i : Nat)) c) where
  mem := by simp
  obj := fun i h st b hb => by
    have e : b = it := by simpa using hb
    subst e
    exact ⟨_, st, fun v z => nomatch z⟩
  keep := fun i h h' st k => k it (by simp) _ st
  item := by
    intro X hP hw hK hc i pins s σ H E I hf st hg
    subst hP hw hK
    obtain ⟨f0, f1, f2, f3, f4, f5⟩ := hf it (by simp)
    have W := Walks.range (prog := X.prog) (w := X.w) (I.ok.hd hc) it lo c n
    refine W.item i s _ _ hg st fun v h' tk hv st' kk => ?_
    obtain ⟨t, rfl⟩ := hv
    have I1 : Inv X pins σ H { s with heap := h', toks := tk } := I.turned (fun b o hb e => kk b o (by simpa using hb) e) f0 f1 f3 f4 f5
    exact ⟨_, rfl, go_of (s := { s with heap := h', toks := tk }) (n := "range_iterator") st' rfl rfl (by decide) ⟨.int (lo + (i : Nat) * c), H, I1, ⟨t, rfl⟩, ⟨rfl, rfl⟩, st', fun b hb => (hf b hb).1⟩⟩
  done := by
    intro X hP hw hK hc i pins s σ H E I hf st hg
    subst hP hw hK
    obtain ⟨f0, f1, f2, f3, f4, f5⟩ := hf it (by simp)
    exact wpAny_pyNext_range_end (I.ok.hd hc) st (by have : n ≤ i := hg; omega) fun h' eb => ⟨rfl, I.turned (t' := s.toks) (fun b o hb e => eb b o hb e) f0 f1 f3 f4 f5⟩
  self := fun A i s Q E st h => wpAny_pyIter_rangeiter st h
/-- range(i, j, c): small bounds, n items -/
def RgC (i j c : Int) (n : Nat) : Prop := c ≠ 0 ∧ c.natAbs < 1073741824 ∧ Builtin.Range.small i j c = true ∧ Builtin.Range.rangeSize i j c = n
theorem RgC.neg {i j : Int} (ha : -(2 ^ 62) ≤ i) (ha' : i < 2 ^ 62) (hb : -(2 ^ 62) ≤ j) (hb' : j < 2 ^ 62) : RgC i j (-1) (i - j).toNat :=
  ⟨by decide, by decide, PySem.W.small_down ha ha' hb hb', PySem.W.rangeSize_downNat i j⟩
def iRng3 (ta : TA) : TI := fun σ H R => ta σ H fun vs H1 => ∃ (i j c : Int) (n : Nat), vs = [.int i, .int j, .int c] ∧ RgC i j c n ∧ R (Itc i c n) H1
section
variable {X : Cx} {tg : Expr}
theorem pi_range3 {a b c : Expr} {ta : TA} {p pos : Pos} (hg : Gl X "range") (hm : X.mg "range" = none) (ha : PA X [a, b, c] ta)
    (hs : starEach [a, b, c] X.env = (false, eval a X.env) :: starEach [b, c] X.env := by rfl) (hpl : (backTo pos (starEach [b, c] X.env)).any (·.1) = false := by rfl) :
    PI X tg (.Call (.Name "range" p) [a, b, c] [] pos) (iRng3 ta) := by
  intro pins s σ H R I h
  refine Call_ (ld_blt I hg hm boot_range (PyProof.Rows.callWith_type1 (thn (ha pos pins s σ H _ I h) fun us s1 ⟨vs, H1, I1, r1, q1⟩ => ?_) hs hpl))
  obtain ⟨i, j, k, n, e, ⟨c0, c1, c2, c3⟩, q⟩ := q1
  subst e
  cases r1 with
  | cons r rr =>
    cases rr with
    | cons r' rr =>
      cases rr with
      | cons r'' rr =>
        cases rr
        obtain ⟨t, rfl⟩ := r
        obtain ⟨t', rfl⟩ := r'
        obtain ⟨t'', rfl⟩ := r''
        refine call_range_3 c0 ?_ (.inl (PyProof.noPylong_small c1))
        refine wpAny_pyIter_range (IsRange.new ..) c2 ?_
        have I2 : Inv X pins σ H1 { s1 with heap := s1.heap.push { cls := .type "range", data := .fields #[.int i t, .int j t', .int k t''] } } := I1.kept (t' := s1.toks) fun b o e => Heap.get?_push_of_some _ e
        refine pi_one (tk := s1.toks) I2 _ (turn_rangeC _ i k n) ?_ q
        have e1 : i + ((0 : Nat) : Int) * k = i := by simp
        have e2 : (n : Int) - ((0 : Nat) : Int) = Builtin.Range.rangeSize i j k := by rw [c3]; simp
        show IsRangeIter _ _ (i + ((0 : Nat) : Int) * k) ((n : Int) - ((0 : Nat) : Int)) k
        rw [e1, e2]
        exact Heap.get?_push_size _ rfl
end
/-- the turns of a step range, for the for loop -/
theorem for_rangeC {lo c : Int} {n : Nat} {g : TG} {tb : TS} {D : Ends} {σ : St} {H : Hp} (Pv : Nat → St → Hp → Prop) (h0 : Pv 0 σ H)
    (hs : ∀ i σ H, i < n → Pv i σ H → g (.int (lo + (i : Nat) * c)) σ H fun σ2 H2 => tb { D with nx := Pv (i + 1), ct := Pv (i + 1), bk := D.nx } σ2 H2) (hd : ∀ σ H, Pv n σ H → D.nx σ H) :
    ∃ W : Nat → Nat → St → Hp → Prop, (∃ m, W 0 m σ H) ∧ ∀ i m σ H, W i m σ H →
      ((Itc lo c n).stop i H ∧ D.nx σ H) ∨ ((Itc lo c n).go i H ∧ ∃ N : St → Hp → Prop, (∀ σ' H', N σ' H' → ∃ m', m' < m ∧ W (i + 1) m' σ' H') ∧ ∀ x H', (Itc lo c n).yld i H x H' → g x σ H' fun σ2 H2 => tb { D with nx := N, ct := N, bk := D.nx } σ2 H2) := by
  refine ⟨fun i m σ H => m = n - i ∧ i ≤ n ∧ Pv i σ H, ⟨n, by simp, Nat.zero_le _, h0⟩, ?_⟩
  rintro i m σ H ⟨rfl, hi, p⟩
  by_cases hlt : i < n
  · refine .inr ⟨hlt, Pv (i + 1), fun σ' H' p' => ⟨n - (i + 1), by omega, rfl, hlt, p'⟩, fun x H' y => ?_⟩
    obtain ⟨e, y⟩ := y
    subst e y
    exact hs i σ _ hlt p
  · have e : i = n := by omega
    subst e
    exact .inl ⟨Nat.le_refl _, hd σ H p⟩

/-! ### reversed(list) -/
section
variable {X : Cx} {tg : Expr}
end

/-! ### a str -/
/-! ### a dict's keys: any dict's entries -/
section
variable {prog : Program} {w : World} {A : Around} {E : Value → Shared → Prop} {s : Shared}
end

/-! ### a locked dict -/
section
variable {X : Cx} {pins : List (Addr × Obj)} {σ : St} {H : Hp} {s : Shared} {d : Addr} {o : Obj}
end

section
variable {P : Program} {w : World} {K : PySem.W.Frag} {tg : Expr} {d : Addr} {o : Obj} {es : Array DictEntry} {ep : Nat}
end

/-! ### for k in d, d.keys(), d.values(), d.items() -/
section
variable {X : Cx} {tg e : Expr} {td : TE} {apos cpos : Pos}
end

/-! ### enumerate(list) -/
/-! ### zip(list, list) -/
end L2

section 
namespace Bits
open PySem PyProof.Rows

end Bits
end 

section 
namespace TL
open PySem PySem.Builtin PySem.Builtin.Str PySem.StrLaws

abbrev tl (x : Str) : List Nat := x.cps.toList
/-! ### the list functions -/
/-- S stands at the head of l -/
def pre (S l : List Nat) : Bool := l.take S.length == S
/-- what stands before the first S, and behind it -/
def par (S : List Nat) : List Nat → List Nat → Option (List Nat × List Nat)
  | _, [] => none
  | acc, c :: r => if pre S (c :: r) = true then some (acc, (c :: r).drop S.length) else par S (acc ++ [c]) r

/-! ### the model's split and partition are these -/
/-! ### computing spl and par -/
/-! ### digits -/
/-! ### words: x.split() -/
end TL
end 

namespace L2
open PySem PySem.Spec PyProof.Rows

section
variable {X : Cx} {pins : List (Addr × Obj)} {σ : St} {H : Hp} {s : Shared} {Q : VK}
end

section
variable {X : Cx}

/-! ### of a text alone -/
/-! ### of a text and a text -/
end

section
variable {X : Cx} {o e : Expr} {to te : TE}
end
end L2

namespace L2
open PySem PySem.Spec PyProof.Rows

section
variable {X : Cx}
end

/-! ### slices of a text -/
theorem IsPart.raw {v : Value} {o : Option Int} (p : IsPart v o) : ∃ l : Option (Int × Tok), v = partValue l ∧ l.map (·.1) = o := by
  cases p with
  | none => exact ⟨none, rfl, rfl⟩
  | int i t => exact ⟨some (i, t), rfl, rfl⟩

end L2

namespace Att
open PySem PySem.W PySem.Calls PyProof.Rows

/-! ### the script -/
theorem ints_of_wellAll {P : Params} {h : Heap} : ∀ (ns : List Int) (vs : List Value), WellAll P h vs (ns.map WData.int) → IntsAre vs ns := by
  intro ns
  induction ns with
  | nil =>
    intro vs w
    rw [List.map_nil] at w
    cases w
    exact .nil
  | cons n ns ih =>
    intro vs w
    rw [List.map_cons] at w
    cases w with
    | cons a b =>
      cases a
      exact .cons _ _ (ih _ b)

theorem script_of {l : OpenLaw} {n : Nat} (hn : l.most = some n) {P : Params} {h : Heap} {args : List WData} {vals : List Value}
    (hpre : l.row.toRowW.claim.pre args = true) (hwl : WellAll P h vals args) :
    ∃ a vs ns, vals = [Value.ref a] ∧ args = [WData.list (ns.map WData.int)] ∧ h.get? a = some { cls := .type "list", data := .seq vs.toArray } ∧ IntsAre vs ns ∧ ns.length ≤ n := by
  have hsh : WShape.hasAll [] args [.list .int] = true := (pre_splitW hpre).1
  have hc : l.pre.holds [] { args := args } = true := (pre_splitW hpre).2
  obtain ⟨d, r, rfl, h1, h2⟩ := hasAllW_cons hsh
  obtain rfl := hasAllW_nil h2
  obtain ⟨xs, rfl, h3⟩ := hasW_list h1
  obtain ⟨ns, rfl⟩ := items_int h3
  have hlen : ns.length ≤ n := by
    unfold OpenLaw.pre at hc
    have h4 : (WTm.not (.lt (.lit (.int (n : Int))) (.len (.arg 0)))).holds [] { args := [.list (ns.map .int)] } = true := by
      have h4 := (holds_andW hc).1
      rw [hn] at h4
      exact h4
    have h5 := condW_of h4 (w_not (w_lt w_lit (w_len_list (w_arg rfl))))
    rw [List.length_map] at h5
    refine Nat.le_of_not_lt fun q => ?_
    have q' : (n : Int) < ((ns.length : Nat) : Int) := by omega
    first
      | (rw [decide_eq_true q'] at h5; exact absurd h5 (by decide))
      | (simp at h5; omega)
  cases hwl with
  | cons w1 w2 =>
    cases w2
    cases w1 with
    | list ho hall => exact ⟨_, _, ns, rfl, rfl, ho, ints_of_wellAll ns _ hall, hlen⟩

theorem post_true (l : OpenLaw) (args : List WData) : l.row.toRowW.claim.post args (.bool true) args = true :=
  postW_of (r := l.row.toRowW) (X := (true == true))
    (show WShape.has [] (.bool true) .bool = true by first | rfl | decide | simp [WShape.has, WShape.arms, WShape.armsAll])
    (show (WTm.eq .res (.lit (.bool true))).value [] { args := args, res := some (.bool true), after := args } = some (.bool (true == true)) from w_eq_bool (w_res rfl) w_lit) rfl

/-! ### the attachment: holds_open's last premise (the goal 'hc' behind k_head) from a wpAny of the law's body -/
/-- the same from a codeAny of the CALL (for a layer whose function contracts speak of calls) -/
theorem attach_call {l : OpenLaw} {n : Nat} {q : Program} {loose : List Str} {XP : (Str → Option Value) → Heap → Prop} {YP : World → Heap → Prop} {d : DefRec}
    (hn : l.most = some n) (hdf : d.params.defaults = [])
    (call : ∀ (w : World) (s₀ s₁ : Shared) (mg mb : Str → Option Value) (fa : Addr) (o : Obj) (pm cd doc : Value) (a : Addr) (vs : List Value) (ns : List Int),
      Ground q loose [] XP w s₀ mg mb s₁.heap → YP w s₁.heap →
      s₁.heap.get? fa = some o → o.data = .func (docDef d.name d.params d.body d.scope pm cd doc) → s₁.heap.CodeRec cd d.name → mg d.name = some (.ref fa) →
      s₁.heap.get? a = some { cls := .type "list", data := .seq vs.toArray } → IntsAre vs ns → ns.length ≤ n → s₁.gens = #[] →
      codeAny (model l.prog w) callerA (.call (.ref fa) ⟨[.ref a], []⟩) (fun r s' => r = .ok (.ret (.bool true)) ∧ OldK s₁.heap s'.heap ∧ s'.os = s₁.os ∧ AllBare s'.gens) s₁) :
    WalkO q loose XP YP l.row.toRowW d [] (fun f vs => PySem.call f vs) := by
  intro w s₀ s₁ mg mb G Y fa o pm cd doc dV kV ho hd hcd hD hmg hg args vals as hpre hlay hrd hwl hlo
  obtain rfl : dV = .none := Dflts.none hD hdf
  obtain rfl : kV = .none := Dflts.noKw hD
  obtain ⟨a, vs, ns, rfl, rfl, hobj, hints, hlen⟩ := script_of hn hpre hwl
  refine enter_call (codeAny_mono (call w s₀ s₁ mg mb fa o pm cd doc a vs ns G Y ho (fd_plain hd) hcd hmg hobj hints hlen hg) fun r s' hq => ?_)
  obtain ⟨rfl, h2, h3, h4⟩ := hq
  exact ⟨.inl ⟨.bool true, .bool true, [], rfl, fun _ => rfl, .bool true, post_true l _, fun _ => ⟨List.Pairwise.nil, fun _ hm => (nomatch hm)⟩⟩, h2, h3, h4⟩

/-! ### rules over ANY heap (no ledger) from facts about the written part K: the library's own take a ledger (News) for what they write -/
section
variable {prog : Program} {w : World} {A : Around} {E : Value → Shared → Prop} {s : Shared} {K : Frag}

/-! the whole heap as the ledger: makes every rule that writes through a ledger a rule over any heap -/
end
end Att

namespace L2
open PySem PySem.Spec PyProof.Rows

theorem vals_ints : ∀ {vs : List Value} {ns : List Int}, IntsAre vs ns → Vals (ns.map V.int) vs
  | _, _, .nil => .nil
  | _, _, .cons n t h => .cons ⟨t, rfl⟩ (vals_ints h)

/-- nothing is tracked but the script, known to the object (or it is an object of the module) -/
def Only (H : Hp) : Prop := ∀ b, H b = none ∨ ∃ o xs, H b = some (.frz o (.lst xs))

/-- THE HEAD: the law's promise, at the heap behind the top. F, the promise of the law's def, may use that base is part of the heap (so K.In base, base.Ns mainGlobals mg stand in Mod) -/
theorem law_call {P : Program} {w : World} {K : PySem.W.Frag} {mg mb : Str → Option Value} {CX : CXT} {k : Nat} {fa a : Addr} {fd : FuncData} {x : Str} {sp : Sp} {s₁ : Shared} {vs : List Value} {ns : List Int}
    (KX : K.In s₁.heap) (hns : s₁.heap.Ns mainGlobals mg) (hb : s₁.heap.Ns builtinsNs mb) (hbb : ∀ x : Str, x ≠ "__name__" → mb x = bootBuiltins x) (hlim : s₁.heap.NoLimit) (hg : s₁.gens = #[])
    (ha : s₁.heap.get? a = some { cls := .type "list", data := .seq vs.toArray }) (hi : IntsAre vs ns) (hl : ns.length ≤ sizeLine) (hr : Room k callerA)
    (F : ∀ base : Heap, K.In base → base.Ns mainGlobals mg → FnOk P w K mg base CX k fa fd [x] sp) (hbind : ∀ (s : Shared) (u : Value), BindsTo s fd ⟨[u], []⟩ [(x, u)])
    (hsp : ∀ H : Hp, Only H → SqL K H a (ns.map V.int) → sp [.ref a] H (fun v _ => v = .bl true) fun _ _ _ => False)
    (hCX : ∀ H e s', CX [] H s₁ (fun _ _ _ => False) e s' → False) :
    codeAny (model P w) callerA (.call (.ref fa) ⟨[.ref a], []⟩) (fun r s' => r = .ok (.ret (.bool true)) ∧ OldK s₁.heap s'.heap ∧ s'.os = s₁.os ∧ AllBare s'.gens) s₁ := by
  have rv := vals_ints hi
  have lenV := hi.length
  -- from an abstract heap in which nothing but the script may be tracked
  have core : ∀ H : Hp, Only H → SqL K H a (ns.map V.int) → HOk P w H s₁.heap → (∀ b, H b ≠ none → b = a) → (H a ≠ none → K.lookup a = none) →
      codeAny (model P w) callerA (.call (.ref fa) ⟨[.ref a], []⟩) (fun r s' => r = .ok (.ret (.bool true)) ∧ OldK s₁.heap s'.heap ∧ s'.os = s₁.os ∧ AllBare s'.gens) s₁ := by
    intro H hO hS hok hA hK
    have base_of : ∀ {b : Addr} {o : Obj}, s₁.heap.get? b = some o → H b = none → (hidT s₁.heap H).get? b = some o := fun e n => hidT_get e n
    have noA : ∀ {b : Addr} {o : Obj} {es : Array DictEntry} {ep : Nat}, s₁.heap.get? b = some o → o.data = .dict es ep → H b = none := fun {b o es ep} e d => by
      cases q : H b with
      | none => rfl
      | some u =>
        have e' : b = a := hA b (by rw [q]; simp)
        subst e'
        rw [ha] at e; cases e
        have d' : Data.seq vs.toArray _ = Data.dict es ep := d
        cases d'
    have nsK : ∀ {b : Addr} {m : Str → Option Value}, s₁.heap.Ns b m → (hidT s₁.heap H).Ns b m := fun {b m} ⟨o, es, ep, e, d, r⟩ => ⟨o, es, ep, base_of e (noA e d), d, r⟩
    have hKb : K.In (hidT s₁.heap H) := fun b o e => base_of (KX b o e) (by
      cases q : H b with
      | none => rfl
      | some u =>
        have e' : b = a := hA b (by rw [q]; simp)
        subst e'
        rw [hK (by rw [q]; simp)] at e; cases e)
    have hM : Mod K mg (hidT s₁.heap H) := ⟨hKb, nsK hns, ⟨mb, nsK hb, hbb⟩, let ⟨mc, h1, h2⟩ := hlim; ⟨mc, nsK h1, h2⟩⟩
    have e0 : Env0 P w K mg (hidT s₁.heap H) callerA [] s₁ H := ⟨rfl, hM, fun b o e => of_hidT e, Nat.le_of_eq (hidT_size _ _), trivial, fun b hb => absurd (show b ∈ ([] : List Addr) from hb) (by simp), hok, .of_eq hg⟩
    refine codeAny_mono ((F _ hKb (nsK hns)).run callerA [] s₁ H ⟨[.ref a], []⟩ [.ref a] [.ref a] _ _ hr e0 (hbind s₁ (.ref a)) (.cons rfl .nil) (hsp H hO hS)) fun r s' h => ?_
    cases r with
    | error e => exact (hCX H e s' h).elim
    | ok fl =>
      cases fl with
      | next => exact False.elim h
      | brk => exact False.elim h
      | cont => exact False.elim h
      | ret u =>
        obtain ⟨v, H', os, bare, un, hok', r', q⟩ := h
        have q' : v = .bl true := q
        subst q'
        obtain rfl : u = Value.bool true := r'
        refine ⟨rfl, OldK.of_keep fun b o e => ?_, os, bare⟩
        cases q : H b with
        | none => exact un.keep b o e q (by intro z; exact absurd (show b ∈ ([] : List Addr) from z) (by simp)) (by simp)
        | some u =>
          rcases hO b with z | ⟨ob, xs, z⟩
          · rw [q] at z; cases z
          · have z2 := un.frzs b ob _ z
            obtain ⟨e1, _⟩ := hok b _ z
            obtain ⟨e2, _⟩ := hok' b _ z2
            rw [e] at e1; cases e1
            exact e2
  cases hk : K.lookup a with
  | some o =>
    -- the script is one of the module's own objects
    have e := KX a o hk
    rw [ha] at e
    cases e
    refine core (fun _ => none) (fun _ => .inl rfl) (.inr ⟨_, vs.toArray, _, hk, rfl, rfl, rfl, by rw [List.size_toArray, lenV]; exact hl, by simpa using rv⟩) (fun b u z => by have z' : (none : Option HO) = some u := z; cases z') (fun b z => absurd rfl z) fun z => absurd rfl z
  | none =>
    refine core (fun b => if b = a then some (.frz { cls := .type "list", data := .seq vs.toArray } (.lst (ns.map V.int))) else none) (fun b => ?_) (.inl (.inr ⟨{ cls := .type "list", data := .seq vs.toArray }, if_pos rfl⟩)) (fun b u z => ?_) (fun b z => ?_) fun _ => hk
    · by_cases hb : b = a
      · exact .inr ⟨_, _, if_pos hb⟩
      · exact .inl (if_neg hb)
    · by_cases hb : b = a
      · have z' := (if_pos hb).symm.trans z
        cases z'
        subst hb
        exact ⟨ha, by rw [List.length_map]; exact hl, vs, _, rv, ha⟩
      · have z' := (if_neg hb).symm.trans z
        cases z'
    · by_cases hb : b = a
      · exact hb
      · exact absurd (if_neg hb) z
end L2

namespace L2
open PySem PySem.Spec PyProof.Rows

abbrev KOf {K : PySem.W.Frag} {h : Heap} (_ : K.In h) : PySem.W.Frag := K

/-- the goal that k_head leaves (case hc), from the law's promise. F gives the function object fd (K's own) once, then the promise over every base -/
theorem walk_of {l : PySem.W.OpenLaw} {n k : Nat} {q : Program} {loose : List Str} {XP : (Str → Option Value) → Heap → Prop} {YP : World → Heap → Prop} {d : DefRec} {K : Params → PySem.W.Frag} {CX : World → CXT} {sp : World → Sp} {x : Str}
    (hn : l.most = some n) (hn2 : n ≤ sizeLine) (hdf : d.params.defaults = []) (hr : Room k callerA)
    (hY : ∀ (w : World) (h : Heap), YP w h → (K w.params).In h)
    (F : ∀ (w : World) (mg : Str → Option Value) (fa : Addr) (h : Heap), (K w.params).In h → h.Ns mainGlobals mg → mg d.name = some (.ref fa) →
      ∃ fd : FuncData, (∀ (s : Shared) (u : Value), BindsTo s fd ⟨[u], []⟩ [(x, u)]) ∧
        ∀ base : Heap, (K w.params).In base → base.Ns mainGlobals mg → FnOk l.prog w (K w.params) mg base (CX w) k fa fd [x] (sp w))
    (hsp : ∀ (w : World) (H : Hp) (a : Addr) (ns : List Int), ns.length ≤ n → Only H → SqL (K w.params) H a (ns.map V.int) → sp w [.ref a] H (fun v _ => v = .bl true) fun _ _ _ => False)
    (hCX : ∀ (w : World) (H : Hp) (s : Shared) (e : Value) (s' : Shared), CX w [] H s (fun _ _ _ => False) e s' → False) :
    PySem.W.WalkO q loose XP YP l.row.toRowW d [] (fun f vs => PySem.call f vs) := by
  refine Att.attach_call hn hdf fun w s₀ s₁ mg mb fa o pm cd doc a vs ns G Y ho hd hcd hmg hobj hints hlen hg => ?_
  have KX := hY w _ Y
  obtain ⟨fd, hb, hF⟩ := F w mg fa _ KX G.T.g hmg
  exact law_call KX G.T.g G.T.b G.T.builtins G.T.nolimit hg hobj hints (Nat.le_trans hlen hn2) hr hF hb (fun H hO hS => hsp w H a ns hlen hO hS) fun H e s' => hCX w H s₁ e s'
end L2

/- THE LAST THEOREM (shape; LID, My.* are yours):
   My.Adr: a structure of the addresses that your layer names (classes, functions); My.Txt K t: a structure (Prop) of the equations over K;
   My.txt_mk : {K} {implicit addresses ..} (e1 : nsIn K mainGlobals "law" = some (some (.ref f))) (e2 : K.lookup f = some ⟨oc, od, .func (fnOf "law" "law" params body scope dV kV doc pm an cdv ct), sl⟩) (e3 : codeIn K cdv "law" = true) .. : ∃ t, My.Txt K t

set_option maxRecDepth 100000 in
set_option maxHeartbeats 0 in
theorem PySem.Challenge.cw_LID_holds : PySem.Challenge.rw_LID.Holds := by
  w_on; o_law; k_head; (case hw => w_witness2)
  k_fill
  refine L2.walk_of (l := PySem.Challenge.rw_LID) (n := 63) (k := 40) (x := "script") (CX := fun w => ..) (sp := fun _ => My.sp_law) rfl (by decide) rfl ⟨rfl, by decide, by decide⟩ (fun w h Y => PySem.W.kIn_of Y) ?F ?S ?C
  case F =>
    intro w mg fa h KX G hmg
    have T : ∃ t, My.Txt (L2.KOf KX) t := by
      dsimp only [L2.KOf]                          -- K must stand as «<heap const> w.params» for k_is
      refine' My.txt_mk ?e1 ?e2 ?e3 ..
      (case e1 => PySem.W.k_is)                    -- in the order: a name -> its address -> its object -> its parts
      (case e2 => PySem.W.k_is)
      ..
    obtain ⟨t, T⟩ := T
    have e0 := hmg.symm.trans (PySem.W.mg_of KX G T.law)
    cases e0                                       -- fa is the law's own address
    exact ⟨_, fun s u => .of_eq rfl, fun base kb nb => My.law_fn T kb nb⟩     -- if «.of_eq rfl» comes too early: refine' ⟨_, ?b, fun base kb nb => My.law_fn T kb nb⟩; exact fun s u => .of_eq rfl
  case S => exact fun w H a ns hl hO hS => ..
  case C => exact ..
(the tactic k_is has no namespace: write k_is) -/

/-! SHORT WORDS over the layer: a def of the text, its body, what a loop and a test want. -/
namespace L2
open PySem PySem.Spec PyProof.Rows

/-! ### the text by places -/
/-- the j-th statement of a class's body -/
def inClass (s : Stmt) (j : Nat) : Stmt := match s with
  | .ClassDef _ _ _ body _ _ _ _ _ _ _ => body.getD j (.Pass ⟨0, 0, 0, 0⟩)
  | _ => .Pass ⟨0, 0, 0, 0⟩
def defArgs (s : Stmt) : Arguments := match s with
  | .FunctionDef _ a _ _ _ _ _ _ _ _ => a
  | _ => { posonlyargs := [], args := [], vararg := none, kwonlyargs := [], kw_defaults := [], kwarg := none, defaults := [] }
def defBody (s : Stmt) : List Stmt := match s with
  | .FunctionDef _ _ b _ _ _ _ _ _ _ => b
  | _ => []
def defScope (s : Stmt) : Scope := match s with
  | .FunctionDef _ _ _ _ _ _ sc _ _ _ => sc
  | _ => { kind := .function, names := [], isGenerator := false, isCoroutine := false }

/-! ### no exception leaves a def -/
abbrev CX0 : CXT := fun _ _ _ _ _ _ => False
abbrev E0 : XK := fun _ _ _ => False
theorem pass0 {X : Cx} : Passes CX0 X E0 := fun _ _ _ _ _ _ _ h => h.elim

/-! ### a def (or method) of the text as it stands behind the top -/
structure Fun (K : PySem.W.Frag) (x qual : Str) (st : Stmt) (f : Addr) (fd : FuncData) : Prop where
  ex : ∃ (oc : Value) (od : Option Addr) (kV doc pm : Value) (an : Option Addr) (cdv ct : Value) (osl : Array (Option Value)),
    fd = PySem.W.fnOf x qual (defArgs st) (defBody st) (defScope st) .none kV doc pm an cdv ct ∧ K.lookup f = some ⟨oc, od, .func fd, osl⟩ ∧ PySem.W.codeIn K cdv qual = true
  kp : PySem.W.keepIn K (.ref f) = true
section
variable {P : Program} {w : World} {K : PySem.W.Frag} {mg : Str → Option Value} {base : Heap}
/-- THE RULE for a def: its body as a term of rules, and the reading of that term -/
theorem Fun.ok {x qual : Str} {st : Stmt} {f : Addr} {fd : FuncData} {N ps : List Str} {k : Nat} {sp : Sp} (F : Fun K x qual st f fd) (S : FnScope N ps (defScope st)) (len : ∀ vs H Q E, sp vs H Q E → vs.length = ps.length)
    (hbody : ∀ (cdv : Value) (A : Around) (outer : List Env) (s : Shared) (H : Hp) (vs : List V) (Q : VK) (E : XK), Room k (A.deeper (envOfC qual (defScope st) s.heap.objs.size f cdv)) → sp vs H Q E →
      ∃ t, PSs (cxOf CX0 P w K mg base N qual (defScope st) f cdv A outer s H E).nox (defBody st) t ∧ t { nx := fun _ H' => Q .non H', rt := Q } (start N vs) H) : FnOk P w K mg base CX0 (k + 1) f fd ps sp := by
  obtain ⟨oc, od, kV, doc, pm, an, cdv, ct, osl, rfl, lk, hcd⟩ := F.ex
  refine fn_of lk hcd S len fun A outer s H vs Q E hr hsp => ?_
  obtain ⟨t, h, q⟩ := hbody cdv A outer s H vs Q E hr hsp
  exact ⟨t, h.nox, q⟩
/-- how its arguments bind (no defaults): h is «fun _ _ _ _ _ _ us hl => match us, hl with | [_, _], _ => rfl», one _ a parameter -/
theorem Fun.binds {x qual : Str} {st : Stmt} {f : Addr} {fd : FuncData} {ps : List Str} (F : Fun K x qual st f fd)
    (h : ∀ (kV doc pm : Value) (an : Option Addr) (cdv ct : Value) (us : List Value), us.length = ps.length → bindArgs (PySem.W.fnOf x qual (defArgs st) (defBody st) (defScope st) .none kV doc pm an cdv ct) ⟨us, []⟩ = pure (ps.zip us)) : Binds K fd ps [] := by
  obtain ⟨oc, od, kV, doc, pm, an, cdv, ct, osl, rfl, lk, hcd⟩ := F.ex
  exact .all (h kV doc pm an cdv ct)
theorem fun_mk {x qual : Str} {st : Stmt} {f : Addr} {oc : Value} {od an : Option Addr} {osl : Array (Option Value)} {kV doc pm cdv ct : Value} (l : K.lookup f = some ⟨oc, od, .func (PySem.W.fnOf x qual (defArgs st) (defBody st) (defScope st) .none kV doc pm an cdv ct), osl⟩)
    (c : PySem.W.codeIn K cdv qual = true) (k : PySem.W.keepIn K (.ref f) = true) : Fun K x qual st f (PySem.W.fnOf x qual (defArgs st) (defBody st) (defScope st) .none kV doc pm an cdv ct) := ⟨⟨oc, od, kV, doc, pm, an, cdv, ct, osl, rfl, l, c⟩, k⟩
end
theorem hu_of {A : Around} {k : Nat} (hr : Room k A) : A.units + 1 < cLine := Nat.lt_of_le_of_lt (Nat.add_le_add_left (by decide : 1 ≤ 64) _) hr.units
theorem small1000 {n : Nat} (h : n ≤ 1000) : n < sizeLine := Nat.lt_of_le_of_lt h (by decide)

/-! ### expressions in short: the name that stands in the i-th slot -/
section
variable {X : Cx}
theorem pv (i : Nat) {x : Str} {pos : Pos} (hN : X.N[i]? = some x := by rfl) (hv : Vis X.env.scope x := by first | exact Or.inl rfl | exact Or.inr (Or.inl rfl) | exact Or.inr (Or.inr rfl)) (hd : (x == ("__debug__" : Str)) = false := by decide)
    (hcd : (x == ("__classdict__" : Str)) = false := by decide) : PE X (.Name x pos) (tVar i) := pe_var hN hv hd hcd
end

/-! ### tests -/
theorem iteF {A B : Prop} (h : B) : if false = true then A else B := by
  rw [if_neg Bool.false_ne_true]
  exact h
theorem iteT {A B : Prop} (h : A) : if true = true then A else B := by
  rw [if_pos rfl]
  exact h
theorem ite2 {c A B : Prop} [Decidable c] (h1 : c → A) (h2 : ¬ c → B) : if c then A else B := by
  by_cases h : c
  · rw [if_pos h]
    exact h1 h
  · rw [if_neg h]
    exact h2 h
/-! ### heaps -/
/-- all that was tracked is as it was -/
def Same (H H' : Hp) : Prop := ∀ b o, H b = some o → H' b = some o
theorem Same.refl (H : Hp) : Same H H := fun _ _ h => h
theorem Same.trans {H H1 H2 : Hp} (a : Same H H1) (b : Same H1 H2) : Same H H2 := fun c o h => b c o (a c o h)
theorem Same.free {H H' : Hp} (e : Same H H') {l : Addr} (h : H' l = Option.none) : H l = Option.none := by
  cases q : H l with
  | none => rfl
  | some o =>
    rw [e l o q] at h
    cases h
theorem Same.seq {K : PySem.W.Frag} {H H' : Hp} {a : Addr} {xs : List V} (e : Same H H') (h : SqL K H a xs) : SqL K H' a xs := by
  rcases h with (h | ⟨o, h⟩) | h
  · exact .inl (.inl (e _ _ h))
  · exact .inl (.inr ⟨o, e _ _ h⟩)
  · exact .inr h

/-! ### a dict's pairs: keys that differ -/
section
variable {κ : Type} [DecidableEq κ]
theorem nd_snoc : ∀ {l : List κ} {k : κ}, l.Nodup → ¬ k ∈ l → (l ++ [k]).Nodup
  | [], k, _, _ => by simp
  | a :: r, k, h, hk => by
    obtain ⟨h1, h2⟩ := List.nodup_cons.mp h
    show (a :: (r ++ [k])).Nodup
    refine List.nodup_cons.mpr ⟨fun m => ?_, nd_snoc h2 fun m => hk (List.mem_cons.mpr (Or.inr m))⟩
    rcases List.mem_append.mp m with q | q
    · exact h1 q
    · exact hk (List.mem_cons.mpr (Or.inl (List.mem_singleton.mp q).symm))
end
/-! ### lists -/
theorem at_of {xs : List V} {z : Int} {j : Nat} {v : V} (e : z = (j : Int)) (h : xs[j]? = some v) : atI xs z = some v := by
  rw [e]
  exact atI_nat h
theorem nd_ix {α : Type} {l : List α} (hN : l.Nodup) {i j : Nat} {x : α} (a : l[i]? = some x) (b : l[j]? = some x) : i = j := by
  obtain ⟨h1, e1⟩ := List.getElem?_eq_some_iff.mp a
  obtain ⟨h2, e2⟩ := List.getElem?_eq_some_iff.mp b
  exact (List.getElem_inj hN).mp (e1.trans e2.symm)
/-- a new instance and its __init__ leave all that was tracked as it was -/
theorem Same.made {H H1 : Hp} {x dx C : Addr} (nx : H x = Option.none) (nd : H dx = Option.none) (k : ∀ b o, (upd (upd H dx (.own x)) x (.ins C dx [])) b = some o → b ≠ x → H1 b = some o) : Same H H1 := fun b o e =>
  k b o (by rw [upd_ne (ne_of_none e nx), upd_ne (ne_of_none e nd)]; exact e) (ne_of_none e nx)
end L2

section
set_option Elab.async false
set_option linter.all false
set_option maxRecDepth 100000
set_option maxHeartbeats 2000000
namespace L2
open PySem PySem.Spec PyProof.Rows
open PySem.W (WData Codec OpenSpec Well WellAll ReadsW ReadsAllW)
/-! ### an answer as data -/
mutual
/-- x stands for the datum d, lists and tuples all the way -/
inductive Dw (K : PySem.W.Frag) (H : Hp) : V → WData → Prop
  | non : Dw K H .non .none
  | bl (b : Bool) : Dw K H (.bl b) (.bool b)
  | int (i : Int) : Dw K H (.int i) (.int i)
  | str (x : Str) : Dw K H (.str x) (.str x)
  | byt (b : Array UInt8) : Dw K H (.byt b) (.bytes b.toList)
  | lst {a : Addr} {xs : List V} {ds : List WData} : SqL K H a xs → DwAll K H xs ds → Dw K H (.ref a) (.list ds)
  | tup {a : Addr} {xs : List V} {ds : List WData} : SqT K H a xs → DwAll K H xs ds → Dw K H (.ref a) (.tuple ds)
inductive DwAll (K : PySem.W.Frag) (H : Hp) : List V → List WData → Prop
  | nil : DwAll K H [] []
  | cons {v : V} {vs : List V} {d : WData} {ds : List WData} : Dw K H v d → DwAll K H vs ds → DwAll K H (v :: vs) (d :: ds)
end
theorem dw_ints {K : PySem.W.Frag} {H : Hp} : ∀ ns : List Int, DwAll K H (ns.map V.int) (ns.map WData.int)
  | [] => .nil
  | n :: r => .cons (.int n) (dw_ints r)
theorem ints_dw {K : PySem.W.Frag} {H : Hp} : ∀ (ns : List Int) (xs : List V), DwAll K H xs (ns.map WData.int) → xs = ns.map V.int
  | [], xs, h => by
    cases h
    rfl
  | n :: r, xs, h => by
    cases h with
    | cons h1 h2 =>
      cases h1
      rw [ints_dw r _ h2] <;> rfl
section
variable {P : Program} {w : World} {K : PySem.W.Frag} {H : Hp} {h : Heap} {R : PySem.W.WRecords} {cl : Str → Option Addr}
theorem sqL_at {a : Addr} {xs : List V} (hok : HOk P w H h) (KX : K.In h) (q : SqL K H a xs) : ∃ (its : List Value) (o : Obj) (n : Nat), Vals xs its ∧ h.get? a = some o ∧ o.cls = .type "list" ∧ o.data = .seq its.toArray n := by
  rcases q with q | ⟨o, its, n, e, hc, _, hd, _, hv⟩
  · obtain ⟨_, its, n, hv, e⟩ := (show ObjOk P w H h a (.lst xs) from q.ok hok)
    exact ⟨its, _, n, hv, e, rfl, rfl⟩
  · exact ⟨its.toList, o, n, hv, KX _ _ e, hc, by simp [hd]⟩
theorem sqT_at {a : Addr} {xs : List V} (hok : HOk P w H h) (KX : K.In h) (q : SqT K H a xs) : ∃ (its : List Value) (o : Obj) (n : Nat), Vals xs its ∧ h.get? a = some o ∧ o.cls = .type "tuple" ∧ o.data = .seq its.toArray n := by
  rcases q with q | ⟨o, its, n, e, hc, hd, _, hv⟩
  · obtain ⟨_, its, hv, o, e, hc, n, hd⟩ := (show ObjOk P w H h a (.tup xs) from q.ok hok)
    exact ⟨its, o, n, hv, e, hc, hd⟩
  · exact ⟨its.toList, o, n, hv, KX _ _ e, hc, by simp [hd]⟩
mutual
theorem Dw.reads (hok : HOk P w H h) (KX : K.In h) : ∀ (d : WData) (v : V) (u : Value), Dw K H v d → RelV v u → ∃ as, ReadsW R cl h u d as
  | .none, _, _, x, r => by
    cases x
    cases r
    exact ⟨_, ReadsW.none⟩
  | .bool b, _, _, x, r => by
    cases x
    cases r
    exact ⟨_, ReadsW.bool b⟩
  | .int i, _, _, x, r => by
    cases x
    obtain ⟨t, rfl⟩ := r
    exact ⟨_, ReadsW.int i t⟩
  | .str s, _, _, x, r => by
    cases x
    obtain ⟨t, rfl⟩ := r
    exact ⟨_, ReadsW.str s t⟩
  | .bytes b, _, _, x, r => by
    cases x
    obtain ⟨t, rfl⟩ := r
    exact ⟨_, ReadsW.bytes _ t⟩
  | .list ds, _, _, x, r => by
    cases x with
    | lst hs ha =>
      cases r
      obtain ⟨its, o, n, rv, ho, hc, hd⟩ := sqL_at hok KX hs
      obtain ⟨as, hr⟩ := Dw.readsAll hok KX ds _ its ha rv
      exact ⟨_, ReadsW.list ho hc hd hr⟩
  | .tuple ds, _, _, x, r => by
    cases x with
    | tup hs ha =>
      cases r
      obtain ⟨its, o, n, rv, ho, hc, hd⟩ := sqT_at hok KX hs
      obtain ⟨as, hr⟩ := Dw.readsAll hok KX ds _ its ha rv
      exact ⟨_, ReadsW.tuple ho hc hd hr⟩
  | .float _, _, _, x, _ => by cases x
  | .dict _, _, _, x, _ => by cases x
  | .bytearray _, _, _, x, _ => by cases x
  | .set _, _, _, x, _ => by cases x
  | .frozenset _, _, _, x, _ => by cases x
  | .obj _ _, _, _, x, _ => by cases x
theorem Dw.readsAll (hok : HOk P w H h) (KX : K.In h) : ∀ (ds : List WData) (vs : List V) (us : List Value), DwAll K H vs ds → Vals vs us → ∃ as, ReadsAllW R cl h us ds as
  | [], _, _, x, r => by
    cases x
    cases r
    exact ⟨_, ReadsAllW.nil⟩
  | d :: ds, _, _, x, r => by
    cases x with
    | cons h1 h2 =>
      cases r with
      | cons r1 r2 =>
        obtain ⟨as, q1⟩ := Dw.reads hok KX d _ _ h1 r1
        obtain ⟨bs, q2⟩ := Dw.readsAll hok KX ds _ _ h2 r2
        exact ⟨_, ReadsAllW.cons q1 q2⟩
end
end
/-! ### the arguments -/
mutual
/-- data that a codec tells -/
def plW : WData → Bool
  | .none => true
  | .bool _ => true
  | .int _ => true
  | .str _ => true
  | .bytes _ => true
  | .list xs => plWs xs
  | .tuple xs => plWs xs
  | _ => false
def plWs : List WData → Bool
  | [] => true
  | x :: r => plW x && plWs r
end
theorem plWs_map {α : Type} {f : α → WData} (h : ∀ a, plW (f a) = true) : ∀ l : List α, plWs (l.map f) = true
  | [] => rfl
  | x :: r => by
    show (plW (f x) && plWs (r.map f)) = true
    rw [h x, plWs_map h r] <;> rfl
theorem pl_enc : ∀ (c : Codec) (a : c.denote), plW (c.enc a) = true
  | .unit, _ => rfl
  | .bool, _ => rfl
  | .int _ _, _ => rfl
  | .nat _ _, _ => rfl
  | .u8, _ => rfl
  | .bytes _ _, _ => rfl
  | .text _ _ _ _, _ => rfl
  | .list _ _ c, a => plWs_map (fun x => pl_enc c x) a
  | .pair c d, a => by
    show (plW (c.enc a.1) && (plW (d.enc a.2) && true)) = true
    rw [pl_enc c a.1, pl_enc d a.2] <;> rfl
  | .triple c d e, a => by
    show (plW (c.enc a.1) && (plW (d.enc a.2.1) && (plW (e.enc a.2.2) && true))) = true
    rw [pl_enc c a.1, pl_enc d a.2.1, pl_enc e a.2.2] <;> rfl
  | .option c, none => rfl
  | .option c, some x => pl_enc c x
theorem pl_encAll : ∀ (cs : List Codec) (a : Codec.denoteAll cs), plWs (Codec.encAll cs a) = true
  | [], _ => rfl
  | c :: cs, a => by
    show (plW (c.enc a.1) && plWs (Codec.encAll cs a.2)) = true
    rw [pl_enc c a.1, pl_encAll cs a.2] <;> rfl
theorem weight_mem : ∀ {xs : List WData} {d : WData}, d ∈ xs → d.weight ≤ WData.weightAll xs
  | [], d, h => absurd h (by simp)
  | x :: r, d, h => by
    show d.weight ≤ x.weight + 1 + WData.weightAll r
    rcases List.mem_cons.mp h with e | m
    · rw [e]
      omega
    · have z := weight_mem m
      omega
def toV : Value → V
  | .none => .non
  | .bool b => .bl b
  | .int i _ => .int i
  | .str x _ => .str x
  | .bytes b _ => .byt b
  | .ref a => .ref a
  | _ => .non
/-- a value of the arguments, its objects among A -/
def OkU (A : List Addr) : Value → Prop
  | .none => True
  | .bool _ => True
  | .int _ _ => True
  | .str _ _ => True
  | .bytes _ _ => True
  | .ref a => a ∈ A
  | _ => False
theorem OkU.mono {A B : List Addr} (h : ∀ a ∈ A, a ∈ B) : ∀ {u : Value}, OkU A u → OkU B u := fun {u} x => by
  cases u with
  | ref a => exact h a x
  | none => trivial
  | bool b => trivial
  | int i t => trivial
  | str s t => trivial
  | bytes b t => trivial
  | _ => exact False.elim x
theorem relV_toV {A : List Addr} {u : Value} (x : OkU A u) : RelV (toV u) u := by
  cases u with
  | ref a => rfl
  | none => rfl
  | bool b => rfl
  | int i t => exact ⟨t, rfl⟩
  | str s t => exact ⟨t, rfl⟩
  | bytes b t => exact ⟨t, rfl⟩
  | _ => exact False.elim x
theorem vals_toV {A : List Addr} : ∀ {vs : List Value}, (∀ u ∈ vs, OkU A u) → Vals (vs.map toV) vs
  | [], _ => .nil
  | u :: r, h => .cons (relV_toV (h u (List.mem_cons_self ..))) (vals_toV fun x hx => h x (List.mem_cons_of_mem _ hx))
/-- an object of the arguments -/
def ArgOb (h : Heap) (A : List Addr) (a : Addr) : Prop := ∃ vs : List Value, vs.length ≤ sizeLine ∧ (∀ u ∈ vs, OkU A u) ∧
  (h.get? a = some { cls := .type "list", data := .seq vs.toArray } ∨ h.get? a = some { cls := .type "tuple", data := .seq vs.toArray })
theorem ArgOb.mono {h : Heap} {A B : List Addr} {a : Addr} (k : ∀ a ∈ A, a ∈ B) (x : ArgOb h A a) : ArgOb h B a := by
  obtain ⟨vs, h1, h2, h3⟩ := x
  exact ⟨vs, h1, fun u hu => (h2 u hu).mono k, h3⟩
theorem wellAll_len {P : Params} {h : Heap} : ∀ {vs : List Value} {ds : List WData}, WellAll P h vs ds → vs.length = ds.length
  | _, _, .nil => rfl
  | _, _, .cons _ b => by
    show _ + 1 = _ + 1
    rw [wellAll_len b]
theorem well_list {P : Params} {h : Heap} {v : Value} {ds : List WData} (x : Well P h v (.list ds)) : ∃ (a : Addr) (vs : List Value), v = .ref a ∧ h.get? a = some { cls := .type "list", data := .seq vs.toArray } ∧ WellAll P h vs ds := by
  cases x with
  | list ho hall => exact ⟨_, _, rfl, ho, hall⟩
theorem well_tuple {P : Params} {h : Heap} {v : Value} {ds : List WData} (x : Well P h v (.tuple ds)) : ∃ (a : Addr) (vs : List Value), v = .ref a ∧ h.get? a = some { cls := .type "tuple", data := .seq vs.toArray } ∧ WellAll P h vs ds := by
  cases x with
  | tuple ho hall => exact ⟨_, _, rfl, ho, hall⟩
theorem well_cons {P : Params} {h : Heap} {us : List Value} {d : WData} {ds : List WData} (x : WellAll P h us (d :: ds)) : ∃ (v : Value) (vs : List Value), us = v :: vs ∧ Well P h v d ∧ WellAll P h vs ds := by
  cases x with
  | cons a b => exact ⟨_, _, rfl, a, b⟩
theorem line_of {n : Nat} (h : n ≤ 1048576) : n ≤ sizeLine := Nat.le_trans h (by decide)
section
variable {P : Params} {h : Heap}
mutual
theorem area_one : ∀ (d : WData) (v : Value), Well P h v d → plW d = true → d.weight ≤ 1048576 → ∃ A : List Addr, OkU A v ∧ ∀ a ∈ A, ArgOb h A a
  | .none, _, x, _, _ => by
    cases x
    exact ⟨[], trivial, fun a m => absurd m (by simp)⟩
  | .bool b, _, x, _, _ => by
    cases x
    exact ⟨[], trivial, fun a m => absurd m (by simp)⟩
  | .int i, _, x, _, _ => by
    cases x
    exact ⟨[], trivial, fun a m => absurd m (by simp)⟩
  | .str s, _, x, _, _ => by
    cases x
    exact ⟨[], trivial, fun a m => absurd m (by simp)⟩
  | .bytes b, _, x, _, _ => by
    cases x
    exact ⟨[], trivial, fun a m => absurd m (by simp)⟩
  | .list ds, _, x, p, z => by
    obtain ⟨a, vs, rfl, ho, hall⟩ := well_list x
    have z2 : WData.weightAll ds ≤ 1048576 := z
    obtain ⟨A, h1, h2⟩ := area_all ds _ hall p fun d hd => Nat.le_trans (weight_mem hd) z2
    have k : ∀ b ∈ A, b ∈ a :: A := fun b hb => List.mem_cons_of_mem _ hb
    refine ⟨a :: A, List.mem_cons_self .., fun b hb => ?_⟩
    rcases List.mem_cons.mp hb with e | m
    · rw [e]
      exact ⟨vs, line_of (by rw [wellAll_len hall]; exact Nat.le_trans (PySem.W.length_le_weightAllW ds) z2), fun u hu => (h1 u hu).mono k, .inl ho⟩
    · exact (h2 b m).mono k
  | .tuple ds, _, x, p, z => by
    obtain ⟨a, vs, rfl, ho, hall⟩ := well_tuple x
    have z2 : WData.weightAll ds ≤ 1048576 := z
    obtain ⟨A, h1, h2⟩ := area_all ds _ hall p fun d hd => Nat.le_trans (weight_mem hd) z2
    have k : ∀ b ∈ A, b ∈ a :: A := fun b hb => List.mem_cons_of_mem _ hb
    refine ⟨a :: A, List.mem_cons_self .., fun b hb => ?_⟩
    rcases List.mem_cons.mp hb with e | m
    · rw [e]
      exact ⟨vs, line_of (by rw [wellAll_len hall]; exact Nat.le_trans (PySem.W.length_le_weightAllW ds) z2), fun u hu => (h1 u hu).mono k, .inr ho⟩
    · exact (h2 b m).mono k
  | .float _, _, _, p, _ => Bool.noConfusion (show false = true from p)
  | .dict _, _, _, p, _ => Bool.noConfusion (show false = true from p)
  | .bytearray _, _, _, p, _ => Bool.noConfusion (show false = true from p)
  | .set _, _, _, p, _ => Bool.noConfusion (show false = true from p)
  | .frozenset _, _, _, p, _ => Bool.noConfusion (show false = true from p)
  | .obj _ _, _, _, p, _ => Bool.noConfusion (show false = true from p)
theorem area_all : ∀ (ds : List WData) (vs : List Value), WellAll P h vs ds → plWs ds = true → (∀ d ∈ ds, d.weight ≤ 1048576) → ∃ A : List Addr, (∀ u ∈ vs, OkU A u) ∧ ∀ a ∈ A, ArgOb h A a
  | [], _, x, _, _ => by
    cases x
    exact ⟨[], fun u m => absurd m (by simp), fun a m => absurd m (by simp)⟩
  | d :: ds, _, x, p, z => by
    obtain ⟨v, vs, rfl, x1, x2⟩ := well_cons x
    have q : plW d = true ∧ plWs ds = true := Bool.and_eq_true_iff.mp p
    obtain ⟨A, a1, a2⟩ := area_one d v x1 q.1 (z d (List.mem_cons_self ..))
    obtain ⟨B, b1, b2⟩ := area_all ds vs x2 q.2 fun e he => z e (List.mem_cons_of_mem _ he)
    have kA : ∀ b ∈ A, b ∈ A ++ B := fun b hb => List.mem_append.mpr (.inl hb)
    have kB : ∀ b ∈ B, b ∈ A ++ B := fun b hb => List.mem_append.mpr (.inr hb)
    refine ⟨A ++ B, fun u hu => ?_, fun b hb => ?_⟩
    · rcases List.mem_cons.mp hu with e | m
      · rw [e]
        exact a1.mono kA
      · exact (b1 u m).mono kB
    · rcases List.mem_append.mp hb with m | m
      · exact (a2 b m).mono kA
      · exact (b2 b m).mono kB
end
end
/-- what is tracked of an argument's object -/
def hoOf (o : Obj) : Option HO := match o.data with
  | .seq vs _ => if (o.cls == Value.type "list") = true then some (.frz o (.lst (vs.toList.map toV))) else some (.frz o (.tup (vs.toList.map toV)))
  | _ => none
def argH (K : PySem.W.Frag) (h : Heap) (A : List Addr) : Hp := fun b => if b ∈ A then (if (K.lookup b).isNone = true then (h.get? b).bind hoOf else none) else none
/-- nothing is tracked but what is known to the object -/
def OnlyF (H : Hp) : Prop := ∀ b, H b = none ∨ ∃ o u, H b = some (.frz o u)
theorem hoOf_lst (vs : List Value) : hoOf { cls := .type "list", data := .seq vs.toArray } = some (.frz { cls := .type "list", data := .seq vs.toArray } (.lst (vs.map toV))) := by
  show (if (Value.type "list" == Value.type "list") = true then some (HO.frz { cls := .type "list", data := .seq vs.toArray } (.lst (vs.toArray.toList.map toV))) else some (HO.frz { cls := .type "list", data := .seq vs.toArray } (.tup (vs.toArray.toList.map toV)))) = _
  rw [if_pos (beq_self_eq_true _)]
theorem hoOf_tup (vs : List Value) : hoOf { cls := .type "tuple", data := .seq vs.toArray } = some (.frz { cls := .type "tuple", data := .seq vs.toArray } (.tup (vs.map toV))) := by
  show (if (Value.type "tuple" == Value.type "list") = true then some (HO.frz { cls := .type "tuple", data := .seq vs.toArray } (.lst (vs.toArray.toList.map toV))) else some (HO.frz { cls := .type "tuple", data := .seq vs.toArray } (.tup (vs.toArray.toList.map toV)))) = _
  rw [if_neg (by decide)]
section
variable {P : Program} {w : World} {K : PySem.W.Frag} {h : Heap} {A : List Addr}
theorem argH_at {b : Addr} {o : Obj} (hb : b ∈ A) (hk : K.lookup b = none) (e : h.get? b = some o) : argH K h A b = hoOf o := by
  unfold argH
  rw [if_pos hb, hk, if_pos (show (none : Option Obj).isNone = true from rfl), e] <;> rfl
theorem of_argH {b : Addr} {u : HO} (q : argH K h A b = some u) : b ∈ A ∧ K.lookup b = none := by
  unfold argH at q
  by_cases hb : b ∈ A
  · rw [if_pos hb] at q
    cases hk : K.lookup b with
    | none => exact ⟨hb, rfl⟩
    | some o =>
      rw [hk, if_neg (by simp)] at q
      cases q
  · rw [if_neg hb] at q
    cases q
/-- what stands tracked -/
theorem argH_is (ar : ∀ a ∈ A, ArgOb h A a) {b : Addr} {u : HO} (q : argH K h A b = some u) : K.lookup b = none ∧ ∃ vs : List Value, vs.length ≤ sizeLine ∧ (∀ u ∈ vs, OkU A u) ∧
    ((h.get? b = some { cls := .type "list", data := .seq vs.toArray } ∧ u = .frz { cls := .type "list", data := .seq vs.toArray } (.lst (vs.map toV))) ∨
     (h.get? b = some { cls := .type "tuple", data := .seq vs.toArray } ∧ u = .frz { cls := .type "tuple", data := .seq vs.toArray } (.tup (vs.map toV)))) := by
  obtain ⟨hb, hk⟩ := of_argH q
  obtain ⟨vs, h1, h2, h3⟩ := ar b hb
  refine ⟨hk, vs, h1, h2, ?_⟩
  rcases h3 with e | e
  · rw [argH_at hb hk e, hoOf_lst] at q
    exact .inl ⟨e, (Option.some.inj q).symm⟩
  · rw [argH_at hb hk e, hoOf_tup] at q
    exact .inr ⟨e, (Option.some.inj q).symm⟩
theorem argH_only (ar : ∀ a ∈ A, ArgOb h A a) : OnlyF (argH K h A) := fun b => by
  cases q : argH K h A b with
  | none => exact .inl rfl
  | some u =>
    obtain ⟨_, vs, _, _, ⟨_, e⟩ | ⟨_, e⟩⟩ := argH_is ar q
    · exact .inr ⟨_, _, by rw [e]⟩
    · exact .inr ⟨_, _, by rw [e]⟩
theorem argH_ok (ar : ∀ a ∈ A, ArgOb h A a) : HOk P w (argH K h A) h := fun b u q => by
  obtain ⟨_, vs, h1, h2, ⟨e, rfl⟩ | ⟨e, rfl⟩⟩ := argH_is ar q
  · exact ⟨e, by rw [List.length_map]; exact h1, vs, _, vals_toV h2, e⟩
  · exact ⟨e, by rw [List.length_map]; exact h1, vs, vals_toV h2, _, e, rfl, _, rfl⟩
theorem seq_inj {c c' : Value} {vs us : List Value} (e : (some { cls := c, data := .seq vs.toArray } : Option Obj) = some { cls := c', data := .seq us.toArray }) : c = c' ∧ vs = us := by
  have e1 := Option.some.inj e
  have e2 : c = c' := congrArg Obj.cls e1
  have e3 : Data.seq vs.toArray = Data.seq us.toArray := congrArg Obj.data e1
  injection e3 with e4
  refine ⟨e2, ?_⟩
  have e5 := congrArg Array.toList e4
  simpa using e5
/-- a list argument -/
theorem argL (KX : K.In h) (ar : ∀ a ∈ A, ArgOb h A a) {a : Addr} {vs : List Value} (ha : a ∈ A) (e : h.get? a = some { cls := .type "list", data := .seq vs.toArray }) : (∀ u ∈ vs, OkU A u) ∧ SqL K (argH K h A) a (vs.map toV) := by
  obtain ⟨us, h1, h2, h3⟩ := ar a ha
  have hu : us = vs := by
    rcases h3 with q | q
    · rw [e] at q
      exact (seq_inj q).2.symm
    · rw [e] at q
      exact absurd (Value.type.inj (seq_inj q).1) (by decide)
  subst hu
  refine ⟨h2, ?_⟩
  cases hk : K.lookup a with
  | none => exact .inl (.inr ⟨_, by rw [argH_at ha hk e, hoOf_lst]⟩)
  | some o =>
    have e2 := KX a o hk
    rw [e] at e2
    obtain rfl := Option.some.inj e2
    exact .inr ⟨_, us.toArray, _, hk, rfl, rfl, rfl, by rw [List.size_toArray]; exact h1, by simpa using vals_toV h2⟩
theorem argT (KX : K.In h) (ar : ∀ a ∈ A, ArgOb h A a) {a : Addr} {vs : List Value} (ha : a ∈ A) (e : h.get? a = some { cls := .type "tuple", data := .seq vs.toArray }) : (∀ u ∈ vs, OkU A u) ∧ SqT K (argH K h A) a (vs.map toV) := by
  obtain ⟨us, h1, h2, h3⟩ := ar a ha
  have hu : us = vs := by
    rcases h3 with q | q
    · rw [e] at q
      exact absurd (Value.type.inj (seq_inj q).1) (by decide)
    · rw [e] at q
      exact (seq_inj q).2.symm
  subst hu
  refine ⟨h2, ?_⟩
  cases hk : K.lookup a with
  | none => exact .inl (.inr ⟨_, by rw [argH_at ha hk e, hoOf_tup]⟩)
  | some o =>
    have e2 := KX a o hk
    rw [e] at e2
    obtain rfl := Option.some.inj e2
    exact .inr ⟨_, us.toArray, _, hk, rfl, rfl, by rw [List.size_toArray]; exact h1, by simpa using vals_toV h2⟩
mutual
theorem dw_one {Pm : Params} (KX : K.In h) (ar : ∀ a ∈ A, ArgOb h A a) : ∀ (d : WData) (v : Value), Well Pm h v d → plW d = true → OkU A v → Dw K (argH K h A) (toV v) d
  | .none, _, x, _, _ => by
    cases x
    exact .non
  | .bool b, _, x, _, _ => by
    cases x
    exact .bl b
  | .int i, _, x, _, _ => by
    cases x
    exact .int i
  | .str s, _, x, _, _ => by
    cases x
    exact .str s
  | .bytes b, _, x, _, _ => by
    cases x
    have z := Dw.byt (K := K) (H := argH K h A) b.toArray
    exact z
  | .list ds, _, x, p, hu => by
    obtain ⟨a, vs, rfl, ho, hall⟩ := well_list x
    obtain ⟨h2, hs⟩ := argL KX ar hu ho
    exact .lst hs (dw_all KX ar ds _ hall p h2)
  | .tuple ds, _, x, p, hu => by
    obtain ⟨a, vs, rfl, ho, hall⟩ := well_tuple x
    obtain ⟨h2, hs⟩ := argT KX ar hu ho
    exact .tup hs (dw_all KX ar ds _ hall p h2)
  | .float _, _, _, p, _ => Bool.noConfusion (show false = true from p)
  | .dict _, _, _, p, _ => Bool.noConfusion (show false = true from p)
  | .bytearray _, _, _, p, _ => Bool.noConfusion (show false = true from p)
  | .set _, _, _, p, _ => Bool.noConfusion (show false = true from p)
  | .frozenset _, _, _, p, _ => Bool.noConfusion (show false = true from p)
  | .obj _ _, _, _, p, _ => Bool.noConfusion (show false = true from p)
theorem dw_all {Pm : Params} (KX : K.In h) (ar : ∀ a ∈ A, ArgOb h A a) : ∀ (ds : List WData) (vs : List Value), WellAll Pm h vs ds → plWs ds = true → (∀ u ∈ vs, OkU A u) → DwAll K (argH K h A) (vs.map toV) ds
  | [], _, x, _, _ => by
    cases x
    exact .nil
  | d :: ds, _, x, p, hu => by
    obtain ⟨v, vs, rfl, x1, x2⟩ := well_cons x
    have q : plW d = true ∧ plWs ds = true := Bool.and_eq_true_iff.mp p
    exact .cons (dw_one KX ar d v x1 q.1 (hu _ (List.mem_cons_self ..))) (dw_all KX ar ds vs x2 q.2 fun u m => hu u (List.mem_cons_of_mem _ m))
end
end
/-! ### the call -/
theorem spec_call {P : Program} {w : World} {K : PySem.W.Frag} {mg mb : Str → Option Value} {CX : CXT} {k : Nat} {fa : Addr} {fd : FuncData} {ps : List Str} {sp : Sp} {s₁ : Shared} {vals : List Value} {ds : List WData} {R : PySem.W.WRecords} {cl : Str → Option Addr} {d0 : WData}
    (KX : K.In s₁.heap) (hns : s₁.heap.Ns mainGlobals mg) (hb : s₁.heap.Ns builtinsNs mb) (hbb : ∀ x : Str, x ≠ "__name__" → mb x = bootBuiltins x) (hlim : s₁.heap.NoLimit) (hg : s₁.gens = #[])
    (hwl : WellAll w.params s₁.heap vals ds) (hpl : plWs ds = true) (hwt : ∀ d ∈ ds, d.weight ≤ 1048576) (hr : Room k callerA)
    (F : ∀ base : Heap, K.In base → base.Ns mainGlobals mg → FnOk P w K mg base CX k fa fd ps sp) (hbind : ∀ (s : Shared) (us : List Value), us.length = ps.length → BindsTo s fd ⟨us, []⟩ (ps.zip us)) (hlen : ds.length = ps.length)
    (hsp : ∀ (H : Hp) (xs : List V), OnlyF H → DwAll K H xs ds → sp xs H (fun v H' => Dw K H' v d0) fun _ _ _ => False)
    (hCX : ∀ H e s', CX [] H s₁ (fun _ _ _ => False) e s' → False) :
    codeAny (model P w) callerA (.call (.ref fa) ⟨vals, []⟩) (fun r s' => ∃ u as, r = .ok (.ret u) ∧ ReadsW R cl s'.heap u d0 as ∧ OldK s₁.heap s'.heap ∧ s'.os = s₁.os ∧ AllBare s'.gens) s₁ := by
  obtain ⟨A, ho, ar⟩ := area_all ds vals hwl hpl hwt
  have hO : OnlyF (argH K s₁.heap A) := argH_only ar
  have hok : HOk P w (argH K s₁.heap A) s₁.heap := argH_ok ar
  have hS := dw_all KX ar ds vals hwl hpl ho
  have hV := vals_toV ho
  have hK : ∀ b u, argH K s₁.heap A b = some u → K.lookup b = none := fun b u q => (argH_is ar q).1
  have noA : ∀ {b : Addr} {o : Obj} {es : Array DictEntry} {ep : Nat}, s₁.heap.get? b = some o → o.data = .dict es ep → argH K s₁.heap A b = none := fun {b o es ep} e d => by
    cases q : argH K s₁.heap A b with
    | none => rfl
    | some u =>
      obtain ⟨_, vs, _, _, ⟨e2, _⟩ | ⟨e2, _⟩⟩ := argH_is ar q
      · rw [e2] at e
        cases e
        have d' : Data.seq vs.toArray _ = Data.dict es ep := d
        cases d'
      · rw [e2] at e
        cases e
        have d' : Data.seq vs.toArray _ = Data.dict es ep := d
        cases d'
  generalize argH K s₁.heap A = H at hO hok hS hK noA
  have base_of : ∀ {b : Addr} {o : Obj}, s₁.heap.get? b = some o → H b = none → (hidT s₁.heap H).get? b = some o := fun e n => hidT_get e n
  have nsK : ∀ {b : Addr} {m : Str → Option Value}, s₁.heap.Ns b m → (hidT s₁.heap H).Ns b m := fun {b m} ⟨o, es, ep, e, d, r⟩ => ⟨o, es, ep, base_of e (noA e d), d, r⟩
  have nK : ∀ b o, K.lookup b = some o → H b = none := fun b o e => by
    cases q : H b with
    | none => rfl
    | some u =>
      rw [hK b u q] at e
      cases e
  have hKb : K.In (hidT s₁.heap H) := fun b o e => base_of (KX b o e) (nK b o e)
  have hM : Mod K mg (hidT s₁.heap H) := ⟨hKb, nsK hns, ⟨mb, nsK hb, hbb⟩, let ⟨mc, h1, h2⟩ := hlim; ⟨mc, nsK h1, h2⟩⟩
  have e0 : Env0 P w K mg (hidT s₁.heap H) callerA [] s₁ H := ⟨rfl, hM, fun b o e => of_hidT e, Nat.le_of_eq (hidT_size _ _), trivial, fun b hb => absurd (show b ∈ ([] : List Addr) from hb) (by simp), hok, .of_eq hg⟩
  have hl : vals.length = ps.length := by rw [wellAll_len hwl]; exact hlen
  refine codeAny_mono ((F _ hKb (nsK hns)).run callerA [] s₁ H ⟨vals, []⟩ vals (vals.map toV) _ _ hr e0 (hbind s₁ vals hl) hV (hsp H _ hO hS)) fun r s' x => ?_
  cases r with
  | error e => exact (hCX H e s' x).elim
  | ok fl =>
    cases fl with
    | next => exact False.elim x
    | brk => exact False.elim x
    | cont => exact False.elim x
    | ret u =>
      obtain ⟨v, H', os, bare, un, hok', r', q⟩ := x
      have kept : ∀ b o, s₁.heap.get? b = some o → s'.heap.get? b = some o := fun b o e => by
        cases q2 : H b with
        | none => exact un.keep b o e q2 (by intro z; exact absurd (show b ∈ ([] : List Addr) from z) (by simp)) (by simp)
        | some u2 =>
          rcases hO b with z | ⟨ob, u3, z⟩
          · rw [q2] at z
            cases z
          · have z2 := un.frzs b ob _ z
            obtain ⟨e1, _⟩ := hok b _ z
            obtain ⟨e2, _⟩ := hok' b _ z2
            rw [e] at e1
            cases e1
            exact e2
      have KX' : K.In s'.heap := fun b o e => kept b o (KX b o e)
      obtain ⟨as, hrd⟩ := Dw.reads (R := R) (cl := cl) hok' KX' d0 v u q r'
      exact ⟨u, as, rfl, hrd, OldK.of_keep kept, os, bare⟩
/-! ### the row -/
theorem layable_weight {ds : List WData} (h : WData.layableAll ds = true) : ∀ d ∈ ds, d.weight ≤ 1048576 := fun d hd =>
  (PySem.W.layableW_iff.mp (List.all_eq_true.mp h d hd)).2.2
theorem encAll_len : ∀ (cs : List Codec) (a : Codec.denoteAll cs), (Codec.encAll cs a).length = cs.length
  | [], _ => rfl
  | c :: cs, a => by
    show (Codec.encAll cs a.2).length + 1 = cs.length + 1
    rw [encAll_len cs a.2]
/-- the goal that k_headS leaves (case hc), from the promise of the row's def: whatever the arguments that the codecs let and the row asks for, the def gives what stands for enc (f ..) -/
theorem walk_spec {r : OpenSpec} {k : Nat} {q : Program} {loose : List Str} {XP : (Str → Option Value) → Heap → Prop} {YP : World → Heap → Prop} {d : DefRec} {K : Params → PySem.W.Frag} {CX : World → CXT} {ps : List Str} {sp : World → Sp}
    (hwell : r.wellSaid = true) (hdf : d.params.defaults = []) (hlen : r.args.length = ps.length) (hr : Room k callerA)
    (hY : ∀ (w : World) (h : Heap), YP w h → (K w.params).In h)
    (F : ∀ (w : World) (mg : Str → Option Value) (fa : Addr) (h : Heap), YP w h → (K w.params).In h → h.Ns mainGlobals mg → mg d.name = some (.ref fa) →
      ∃ fd : FuncData, (∀ (s : Shared) (us : List Value), us.length = ps.length → BindsTo s fd ⟨us, []⟩ (ps.zip us)) ∧
        ∀ base : Heap, (K w.params).In base → base.Ns mainGlobals mg → FnOk r.prog w (K w.params) mg base (CX w) k fa fd ps (sp w))
    (hsp : ∀ (w : World) (H : Hp) (xs : List V) (a : Codec.denoteAll r.args), OnlyF H → Codec.withinAll r.args a = true → Codec.app r.args r.asked a = true → DwAll (K w.params) H xs (Codec.encAll r.args a) →
      sp w xs H (fun v H' => Dw (K w.params) H' v (r.ret.enc (Codec.app r.args r.f a))) fun _ _ _ => False)
    (hCX : ∀ (w : World) (H : Hp) (s : Shared) (e : Value) (s' : Shared), CX w [] H s (fun _ _ _ => False) e s' → False) :
    PySem.W.WalkOS q loose XP YP r d [] (fun f vs => PySem.call f vs) := by
  intro w s_0 s₁ mg mb G Y fa o pm cd doc dV kV ho hd hcd hD hmg hg args vals as hpre hlay hrd hwl hlo
  obtain ⟨a, e1, e2⟩ := PySem.W.os_pre_some hpre
  obtain ⟨e3, hwi⟩ := Codec.encAll_of_decAll r.args args a e1
  subst e3
  have KX := hY w _ Y
  obtain ⟨fd, hb, hF⟩ := F w mg fa _ Y KX G.T.g hmg
  refine PySem.W.enter_call (codeAny_mono (spec_call (R := []) (cl := classAt s_0.heap) (d0 := r.ret.enc (Codec.app r.args r.f a)) KX G.T.g G.T.b G.T.builtins G.T.nolimit hg hwl (pl_encAll _ _) (layable_weight hlay) hr hF hb (by rw [encAll_len]; exact hlen)
    (fun H xs hO hS => hsp w H xs a hO hwi e2 hS) fun H e s' => hCX w H s₁ e s') fun r' s' hq => ?_)
  obtain ⟨u, as', rfl, h1, h2, h3, h4⟩ := hq
  exact ⟨.inl ⟨u, _, as', rfl, fun _ => rfl, h1, (OpenSpec.post_iff hwell hwi _ _).mpr rfl, fun z => Bool.noConfusion (show false = true from z)⟩, h2, h3, h4⟩
/-- the same where the promise hangs on the written part alone -/
theorem walk_specK {r : OpenSpec} {k : Nat} {q : Program} {loose : List Str} {XP : (Str → Option Value) → Heap → Prop} {YP : World → Heap → Prop} {d : DefRec} {K : Params → PySem.W.Frag} {CX : CXT} {ps : List Str} {sp : PySem.W.Frag → Sp}
    (hwell : r.wellSaid = true) (hdf : d.params.defaults = []) (hlen : r.args.length = ps.length) (hr : Room k callerA)
    (hY : ∀ (w : World) (h : Heap), YP w h → (K w.params).In h)
    (F : ∀ (w : World) (mg : Str → Option Value) (fa : Addr) (h : Heap), YP w h → (K w.params).In h → h.Ns mainGlobals mg → mg d.name = some (.ref fa) →
      ∃ fd : FuncData, (∀ (s : Shared) (us : List Value), us.length = ps.length → BindsTo s fd ⟨us, []⟩ (ps.zip us)) ∧
        ∀ base : Heap, (K w.params).In base → base.Ns mainGlobals mg → FnOk r.prog w (K w.params) mg base CX k fa fd ps (sp (K w.params)))
    (hsp : ∀ (K : PySem.W.Frag) (H : Hp) (xs : List V) (a : Codec.denoteAll r.args), OnlyF H → Codec.withinAll r.args a = true → Codec.app r.args r.asked a = true → DwAll K H xs (Codec.encAll r.args a) →
      sp K xs H (fun v H' => Dw K H' v (r.ret.enc (Codec.app r.args r.f a))) fun _ _ _ => False)
    (hCX : ∀ (H : Hp) (s : Shared) (e : Value) (s' : Shared), CX [] H s (fun _ _ _ => False) e s' → False) :
    PySem.W.WalkOS q loose XP YP r d [] (fun f vs => PySem.call f vs) :=
  walk_spec (K := K) (CX := fun _ => CX) (sp := fun w => sp (K w.params)) hwell hdf hlen hr hY F (fun w H xs a h1 h2 h3 h4 => hsp (K w.params) H xs a h1 h2 h3 h4) fun _ H s e s' => hCX H s e s'
end L2
-- rests on (row put in by the clerk, for the bench that shows a file only what it spells): KE.SpHead KE.OsShapes
end

set_option linter.all false
namespace Pb
open Sa84
/-- over the joints below n that are in S -/
def tot (S : Nat → Bool) (f : Nat → Nat) : Nat → Nat
  | 0 => 0
  | n + 1 => tot S f n + (if S n = true then f n else 0)
def sz (S : Nat → Bool) (n : Nat) : Nat := tot S (fun _ => 1) n
def inn (S : Nat → Bool) (l : List Bar) : Nat := (l.filter fun b => S b.1 && S b.2).length
def Good (n : Nat) (l : List Bar) : Prop := ∀ S : Nat → Bool, inn S l = 0 ∨ inn S l + 3 ≤ 2 * sz S n
def fset {α : Type} (f : Nat → α) (v : Nat) (y : α) : Nat → α := fun x => if x = v then y else f x
theorem fset_same {α : Type} {f : Nat → α} {v : Nat} {y : α} : fset f v y v = y := by simp [fset]
theorem fset_ne {α : Type} {f : Nat → α} {v x : Nat} {y : α} (h : x ≠ v) : fset f v y x = f x := by simp [fset, h]

theorem tot_congr {S : Nat → Bool} {f g : Nat → Nat} : ∀ {n : Nat}, (∀ x, x < n → S x = true → f x = g x) → tot S f n = tot S g n
  | 0, _ => rfl
  | n + 1, h => by
    unfold tot
    rw [tot_congr fun x hx => h x (by omega)]
    by_cases e : S n = true
    · rw [if_pos e, if_pos e, h n (by omega) e]
    · rw [if_neg e, if_neg e]
theorem tot_congrS {S T : Nat → Bool} {f : Nat → Nat} : ∀ {n : Nat}, (∀ x, x < n → S x = T x) → tot S f n = tot T f n
  | 0, _ => rfl
  | n + 1, h => by
    unfold tot
    rw [tot_congrS fun x hx => h x (by omega), h n (by omega)]
theorem tot_le {S : Nat → Bool} {f g : Nat → Nat} : ∀ {n : Nat}, (∀ x, x < n → S x = true → f x ≤ g x) → tot S f n ≤ tot S g n
  | 0, _ => Nat.le_refl _
  | n + 1, h => by
    unfold tot
    have := tot_le (n := n) fun x hx => h x (by omega)
    by_cases e : S n = true
    · rw [if_pos e, if_pos e]
      have := h n (by omega) e
      omega
    · rw [if_neg e, if_neg e]
      omega
theorem tot_add {S : Nat → Bool} {f g : Nat → Nat} : ∀ {n : Nat}, tot S (fun x => f x + g x) n = tot S f n + tot S g n
  | 0 => rfl
  | n + 1 => by
    unfold tot
    rw [tot_add]
    by_cases e : S n = true
    · rw [if_pos e, if_pos e, if_pos e]
      omega
    · rw [if_neg e, if_neg e, if_neg e]
      omega
theorem tot_two {S : Nat → Bool} : ∀ {n : Nat}, tot S (fun _ => 2) n = 2 * sz S n
  | 0 => rfl
  | n + 1 => by
    unfold sz tot
    rw [tot_two]
    unfold sz
    by_cases e : S n = true
    · rw [if_pos e, if_pos e]
      omega
    · rw [if_neg e, if_neg e]
      omega
/-- what one joint gives -/
def one (S : Nat → Bool) (f : Nat → Nat) (n v : Nat) : Nat := if v < n ∧ S v = true then f v else 0
theorem tot_set {S : Nat → Bool} {f g : Nat → Nat} {v : Nat} : ∀ {n : Nat}, (∀ x, x < n → x ≠ v → f x = g x) → tot S f n + one S g n v = tot S g n + one S f n v
  | 0, _ => by simp [tot, one]
  | n + 1, h => by
    have ih := tot_set (S := S) (v := v) (n := n) fun x hx => h x (by omega)
    unfold tot
    by_cases e : v = n
    · subst e
      have a : one S g v v = 0 := by simp [one]
      have b : one S f v v = 0 := by simp [one]
      rw [a, b] at ih
      have a : one S g (v + 1) v = if S v = true then g v else 0 := by simp [one]
      have b : one S f (v + 1) v = if S v = true then f v else 0 := by simp [one]
      rw [a, b]
      omega
    · have a : one S g (n + 1) v = one S g n v := by
        unfold one
        have : (v < n + 1 ∧ S v = true) ↔ (v < n ∧ S v = true) := by
          constructor
          · rintro ⟨p, q⟩; exact ⟨by omega, q⟩
          · rintro ⟨p, q⟩; exact ⟨by omega, q⟩
        simp only [this]
      have b : one S f (n + 1) v = one S f n v := by
        unfold one
        have : (v < n + 1 ∧ S v = true) ↔ (v < n ∧ S v = true) := by
          constructor
          · rintro ⟨p, q⟩; exact ⟨by omega, q⟩
          · rintro ⟨p, q⟩; exact ⟨by omega, q⟩
        simp only [this]
      rw [a, b, h n (by omega) (fun z => e z.symm)]
      omega
theorem tot_zero {S : Nat → Bool} {f : Nat → Nat} : ∀ {n : Nat}, (∀ x, x < n → S x = true → f x = 0) → tot S f n = 0
  | 0, _ => rfl
  | n + 1, h => by
    unfold tot
    rw [tot_zero fun x hx => h x (by omega)]
    by_cases e : S n = true
    · rw [if_pos e, h n (by omega) e]
    · rw [if_neg e]
/-- all but one -/
theorem tot_but {S : Nat → Bool} {f : Nat → Nat} {n : Nat} (v : Nat) : tot S f n = tot S (fset f v 0) n + one S f n v := by
  have h := tot_set (S := S) (f := f) (g := fset f v 0) (v := v) (n := n) fun x _ hx => (fset_ne hx).symm
  have a : one S (fset f v 0) n v = 0 := by
    unfold one
    rw [fset_same]
    split <;> rfl
  omega
theorem tot_but2 {S : Nat → Bool} {f : Nat → Nat} {n : Nat} {u v : Nat} (h : u ≠ v) : tot S f n = tot S (fset (fset f u 0) v 0) n + one S f n u + one S f n v := by
  rw [tot_but u, tot_but (f := fset f u 0) v]
  have a : one S (fset f u 0) n v = one S f n v := by
    unfold one
    rw [fset_ne (fun z => h z.symm)]
  rw [a]
  omega
theorem one_in {S : Nat → Bool} {f : Nat → Nat} {n v : Nat} (h : v < n) (e : S v = true) : one S f n v = f v := by simp [one, h, e]
theorem one_out {S : Nat → Bool} {f : Nat → Nat} {n v : Nat} (e : ¬ S v = true) : one S f n v = 0 := by simp [one, e]

theorem inn_snoc {S : Nat → Bool} (l : List Bar) (b : Bar) : inn S (l ++ [b]) = inn S l + (if S b.1 = true ∧ S b.2 = true then 1 else 0) := by
  unfold inn
  rw [List.filter_append, List.length_append]
  congr 1
  by_cases e : S b.1 = true ∧ S b.2 = true
  · rw [if_pos e, List.filter_cons, if_pos (by rw [e.1, e.2]; rfl)]
    rfl
  · rw [if_neg e, List.filter_cons, if_neg (by intro z; exact e (by simpa using z))]
    rfl
theorem inn_nil {S : Nat → Bool} : inn S [] = 0 := rfl

/-! ### pebbles -/
/-- two for each joint, free or on the bars ahead; g has one too many, t one too few (g = t: none) -/
structure PI (n : Nat) (E : List Bar) (fr : Nat → Nat) (ah : Nat → List Nat) (g t : Nat) : Prop where
  bal : ∀ x, x < n → fr x + (ah x).length + (if x = t then 1 else 0) = 2 + (if x = g then 1 else 0)
  lt : ∀ x, x < n → ∀ y, y ∈ ah x → y < n
  cnt : ∀ S : Nat → Bool, inn S E = tot S (fun x => (ah x).countP S) n
theorem PI.bal0 {n : Nat} {E : List Bar} {fr : Nat → Nat} {ah : Nat → List Nat} {g : Nat} (h : PI n E fr ah g g) {x : Nat} (hx : x < n) : fr x + (ah x).length = 2 := by
  have := h.bal x hx
  omega
theorem PI.any {n : Nat} {E : List Bar} {fr : Nat → Nat} {ah : Nat → List Nat} {g : Nat} (h : PI n E fr ah g g) (t : Nat) : PI n E fr ah t t := ⟨fun x hx => by have := h.bal0 hx; omega, h.lt, h.cnt⟩
theorem PI.start {n : Nat} {g : Nat} : PI n [] (fun _ => 2) (fun _ => []) g g := ⟨fun x _ => by simp, fun x _ y hy => by simp at hy, fun S => by
  rw [tot_zero]
  · rfl
  · intro x _ _
    rfl⟩
theorem PI.lay {n : Nat} {E : List Bar} {fr : Nat → Nat} {ah : Nat → List Nat} {g : Nat} (h : PI n E fr ah g g) {u v : Nat} (hu : u < n) (hv : v < n) (hf : 0 < fr u) :
    PI n (E ++ [(u, v)]) (fset fr u (fr u - 1)) (fset ah u (ah u ++ [v])) g g := by
  refine ⟨fun x hx => ?_, fun x hx y hy => ?_, fun S => ?_⟩
  · have b := h.bal0 hx
    by_cases e : x = u
    · subst e
      rw [fset_same, fset_same, List.length_append]
      simp only [List.length_cons, List.length_nil]
      omega
    · rw [fset_ne e, fset_ne e]
      omega
  · by_cases e : x = u
    · subst e
      rw [fset_same] at hy
      rcases List.mem_append.mp hy with q | q
      · exact h.lt x hx y q
      · rw [List.mem_singleton.mp q]; exact hv
    · rw [fset_ne e] at hy
      exact h.lt x hx y hy
  · rw [inn_snoc, h.cnt S]
    have q := tot_set (S := S) (v := u) (n := n) (f := fun x => (ah x).countP S) (g := fun x => (fset ah u (ah u ++ [v]) x).countP S) fun x _ hx => by
      show (ah x).countP S = (fset ah u (ah u ++ [v]) x).countP S
      rw [fset_ne hx]
    by_cases e : S u = true
    · rw [one_in hu e, one_in hu e, fset_same, List.countP_append, List.countP_singleton] at q
      simp only [e, true_and]
      omega
    · rw [one_out e, one_out e] at q
      simp only [e]
      simpa using q
theorem PI.flip {n : Nat} {E : List Bar} {fr : Nat → Nat} {ah : Nat → List Nat} {g here back : Nat} (h : PI n E fr ah g here) (hh : here < n) (hb : back < n) (ne : here ≠ back) (hm : here ∈ ah back) :
    PI n E fr (fset (fset ah back ((ah back).erase here)) here (ah here ++ [back])) g back := by
  have le := List.length_erase_of_mem hm
  have lp := List.length_pos_of_mem hm
  refine ⟨fun x hx => ?_, fun x hx y hy => ?_, fun S => ?_⟩
  · have b := h.bal x hx
    by_cases e : x = here
    · subst e
      rw [fset_same, List.length_append]
      simp only [List.length_cons, List.length_nil]
      rw [if_pos rfl] at b
      rw [if_neg ne]
      omega
    · rw [fset_ne e]
      rw [if_neg e] at b
      by_cases e2 : x = back
      · subst e2
        rw [fset_same, if_pos rfl]
        omega
      · rw [fset_ne e2, if_neg e2]
        exact b
  · by_cases e : x = here
    · subst e
      rw [fset_same] at hy
      rcases List.mem_append.mp hy with q | q
      · exact h.lt x hx y q
      · rw [List.mem_singleton.mp q]; exact hb
    · rw [fset_ne e] at hy
      by_cases e2 : x = back
      · subst e2
        rw [fset_same] at hy
        exact h.lt x hx y (List.mem_of_mem_erase hy)
      · rw [fset_ne e2] at hy
        exact h.lt x hx y hy
  · rw [h.cnt S]
    have q1 := tot_set (S := S) (v := back) (n := n) (f := fun x => (ah x).countP S) (g := fun x => (fset ah back ((ah back).erase here) x).countP S) fun x _ hx => by
      show (ah x).countP S = (fset ah back ((ah back).erase here) x).countP S
      rw [fset_ne hx]
    have q2 := tot_set (S := S) (v := here) (n := n) (f := fun x => (fset ah back ((ah back).erase here) x).countP S) (g := fun x => (fset (fset ah back ((ah back).erase here)) here (ah here ++ [back]) x).countP S) fun x _ hx => by
      show (fset ah back ((ah back).erase here) x).countP S = (fset (fset ah back ((ah back).erase here)) here (ah here ++ [back]) x).countP S
      rw [fset_ne (v := here) hx]
    have p : (ah back).countP S = ((ah back).erase here).countP S + (if S here = true then 1 else 0) := by
      have := (List.perm_cons_erase hm).countP_eq S
      rw [this, List.countP_cons]
    have r1 : one S (fun x => (ah x).countP S) n back = if S back = true then (ah back).countP S else 0 := by simp [one, hb]
    have r2 : one S (fun x => (fset ah back ((ah back).erase here) x).countP S) n back = if S back = true then ((ah back).erase here).countP S else 0 := by simp [one, hb, fset_same]
    have r3 : one S (fun x => (fset ah back ((ah back).erase here) x).countP S) n here = if S here = true then (ah here).countP S else 0 := by simp [one, hh, fset_ne ne]
    have r4 : one S (fun x => (fset (fset ah back ((ah back).erase here)) here (ah here ++ [back]) x).countP S) n here = if S here = true then (ah here).countP S + (if S back = true then 1 else 0) else 0 := by
      simp [one, hh, fset_same, List.countP_append, List.countP_singleton]
    rw [r1, r2] at q1
    rw [r3, r4] at q2
    by_cases e1 : S back = true <;> by_cases e2 : S here = true <;> simp only [e1, e2, if_true, if_false] at q1 q2 p ⊢ <;> (try simp at q1 q2 p) <;> omega
theorem PI.passed {n : Nat} {E : List Bar} {fr : Nat → Nat} {ah : Nat → List Nat} {g t : Nat} (h : PI n E fr ah g t) (ne : g ≠ t) (hg : 0 < fr g) :
    PI n E (fset (fset fr g (fr g - 1)) t (fr t + 1)) ah t t := by
  refine ⟨fun x hx => ?_, h.lt, h.cnt⟩
  have b := h.bal x hx
  by_cases e : x = t
  · subst e
    rw [fset_same]
    rw [if_pos rfl, if_neg (fun z => ne z.symm)] at b
    omega
  · rw [fset_ne e]
    by_cases e2 : x = g
    · subst e2
      rw [fset_same]
      rw [if_neg e, if_pos rfl] at b
      rw [if_neg e]
      omega
    · rw [fset_ne e2]
      rw [if_neg e, if_neg e2] at b
      rw [if_neg e]
      omega
/-- bars and free pebbles of a set -/
theorem PI.full {n : Nat} {E : List Bar} {fr : Nat → Nat} {ah : Nat → List Nat} {g : Nat} (h : PI n E fr ah g g) (S : Nat → Bool) : tot S (fun x => (ah x).length) n + tot S fr n = 2 * sz S n := by
  rw [← tot_two, ← tot_add]
  exact tot_congr fun x hx _ => by have := h.bal0 hx; omega
theorem PI.allow {n : Nat} {E : List Bar} {fr : Nat → Nat} {ah : Nat → List Nat} {g : Nat} (h : PI n E fr ah g g) (ok : Good n E) {u v : Nat} (hu : u < n) (hv : v < n) (ne : u ≠ v) (fu : fr u = 2) (fv : fr v = 2) : Good n (E ++ [(u, v)]) := by
  intro S
  rw [inn_snoc]
  by_cases e : S u = true ∧ S v = true
  · rw [if_pos e]
    right
    have f := h.full S
    have c := h.cnt S
    have l : tot S (fun x => (ah x).countP S) n ≤ tot S (fun x => (ah x).length) n := tot_le fun x _ _ => List.countP_le_length
    have b := tot_but2 (S := S) (f := fr) (n := n) ne
    rw [one_in hu e.1, one_in hv e.2] at b
    omega
  · rw [if_neg e]
    exact ok S
theorem PI.deny {n : Nat} {E : List Bar} {fr : Nat → Nat} {ah : Nat → List Nat} {g : Nat} (h : PI n E fr ah g g) (ok : Good n E) {j o : Nat} (hj : j < n) (ho : o < n) (ne : j ≠ o) (R : Nat → Bool) (rj : R j = true)
    (cl : ∀ x, x < n → R x = true → ∀ y, y ∈ ah x → R y = true) (fj : fr j ≤ 1) (fo : ∀ x, x < n → R x = true → x ≠ j → x ≠ o → fr x = 0) {b : Bar} (hb : b = (j, o) ∨ b = (o, j)) : ¬ Good n (E ++ [b]) := by
  intro G
  have f := h.full R
  have c := h.cnt R
  have e : tot R (fun x => (ah x).countP R) n = tot R (fun x => (ah x).length) n := tot_congr fun x hx hr => List.countP_eq_length.mpr fun y hy => cl x hx hr y hy
  have b2 := tot_but2 (S := R) (f := fr) (n := n) ne
  rw [one_in hj rj, tot_zero (f := fset (fset fr j 0) o 0)] at b2
  · have s1 := tot_but (S := R) (f := fun _ => 1) (n := n) j
    rw [one_in hj rj] at s1
    have s2 : 1 ≤ sz R n := by unfold sz; omega
    by_cases ro : R o = true
    · rw [one_in ho ro] at b2
      have q := h.bal0 ho
      have g1 := G R
      rw [inn_snoc, if_pos (by rcases hb with rfl | rfl <;> simp [rj, ro])] at g1
      omega
    · rw [one_out ro] at b2
      have g1 := ok R
      omega
  · intro x hx hr
    by_cases e1 : x = o
    · rw [e1, fset_same]
    · rw [fset_ne e1]
      by_cases e2 : x = j
      · rw [e2, fset_same]
      · rw [fset_ne e2]
        exact fo x hx hr e2 e1
end Pb

set_option linter.all false
namespace Pb
open Sa84
theorem range_sz (S : Nat → Bool) : ∀ N : Nat, ((List.range N).filter S).length = sz S N
  | 0 => rfl
  | N + 1 => by
    rw [List.range_succ, List.filter_append, List.length_append, range_sz S N]
    unfold sz
    rw [show tot S (fun _ => 1) (N + 1) = tot S (fun _ => 1) N + (if S N = true then 1 else 0) from rfl]
    congr 1
    by_cases e : S N = true
    · rw [if_pos e, List.filter_cons, if_pos e]; rfl
    · rw [if_neg e, List.filter_cons, if_neg e]; rfl
theorem tot_ext {S : Nat → Bool} {f : Nat → Nat} {n : Nat} (h : ∀ x, n ≤ x → S x = false) : ∀ k, tot S f (n + k) = tot S f n
  | 0 => rfl
  | k + 1 => by
    rw [show n + (k + 1) = (n + k) + 1 from rfl]
    unfold tot
    rw [tot_ext h k, h (n + k) (by omega)]
    simp
    cases n <;> rfl
theorem mask_of (S : Nat → Bool) : ∀ n : Nat, ∃ m, m < 2 ^ n ∧ ∀ v, v < n → m.testBit v = S v
  | 0 => ⟨0, by simp, fun v h => by omega⟩
  | n + 1 => by
    obtain ⟨m, h1, h2⟩ := mask_of S n
    have hp : 2 ^ (n + 1) = 2 ^ n * 2 := Nat.pow_succ ..
    by_cases e : S n = true
    · refine ⟨m ||| 2 ^ n, Nat.or_lt_two_pow (by omega) (by have := Nat.two_pow_pos n; omega), fun v hv => ?_⟩
      rw [Nat.testBit_or, Nat.testBit_two_pow]
      by_cases q : v = n
      · subst q
        simp [e]
      · rw [h2 v (by omega)]
        simp [show ¬ n = v from fun z => q z.symm]
    · refine ⟨m, by omega, fun v hv => ?_⟩
      by_cases q : v = n
      · subst q
        rw [Nat.testBit_lt_two_pow h1]
        cases z : S v
        · rfl
        · exact absurd z e
      · exact h2 v (by omega)
def Below (n : Nat) (l : List Bar) : Prop := ∀ b, b ∈ l → b.1 < n ∧ b.2 < n
theorem inn_congr {S T : Nat → Bool} {n : Nat} {l : List Bar} (hl : Below n l) (h : ∀ v, v < n → S v = T v) : inn S l = inn T l := by
  unfold inn
  congr 1
  apply List.filter_congr
  intro b hb
  rw [h _ (hl b hb).1, h _ (hl b hb).2]
theorem size_eq {n m : Nat} (hn : n ≤ 32) (hm : m < 2 ^ n) : Sx35.size m = sz m.testBit n := by
  unfold Sx35.size
  rw [range_sz (fun v => m.testBit v) 32]
  unfold sz
  obtain ⟨k, hk⟩ : ∃ k, 32 = n + k := ⟨32 - n, by omega⟩
  rw [hk]
  exact tot_ext (fun x hx => Nat.testBit_lt_two_pow (Nat.lt_of_lt_of_le hm (Nat.pow_le_pow_right (by decide) hx))) k
theorem ordered_iff {n : Nat} (hn : n ≤ 32) {l : List Bar} (hl : Below n l) : Sx35.ordered n l = true ↔ Good n l := by
  unfold Sx35.ordered
  rw [List.all_eq_true]
  constructor
  · intro h S
    obtain ⟨m, h1, h2⟩ := mask_of S n
    have q := h m (List.mem_range.mpr h1)
    have e1 : (l.filter (Sx35.inside m)).length = inn S l := by
      rw [show (l.filter (Sx35.inside m)).length = inn m.testBit l from rfl]
      exact inn_congr hl h2
    have e2 : sz S n = Sx35.size m := by
      rw [size_eq hn h1]
      exact (tot_congrS h2).symm
    dsimp only at q
    rw [e1, ← e2] at q
    simpa using q
  · intro h m hm
    have q := h m.testBit
    have e1 : (l.filter (Sx35.inside m)).length = inn m.testBit l := rfl
    dsimp only
    rw [e1, size_eq hn (List.mem_range.mp hm)]
    simpa using q
theorem ordered_false {n : Nat} (hn : n ≤ 32) {l : List Bar} (hl : Below n l) (h : ¬ Good n l) : Sx35.ordered n l = false := by
  cases e : Sx35.ordered n l
  · rfl
  · exact absurd ((ordered_iff hn hl).mp e) h
theorem Below.snoc {n : Nat} {l : List Bar} {b : Bar} (h : Below n l) (h1 : b.1 < n) (h2 : b.2 < n) : Below n (l ++ [b]) := fun c hc => by
  rcases List.mem_append.mp hc with q | q
  · exact h c q
  · rw [List.mem_singleton.mp q]; exact ⟨h1, h2⟩
theorem Good.nil {n : Nat} : Good n [] := fun S => .inl rfl
/-! ### a list of different numbers below n -/
theorem len_le : ∀ {n : Nat} {l : List Nat}, l.Nodup → (∀ x, x ∈ l → x < n) → l.length ≤ n
  | 0, l, _, h => by
    cases l with
    | nil => simp
    | cons a r => exact absurd (h a (by simp)) (by omega)
  | n + 1, l, hd, h => by
    by_cases m : n ∈ l
    · have q := len_le (n := n) (l := l.erase n) (hd.erase n) fun x hx => by
        have h1 := h x (List.mem_of_mem_erase hx)
        have h2 : x ≠ n := fun z => by
          subst z
          exact (hd.not_mem_erase) hx
        omega
      rw [List.length_erase_of_mem m] at q
      omega
    · have q := len_le (n := n) (l := l) hd fun x hx => by
        have h1 := h x hx
        have h2 : x ≠ n := fun z => m (z ▸ hx)
        omega
      omega
/-! ### the search: what was reached, by what -/
structure BI (n : Nat) (ah : Nat → List Nat) (j : Nat) (rc : List Nat) (par : Nat → Nat) : Prop where
  nd : rc.Nodup
  lt : ∀ x, x ∈ rc → x < n
  hd : rc[0]? = some j
  tree : ∀ i x, 0 < i → rc[i]? = some x → x ∈ ah (par x) ∧ ∃ i', i' < i ∧ rc[i']? = some (par x)
theorem BI.start {n : Nat} {ah : Nat → List Nat} {j : Nat} {par : Nat → Nat} (h : j < n) : BI n ah j [j] par := ⟨by simp, fun x hx => by rw [List.mem_singleton.mp hx]; exact h, rfl, fun i x hi e => by
  match i, hi, e with
  | i + 1, _, e => simp at e⟩
theorem get_snoc {α : Type} {l : List α} {i : Nat} {x y : α} (h : (l ++ [x])[i]? = some y) : l[i]? = some y ∨ (i = l.length ∧ y = x) := by
  by_cases e : i < l.length
  · rw [List.getElem?_append_left e] at h
    exact .inl h
  · right
    have q := (List.getElem?_eq_some_iff.mp h).1
    rw [List.length_append] at q
    simp at q
    have e2 : i = l.length := by omega
    subst e2
    simp at h
    exact ⟨rfl, h.symm⟩
theorem BI.more {n : Nat} {ah : Nat → List Nat} {j : Nat} {rc : List Nat} {par : Nat → Nat} (B : BI n ah j rc par) {k here far : Nat} (hk : rc[k]? = some here) (hm : far ∈ ah here) (hf : far < n) (no : far ∉ rc) : BI n ah j (rc ++ [far]) (fset par far here) := by
  have hh : ∀ {i : Nat} {x : Nat}, rc[i]? = some x → x ≠ far := fun e z => no (z ▸ List.mem_of_getElem? e)
  have left : ∀ {i : Nat} {x : Nat}, rc[i]? = some x → (rc ++ [far])[i]? = some x := fun {i x} e => by
    rw [List.getElem?_append_left (List.getElem?_eq_some_iff.mp e).1]
    exact e
  refine ⟨?_, fun x hx => ?_, left B.hd, fun i x hi e => ?_⟩
  · rw [List.nodup_append]
    refine ⟨B.nd, by simp, fun a ha b hb z => ?_⟩
    rw [List.mem_singleton.mp hb] at z
    exact no (z ▸ ha)
  · rcases List.mem_append.mp hx with q | q
    · exact B.lt x q
    · rw [List.mem_singleton.mp q]; exact hf
  · rcases get_snoc e with q | ⟨q, rfl⟩
    · obtain ⟨t1, i', t2, t3⟩ := B.tree i x hi q
      rw [fset_ne (hh q)]
      exact ⟨t1, i', t2, left t3⟩
    · rw [fset_same]
      exact ⟨hm, k, by rw [q]; exact (List.getElem?_eq_some_iff.mp hk).1, left hk⟩
end Pb

set_option linter.all false
namespace Pb
open Sa84
/-- the i-th bar -/
def br (bs : List Nat) (i : Nat) : Bar := (bs.getD (2 * i) 0, bs.getD (2 * i + 1) 0)
def bars (b : Nat → Bar) (m : Nat) : List Bar := (List.range m).map b
theorem bars_len (b : Nat → Bar) (m : Nat) : (bars b m).length = m := by simp [bars]
theorem bars_get {b : Nat → Bar} {m i : Nat} (h : i < m) : (bars b m)[i]? = some (b i) := by simp [bars, h]
theorem bars_succ (b : Nat → Bar) (m : Nat) : bars b (m + 1) = bars b m ++ [b m] := by simp [bars, List.range_succ]
theorem mem_bars {b : Nat → Bar} {m : Nat} {c : Bar} : c ∈ bars b m ↔ ∃ i, i < m ∧ b i = c := by simp [bars]
/-- what is kept of the first i bars, and their numbers -/
def keptIx (n : Nat) (b : Nat → Bar) : Nat → List Bar × List Nat
  | 0 => ([], [])
  | i + 1 => if Sx35.ordered n ((keptIx n b i).1 ++ [b i]) = true then ((keptIx n b i).1 ++ [b i], (keptIx n b i).2 ++ [i]) else keptIx n b i
theorem keptIx_yes {n : Nat} {b : Nat → Bar} {i : Nat} (h : Sx35.ordered n ((keptIx n b i).1 ++ [b i]) = true) : keptIx n b (i + 1) = ((keptIx n b i).1 ++ [b i], (keptIx n b i).2 ++ [i]) := by
  rw [keptIx, if_pos h]
theorem keptIx_no {n : Nat} {b : Nat → Bar} {i : Nat} (h : ¬ Sx35.ordered n ((keptIx n b i).1 ++ [b i]) = true) : keptIx n b (i + 1) = keptIx n b i := by
  rw [keptIx, if_neg h]
theorem kept_eq (n : Nat) (b : Nat → Bar) : ∀ m, Sx35.kept n (bars b m) = (keptIx n b m).1
  | 0 => rfl
  | m + 1 => by
    have ih := kept_eq n b m
    unfold Sx35.kept at ih ⊢
    rw [bars_succ, List.foldl_append, ih]
    show (if Sx35.ordered n ((keptIx n b m).1 ++ [b m]) = true then (keptIx n b m).1 ++ [b m] else (keptIx n b m).1) = _
    by_cases h : Sx35.ordered n ((keptIx n b m).1 ++ [b m]) = true
    · rw [if_pos h, keptIx_yes h]
    · rw [if_neg h, keptIx_no h]
theorem keptIx_map (n : Nat) (b : Nat → Bar) : ∀ m, (keptIx n b m).1 = (keptIx n b m).2.map b
  | 0 => rfl
  | m + 1 => by
    have ih := keptIx_map n b m
    by_cases h : Sx35.ordered n ((keptIx n b m).1 ++ [b m]) = true
    · rw [keptIx_yes h]
      show (keptIx n b m).1 ++ [b m] = ((keptIx n b m).2 ++ [m]).map b
      rw [List.map_append, ← ih]
      rfl
    · rw [keptIx_no h]
      exact ih
theorem keptIx_mem (n : Nat) (b : Nat → Bar) : ∀ m i, i ∈ (keptIx n b m).2 ↔ i < m ∧ Sx35.ordered n ((keptIx n b i).1 ++ [b i]) = true
  | 0, i => by simp [keptIx]
  | m + 1, i => by
    have ih := keptIx_mem n b m i
    by_cases h : Sx35.ordered n ((keptIx n b m).1 ++ [b m]) = true
    · rw [keptIx_yes h]
      show i ∈ (keptIx n b m).2 ++ [m] ↔ _
      rw [List.mem_append, ih, List.mem_singleton]
      constructor
      · rintro (⟨h1, h2⟩ | rfl)
        · exact ⟨by omega, h2⟩
        · exact ⟨by omega, h⟩
      · rintro ⟨h1, h2⟩
        by_cases e : i = m
        · exact .inr e
        · exact .inl ⟨by omega, h2⟩
    · rw [keptIx_no h, ih]
      constructor
      · rintro ⟨h1, h2⟩
        exact ⟨by omega, h2⟩
      · rintro ⟨h1, h2⟩
        by_cases e : i = m
        · subst e
          exact absurd h2 h
        · exact ⟨by omega, h2⟩
theorem keptIx_lt {n : Nat} {b : Nat → Bar} {m i : Nat} (h : i ∈ (keptIx n b m).2) : i < m := ((keptIx_mem n b m i).mp h).1
theorem keptIx_len (n : Nat) (b : Nat → Bar) : ∀ m, (keptIx n b m).2.length ≤ m
  | 0 => Nat.le_refl _
  | m + 1 => by
    have ih := keptIx_len n b m
    by_cases h : Sx35.ordered n ((keptIx n b m).1 ++ [b m]) = true
    · rw [keptIx_yes h]
      show ((keptIx n b m).2 ++ [m]).length ≤ _
      rw [List.length_append]
      simp
      exact ih
    · rw [keptIx_no h]
      omega
theorem keptIx_len1 (n : Nat) (b : Nat → Bar) (m : Nat) : (keptIx n b m).1.length = (keptIx n b m).2.length := by rw [keptIx_map, List.length_map]
theorem keptIx_below {n : Nat} {b : Nat → Bar} {m : Nat} (h : ∀ i, i < m → (b i).1 < n ∧ (b i).2 < n) : Below n (keptIx n b m).1 := fun c hc => by
  rw [keptIx_map] at hc
  obtain ⟨i, hi, rfl⟩ := List.mem_map.mp hc
  exact h i (keptIx_lt hi)
/-! ### masks -/
def sumP (l : List Nat) : Nat := (l.map fun i => 2 ^ i).sum
theorem sumP_snoc (l : List Nat) (i : Nat) : sumP (l ++ [i]) = sumP l + 2 ^ i := by simp [sumP]
/-- rising numbers -/
inductive Rise : Nat → List Nat → Prop
  | nil (m : Nat) : Rise m []
  | snoc {m i : Nat} {l : List Nat} : Rise i l → i < m → Rise m (l ++ [i])
theorem Rise.mono {m m' : Nat} {l : List Nat} (h : Rise m l) (hm : m ≤ m') : Rise m' l := by
  cases h with
  | nil => exact .nil _
  | snoc h1 h2 => exact .snoc h1 (by omega)
theorem Rise.sum {m : Nat} {l : List Nat} (h : Rise m l) : sumP l < 2 ^ m := by
  induction h with
  | nil m => simp [sumP]; exact Nat.two_pow_pos m
  | @snoc m i l h1 h2 ih =>
    rw [sumP_snoc]
    have : 2 ^ (i + 1) ≤ 2 ^ m := Nat.pow_le_pow_right (by decide) (by omega)
    rw [Nat.pow_succ] at this
    omega
theorem keptIx_rise (n : Nat) (b : Nat → Bar) : ∀ m, Rise m (keptIx n b m).2
  | 0 => .nil _
  | m + 1 => by
    have ih := keptIx_rise n b m
    by_cases h : Sx35.ordered n ((keptIx n b m).1 ++ [b m]) = true
    · rw [keptIx_yes h]
      exact .snoc ih (by omega)
    · rw [keptIx_no h]
      exact ih.mono (by omega)
def addBit (w : List Nat) (i : Nat) : List Nat := w.set (i / 32) (w.getD (i / 32) 0 ||| 2 ^ (i % 32))
def words (l : List Nat) : List Nat := l.foldl addBit [0, 0, 0]
theorem words_snoc (l : List Nat) (i : Nat) : words (l ++ [i]) = addBit (words l) i := by simp [words]
theorem or_pow {m i : Nat} (h : m < 2 ^ i) : m ||| 2 ^ i = m + 2 ^ i := by
  have := Nat.two_pow_add_eq_or_of_lt h 1
  rw [Nat.mul_one] at this
  rw [Nat.or_comm, ← this]
  omega
theorem three_add {m i : Nat} (h : m < 2 ^ i) (hi : i < 96) : addBit (three m) i = three (m + 2 ^ i) := by
  unfold addBit three
  have p32 : (2 : Nat) ^ 32 = 4294967296 := by decide
  have p64 : (2 : Nat) ^ 64 = 4294967296 * 4294967296 := by decide
  rw [p32, p64]
  by_cases h1 : i < 32
  · have e1 : i / 32 = 0 := by omega
    have e2 : i % 32 = i := by omega
    have c : 2 ^ i ≤ 2 ^ 31 := Nat.pow_le_pow_right (by decide) (by omega)
    have p31 : (2 : Nat) ^ 31 = 2147483648 := by decide
    rw [p31] at c
    rw [e1, e2]
    simp only [List.getD_cons_zero, List.set_cons_zero]
    have f1 : m % 4294967296 = m := by omega
    rw [f1, or_pow h]
    generalize 2 ^ i = x at *
    have g1 : (m + x) % 4294967296 = m + x := by omega
    have g2 : (m + x) / 4294967296 % 4294967296 = m / 4294967296 % 4294967296 := by omega
    have g3 : (m + x) / (4294967296 * 4294967296) % 4294967296 = m / (4294967296 * 4294967296) % 4294967296 := by omega
    rw [g1, g2, g3]
  · by_cases h2 : i < 64
    · have e1 : i / 32 = 1 := by omega
      have e2 : i % 32 = i - 32 := by omega
      have c : 2 ^ (i - 32) ≤ 2 ^ 31 := Nat.pow_le_pow_right (by decide) (by omega)
      have p31 : (2 : Nat) ^ 31 = 2147483648 := by decide
      rw [p31] at c
      have pe : 2 ^ i = 4294967296 * 2 ^ (i - 32) := by
        rw [← p32, ← Nat.pow_add]
        congr 1
        omega
      rw [pe] at h ⊢
      rw [e1, e2]
      simp only [List.getD_cons_zero, List.getD_cons_succ, List.set_cons_zero, List.set_cons_succ]
      have f1 : m / 4294967296 % 4294967296 = m / 4294967296 := by omega
      rw [f1, or_pow (by omega)]
      generalize 2 ^ (i - 32) = x at *
      have g1 : (m + 4294967296 * x) % 4294967296 = m % 4294967296 := by omega
      have g2 : (m + 4294967296 * x) / 4294967296 % 4294967296 = m / 4294967296 + x := by omega
      have g3 : (m + 4294967296 * x) / (4294967296 * 4294967296) % 4294967296 = m / (4294967296 * 4294967296) % 4294967296 := by omega
      rw [g1, g2, g3]
    · have e1 : i / 32 = 2 := by omega
      have e2 : i % 32 = i - 64 := by omega
      have c : 2 ^ (i - 64) ≤ 2 ^ 31 := Nat.pow_le_pow_right (by decide) (by omega)
      have p31 : (2 : Nat) ^ 31 = 2147483648 := by decide
      rw [p31] at c
      have pe : 2 ^ i = 4294967296 * 4294967296 * 2 ^ (i - 64) := by
        rw [← p64, ← Nat.pow_add]
        congr 1
        omega
      rw [pe] at h ⊢
      rw [e1, e2]
      simp only [List.getD_cons_zero, List.getD_cons_succ, List.set_cons_zero, List.set_cons_succ]
      have f1 : m / (4294967296 * 4294967296) % 4294967296 = m / (4294967296 * 4294967296) := by omega
      rw [f1, or_pow (by omega)]
      generalize 2 ^ (i - 64) = x at *
      have g1 : (m + 4294967296 * 4294967296 * x) % 4294967296 = m % 4294967296 := by omega
      have g2 : (m + 4294967296 * 4294967296 * x) / 4294967296 % 4294967296 = m / 4294967296 % 4294967296 := by omega
      have g3 : (m + 4294967296 * 4294967296 * x) / (4294967296 * 4294967296) % 4294967296 = m / (4294967296 * 4294967296) + x := by omega
      rw [g1, g2, g3]
theorem words_three {m : Nat} {l : List Nat} (h : Rise m l) (hm : m ≤ 96) : words l = three (sumP l) := by
  induction h with
  | nil m => rfl
  | @snoc m i l h1 h2 ih =>
    rw [words_snoc, ih (by omega), three_add h1.sum (by omega), sumP_snoc]
theorem words_len (l : List Nat) : (words l).length = 3 := by
  unfold words
  have : ∀ (l w : List Nat), w.length = 3 → (l.foldl addBit w).length = 3 := fun l => by
    induction l with
    | nil => intro w h; exact h
    | cons a r ih =>
      intro w h
      rw [List.foldl_cons]
      refine ih _ ?_
      unfold addBit
      rw [List.length_set]
      exact h
  exact this l _ rfl
/-- of some bars taken by their numbers -/
theorem mask_sum {b : Nat → Bar} {k : List Bar} {P : Nat → Bool} : ∀ {m : Nat}, (∀ i, i < m → k.contains (b i) = P i) →
    ((List.range m).map fun i => if k.contains (b i) = true then 2 ^ i else 0).sum = sumP ((List.range m).filter P)
  | 0, _ => rfl
  | m + 1, h => by
    rw [List.range_succ, List.map_append, List.sum_append, List.filter_append, mask_sum fun i hi => h i (by omega)]
    have e := h m (by omega)
    by_cases q : P m = true
    · rw [List.filter_cons, if_pos q, List.filter_nil, sumP_snoc]
      simp only [List.map_cons, List.map_nil, e, q, if_true, List.sum_cons, List.sum_nil, Nat.add_zero]
    · rw [List.filter_cons, if_neg q, List.filter_nil, List.append_nil]
      simp only [List.map_cons, List.map_nil, e, q, List.sum_cons, List.sum_nil]
      simp
theorem maskOf_eq {b : Nat → Bar} {k : List Bar} {P : Nat → Bool} {m : Nat} (h : ∀ i, i < m → k.contains (b i) = P i) : maskOf (bars b m) k = sumP ((List.range m).filter P) := by
  unfold maskOf
  rw [bars_len, ← mask_sum h]
  congr 1
  apply List.map_congr_left
  intro i hi
  rw [List.getD_eq_getElem?_getD, bars_get (List.mem_range.mp hi)]
  rfl
/-! ### a frame -/
def blo (b : Bar) : Nat := if b.2 < b.1 then b.2 else b.1
def bhi (b : Bar) : Nat := if b.2 > b.1 then b.2 else b.1
theorem same_iff (a b : Bar) : Sa84.same a b = true ↔ blo a = blo b ∧ bhi a = bhi b := by
  obtain ⟨a1, a2⟩ := a
  obtain ⟨b1, b2⟩ := b
  unfold Sa84.same blo bhi
  simp only [Bool.or_eq_true, Bool.and_eq_true, beq_iff_eq]
  constructor
  · rintro (⟨h1, h2⟩ | ⟨h1, h2⟩)
    · subst h1 h2
      exact ⟨rfl, rfl⟩
    · subst h1 h2
      constructor <;> split <;> split <;> omega
  · rintro ⟨h1, h2⟩
    split at h1 <;> split at h1 <;> split at h2 <;> split at h2 <;> omega
structure GoodF (n : Int) (m : Nat) (b : Nat → Bar) : Prop where
  n2 : 2 ≤ n
  n32 : n ≤ 32
  ne : ∀ i, i < m → (b i).1 ≠ (b i).2
  lt1 : ∀ i, i < m → ((b i).1 : Int) < n
  lt2 : ∀ i, i < m → ((b i).2 : Int) < n
  diff : ∀ i i', i < m → i' < i → Sa84.same (b i') (b i) = false
theorem frame_bars (n : Int) (m : Nat) (bs : List Nat) : (Frame.mk n (m : Int) bs).bars = bars (br bs) m := by
  unfold Frame.bars bars br
  simp
theorem good_iff {n : Int} {m : Nat} {bs : List Nat} (hm : m ≤ 96) : (Frame.mk n (m : Int) bs).good = true ↔ GoodF n m (br bs) := by
  unfold Frame.good
  rw [frame_bars]
  simp only [Bool.and_eq_true, decide_eq_true_eq, List.all_eq_true]
  constructor
  · rintro ⟨h1, h2, h3, h4, h5, h6⟩
    have g : ∀ i, i < m → br bs i ∈ bars (br bs) m := fun i hi => mem_bars.mpr ⟨i, hi, rfl⟩
    refine ⟨h1, h2, fun i hi => ?_, fun i hi => (h5 _ (g i hi)).2.1, fun i hi => (h5 _ (g i hi)).2.2, fun i i' hi hlt => ?_⟩
    · exact (by simpa using (h5 _ (g i hi)).1)
    · have q := h6 (br bs i, i) (by
        rw [List.mem_zipIdx_iff_getElem?]
        exact bars_get hi) (br bs i') (by
        have : (bars (br bs) m).take i = bars (br bs) i := by
          unfold bars
          rw [← List.map_take, List.take_range]
          congr 2
          omega
        rw [this]
        exact mem_bars.mpr ⟨i', hlt, rfl⟩)
      simpa using q
  · rintro ⟨h1, h2, h3, h4, h5, h6⟩
    refine ⟨h1, h2, by omega, by omega, fun c hc => ?_, fun x hx c hc => ?_⟩
    · obtain ⟨i, hi, rfl⟩ := mem_bars.mp hc
      exact ⟨by simpa using h3 i hi, h4 i hi, h5 i hi⟩
    · obtain ⟨x1, i⟩ := x
      rw [List.mem_zipIdx_iff_getElem?] at hx
      have hi : i < m := by
        have := (List.getElem?_eq_some_iff.mp hx).1
        rw [bars_len] at this
        exact this
      rw [bars_get hi] at hx
      have hx := Option.some.inj hx
      dsimp only at hx
      subst hx
      have : (bars (br bs) m).take i = bars (br bs) i := by
        unfold bars
        rw [← List.map_take, List.take_range]
        congr 2
        omega
      rw [this] at hc
      obtain ⟨i', hi', rfl⟩ := mem_bars.mp hc
      rw [h6 i i' hi hi']
      rfl
theorem GoodF.inj {n : Int} {m : Nat} {b : Nat → Bar} (g : GoodF n m b) {i j : Nat} (h1 : i < m) (h2 : j < m) (e : b i = b j) : i = j := by
  rcases Nat.lt_trichotomy i j with h | h | h
  · have q := g.diff j i h2 h
    rw [e] at q
    have : Sa84.same (b j) (b j) = true := (same_iff _ _).mpr ⟨rfl, rfl⟩
    rw [this] at q
    cases q
  · exact h
  · have q := g.diff i j h1 h
    rw [e] at q
    have : Sa84.same (b j) (b j) = true := (same_iff _ _).mpr ⟨rfl, rfl⟩
    rw [this] at q
    cases q
/-- the mask of what is kept -/
theorem kept_mask {n : Int} {m k : Nat} {b : Nat → Bar} (g : GoodF n m b) (hm : m ≤ 96) : three (maskOf (bars b m) (keptIx k b m).1) = words (keptIx k b m).2 := by
  rw [words_three (keptIx_rise k b m) hm]
  have h : ∀ i, i < m → (keptIx k b m).1.contains (b i) = Sx35.ordered k ((keptIx k b i).1 ++ [b i]) := fun i hi => by
    rw [keptIx_map k b m]
    cases e : Sx35.ordered k ((keptIx k b i).1 ++ [b i]) with
    | true => exact List.contains_iff_mem.mpr (List.mem_map.mpr ⟨i, (keptIx_mem k b m i).mpr ⟨hi, e⟩, rfl⟩)
    | false =>
      rw [← Bool.not_eq_true]
      intro z
      obtain ⟨j, hj, e2⟩ := List.mem_map.mp (List.contains_iff_mem.mp z)
      obtain ⟨h1, h2⟩ := (keptIx_mem k b m j).mp hj
      have := g.inj h1 hi e2
      subst this
      rw [e] at h2
      cases h2
  rw [maskOf_eq h]
  congr 2
  clear h
  induction m with
  | zero => rfl
  | succ m ih =>
    have ih := ih ⟨g.n2, g.n32, fun i hi => g.ne i (by omega), fun i hi => g.lt1 i (by omega), fun i hi => g.lt2 i (by omega), fun i i' hi h => g.diff i i' (by omega) h⟩ (by omega)
    rw [List.range_succ, List.filter_append, ih]
    by_cases e : Sx35.ordered k ((keptIx k b m).1 ++ [b m]) = true
    · rw [keptIx_yes e, List.filter_cons, if_pos e, List.filter_nil]
    · rw [keptIx_no e, List.filter_cons, if_neg e, List.filter_nil, List.append_nil]
end Pb

set_option linter.all false
namespace Pb
open Sa84
/-! ### tight sets -/
def Tt (n : Nat) (E : List Bar) (S : Nat → Bool) : Prop := 2 * sz S n ≤ inn S E + 3
def uni (S T : Nat → Bool) : Nat → Bool := fun x => S x || T x
def int (S T : Nat → Bool) : Nat → Bool := fun x => S x && T x
theorem sz_succ (S : Nat → Bool) (n : Nat) : sz S (n + 1) = sz S n + (S n).toNat := by
  show sz S n + (if S n = true then 1 else 0) = _
  cases S n <;> rfl
theorem one_le1 {S : Nat → Bool} {n v : Nat} : one S (fun _ => 1) n v ≤ 1 := by
  unfold one
  split <;> simp
theorem sz_uni (S T : Nat → Bool) : ∀ n, sz (uni S T) n + sz (int S T) n = sz S n + sz T n
  | 0 => rfl
  | n + 1 => by
    have ih := sz_uni S T n
    have k : (uni S T n).toNat + (int S T n).toNat = (S n).toNat + (T n).toNat := by
      unfold uni int
      cases S n <;> cases T n <;> rfl
    simp only [sz_succ]
    omega
theorem sz_uni3 (S T U : Nat → Bool) : ∀ n, sz (uni (uni S T) U) n + sz (int S T) n + sz (int S U) n + sz (int T U) n = sz S n + sz T n + sz U n + sz (int (int S T) U) n
  | 0 => rfl
  | n + 1 => by
    have ih := sz_uni3 S T U n
    have k : (uni (uni S T) U n).toNat + (int S T n).toNat + (int S U n).toNat + (int T U n).toNat = (S n).toNat + (T n).toNat + (U n).toNat + (int (int S T) U n).toNat := by
      unfold uni int
      cases S n <;> cases T n <;> cases U n <;> rfl
    simp only [sz_succ]
    omega
theorem inn_cons {S : Nat → Bool} (b : Bar) (l : List Bar) : inn S (b :: l) = (if (S b.1 && S b.2) = true then 1 else 0) + inn S l := by
  unfold inn
  rw [List.filter_cons]
  split <;> simp <;> omega
theorem inn_sup (S T : Nat → Bool) : ∀ E, inn S E + inn T E ≤ inn (uni S T) E + inn (int S T) E
  | [] => Nat.le_refl _
  | b :: E => by
    have ih := inn_sup S T E
    rw [inn_cons, inn_cons, inn_cons, inn_cons]
    unfold uni int at *
    cases a1 : S b.1 <;> cases a2 : S b.2 <;> cases a3 : T b.1 <;> cases a4 : T b.2 <;> simp <;> omega
theorem inn_sup3 (S T U : Nat → Bool) : ∀ E, inn S E + inn T E + inn U E ≤ inn (uni (uni S T) U) E + inn (int S T) E + inn (int S U) E + inn (int T U) E
  | [] => Nat.le_refl _
  | b :: E => by
    have ih := inn_sup3 S T U E
    simp only [inn_cons]
    unfold uni int at *
    cases a1 : S b.1 <;> cases a2 : S b.2 <;> cases a3 : T b.1 <;> cases a4 : T b.2 <;> cases a5 : U b.1 <;> cases a6 : U b.2 <;> simp <;> omega
theorem sz_one {S : Nat → Bool} {n u : Nat} (hu : u < n) (su : S u = true) : 1 ≤ sz S n := by
  unfold sz
  rw [tot_but (S := S) (f := fun _ => 1) u, one_in hu su]
  omega
theorem sz_two {S : Nat → Bool} {n u v : Nat} (hu : u < n) (hv : v < n) (ne : u ≠ v) (su : S u = true) (sv : S v = true) : 2 ≤ sz S n := by
  unfold sz
  rw [tot_but2 (S := S) (f := fun _ => 1) ne, one_in hu su, one_in hv sv]
  omega
theorem Tt.join {n : Nat} {E : List Bar} (ok : Good n E) {S T : Nat → Bool} (hS : Tt n E S) (hT : Tt n E T) (h2 : 2 ≤ sz (int S T) n) : Tt n E (uni S T) := by
  have a := sz_uni S T n
  have b := inn_sup S T E
  have c := ok (int S T)
  unfold Tt at *
  omega
theorem int_in {S T : Nat → Bool} {x : Nat} (a : S x = true) (b : T x = true) : int S T x = true := by unfold int; rw [a, b]; rfl
theorem uni_l {S T : Nat → Bool} {x : Nat} (a : S x = true) : uni S T x = true := by unfold uni; rw [a]; rfl
theorem uni_r {S T : Nat → Bool} {x : Nat} (b : T x = true) : uni S T x = true := by unfold uni; rw [b, Bool.or_true]
theorem Tt.tri {n : Nat} {E : List Bar} (ok : Good n E) {S T U : Nat → Bool} {u v w : Nat} (hu : u < n) (hv : v < n) (hw : w < n) (uv : u ≠ v) (uw : u ≠ w) (vw : v ≠ w)
    (hS : Tt n E S) (hT : Tt n E T) (hU : Tt n E U) (s1 : S u = true) (s2 : S v = true) (t1 : T u = true) (t2 : T w = true) (u1 : U v = true) (u2 : U w = true) :
    ∃ Z, Tt n E Z ∧ Z u = true ∧ Z v = true ∧ Z w = true := by
  by_cases c1 : 2 ≤ sz (int S T) n
  · exact ⟨uni S T, hS.join ok hT c1, uni_l s1, uni_l s2, uni_r t2⟩
  by_cases c2 : 2 ≤ sz (int S U) n
  · exact ⟨uni S U, hS.join ok hU c2, uni_l s1, uni_l s2, uni_r u2⟩
  by_cases c3 : 2 ≤ sz (int T U) n
  · exact ⟨uni T U, hT.join ok hU c3, uni_l t1, uni_r u1, uni_l t2⟩
  refine ⟨uni (uni S T) U, ?_, uni_l (uni_l s1), uni_l (uni_l s2), uni_r u2⟩
  have a := sz_uni3 S T U n
  have b := inn_sup3 S T U E
  have o1 := ok (int S T)
  have o2 := ok (int S U)
  have o3 := ok (int T U)
  have p1 := sz_one hu (int_in s1 t1)
  have p2 := sz_one hv (int_in s2 u1)
  have p3 := sz_one hw (int_in t2 u2)
  have z : sz (int (int S T) U) n = 0 := by
    refine tot_zero fun x hx e => ?_
    exfalso
    have e1 : S x = true ∧ T x = true ∧ U x = true := by
      unfold int at e
      simpa [and_assoc] using e
    obtain ⟨e1, e2, e3⟩ := e1
    by_cases q : x = u
    · subst q
      exact c3 (sz_two hx hw uw (int_in t1 e3) (int_in t2 u2))
    · exact c1 (sz_two hx hu q (int_in e1 e2) (int_in s1 t1))
  unfold Tt at *
  omega
/-! ### fixed to one another -/
def Fx (n : Nat) (E : List Bar) (u v : Nat) : Prop := ¬ Good n (E ++ [(u, v)])
theorem fx_iff {n : Nat} {E : List Bar} (ok : Good n E) {u v : Nat} : Fx n E u v ↔ ∃ S, S u = true ∧ S v = true ∧ Tt n E S := by
  unfold Fx Tt
  constructor
  · intro h
    obtain ⟨S, hS⟩ := Classical.not_forall.mp h
    have g := ok S
    rw [inn_snoc] at hS
    by_cases e : S u = true ∧ S v = true
    · rw [if_pos e] at hS
      exact ⟨S, e.1, e.2, by omega⟩
    · rw [if_neg e] at hS
      exact absurd g hS
  · rintro ⟨S, su, sv, t⟩ G
    have g := G S
    rw [inn_snoc, if_pos ⟨su, sv⟩] at g
    omega
theorem Fx.symm {n : Nat} {E : List Bar} (ok : Good n E) {u v : Nat} (h : Fx n E u v) : Fx n E v u := by
  obtain ⟨S, a, b, c⟩ := (fx_iff ok).mp h
  exact (fx_iff ok).mpr ⟨S, b, a, c⟩
theorem Fx.of3 {n : Nat} {E : List Bar} (ok : Good n E) {u v w : Nat} (hu : u < n) (hv : v < n) (hw : w < n) (uv : u ≠ v) (uw : u ≠ w) (vw : v ≠ w) (h1 : Fx n E u v) (h2 : Fx n E u w) (h3 : Fx n E v w) : ∃ Z, Tt n E Z ∧ Z u = true ∧ Z v = true ∧ Z w = true := by
  obtain ⟨S, a1, a2, a3⟩ := (fx_iff ok).mp h1
  obtain ⟨T, b1, b2, b3⟩ := (fx_iff ok).mp h2
  obtain ⟨U, c1, c2, c3⟩ := (fx_iff ok).mp h3
  exact Tt.tri ok hu hv hw uv uw vw a3 b3 c3 a1 a2 b1 b2 c1 c2
/-- what is fixed to both of two that are fixed is fixed to one another -/
theorem Fx.both {n : Nat} {E : List Bar} (ok : Good n E) {u v w x : Nat} (hu : u < n) (hv : v < n) (hw : w < n) (hx : x < n) (uv : u ≠ v) (h1 : Fx n E u v)
    (w1 : w = u ∨ Fx n E u w) (w2 : w = v ∨ Fx n E v w) (x1 : x = u ∨ Fx n E u x) (x2 : x = v ∨ Fx n E v x) : ∃ Z, Tt n E Z ∧ Z w = true ∧ Z x = true := by
  have key : ∀ y, y < n → (y = u ∨ Fx n E u y) → (y = v ∨ Fx n E v y) → ∃ Z, Tt n E Z ∧ Z u = true ∧ Z v = true ∧ Z y = true := fun y hy y1 y2 => by
    by_cases e1 : y = u
    · obtain ⟨S, a, b, c⟩ := (fx_iff ok).mp h1
      exact ⟨S, c, a, b, e1 ▸ a⟩
    · by_cases e2 : y = v
      · obtain ⟨S, a, b, c⟩ := (fx_iff ok).mp h1
        exact ⟨S, c, a, b, e2 ▸ b⟩
      · exact Fx.of3 ok hu hv hy uv (Ne.symm e1) (Ne.symm e2) h1 (y1.resolve_left e1) (y2.resolve_left e2)
  obtain ⟨Z, a1, a2, a3, a4⟩ := key w hw w1 w2
  obtain ⟨Y, b1, b2, b3, b4⟩ := key x hx x1 x2
  exact ⟨uni Z Y, a1.join ok b1 (sz_two hu hv uv (int_in a2 b2) (int_in a3 b3)), uni_l a4, uni_r b4⟩
/-- a bar that is there fixes its joints -/
theorem fx_between {n : Nat} {E : List Bar} (hl : Below n E) {u v : Nat} (hu : u < n) (hv : v < n) (ne : u ≠ v) (h : between E u v = true) : Fx n E u v := by
  intro G
  have g := G (fun x => x == u || x == v)
  rw [inn_snoc, if_pos (by simp)] at g
  have s : sz (fun x => x == u || x == v) n ≤ 2 := by
    unfold sz
    rw [tot_but2 (S := fun x => x == u || x == v) (f := fun _ => 1) ne, tot_zero]
    · have h1 := one_le1 (S := fun x => x == u || x == v) (n := n) (v := u)
      have h2 := one_le1 (S := fun x => x == u || x == v) (n := n) (v := v)
      omega
    · intro x hx e
      have e : x = u ∨ x = v := by simpa using e
      rcases e with e | e
      · rw [e, fset_ne ne, fset_same]
      · rw [e, fset_same]
  have p : 1 ≤ inn (fun x => x == u || x == v) E := by
    unfold between at h
    obtain ⟨b, hb, e⟩ := List.any_eq_true.mp h
    unfold inn
    refine List.length_pos_of_mem (a := b) (List.mem_filter.mpr ⟨hb, ?_⟩)
    unfold same at e
    simp only [Bool.or_eq_true, Bool.and_eq_true, beq_iff_eq] at e
    rcases e with ⟨e1, e2⟩ | ⟨e1, e2⟩ <;> simp [e1, e2]
  omega
theorem fixed_iff {n : Nat} (hn : n ≤ 32) {E : List Bar} (hl : Below n E) {u v : Nat} (hu : u < n) (hv : v < n) (ne : u ≠ v) : Sx35.fixed n E u v = true ↔ Fx n E u v := by
  unfold Sx35.fixed
  have h := ordered_iff hn (hl.snoc (b := (u, v)) hu hv)
  rw [Bool.or_eq_true, Bool.not_eq_true', ← Bool.not_eq_true, h]
  constructor
  · rintro (q | q)
    · exact fx_between hl hu hv ne q
    · exact q
  · exact .inr
/-! ### masks of joints -/
/-- u's own mask -/
def MkM (n : Nat) (E : List Bar) (mk : Nat → Nat) : Prop := ∀ u, u < n → mk u < 2 ^ n ∧ ∀ w, w < n → ((mk u).testBit w = true ↔ (w = u ∨ Fx n E u w))
theorem eq_of_bits {n a b : Nat} (ha : a < 2 ^ n) (hb : b < 2 ^ n) (h : ∀ i, i < n → (a.testBit i = true ↔ b.testBit i = true)) : a = b := by
  refine Nat.eq_of_testBit_eq fun i => ?_
  by_cases hi : i < n
  · exact Bool.eq_iff_iff.mpr (h i hi)
  · have p : 2 ^ n ≤ 2 ^ i := Nat.pow_le_pow_right (by decide) (by omega)
    rw [Nat.testBit_lt_two_pow (Nat.lt_of_lt_of_le ha p), Nat.testBit_lt_two_pow (Nat.lt_of_lt_of_le hb p)]
theorem getD_map_range {α : Type} {f : Nat → α} {n u : Nat} {d : α} (h : u < n) : ((List.range n).map f).getD u d = f u := by
  rw [List.getD_eq_getElem?_getD]
  simp [h]
theorem two_of_length {n m : Nat} (h : 2 ≤ ((List.range n).filter fun v => m.testBit v).length) : ∃ u v, u < v ∧ v < n ∧ m.testBit u = true ∧ m.testBit v = true := by
  have hp : ((List.range n).filter fun v => m.testBit v).Pairwise (· < ·) := List.Pairwise.filter _ List.pairwise_lt_range
  cases e : (List.range n).filter fun v => m.testBit v with
  | nil => rw [e] at h; simp at h
  | cons a r =>
    cases r with
    | nil => rw [e] at h; simp at h
    | cons b r =>
      rw [e] at hp
      have hab := (List.pairwise_cons.mp hp).1 b (List.mem_cons_self ..)
      have ma : a ∈ (List.range n).filter fun v => m.testBit v := by rw [e]; exact List.mem_cons_self ..
      have mb : b ∈ (List.range n).filter fun v => m.testBit v := by rw [e]; exact List.mem_cons_of_mem _ (List.mem_cons_self ..)
      obtain ⟨a1, a2⟩ := List.mem_filter.mp ma
      obtain ⟨b1, b2⟩ := List.mem_filter.mp mb
      exact ⟨a, b, hab, List.mem_range.mp b1, a2, b2⟩
theorem length_of_two {n m u v : Nat} (hu : u < n) (hv : v < n) (ne : u ≠ v) (a : m.testBit u = true) (b : m.testBit v = true) : 2 ≤ ((List.range n).filter fun v => m.testBit v).length := by
  rw [range_sz]
  exact sz_two hu hv ne a b
theorem parts_mem {n : Nat} (hn : n ≤ 32) {E : List Bar} (hl : Below n E) (ok : Good n E) {mk : Nat → Nat} (hk : MkM n E mk) (m : Nat) :
    m ∈ Sx35.parts n E ↔ ∃ u v, u < v ∧ v < n ∧ Fx n E u v ∧ m = mk u &&& mk v := by
  unfold Sx35.parts
  dsimp only
  rw [List.mem_filter, List.mem_range]
  have fx : ∀ u v, u < n → v < n → ((((List.range n).map fun u => (List.range n).map fun v => u != v && Sx35.fixed n E u v).getD u []).getD v false = true ↔ u ≠ v ∧ Fx n E u v) := fun u v hu hv => by
    rw [getD_map_range hu, getD_map_range hv, Bool.and_eq_true]
    constructor
    · rintro ⟨a, b⟩
      have a : u ≠ v := by simpa using a
      exact ⟨a, (fixed_iff hn hl hu hv a).mp b⟩
    · rintro ⟨a, b⟩
      exact ⟨by simpa using a, (fixed_iff hn hl hu hv a).mpr b⟩
  generalize hg : (fun u v => ((((List.range n).map fun u => (List.range n).map fun v => u != v && Sx35.fixed n E u v).getD u []).getD v false)) = g at *
  have fx : ∀ u v, u < n → v < n → (g u v = true ↔ u ≠ v ∧ Fx n E u v) := fun u v hu hv => by
    rw [← hg]
    exact fx u v hu hv
  have eg : ∀ u v, ((((List.range n).map fun u => (List.range n).map fun v => u != v && Sx35.fixed n E u v).getD u []).getD v false) = g u v := fun u v => by rw [← hg]
  simp only [eg]
  have hml : ∀ v, v ∈ (List.range n).filter (fun v => m.testBit v) ↔ v < n ∧ m.testBit v = true := fun v => by rw [List.mem_filter, List.mem_range]
  rw [Bool.and_eq_true, Bool.and_eq_true, decide_eq_true_eq, List.all_eq_true, List.all_eq_true]
  constructor
  · rintro ⟨h0, h1, h2, h3⟩
    obtain ⟨u, v, huv, hv, mu, mv⟩ := two_of_length h1
    have hu : u < n := by omega
    have cl : ∀ x y, x < n → y < n → m.testBit x = true → m.testBit y = true → x = y ∨ Fx n E x y := fun x y hx hy mx my => by
      have q := List.all_eq_true.mp (h2 x ((hml x).mpr ⟨hx, mx⟩)) y ((hml y).mpr ⟨hy, my⟩)
      rw [Bool.or_eq_true, beq_iff_eq, fx x y hx hy] at q
      exact q.imp id fun z => z.2
    have fuv : Fx n E u v := (cl u v hu hv mu mv).resolve_left (by omega)
    refine ⟨u, v, huv, hv, fuv, ?_⟩
    refine eq_of_bits h0 (Nat.lt_of_le_of_lt Nat.and_le_left (hk u hu).1) fun i hi => ?_
    rw [Nat.testBit_and, Bool.and_eq_true, (hk u hu).2 i hi, (hk v hv).2 i hi]
    constructor
    · intro mi
      exact ⟨(cl u i hu hi mu mi).imp Eq.symm id, (cl v i hv hi mv mi).imp Eq.symm id⟩
    · rintro ⟨i1, i2⟩
      have q := h3 i (List.mem_range.mpr hi)
      rw [Bool.or_eq_true] at q
      rcases q with q | z
      · exact q
      obtain ⟨y, hy, e⟩ := List.any_eq_true.mp z
      obtain ⟨hyn, my⟩ := (hml y).mp hy
      have e : ¬ g y i = true := by simpa using e
      by_cases ey : y = i
      · exact ey ▸ my
      · refine absurd ((fx y i hyn hi).mpr ⟨ey, ?_⟩) e
        obtain ⟨Z, z1, z2, z3⟩ := Fx.both ok hu hv hyn hi (by omega) fuv ((cl u y hu hyn mu my).imp Eq.symm id) ((cl v y hv hyn mv my).imp Eq.symm id) i1 i2
        exact (fx_iff ok).mpr ⟨Z, z2, z3, z1⟩
  · rintro ⟨u, v, huv, hv, fuv, rfl⟩
    have hu : u < n := by omega
    have bits : ∀ i, i < n → ((mk u &&& mk v).testBit i = true ↔ (i = u ∨ Fx n E u i) ∧ (i = v ∨ Fx n E v i)) := fun i hi => by
      rw [Nat.testBit_and, Bool.and_eq_true, (hk u hu).2 i hi, (hk v hv).2 i hi]
    have bu := (bits u hu).mpr ⟨.inl rfl, .inr (fuv.symm ok)⟩
    have bv := (bits v hv).mpr ⟨.inr fuv, .inl rfl⟩
    refine ⟨Nat.lt_of_le_of_lt Nat.and_le_left (hk u hu).1, length_of_two hu hv (by omega) bu bv, fun x hx => List.all_eq_true.mpr fun y hy => ?_, fun w hw => ?_⟩
    · obtain ⟨hxn, mx⟩ := (hml x).mp hx
      obtain ⟨hyn, my⟩ := (hml y).mp hy
      rw [Bool.or_eq_true, beq_iff_eq, fx x y hxn hyn]
      by_cases e : x = y
      · exact .inl e
      · obtain ⟨x1, x2⟩ := (bits x hxn).mp mx
        obtain ⟨y1, y2⟩ := (bits y hyn).mp my
        obtain ⟨Z, z1, z2, z3⟩ := Fx.both ok hu hv hxn hyn (by omega) fuv x1 x2 y1 y2
        exact .inr ⟨e, (fx_iff ok).mpr ⟨Z, z2, z3, z1⟩⟩
    · have hw := List.mem_range.mp hw
      rw [Bool.or_eq_true]
      by_cases mw : (mk u &&& mk v).testBit w = true
      · exact .inl mw
      · refine .inr (List.any_eq_true.mpr ?_)
        have q : ¬ ((w = u ∨ Fx n E u w) ∧ (w = v ∨ Fx n E v w)) := fun z => mw ((bits w hw).mpr z)
        by_cases q1 : w = u ∨ Fx n E u w
        · have q2 : ¬ (w = v ∨ Fx n E v w) := fun z => q ⟨q1, z⟩
          refine ⟨v, (hml v).mpr ⟨hv, bv⟩, ?_⟩
          rw [Bool.not_eq_true', ← Bool.not_eq_true, fx v w hv hw]
          exact fun z => q2 (.inr z.2)
        · refine ⟨u, (hml u).mpr ⟨hu, bu⟩, ?_⟩
          rw [Bool.not_eq_true', ← Bool.not_eq_true, fx u w hu hw]
          exact fun z => q1 (.inr z.2)
/-! ### two rising lists with the same members -/
theorem rising_eq {l m : List Nat} (hl : l.Pairwise (· < ·)) (hm : m.Pairwise (· < ·)) (h : ∀ x, x ∈ l ↔ x ∈ m) : l = m := by
  induction l generalizing m with
  | nil =>
    cases m with
    | nil => rfl
    | cons a r => exact absurd ((h a).mpr (List.mem_cons_self ..)) (by simp)
  | cons a r ih =>
    cases m with
    | nil => exact absurd ((h a).mp (List.mem_cons_self ..)) (by simp)
    | cons b s =>
      obtain ⟨l1, l2⟩ := List.pairwise_cons.mp hl
      obtain ⟨m1, m2⟩ := List.pairwise_cons.mp hm
      have e : a = b := by
        have ha := (h a).mp (List.mem_cons_self ..)
        have hb := (h b).mpr (List.mem_cons_self ..)
        rcases List.mem_cons.mp ha with q | q
        · exact q
        · rcases List.mem_cons.mp hb with p | p
          · exact p.symm
          · have := l1 b p
            have := m1 a q
            omega
      subst e
      congr 1
      refine ih l2 m2 fun x => ?_
      constructor
      · intro hx
        rcases List.mem_cons.mp ((h x).mp (List.mem_cons_of_mem _ hx)) with q | q
        · have := l1 x hx
          omega
        · exact q
      · intro hx
        rcases List.mem_cons.mp ((h x).mpr (List.mem_cons_of_mem _ hx)) with q | q
        · have := m1 x hx
          omega
        · exact q
theorem parts_rising (n : Nat) (E : List Bar) : (Sx35.parts n E).Pairwise (· < ·) := by
  unfold Sx35.parts
  exact List.Pairwise.filter _ List.pairwise_lt_range
end Pb

set_option linter.all false
namespace Pb
open Sa84
/-! ### some bars taken by their numbers -/
theorem range_rise (Q : Nat → Bool) : ∀ m, Rise m ((List.range m).filter Q)
  | 0 => .nil _
  | m + 1 => by
    rw [List.range_succ, List.filter_append]
    by_cases e : Q m = true
    · rw [List.filter_cons, if_pos e, List.filter_nil]
      exact .snoc (range_rise Q m) (by omega)
    · rw [List.filter_cons, if_neg e, List.filter_nil, List.append_nil]
      exact (range_rise Q m).mono (by omega)
theorem keptIx_range (n : Nat) (b : Nat → Bar) : ∀ m, (keptIx n b m).2 = (List.range m).filter fun i => Sx35.ordered n ((keptIx n b i).1 ++ [b i])
  | 0 => rfl
  | m + 1 => by
    rw [List.range_succ, List.filter_append, ← keptIx_range n b m]
    by_cases e : Sx35.ordered n ((keptIx n b m).1 ++ [b m]) = true
    · rw [keptIx_yes e, List.filter_cons, if_pos e, List.filter_nil]
    · rw [keptIx_no e, List.filter_cons, if_neg e, List.filter_nil, List.append_nil]
/-- the mask of those that Q takes -/
theorem mask_words {n : Int} {m : Nat} {b : Nat → Bar} (g : GoodF n m b) (hm : m ≤ 96) (Q : Nat → Bool) : three (maskOf (bars b m) (((List.range m).filter Q).map b)) = words ((List.range m).filter Q) := by
  rw [words_three (range_rise Q m) hm]
  congr 1
  refine maskOf_eq fun i hi => ?_
  rw [Bool.eq_iff_iff]
  constructor
  · intro z
    obtain ⟨j, hj, e⟩ := List.mem_map.mp (List.contains_iff_mem.mp z)
    obtain ⟨h1, h2⟩ := List.mem_filter.mp hj
    have := g.inj (List.mem_range.mp h1) hi e
    subst this
    exact h2
  · intro z
    exact List.contains_iff_mem.mpr (List.mem_map.mpr ⟨i, List.mem_filter.mpr ⟨List.mem_range.mpr hi, z⟩, rfl⟩)
theorem keptIx_congr {n : Nat} {b c : Nat → Bar} : ∀ {m : Nat}, (∀ i, i < m → b i = c i) → keptIx n b m = keptIx n c m
  | 0, _ => rfl
  | m + 1, h => by
    have ih := keptIx_congr (n := n) (m := m) fun i hi => h i (by omega)
    unfold keptIx
    rw [ih, h m (by omega)]
/-- all but the i-th -/
def sk (b : Nat → Bar) (i : Nat) : Nat → Bar := fun j => if j < i then b j else b (j + 1)
theorem filter_ne_range {b : Nat → Bar} {m i : Nat} (inj : ∀ j, j < m → b j = b i → j = i) : (bars b m).filter (fun d => d != b i) = ((List.range m).filter fun j => j != i).map b := by
  unfold bars
  rw [List.filter_map]
  congr 1
  apply List.filter_congr
  intro j hj
  rw [Bool.eq_iff_iff]
  show (b j != b i) = true ↔ (j != i) = true
  rw [bne_iff_ne, bne_iff_ne]
  exact ⟨fun h e => h (e ▸ rfl), fun h e => h (inj j (List.mem_range.mp hj) e)⟩
theorem range_ne_lt {i : Nat} : ∀ {m : Nat}, m ≤ i → (List.range m).filter (fun j => j != i) = List.range m := fun {m} h => by
  rw [List.filter_eq_self]
  intro j hj
  rw [bne_iff_ne]
  have := List.mem_range.mp hj
  omega
theorem sk_bars (b : Nat → Bar) {i : Nat} : ∀ {m : Nat}, i ≤ m → ((List.range (m + 1)).filter fun j => j != i).map b = bars (sk b i) m
  | 0, h => by
    have : i = 0 := by omega
    subst this
    rfl
  | m + 1, h => by
    rw [List.range_succ, List.filter_append, List.map_append]
    by_cases e : i = m + 1
    · subst e
      rw [range_ne_lt (Nat.le_refl _)]
      rw [List.filter_cons, if_neg (by simp), List.filter_nil, List.map_nil, List.append_nil]
      unfold bars
      apply List.map_congr_left
      intro j hj
      have := List.mem_range.mp hj
      unfold sk
      rw [if_pos this]
    · rw [sk_bars b (m := m) (by omega), bars_succ, List.filter_cons, if_pos (by rw [bne_iff_ne]; omega), List.filter_nil]
      congr 1
      show [b (m + 1)] = [sk b i m]
      unfold sk
      rw [if_neg (by omega)]
theorem without_eq {n : Int} {m i : Nat} {b : Nat → Bar} (g : GoodF n m b) (hi : i < m) : (bars b m).filter (fun d => d != b i) = bars (sk b i) (m - 1) := by
  rw [filter_ne_range fun j hj e => g.inj hj hi e]
  obtain ⟨m', rfl⟩ : ∃ m', m = m' + 1 := ⟨m - 1, by omega⟩
  exact sk_bars b (by omega)
/-- the numbers of which the i-th bar's two are left out -/
theorem cut_len {bs : List Nat} {m i : Nat} (hl : bs.length = 2 * m) (hi : i < m) : (bs.take (2 * i) ++ bs.drop (2 * i + 2)).length = 2 * (m - 1) := by
  rw [List.length_append, List.length_take, List.length_drop]
  omega
theorem cut_get {bs : List Nat} {m i : Nat} (hl : bs.length = 2 * m) (hi : i < m) (k : Nat) : (bs.take (2 * i) ++ bs.drop (2 * i + 2)).getD k 0 = if k < 2 * i then bs.getD k 0 else bs.getD (k + 2) 0 := by
  rw [List.getD_eq_getElem?_getD, List.getD_eq_getElem?_getD, List.getD_eq_getElem?_getD]
  have lt : (bs.take (2 * i)).length = 2 * i := by rw [List.length_take]; omega
  by_cases h : k < 2 * i
  · rw [if_pos h, List.getElem?_append_left (by rw [lt]; exact h), List.getElem?_take_of_lt h]
  · rw [if_neg h, List.getElem?_append_right (by rw [lt]; omega), lt, List.getElem?_drop]
    congr 2
    omega
theorem cut_br {bs : List Nat} {m i : Nat} (hl : bs.length = 2 * m) (hi : i < m) (j : Nat) : br (bs.take (2 * i) ++ bs.drop (2 * i + 2)) j = sk (br bs) i j := by
  unfold sk
  by_cases h : j < i
  · rw [if_pos h]
    unfold br
    rw [cut_get hl hi, cut_get hl hi, if_pos (by omega), if_pos (by omega)]
  · rw [if_neg h]
    unfold br
    rw [cut_get hl hi, cut_get hl hi, if_neg (by omega), if_neg (by omega)]
    congr 2
/-! ### ri_spare -/
def spareQ (n : Nat) (b : Nat → Bar) (m i : Nat) : Bool := (keptIx n (sk b i) (m - 1)).2.length == (keptIx n b m).2.length
theorem spare_eq {n : Int} {m : Nat} {b : Nat → Bar} (g : GoodF n m b) :
    (bars b m).filter (fun (c : Bar) => (Sx35.kept n.toNat ((bars b m).filter fun (d : Bar) => d != c)).length == (Sx35.kept n.toNat (bars b m)).length) = ((List.range m).filter (spareQ n.toNat b m)).map b := by
  conv => lhs; rw [show bars b m = (List.range m).map b from rfl]
  rw [List.filter_map]
  congr 1
  apply List.filter_congr
  intro i hi
  show ((Sx35.kept n.toNat ((bars b m).filter fun (d : Bar) => d != b i)).length == (Sx35.kept n.toNat (bars b m)).length) = _
  rw [without_eq g (List.mem_range.mp hi), kept_eq, kept_eq, keptIx_len1, keptIx_len1]
  rfl
/-! ### ri_holds -/
theorem inn_sub {S : Nat → Bool} {l l' : List Bar} (h : l.Sublist l') : inn S l ≤ inn S l' := (h.filter _).length_le
theorem Good.sub {n : Nat} {l l' : List Bar} (h : l.Sublist l') (g : Good n l') : Good n l := fun S => by
  have a := g S
  have b := inn_sub (S := S) h
  omega
theorem between_map {b : Nat → Bar} {ks : List Nat} {u v : Nat} : between (ks.map b) u v = ks.any fun i => same (b i) (u, v) := by
  unfold between
  rw [List.any_map]
  rfl
/-- kept bars but one -/
theorem kept_but {n : Int} {m k i : Nat} {b : Nat → Bar} (g : GoodF n m b) (hi : i < m) : (keptIx k b m).1.filter (fun d => d != b i) = ((keptIx k b m).2.filter fun j => j != i).map b := by
  rw [keptIx_map, List.filter_map]
  congr 1
  apply List.filter_congr
  intro j hj
  rw [Bool.eq_iff_iff]
  show (b j != b i) = true ↔ (j != i) = true
  rw [bne_iff_ne, bne_iff_ne]
  exact ⟨fun h e => h (e ▸ rfl), fun h e => h (g.inj (keptIx_lt hj) hi e)⟩
def needQ (n : Nat) (b : Nat → Bar) (m u v i : Nat) : Bool := Sx35.ordered n (((keptIx n b m).2.filter fun j => j != i).map b ++ [(u, v)])
theorem need_eq {n : Int} {m u v : Nat} {b : Nat → Bar} (g : GoodF n m b) :
    (keptIx n.toNat b m).1.filter (fun (c : Bar) => Sx35.ordered n.toNat (((keptIx n.toNat b m).1.filter fun (d : Bar) => d != c) ++ [(u, v)])) = ((keptIx n.toNat b m).2.filter (needQ n.toNat b m u v)).map b := by
  conv => lhs; rw [keptIx_map n.toNat b m]
  rw [List.filter_map]
  congr 1
  apply List.filter_congr
  intro i hi
  show Sx35.ordered n.toNat ((((keptIx n.toNat b m).2.map b).filter fun (d : Bar) => d != b i) ++ [(u, v)]) = _
  rw [← keptIx_map, kept_but g (keptIx_lt hi)]
  rfl
theorem need_range (n : Nat) (b : Nat → Bar) (m : Nat) (Q : Nat → Bool) : (keptIx n b m).2.filter Q = (List.range m).filter fun i => Sx35.ordered n ((keptIx n b i).1 ++ [b i]) && Q i := by
  rw [keptIx_range n b m, List.filter_filter]
  apply List.filter_congr
  intro i _
  exact Bool.and_comm _ _
theorem need_words {n : Int} {m k : Nat} {b : Nat → Bar} (g : GoodF n m b) (hm : m ≤ 96) (Q : Nat → Bool) : three (maskOf (bars b m) (((keptIx k b m).2.filter Q).map b)) = words ((keptIx k b m).2.filter Q) := by
  rw [need_range]
  exact mask_words g hm _
end Pb

set_option linter.all false
namespace Pb
open Sa84
/-! ### taken apart -/
theorem beqF {a b : Nat} (h : ¬ a = b) : (a == b) = false := by simpa using h
theorem bneT {a b : Nat} (h : ¬ a = b) : (a != b) = true := by simpa using h
def deg (l : List Bar) (v : Nat) : Nat := (barsAt l v).length
def At (v : Nat) (b : Bar) : Bool := b.1 == v || b.2 == v
theorem deg_cons (b : Bar) (l : List Bar) (v : Nat) : deg (b :: l) v = deg l v + (if At v b = true then 1 else 0) := by
  unfold deg barsAt
  rw [List.filter_cons]
  show (if At v b = true then _ else _ : List Bar).length = _
  split <;> simp
/-- joints S and bars l that are left -/
structure Fr (n : Nat) (S : Nat → Bool) (l : List Bar) : Prop where
  good : Good n l
  ins : ∀ b, b ∈ l → b.1 < n ∧ b.2 < n ∧ S b.1 = true ∧ S b.2 = true ∧ b.1 ≠ b.2
  cnt : l.length + 3 = 2 * sz S n
theorem ind2 {S : Nat → Bool} {n p q : Nat} (hp : p < n) (hq : q < n) (sp : S p = true) (sq : S q = true) (ne : p ≠ q) : tot S (fun x => if (p == x || q == x) = true then 1 else 0) n = 2 := by
  rw [tot_but2 ne, one_in hp sp, one_in hq sq, tot_zero]
  · simp
  · intro x hx _
    by_cases e1 : x = q
    · rw [e1, fset_same]
    · rw [fset_ne e1]
      by_cases e2 : x = p
      · rw [e2, fset_same]
      · rw [fset_ne e2]
        have h1 : ¬ p = x := fun z => e2 z.symm
        have h2 : ¬ q = x := fun z => e1 z.symm
        simp [h1, h2]
theorem deg_sum {n : Nat} {S : Nat → Bool} : ∀ {l : List Bar}, (∀ b, b ∈ l → b.1 < n ∧ b.2 < n ∧ S b.1 = true ∧ S b.2 = true ∧ b.1 ≠ b.2) → tot S (deg l) n = 2 * l.length
  | [], _ => tot_zero fun x _ _ => rfl
  | b :: l, h => by
    have ih := deg_sum (l := l) fun c hc => h c (List.mem_cons_of_mem _ hc)
    obtain ⟨h1, h2, h3, h4, h5⟩ := h b (List.mem_cons_self ..)
    have e : tot S (deg (b :: l)) n = tot S (fun x => deg l x + (if (b.1 == x || b.2 == x) = true then 1 else 0)) n := tot_congr fun x _ _ => deg_cons b l x
    rw [e, tot_add, ind2 h1 h2 h3 h4 h5]
    have : tot S (fun x => deg l x) n = tot S (deg l) n := rfl
    rw [List.length_cons]
    omega
def minus (S : Nat → Bool) (v : Nat) : Nat → Bool := fun x => S x && x != v
theorem sz_minus {S : Nat → Bool} {n v : Nat} (hv : v < n) (sv : S v = true) : sz (minus S v) n + 1 = sz S n := by
  have a : sz S n = tot S (fset (fun _ => 1) v 0) n + 1 := by
    show tot S (fun _ => 1) n = _
    rw [tot_but v, one_in hv sv]
  rw [a]
  congr 1
  have key : ∀ m, tot (minus S v) (fun _ => 1) m = tot S (fset (fun _ => 1) v 0) m := fun m => by
    induction m with
    | zero => rfl
    | succ m ih =>
      unfold tot
      rw [ih]
      congr 1
      unfold minus
      by_cases e : m = v
      · subst e
        rw [fset_same]
        simp
      · rw [fset_ne e]
        simp [e]
  exact key n
theorem len_split (l : List Bar) (v : Nat) : (without l v).length + deg l v = l.length := by
  unfold without deg barsAt
  induction l with
  | nil => rfl
  | cons b l ih =>
    rw [List.filter_cons, List.filter_cons, List.length_cons, ← ih]
    cases h1 : (b.1 == v) <;> cases h2 : (b.2 == v) <;> simp [bne, h1, h2] <;> omega
theorem inn_without {S : Nat → Bool} {l : List Bar} {v : Nat} (hs : ∀ b, b ∈ l → S b.1 = true ∧ S b.2 = true) : inn (minus S v) l = (without l v).length := by
  unfold inn without
  congr 1
  apply List.filter_congr
  intro b hb
  unfold minus
  rw [(hs b hb).1, (hs b hb).2, Bool.true_and, Bool.true_and]
theorem Fr.deg_two {n : Nat} {S : Nat → Bool} {l : List Bar} (F : Fr n S l) (h3 : 3 ≤ sz S n) {v : Nat} (hv : v < n) (sv : S v = true) : 2 ≤ deg l v := by
  have g := F.good (minus S v)
  rw [inn_without fun b hb => ⟨(F.ins b hb).2.2.1, (F.ins b hb).2.2.2.1⟩] at g
  have a := len_split l v
  have b := sz_minus hv sv
  have c := F.cnt
  omega
theorem Fr.ex {n : Nat} {S : Nat → Bool} {l : List Bar} (F : Fr n S l) (h3 : 3 ≤ sz S n) : ∃ v, v < n ∧ S v = true ∧ (deg l v = 2 ∨ deg l v = 3) := by
  refine Classical.byContradiction fun no => ?_
  have h4 : ∀ v, v < n → S v = true → 4 ≤ deg l v := fun v hv sv => by
    have := F.deg_two h3 hv sv
    refine Classical.byContradiction fun z => no ⟨v, hv, sv, by omega⟩
  have a : tot S (fun _ => 4) n ≤ tot S (deg l) n := tot_le fun x hx sx => h4 x hx sx
  have b : tot S (fun _ => 4) n = 4 * sz S n := by
    have : tot S (fun _ => 2 + 2) n = tot S (fun _ => 2) n + tot S (fun _ => 2) n := tot_add
    rw [tot_two] at this
    have e : tot S (fun _ => 2 + 2) n = tot S (fun _ => 4) n := rfl
    omega
  rw [deg_sum F.ins] at a
  have := F.cnt
  omega
/-! ### no two bars between the same joints -/
theorem pair_sz {n p q : Nat} (ne : p ≠ q) : sz (fun x => x == p || x == q) n ≤ 2 := by
  unfold sz
  rw [tot_but2 (S := fun x => x == p || x == q) (f := fun _ => 1) ne, tot_zero]
  · have h1 := one_le1 (S := fun x => x == p || x == q) (n := n) (v := p)
    have h2 := one_le1 (S := fun x => x == p || x == q) (n := n) (v := q)
    omega
  · intro x hx e
    have e : x = p ∨ x = q := by simpa using e
    rcases e with e | e
    · rw [e, fset_ne ne, fset_same]
    · rw [e, fset_same]
theorem good_pw {n : Nat} : ∀ {l : List Bar}, Good n l → (∀ b, b ∈ l → b.1 ≠ b.2) → l.Pairwise fun a b => same a b = false
  | [], _, _ => .nil
  | b :: l, g, h => by
    refine .cons (fun c hc => ?_) (good_pw (Good.sub (List.sublist_cons_self ..) g) fun c hc => h c (List.mem_cons_of_mem _ hc))
    cases e : same b c with
    | false => rfl
    | true =>
      exfalso
      have k := g (fun x => x == b.1 || x == b.2)
      have s := pair_sz (n := n) (h b (List.mem_cons_self ..))
      rw [inn_cons, if_pos (by simp)] at k
      have p : 1 ≤ inn (fun x => x == b.1 || x == b.2) l := by
        unfold inn
        refine List.length_pos_of_mem (a := c) (List.mem_filter.mpr ⟨hc, ?_⟩)
        unfold same at e
        simp only [Bool.or_eq_true, Bool.and_eq_true, beq_iff_eq] at e
        rcases e with ⟨e1, e2⟩ | ⟨e1, e2⟩ <;> simp [e1, e2]
      omega
def other (v : Nat) (b : Bar) : Nat := if b.1 = v then b.2 else b.1
theorem other_inj {v : Nat} {a b : Bar} (ha : At v a = true) (hb : At v b = true) (e : other v a = other v b) : same a b = true := by
  unfold At at ha hb
  unfold other at e
  unfold same
  simp only [Bool.or_eq_true, Bool.and_eq_true, beq_iff_eq] at *
  split at e <;> split at e <;> omega
theorem beside_mem {l : List Bar} (hl : Below 32 l) (hn : ∀ b, b ∈ l → b.1 ≠ b.2) {v u : Nat} : u ∈ beside l v ↔ u ∈ (barsAt l v).map (other v) := by
  unfold beside
  rw [List.mem_filter, List.mem_range, Bool.and_eq_true, List.mem_map]
  unfold between
  rw [List.any_eq_true]
  constructor
  · rintro ⟨h1, h2, b, hb, e⟩
    unfold same at e
    simp only [Bool.or_eq_true, Bool.and_eq_true, beq_iff_eq] at e
    have h2 : u ≠ v := by simpa using h2
    refine ⟨b, List.mem_filter.mpr ⟨hb, ?_⟩, ?_⟩
    · rcases e with ⟨_, e⟩ | ⟨e, _⟩ <;> simp [e]
    · unfold other
      split <;> omega
  · rintro ⟨b, hb, rfl⟩
    obtain ⟨hb, e⟩ := List.mem_filter.mp hb
    have e : b.1 = v ∨ b.2 = v := by simpa using e
    have h1 := hl b hb
    have h2 := hn b hb
    unfold other
    refine ⟨by split <;> omega, ?_, b, hb, ?_⟩
    · split
      · simp; omega
      · simp; omega
    · unfold same
      simp only [Bool.or_eq_true, Bool.and_eq_true, beq_iff_eq]
      split
      · exact .inr ⟨by assumption, rfl⟩
      · exact .inl ⟨rfl, by omega⟩
theorem others_nd {n : Nat} {l : List Bar} (g : Good n l) (hn : ∀ b, b ∈ l → b.1 ≠ b.2) (v : Nat) : ((barsAt l v).map (other v)).Nodup := by
  unfold List.Nodup
  rw [List.pairwise_map]
  have p := (good_pw g hn).filter (fun b => b.1 == v || b.2 == v)
  refine List.Pairwise.imp_of_mem (fun {a b} ha hb h e => ?_) p
  have := other_inj (v := v) (List.mem_filter.mp ha).2 (List.mem_filter.mp hb).2 e
  rw [h] at this
  cases this
theorem beside_rise (l : List Bar) (v : Nat) : (beside l v).Pairwise (· < ·) := List.Pairwise.filter _ List.pairwise_lt_range
theorem beside_perm {n : Nat} (hn : n ≤ 32) {S : Nat → Bool} {l : List Bar} (F : Fr n S l) (v : Nat) : (beside l v).Perm ((barsAt l v).map (other v)) := by
  have ne : ∀ b, b ∈ l → b.1 ≠ b.2 := fun b hb => (F.ins b hb).2.2.2.2
  refine (List.perm_ext_iff_of_nodup ?_ (others_nd F.good ne v)).mpr fun u => beside_mem (fun b hb => ?_) ne
  · exact (beside_rise l v).imp fun h => by omega
  · have := F.ins b hb
    omega
theorem beside_len {n : Nat} (hn : n ≤ 32) {S : Nat → Bool} {l : List Bar} (F : Fr n S l) (v : Nat) : (beside l v).length = deg l v := by
  rw [(beside_perm hn F v).length_eq, List.length_map]
  rfl
/-! ### a step -/
theorem without_sub (l : List Bar) (v : Nat) : (without l v).Sublist l := List.filter_sublist
theorem minus_in {S : Nat → Bool} {v x : Nat} (h : S x = true) (ne : x ≠ v) : minus S v x = true := by
  unfold minus
  simp [h, ne]
theorem mem_without {l : List Bar} {v : Nat} {b : Bar} : b ∈ without l v ↔ b ∈ l ∧ b.1 ≠ v ∧ b.2 ≠ v := by
  unfold without
  rw [List.mem_filter]
  simp
theorem Fr.two {n : Nat} {S : Nat → Bool} {l : List Bar} (F : Fr n S l) {v : Nat} (hv : v < n) (sv : S v = true) (h2 : deg l v = 2) : Fr n (minus S v) (without l v) := by
  refine ⟨Good.sub (without_sub l v) F.good, fun b hb => ?_, ?_⟩
  · obtain ⟨h, n1, n2⟩ := mem_without.mp hb
    obtain ⟨a1, a2, a3, a4, a5⟩ := F.ins b h
    exact ⟨a1, a2, minus_in a3 n1, minus_in a4 n2, a5⟩
  · have a := len_split l v
    have b := sz_minus hv sv
    have c := F.cnt
    omega
theorem Fr.three {n : Nat} {S : Nat → Bool} {l : List Bar} (F : Fr n S l) {v : Nat} (hv : v < n) (sv : S v = true) (h3 : deg l v = 3) {p : Bar} (p1 : p.1 < n) (p2 : p.2 < n) (s1 : S p.1 = true) (s2 : S p.2 = true) (n1 : p.1 ≠ v) (n2 : p.2 ≠ v) (ne : p.1 ≠ p.2)
    (g : Good n (without l v ++ [p])) : Fr n (minus S v) (without l v ++ [p]) := by
  refine ⟨g, fun b hb => ?_, ?_⟩
  · rcases List.mem_append.mp hb with hb | hb
    · obtain ⟨h, m1, m2⟩ := mem_without.mp hb
      obtain ⟨a1, a2, a3, a4, a5⟩ := F.ins b h
      exact ⟨a1, a2, minus_in a3 m1, minus_in a4 m2, a5⟩
    · rw [List.mem_singleton.mp hb]
      exact ⟨p1, p2, minus_in s1 n1, minus_in s2 n2, ne⟩
  · have a := len_split l v
    have b := sz_minus hv sv
    have c := F.cnt
    rw [List.length_append, List.length_singleton]
    omega
/-- a joint of three bars: its bars among a set with it -/
theorem inn_plus {n : Nat} {l : List Bar} {v : Nat} {Z : Nat → Bool} (hz0 : ∀ u, u ∈ (barsAt l v).map (other v) → Z u = true) (zv : Z v = false) (ne : ∀ b, b ∈ l → b.1 ≠ b.2) : inn (fun x => Z x || x == v) l = inn Z (without l v) + deg l v := by
  have hz : ∀ b, b ∈ l → (b.1 = v → Z b.2 = true) ∧ (b.2 = v → Z b.1 = true) := fun b hb => by
    constructor
    · intro e
      refine hz0 _ (List.mem_map.mpr ⟨b, List.mem_filter.mpr ⟨hb, by simp [e]⟩, ?_⟩)
      unfold other
      rw [if_pos e]
    · intro e
      refine hz0 _ (List.mem_map.mpr ⟨b, List.mem_filter.mpr ⟨hb, by simp [e]⟩, ?_⟩)
      unfold other
      have := ne b hb
      rw [if_neg (by omega)]
  clear hz0
  unfold without deg barsAt
  induction l with
  | nil => rfl
  | cons b l ih =>
    have ih := ih (fun c hc => ne c (List.mem_cons_of_mem _ hc)) fun c hc => hz c (List.mem_cons_of_mem _ hc)
    obtain ⟨z1, z2⟩ := hz b (List.mem_cons_self ..)
    have nb := ne b (List.mem_cons_self ..)
    rw [inn_cons, ih, List.filter_cons, List.filter_cons]
    by_cases e1 : b.1 = v
    · have e2 : ¬ b.2 = v := fun z => nb (e1.trans z.symm)
      rw [if_pos (by simp [e1, z1 e1]), if_neg (by simp [e1]), if_pos (by simp [e1])]
      rw [List.length_cons]
      omega
    · by_cases e2 : b.2 = v
      · rw [if_pos (by simp [e2, z2 e2]), if_neg (by simp [e2]), if_pos (by simp [e2])]
        rw [List.length_cons]
        omega
      · have q : ((Z b.1 || b.1 == v) && (Z b.2 || b.2 == v)) = (Z b.1 && Z b.2) := by rw [beqF e1, beqF e2, Bool.or_false, Bool.or_false]
        have q1 : (b.1 != v && b.2 != v) = true := by simp [e1, e2]
        have q2 : ¬ (b.1 == v || b.2 == v) = true := by simp [e1, e2]
        simp only [q]
        rw [if_pos q1, if_neg q2, inn_cons]
        omega
theorem inn_off {l : List Bar} {v : Nat} {Z : Nat → Bool} : inn (minus Z v) (without l v) = inn Z (without l v) := by
  unfold inn
  congr 1
  apply List.filter_congr
  intro b hb
  obtain ⟨_, n1, n2⟩ := mem_without.mp hb
  unfold minus
  rw [bneT n1, bneT n2, Bool.and_true, Bool.and_true]
theorem sz_minus_le {S : Nat → Bool} (v : Nat) : ∀ n, sz (minus S v) n ≤ sz S n
  | 0 => Nat.le_refl _
  | n + 1 => by
    have := sz_minus_le (S := S) v n
    rw [sz_succ, sz_succ]
    have : (minus S v n).toNat ≤ (S n).toNat := by
      unfold minus
      cases S n <;> cases (n != v) <;> decide
    omega
theorem sz_plus {Z : Nat → Bool} {n v : Nat} (hv : v < n) (zv : Z v = false) : sz (fun x => Z x || x == v) n = sz Z n + 1 := by
  have h := sz_minus (S := fun x => Z x || x == v) hv (by simp)
  rw [← h]
  congr 1
  refine tot_congrS fun x _ => ?_
  unfold minus
  by_cases e : x = v
  · subst e
    simp [zv]
  · show ((Z x || x == v) && x != v) = Z x
    rw [beqF e, bneT e, Bool.or_false, Bool.and_true]
theorem between_without {l : List Bar} {v p q : Nat} (h1 : p ≠ v) (h2 : q ≠ v) : between (without l v) p q = between l p q := by
  rw [Bool.eq_iff_iff]
  unfold between
  rw [List.any_eq_true, List.any_eq_true]
  constructor
  · rintro ⟨b, hb, e⟩
    exact ⟨b, (mem_without.mp hb).1, e⟩
  · rintro ⟨b, hb, e⟩
    refine ⟨b, mem_without.mpr ⟨hb, ?_⟩, e⟩
    unfold same at e
    simp only [Bool.or_eq_true, Bool.and_eq_true, beq_iff_eq] at e
    rcases e with ⟨e1, e2⟩ | ⟨e1, e2⟩
    · exact ⟨by omega, by omega⟩
    · exact ⟨by omega, by omega⟩
/-- one of the three pairs is always free -/
theorem Fr.pair {n : Nat} (hn : n ≤ 32) {S : Nat → Bool} {l : List Bar} (F : Fr n S l) {v a b c : Nat} (hv : v < n) (sv : S v = true) (h3 : deg l v = 3) (hb : beside l v = [a, b, c]) :
    ∃ x, x < 3 ∧ between l (Sa84.pair a b c x).1 (Sa84.pair a b c x).2 = false ∧ Good n (without l v ++ [Sa84.pair a b c x]) := by
  refine Classical.byContradiction fun no => ?_
  have ne : ∀ b, b ∈ l → b.1 ≠ b.2 := fun b hb => (F.ins b hb).2.2.2.2
  have rise := beside_rise l v
  rw [hb] at rise
  have ab : a < b := by
    have := (List.pairwise_cons.mp rise).1 b (by simp)
    exact this
  have ac : a < c := (List.pairwise_cons.mp rise).1 c (by simp)
  have bc : b < c := (List.pairwise_cons.mp (List.pairwise_cons.mp rise).2).1 c (by simp)
  have mem : ∀ u, u ∈ ([a, b, c] : List Nat) → u < n ∧ u ≠ v := fun u hu => by
    rw [← hb] at hu
    have q := (beside_perm hn F v).mem_iff.mp hu
    obtain ⟨d, hd, rfl⟩ := List.mem_map.mp q
    obtain ⟨hd, e⟩ := List.mem_filter.mp hd
    have := F.ins d hd
    have e : d.1 = v ∨ d.2 = v := by simpa using e
    unfold other
    split <;> omega
  obtain ⟨an, av⟩ := mem a (by simp)
  obtain ⟨bn, bv⟩ := mem b (by simp)
  obtain ⟨cn, cv⟩ := mem c (by simp)
  have gE : Good n (without l v) := Good.sub (without_sub l v) F.good
  have bel : Below n (without l v) := fun d hd => ⟨(F.ins d (mem_without.mp hd).1).1, (F.ins d (mem_without.mp hd).1).2.1⟩
  have fx : ∀ x p q, x < 3 → Sa84.pair a b c x = (p, q) → p < n → q < n → p ≠ v → q ≠ v → p ≠ q → Fx n (without l v) p q := fun x p q hx e hp hq pv qv pq => by
    cases hbt : between l p q with
    | true => exact fx_between bel hp hq pq (by rw [between_without pv qv]; exact hbt)
    | false =>
      intro G
      refine no ⟨x, hx, ?_, ?_⟩
      · rw [e]; exact hbt
      · rw [e]; exact G
  obtain ⟨Z, z1, z2, z3, z4⟩ := Fx.of3 gE an bn cn (by omega) (by omega) (by omega) (fx 0 a b (by omega) rfl an bn av bv (by omega)) (fx 1 a c (by omega) rfl an cn av cv (by omega)) (fx 2 b c (by omega) rfl bn cn bv cv (by omega))
  have zv : minus Z v v = false := by
    unfold minus
    simp
  have g := F.good (fun x => minus Z v x || x == v)
  rw [inn_plus (n := n) (Z := minus Z v) (fun u hu => ?_) zv ne, sz_plus hv zv, inn_off] at g
  · have s := sz_minus_le (S := Z) v n
    unfold Tt at z1
    omega
  · have q := (beside_perm hn F v).mem_iff.mpr hu
    rw [hb] at q
    rcases List.mem_cons.mp q with rfl | q
    · exact minus_in z2 av
    rcases List.mem_cons.mp q with rfl | q
    · exact minus_in z3 bv
    rw [List.mem_singleton.mp q]
    exact minus_in z4 cv
end Pb

set_option linter.all false
namespace Pb
open Sa84
theorem left_minus (S : Nat → Bool) (n v : Nat) : ((List.range n).filter S).filter (fun u => u != v) = (List.range n).filter (minus S v) := by
  rw [List.filter_filter]
  apply List.filter_congr
  intro x _
  unfold minus
  exact Bool.and_comm _ _
theorem mem_left {S : Nat → Bool} {n v : Nat} : v ∈ (List.range n).filter S ↔ v < n ∧ S v = true := by
  rw [List.mem_filter, List.mem_range]
theorem left_len (S : Nat → Bool) (n : Nat) : ((List.range n).filter S).length = sz S n := range_sz S n
/-- a step with two bars -/
theorem apart_two {n f : Nat} {S : Nat → Bool} {l : List Bar} {v : Nat} (h3 : 3 ≤ sz S n) (hf : ((List.range n).filter S).find? (fun u => (barsAt l u).length == 2) = some v) :
    Sx35.apart n (f + 1) ((List.range n).filter S) l = (v :: (beside l v ++ [255, 255])) :: Sx35.apart n f ((List.range n).filter (minus S v)) (without l v) := by
  rw [Sx35.apart, if_neg (by rw [left_len]; omega), hf]
  dsimp only
  rw [left_minus]
/-- a step with three -/
theorem apart_three {n f : Nat} {S : Nat → Bool} {l : List Bar} {v a b c x : Nat} (h3 : 3 ≤ sz S n) (h0 : ((List.range n).filter S).find? (fun u => (barsAt l u).length == 2) = none) (hf : ((List.range n).filter S).find? (fun u => (barsAt l u).length == 3) = some v)
    (hb : beside l v = [a, b, c]) (hx : (List.range 3).find? (fun y => !between l (Sa84.pair a b c y).1 (Sa84.pair a b c y).2 && Sx35.ordered n (without l v ++ [Sa84.pair a b c y])) = some x) :
    Sx35.apart n (f + 1) ((List.range n).filter S) l = [v, a, b, c, x] :: Sx35.apart n f ((List.range n).filter (minus S v)) (without l v ++ [Sa84.pair a b c x]) := by
  rw [Sx35.apart, if_neg (by rw [left_len]; omega), h0, hf]
  dsimp only
  rw [hb]
  have e : ∀ y, Sa84.pair ([a, b, c].getD 0 0) ([a, b, c].getD 1 0) ([a, b, c].getD 2 0) y = Sa84.pair a b c y := fun y => rfl
  simp only [e]
  rw [hx]
  dsimp only
  rw [left_minus]
  rfl
theorem apart_end {n f : Nat} {S : Nat → Bool} {l : List Bar} (h : sz S n ≤ 2) : Sx35.apart n f ((List.range n).filter S) l = [] := by
  cases f with
  | zero => rfl
  | succ f => rw [Sx35.apart, if_pos (by rw [left_len]; exact h)]
theorem three_of {n : Nat} (hn : n ≤ 32) {S : Nat → Bool} {l : List Bar} (F : Fr n S l) {v : Nat} (h3 : deg l v = 3) : ∃ a b c, beside l v = [a, b, c] ∧ a < b ∧ b < c ∧ (∀ u, u ∈ ([a, b, c] : List Nat) → u < n ∧ S u = true ∧ u ≠ v) := by
  have hl := beside_len hn F v
  rw [h3] at hl
  match e : beside l v, hl with
  | [a, b, c], _ =>
    have rise := beside_rise l v
    rw [e] at rise
    refine ⟨a, b, c, rfl, (List.pairwise_cons.mp rise).1 b (by simp), (List.pairwise_cons.mp (List.pairwise_cons.mp rise).2).1 c (by simp), fun u hu => ?_⟩
    rw [← e] at hu
    obtain ⟨d, hd, rfl⟩ := List.mem_map.mp ((beside_perm hn F v).mem_iff.mp hu)
    obtain ⟨hd, e⟩ := List.mem_filter.mp hd
    obtain ⟨i1, i2, i3, i4, i5⟩ := F.ins d hd
    have e : d.1 = v ∨ d.2 = v := by simpa using e
    unfold other
    split
    · exact ⟨i2, i4, by omega⟩
    · exact ⟨i1, i3, by omega⟩
theorem two_of {n : Nat} (hn : n ≤ 32) {S : Nat → Bool} {l : List Bar} (F : Fr n S l) {v : Nat} (h2 : deg l v = 2) : ∃ a b, beside l v = [a, b] ∧ a < b := by
  have hl := beside_len hn F v
  rw [h2] at hl
  match e : beside l v, hl with
  | [a, b], _ =>
    have rise := beside_rise l v
    rw [e] at rise
    exact ⟨a, b, rfl, (List.pairwise_cons.mp rise).1 b (by simp)⟩
/-- the pair that comes is one of joints that are left -/
theorem pair_in {n a b c v x : Nat} {S : Nat → Bool} (ab : a < b) (bc : b < c) (h : ∀ u, u ∈ ([a, b, c] : List Nat) → u < n ∧ S u = true ∧ u ≠ v) :
    (Sa84.pair a b c x).1 < n ∧ (Sa84.pair a b c x).2 < n ∧ S (Sa84.pair a b c x).1 = true ∧ S (Sa84.pair a b c x).2 = true ∧ (Sa84.pair a b c x).1 ≠ v ∧ (Sa84.pair a b c x).2 ≠ v ∧ (Sa84.pair a b c x).1 ≠ (Sa84.pair a b c x).2 := by
  have ha := h a (by simp)
  have hb := h b (by simp)
  have hc := h c (by simp)
  match x with
  | 0 => exact ⟨ha.1, hb.1, ha.2.1, hb.2.1, ha.2.2, hb.2.2, show a ≠ b by omega⟩
  | 1 => exact ⟨ha.1, hc.1, ha.2.1, hc.2.1, ha.2.2, hc.2.2, show a ≠ c by omega⟩
  | _ + 2 => exact ⟨hb.1, hc.1, hb.2.1, hc.2.1, hb.2.2, hc.2.2, show b ≠ c by omega⟩
theorem Fr.below {n : Nat} {S : Nat → Bool} {l : List Bar} (F : Fr n S l) : Below n l := fun b hb => ⟨(F.ins b hb).1, (F.ins b hb).2.1⟩
/-- what a step finds, and what is left -/
theorem Fr.step {n : Nat} (hn : n ≤ 32) {S : Nat → Bool} {l : List Bar} (F : Fr n S l) (h3 : 3 ≤ sz S n) :
    (∃ v a b, ((List.range n).filter S).find? (fun u => (barsAt l u).length == 2) = some v ∧ v < n ∧ S v = true ∧ deg l v = 2 ∧ beside l v = [a, b] ∧ Fr n (minus S v) (without l v) ∧ sz (minus S v) n + 1 = sz S n) ∨
    (∃ v a b c x, ((List.range n).filter S).find? (fun u => (barsAt l u).length == 2) = none ∧ ((List.range n).filter S).find? (fun u => (barsAt l u).length == 3) = some v ∧ v < n ∧ S v = true ∧ deg l v = 3 ∧ beside l v = [a, b, c] ∧ a < b ∧ b < c ∧
      (∀ u, u ∈ ([a, b, c] : List Nat) → u < n ∧ S u = true ∧ u ≠ v) ∧
      (List.range 3).find? (fun y => !between l (Sa84.pair a b c y).1 (Sa84.pair a b c y).2 && Sx35.ordered n (without l v ++ [Sa84.pair a b c y])) = some x ∧ x < 3 ∧ Fr n (minus S v) (without l v ++ [Sa84.pair a b c x]) ∧ sz (minus S v) n + 1 = sz S n) := by
  cases e : ((List.range n).filter S).find? (fun u => (barsAt l u).length == 2) with
  | some v =>
    left
    obtain ⟨hv, sv⟩ := mem_left.mp (List.mem_of_find?_eq_some e)
    have d : deg l v = 2 := by simpa [deg] using List.find?_some e
    obtain ⟨a, b, hb, _⟩ := two_of hn F d
    exact ⟨v, a, b, rfl, hv, sv, d, hb, F.two hv sv d, sz_minus hv sv⟩
  | none =>
    right
    have no2 : ∀ u, u < n → S u = true → deg l u ≠ 2 := fun u hu su z => by
      have := List.find?_eq_none.mp e u (mem_left.mpr ⟨hu, su⟩)
      exact this (by simpa [deg] using z)
    obtain ⟨w, hw, sw, dw⟩ := F.ex h3
    have dw : deg l w = 3 := dw.resolve_left (no2 w hw sw)
    cases e3 : ((List.range n).filter S).find? (fun u => (barsAt l u).length == 3) with
    | none =>
      have := List.find?_eq_none.mp e3 w (mem_left.mpr ⟨hw, sw⟩)
      exact absurd (by simpa [deg] using dw) this
    | some v =>
      obtain ⟨hv, sv⟩ := mem_left.mp (List.mem_of_find?_eq_some e3)
      have d : deg l v = 3 := by simpa [deg] using List.find?_some e3
      obtain ⟨a, b, c, hb, ab, bc, hm⟩ := three_of hn F d
      obtain ⟨y, y1, y2, y3⟩ := F.pair hn hv sv d hb
      have bel : ∀ x, Below n (without l v ++ [Sa84.pair a b c x]) := fun x => Below.snoc (fun d hd => F.below d (mem_without.mp hd).1) (pair_in (x := x) ab bc hm).1 (pair_in (x := x) ab bc hm).2.1
      cases ex : (List.range 3).find? (fun y => !between l (Sa84.pair a b c y).1 (Sa84.pair a b c y).2 && Sx35.ordered n (without l v ++ [Sa84.pair a b c y])) with
      | none =>
        have := List.find?_eq_none.mp ex y (List.mem_range.mpr y1)
        refine absurd ?_ this
        rw [y2, (ordered_iff hn (bel y)).mpr y3]
        rfl
      | some x =>
        have hx := List.mem_range.mp (List.mem_of_find?_eq_some ex)
        have px := List.find?_some ex
        rw [Bool.and_eq_true] at px
        have g := (ordered_iff hn (bel x)).mp px.2
        obtain ⟨q1, q2, q3, q4, q5, q6, q7⟩ := pair_in (x := x) ab bc hm
        exact ⟨v, a, b, c, x, rfl, rfl, hv, sv, d, hb, ab, bc, hm, ex, hx, F.three hv sv d q1 q2 q3 q4 q5 q6 q7 g, sz_minus hv sv⟩
theorem apart_len {n : Nat} (hn : n ≤ 32) : ∀ (f : Nat) (S : Nat → Bool) (l : List Bar), Fr n S l → sz S n ≤ f + 2 → (Sx35.apart n f ((List.range n).filter S) l).length = sz S n - 2
  | 0, S, l, F, h => by
    show 0 = _
    omega
  | f + 1, S, l, F, h => by
    by_cases h2 : sz S n ≤ 2
    · rw [apart_end h2]
      show 0 = _
      omega
    · rcases F.step hn (by omega) with ⟨v, a, b, e, hv, sv, d, hb, F', hs⟩ | ⟨v, a, b, c, x, e0, e, hv, sv, d, hb, _, _, _, ex, _, F', hs⟩
      · rw [apart_two (by omega) e, List.length_cons, apart_len hn f _ _ F' (by omega)]
        omega
      · rw [apart_three (by omega) e0 e hb ex, List.length_cons, apart_len hn f _ _ F' (by omega)]
        omega
end Pb

set_option linter.all false
namespace Pb
open Sa84
/-! ### all bars kept -/
theorem keptIx_full (n : Nat) (b : Nat → Bar) : ∀ m, (keptIx n b m).2.length = m → (keptIx n b m).1 = bars b m
  | 0, _ => rfl
  | m + 1, h => by
    by_cases o : Sx35.ordered n ((keptIx n b m).1 ++ [b m]) = true
    · rw [keptIx_yes o] at h ⊢
      have h : (keptIx n b m).2.length = m := by
        have : ((keptIx n b m).2 ++ [m]).length = m + 1 := h
        rw [List.length_append] at this
        have e : [m].length = 1 := rfl
        omega
      show (keptIx n b m).1 ++ [b m] = _
      rw [keptIx_full n b m h, bars_succ]
    · rw [keptIx_no o] at h
      have := keptIx_len n b m
      omega
theorem bars_sub (b : Nat → Bar) (m : Nat) : (bars b m).Sublist (bars b (m + 1)) := by
  rw [bars_succ]
  exact List.sublist_append_left ..
theorem keptIx_all {n : Nat} (hn : n ≤ 32) {b : Nat → Bar} : ∀ m, (∀ i, i < m → (b i).1 < n ∧ (b i).2 < n) → Good n (bars b m) → keptIx n b m = (bars b m, List.range m)
  | 0, _, _ => rfl
  | m + 1, hb, g => by
    have ih := keptIx_all hn m (fun i hi => hb i (by omega)) (Good.sub (bars_sub b m) g)
    have bel : Below n (bars b (m + 1)) := fun c hc => by
      obtain ⟨i, hi, rfl⟩ := mem_bars.mp hc
      exact hb i hi
    have o : Sx35.ordered n ((keptIx n b m).1 ++ [b m]) = true := by
      rw [ih, ← bars_succ]
      exact (ordered_iff hn bel).mpr g
    rw [keptIx_yes o, ih, ← bars_succ, List.range_succ]
theorem kept_all {n : Nat} (hn : n ≤ 32) {b : Nat → Bar} {m : Nat} (hb : ∀ i, i < m → (b i).1 < n ∧ (b i).2 < n) (g0 : Good n (keptIx n b m).1) : (keptIx n b m).2.length = m ↔ Sx35.ordered n (bars b m) = true := by
  have bel : Below n (bars b m) := fun c hc => by
    obtain ⟨i, hi, rfl⟩ := mem_bars.mp hc
    exact hb i hi
  rw [ordered_iff hn bel]
  constructor
  · intro h
    rw [keptIx_full n b m h] at g0
    exact g0
  · intro g
    rw [keptIx_all hn m hb g]
    exact List.length_range
theorem sz_all : ∀ n, sz (fun _ => true) n = n
  | 0 => rfl
  | n + 1 => by
    have := sz_all n
    unfold sz at this ⊢
    rw [tot, this]
    rfl
theorem Fr.start {n m : Nat} {b : Nat → Bar} (hb : ∀ i, i < m → (b i).1 < n ∧ (b i).2 < n ∧ (b i).1 ≠ (b i).2) (g : Good n (bars b m)) (hm : m + 3 = 2 * n) : Fr n (fun _ => true) (bars b m) := by
  refine ⟨g, fun c hc => ?_, by rw [bars_len, sz_all, hm]⟩
  obtain ⟨i, hi, rfl⟩ := mem_bars.mp hc
  exact ⟨(hb i hi).1, (hb i hi).2.1, rfl, rfl, (hb i hi).2.2⟩
/-! ### the least joint -/
theorem find_left {n : Nat} (hn : n ≤ 32) {S : Nat → Bool} {l : List Bar} (F : Fr n S l) {k : Nat} (hk : 0 < k) : (List.range n).find? (fun u => (beside l u).length == k) = ((List.range n).filter S).find? (fun u => (barsAt l u).length == k) := by
  rw [List.find?_filter]
  have e : (fun u => (beside l u).length == k) = fun u => decide (S u = true ∧ ((barsAt l u).length == k) = true) := by
    funext u
    rw [beside_len hn F u]
    show ((barsAt l u).length == k) = _
    by_cases su : S u = true
    · by_cases q : (barsAt l u).length = k <;> simp [su, q]
    · have z : barsAt l u = [] := by
        refine List.filter_eq_nil_iff.mpr fun b hb => ?_
        have q := F.ins b hb
        intro z
        rw [Bool.or_eq_true, beq_iff_eq, beq_iff_eq] at z
        rcases z with z | z
        · exact su (by rw [← z]; exact q.2.2.1)
        · exact su (by rw [← z]; exact q.2.2.2.1)
      rw [z]
      have : ¬ 0 = k := by omega
      simp [su, this]
  rw [e]
/-! ### far ends, rising -/
theorem rise_eq : ∀ {a b : List Nat}, a.Pairwise (· < ·) → b.Pairwise (· < ·) → (∀ x, x ∈ a ↔ x ∈ b) → a = b
  | [], [], _, _, _ => rfl
  | [], y :: b, _, _, h => absurd ((h y).mpr (List.mem_cons_self ..)) (by simp)
  | x :: a, [], _, _, h => absurd ((h x).mp (List.mem_cons_self ..)) (by simp)
  | x :: a, y :: b, ha, hb, h => by
    obtain ⟨ha1, ha2⟩ := List.pairwise_cons.mp ha
    obtain ⟨hb1, hb2⟩ := List.pairwise_cons.mp hb
    have e : x = y := by
      rcases List.mem_cons.mp ((h x).mp (List.mem_cons_self ..)) with q | q
      · exact q
      · rcases List.mem_cons.mp ((h y).mpr (List.mem_cons_self ..)) with p | p
        · exact p.symm
        · have := ha1 y p
          have := hb1 x q
          omega
    subst e
    congr 1
    refine rise_eq ha2 hb2 fun z => ?_
    have hz := h z
    rw [List.mem_cons, List.mem_cons] at hz
    constructor
    · intro q
      have := ha1 z q
      rcases hz.mp (.inr q) with p | p
      · omega
      · exact p
    · intro q
      have := hb1 z q
      rcases hz.mpr (.inr q) with p | p
      · omega
      · exact p
theorem far_eq {n : Nat} (hn : n ≤ 32) {S : Nat → Bool} {l : List Bar} (F : Fr n S l) {v : Nat} {ns : List Int} (hp : ns.Perm (((barsAt l v).map (other v)).map fun (x : Nat) => (x : Int))) (hs : ns.Pairwise (· ≤ ·)) : ns = (beside l v).map fun (x : Nat) => (x : Int) := by
  have h0 : ∀ x, x ∈ ns → 0 ≤ x := fun x hx => by
    obtain ⟨y, _, rfl⟩ := List.mem_map.mp (hp.mem_iff.mp hx)
    exact Int.natCast_nonneg _
  have p2 : (ns.map Int.toNat).Perm ((barsAt l v).map (other v)) := by
    have := hp.map Int.toNat
    rw [List.map_map] at this
    have e : ((barsAt l v).map (other v)).map (Int.toNat ∘ fun (x : Nat) => (x : Int)) = (barsAt l v).map (other v) := (List.map_congr_left fun x _ => Int.toNat_natCast x).trans (List.map_id _)
    rw [e] at this
    exact this
  have p3 := p2.trans (beside_perm hn F v).symm
  have nd : (ns.map Int.toNat).Nodup := p3.nodup_iff.mpr ((beside_rise l v).imp fun h => by omega)
  have le : (ns.map Int.toNat).Pairwise (· ≤ ·) := List.Pairwise.map _ (fun a b h => by omega) hs
  have e := rise_eq ((List.Pairwise.and le nd).imp fun h => by omega) (beside_rise l v) fun x => p3.mem_iff
  rw [← e, List.map_map]
  refine ((List.map_congr_left fun x hx => ?_).trans (List.map_id ns)).symm
  have := h0 x hx
  show ((x.toNat : Nat) : Int) = x
  omega
theorem other_int {v : Nat} {b : Bar} (h : At v b = true) : ((b.1 : Nat) : Int) + ((b.2 : Nat) : Int) - ((v : Nat) : Int) = ((other v b : Nat) : Int) := by
  unfold At at h
  unfold other
  rw [Bool.or_eq_true, beq_iff_eq, beq_iff_eq] at h
  split <;> omega
/-! ### the first of the pairs -/
theorem between_bad {n : Nat} {S : Nat → Bool} {l : List Bar} (F : Fr n S l) {v : Nat} {p : Bar} (h1 : p.1 ≠ v) (h2 : p.2 ≠ v) (ne : p.1 ≠ p.2) (h : between l p.1 p.2 = true) : ¬ Good n (without l v ++ [p]) := fun g => by
  rw [← between_without h1 h2] at h
  unfold between at h
  obtain ⟨b, hb, e⟩ := List.any_eq_true.mp h
  have pw := good_pw g fun c hc => by
    rcases List.mem_append.mp hc with q | q
    · exact (F.ins c (mem_without.mp q).1).2.2.2.2
    · rw [List.mem_singleton.mp q]
      exact ne
  have := (List.pairwise_append.mp pw).2.2 b hb p (List.mem_singleton.mpr rfl)
  have e : same b p = true := e
  rw [this] at e
  cases e
theorem first_pair {n : Nat} (hn : n ≤ 32) {S : Nat → Bool} {l : List Bar} (F : Fr n S l) {v a b c x : Nat} (ab : a < b) (bc : b < c) (hm : ∀ u, u ∈ ([a, b, c] : List Nat) → u < n ∧ S u = true ∧ u ≠ v)
    (hx : (List.range 3).find? (fun y => !between l (Sa84.pair a b c y).1 (Sa84.pair a b c y).2 && Sx35.ordered n (without l v ++ [Sa84.pair a b c y])) = some x) :
    Good n (without l v ++ [Sa84.pair a b c x]) ∧ ∀ y, y < x → ¬ Good n (without l v ++ [Sa84.pair a b c y]) := by
  have bel : ∀ x, Below n (without l v ++ [Sa84.pair a b c x]) := fun x => Below.snoc (fun d hd => F.below d (mem_without.mp hd).1) (pair_in (x := x) ab bc hm).1 (pair_in (x := x) ab bc hm).2.1
  obtain ⟨q1, q2, q3⟩ := List.find?_range_eq_some.mp hx
  rw [Bool.and_eq_true] at q1
  refine ⟨(ordered_iff hn (bel x)).mp q1.2, fun y hy g => ?_⟩
  have := q3 y hy
  obtain ⟨_, _, _, _, p5, p6, p7⟩ := pair_in (x := y) ab bc hm
  rw [(ordered_iff hn (bel y)).mpr g, Bool.and_true, Bool.not_not] at this
  exact between_bad F p5 p6 p7 this g
end Pb

set_option Elab.async false
set_option linter.all false
set_option maxRecDepth 100000
set_option maxHeartbeats 2000000
namespace L2
open PySem PySem.Spec PyProof.Rows
/-- numbers as values -/
def vi (l : List Nat) : List V := l.map fun (x : Nat) => V.int (x : Int)
theorem vi_get {l : List Nat} {i x : Nat} (h : l[i]? = some x) : (vi l)[i]? = some (V.int (x : Int)) := by
  unfold vi
  rw [List.getElem?_map, h] <;> rfl
theorem of_vi_get {l : List Nat} {i : Nat} {v : V} (h : (vi l)[i]? = some v) : ∃ x : Nat, l[i]? = some x ∧ v = V.int (x : Int) := by
  unfold vi at h
  rw [List.getElem?_map] at h
  cases e : l[i]? with
  | none =>
    rw [e] at h
    cases h
  | some x =>
    rw [e] at h
    exact ⟨x, rfl, (Option.some.inj h).symm⟩
theorem vi_len (l : List Nat) : (vi l).length = l.length := List.length_map _
theorem vi_append (l m : List Nat) : vi (l ++ m) = vi l ++ vi m := List.map_append
/-- a value for each joint -/
def vf (f : Nat → V) (n : Nat) : List V := (List.range n).map f
theorem vf_len (f : Nat → V) (n : Nat) : (vf f n).length = n := by simp [vf]
theorem vf_get {f : Nat → V} {n j : Nat} (h : j < n) : (vf f n)[j]? = some (f j) := by simp [vf, h]
theorem vf_set {f : Nat → V} {n j : Nat} (v : V) : (vf f n).set j v = vf (Pb.fset f j v) n := by
  apply List.ext_getElem?
  intro i
  by_cases hi : i < n
  · rw [vf_get hi]
    by_cases e : i = j
    · subst e
      rw [List.getElem?_set_self (by rw [vf_len]; exact hi), Pb.fset_same]
    · rw [List.getElem?_set_ne (fun z => e z.symm), vf_get hi, Pb.fset_ne e]
  · rw [List.getElem?_eq_none (by rw [List.length_set, vf_len]; omega), List.getElem?_eq_none (by rw [vf_len]; omega)]
theorem vf_at {f : Nat → V} {n j : Nat} {z : Int} (e : z = (j : Int)) (h : j < n) : atI (vf f n) z = some (f j) := at_of e (vf_get h)
theorem ixN_nat {n j : Nat} (h : j < n) : ixN n (j : Int) = some j := by
  unfold ixN
  rw [if_pos (by omega), if_pos (by omega)]
  simp
section
variable {X : Cx}
/-- xs[i] by values -/
theorem get_list : PGet X (rIxL X.K) := by
  intro pins s σ H x y v u Q I rx ry h
  obtain ⟨p, xs, i, z, rfl, rfl, hq, he, q⟩ := h
  cases rx
  obtain ⟨t, rfl⟩ := ry
  obtain ⟨its, r, pl, hz⟩ := I.list hq
  obtain ⟨j, h1, h2, h3, h4, h5⟩ := atI_get he
  obtain ⟨w, ew, rw'⟩ := r.get h2
  have hl := r.length
  have hn := line63
  have fin : EP X pins σ Q w s := ⟨z, H, I, rw', q⟩
  by_cases h0 : 0 ≤ i
  · have hj : i.toNat = j := by
      rw [seqIndex_of h0 h5] at h1
      exact Option.some.inj h1
    exact wpAny_getItem_list pl.isList h0 (by omega) (by rw [hj]; simpa using ew) fin
  · have hj : (i + (its.toArray.size : Int)).toNat = j := by
      rw [seqIndex_neg (by omega) h4] at h1
      rw [List.size_toArray, ← hl]
      exact Option.some.inj h1
    exact wpAny_getItem_list_neg pl.isList (by omega) (by rw [List.size_toArray] <;> omega) (by omega) (by rw [hj]; simpa using ew) fin
/-- xs.remove(y) of a list of numbers -/
def rRemove : V → List V → Hp → VK → Prop := fun x vs H Q => ∃ (l : Addr) (xs : List Nat) (y : Nat), x = .ref l ∧ vs = [.int (y : Int)] ∧ H l = some (.lst (vi xs)) ∧ y ∈ xs ∧ Q .non (upd H l (.lst (vi (xs.erase y))))
theorem vi_erase (l : List Nat) (k : Nat) : vi (l.eraseIdx k) = (vi l).eraseIdx k := by
  induction l generalizing k with
  | nil => rfl
  | cons a r ih =>
    cases k with
    | zero => rfl
    | succ k =>
      show V.int (a : Int) :: vi (r.eraseIdx k) = V.int (a : Int) :: (vi r).eraseIdx k
      rw [ih]
theorem vals_int {xs : List Nat} {its : List Value} (r : Vals (vi xs) its) {m : Nat} (h : m < its.length) : ∃ (x : Nat) (t : Tok), xs[m]? = some x ∧ its[m] = .int (x : Int) t := by
  have hl := r.length
  rw [vi_len] at hl
  have hx : xs[m]? = some xs[m] := List.getElem?_eq_getElem (by omega)
  obtain ⟨u, hu, t, rfl⟩ := r.get (vi_get hx)
  obtain ⟨_, e⟩ := List.getElem?_eq_some_iff.mp hu
  exact ⟨_, t, hx, e⟩
theorem mt_remove : MtM X "list.remove" rRemove := by
  intro pins s σ H x vs v us Q I rx rv h
  obtain ⟨l, xs, y, rfl, rfl, hH, hy, q⟩ := h
  cases rx
  obtain ⟨u, rfl, t, rfl⟩ := rv.one
  obtain ⟨z, its, n, r, hl, e⟩ := I.lstM hH
  rw [vi_len] at hl z
  have hj : xs.idxOf y < xs.length := List.idxOf_lt_length_of_mem hy
  have hje : xs[xs.idxOf y]? = some y := by
    rw [List.getElem?_eq_getElem hj, List.getElem_idxOf]
  have h1 : ∀ m (hm : m < its.toArray.size), ∃ (x : Nat) (t : Tok), xs[m]? = some x ∧ its.toArray[m] = .int (x : Int) t := fun m hm => by
    obtain ⟨x, t, a, b⟩ := vals_int r (m := m) (by simpa using hm)
    exact ⟨x, t, a, by simpa using b⟩
  refine call_meets PySem.F.slot_list_remove ⟨_, e, rfl⟩ PySem.F.entry_list_remove (PySem.F.args_list_remove_2 _ _)
    (MeetsSeq.list_remove l its.toArray n (.int (y : Int) t) (isInt (y : Int)) ?_ (xs.idxOf y) (by rw [List.size_toArray]; omega) ?_ ?_ (by rw [List.size_toArray]; omega)) ⟨e, ?_⟩
  · intro w hw
    obtain ⟨m, hm, rfl⟩ := Array.getElem_of_mem hw
    obtain ⟨x, t', a, b⟩ := h1 m hm
    rw [b]
    exact MeetsSeq.EqGives.int _ _ _ _
  · obtain ⟨x, t', a, b⟩ := h1 (xs.idxOf y) (by rw [List.size_toArray]; omega)
    rw [b]
    rw [hje] at a
    cases a
    exact beq_self_eq_true _
  · intro m hm hlt
    obtain ⟨x, t', a, b⟩ := h1 m hm
    rw [b]
    show ((x : Int) == (y : Int)) = false
    have hne : x ≠ y := fun z => by
      subst z
      have := List.not_of_lt_findIdx (xs := xs) (p := (· == x)) (i := m) hlt
      obtain ⟨hm', e'⟩ := List.getElem?_eq_some_iff.mp a
      exact absurd e' (by simpa using this)
    exact beq_eq_false_iff_ne.mpr (by omega)
  · have e3 : vi (xs.erase y) = (vi xs).eraseIdx (xs.idxOf y) := by
      rw [← vi_erase]
      rw [List.erase_eq_eraseIdx_of_idxOf (w := rfl)]
    rw [e3] at q
    refine ⟨.non, _, I.lset (its' := its.eraseIdx (xs.idxOf y)) hH e ?_ (r.eraseIdx _) ?_, rfl, q⟩
    · show its.toArray.eraseIdxIfInBounds _ = (its.eraseIdx _).toArray
      rw [List.eraseIdxIfInBounds_toArray]
    · have := len_erase (vi xs) (xs.idxOf y)
      rw [vi_len] at this
      omega
end
end L2

set_option Elab.async false
set_option linter.all false
set_option maxRecDepth 100000
set_option maxHeartbeats 2000000
namespace L2
open PySem PySem.Spec PyProof.Rows
theorem intsAre_at : ∀ {l : List Value} {ns : List Int}, l.length = ns.length → (∀ (j : Nat) (v : Value), l[j]? = some v → ∃ (n : Int) (t : Tok), ns[j]? = some n ∧ v = .int n t) → IntsAre l ns
  | [], [], _, _ => .nil
  | [], _ :: _, h, _ => by simp at h
  | _ :: _, [], h, _ => by simp at h
  | v :: l, n :: ns, h, f => by
    obtain ⟨n', t, e, rfl⟩ := f 0 v rfl
    have e : n = n' := Option.some.inj e
    subst e
    exact .cons _ _ (intsAre_at (by simpa using h) fun j u hu => f (j + 1) u hu)
section
variable {X : Cx}
/-- sorted(d) of a dict whose keys are ints -/
def rSortedD : List V → Hp → VK → Prop := fun vs H Q => ∃ (a : Addr) (kvs : List (Key × V)) (ns : List Int), vs = [V.ref a] ∧ H a = some (.dK kvs) ∧ kvs.map (·.1) = ns.map Sum.inl ∧
  ∀ (ns' : List Int) (p : Addr), ns'.Perm ns → ns'.Pairwise (· ≤ ·) → H p = none → Q (.ref p) (upd H p (.lst (ns'.map V.int)))
theorem cr_sortedD (hc : X.calm = true) : CallR X (.builtin "sorted") rSortedD := by
  intro pins s σ H vs us Q I r h
  obtain ⟨a, kvs, ns, rfl, ha, hk, q⟩ := h
  rw [Vals.ref1 r]
  obtain ⟨z, hd, vs0, rel, dd⟩ := dk_of I.hok ha
  obtain ⟨ep, hat⟩ := dd.dictAt
  have hlen : vs0.length = ns.length := by
    rw [← rel.length]
    have := congrArg List.length hk
    simpa using this
  have hz : vs0.length ≤ sizeLine := by rw [← rel.length]; exact z
  refine Calls.call_function_entry kind_sorted plain_sorted entry_sorted (args_sorted1 _) ?_
  unfold Builtin.«sorted»
  refine wpAny_bind (m := checkCount "sorted" 1 1 _) (wpAny_pure ?_)
  refine wpAny_bind (PySem.W.kdu_collect (A := X.A.in1) (PySem.W.kdl_dict (knd := mixKind X.prog X.w) (kvs := vs0) (ep := ep) hd) (I.ok.hd hc) hat hz fun h' tk acc hkp hacc => ?_)
  have hal : acc.toList.length = ns.length := by rw [Array.length_toList, hacc.1, hlen]
  have hI : IntsAre acc.toList ns := by
    refine intsAre_at hal fun j v hv => ?_
    obtain ⟨k, x, hx, hkv⟩ := hacc.2 j v (by rw [← Array.getElem?_toList]; exact hv)
    have hkeys : vs0.map (·.1) = ns.map Sum.inl := by rw [← rel.keys]; exact hk
    have e := congrArg (fun l => l[j]?) hkeys
    rw [List.getElem?_map, hx, List.getElem?_map] at e
    cases en : ns[j]? with
    | none =>
      rw [en] at e
      cases e
    | some n =>
      rw [en] at e
      have e : k = Sum.inl n := Option.some.inj e
      subst e
      obtain ⟨t, et⟩ := Value.isInt_shape (k := n) (v := v) hkv
      exact ⟨n, t, rfl, et⟩
  refine wpAny_bind (wpAny_newList ?_ (by rw [hal, ← hlen]; exact hz))
  have hoL : (h'.push (seqObj "list" acc.toList.toArray 0)).get? h'.objs.size = some (seqObj "list" acc.toList.toArray 0) := Heap.get?_push_size _ rfl
  have I1 : Inv X pins σ H { s with heap := h', toks := tk } := I.kept hkp
  refine wpAny_bind (wpAny_holding (wpAny_call_entry slot_list_sort ⟨_, hoL, rfl⟩ entry_list_sort (list_sort_treeAny hoL hI (by rw [hal, ← hlen]; exact hz) fun out ns' a1 a2 a3 => ⟨_, rfl, ?_⟩) (args_list_sort _)))
  obtain ⟨ep', he'⟩ := PyProof.Rows.sortedHeap_at (vs := acc.toList) (out := out) hoL
  have hl' : (ns'.map V.int).length ≤ sizeLine := by rw [List.length_map, a2.length_eq, ← hlen]; exact hz
  refine wpAny_pure ⟨_, rfl, .ref h'.objs.size, upd H h'.objs.size (.lst (ns'.map V.int)), I1.laid (t' := tk) (fun b u hu => ?_) (Nat.le_refl _) ⟨hl', out.toList, ep', vals_of_ints a1, he'⟩, rfl, q ns' _ a2 a3 (I1.hok.fresh (Nat.le_refl _))⟩
  have hne : b ≠ h'.objs.size := Nat.ne_of_lt (Heap.lt_size hu)
  have hb : (h'.push (seqObj "list" acc.toList.toArray 0)).get? b = some u := Heap.get?_push_of_some _ hu
  rw [PyProof.Rows.sortedHeap_old hne (Heap.lt_size hb)]
  exact hb
end
end L2

set_option Elab.async false
set_option linter.all false
set_option maxRecDepth 100000
set_option maxHeartbeats 2000000
namespace Bf
open PySem PySem.Spec PyProof.Rows L2 Pb
/-! ### the text by places -/
def top (i : Nat) : Stmt := PySem.Challenge.pw_barframe_s05_ri_steps.main.body.getD i (.Pass ⟨0, 0, 0, 0⟩)
abbrev sInit : Stmt := inClass (top 4) 0
abbrev sLay : Stmt := inClass (top 4) 1
abbrev sAllows : Stmt := inClass (top 4) 2
abbrev sGather : Stmt := inClass (top 4) 3
abbrev sDraw : Stmt := inClass (top 4) 4
abbrev sPass : Stmt := inClass (top 4) 5
abbrev sFrame : Stmt := top 5
abbrev sLayKept : Stmt := top 6
abbrev sFar : Stmt := top 7
abbrev sLeast : Stmt := top 8
abbrev sFirstO : Stmt := top 9
abbrev sApart : Stmt := top 10
abbrev sSteps : Stmt := top 11
end Bf

set_option Elab.async false
set_option linter.all false
set_option maxRecDepth 100000
set_option maxHeartbeats 2000000
namespace Bf
open PySem PySem.Spec PyProof.Rows L2 Pb
/-! ### the data -/
def pf (fa aa : Addr) : List (Str × V) := putF "ahead" (.ref aa) (putF "free" (.ref fa) [])
theorem pf_free (fa aa : Addr) : (pf fa aa).lookup ("free" : Str) = some (.ref fa) := by
  unfold pf
  rw [lookup_putF, if_neg (by decide), lookup_putF, if_pos rfl]
theorem pf_ahead (fa aa : Addr) : (pf fa aa).lookup ("ahead" : Str) = some (.ref aa) := by
  unfold pf
  rw [lookup_putF, if_pos rfl]
theorem pf_no (fa aa : Addr) {m : Str} (h : ¬ m = "free") (h2 : ¬ m = "ahead") : (pf fa aa).lookup m = none := by
  unfold pf
  rw [lookup_putF, if_neg h2, lookup_putF, if_neg h]
  all_goals rfl
/-- where a Pebbles object's things stand -/
structure PA where
  p : Addr
  dx : Addr
  fa : Addr
  aa : Addr
  ad : Nat → Addr
structure Peb (C : Addr) (n : Nat) (A : PA) (H : Hp) (fr : Nat → Nat) (ah : Nat → List Nat) : Prop where
  ins : H A.p = some (.ins C A.dx (pf A.fa A.aa))
  free : H A.fa = some (.lst (vf (fun v => V.int (fr v : Int)) n))
  ahead : H A.aa = some (.lst (vf (fun v => V.ref (A.ad v)) n))
  each : ∀ v, v < n → H (A.ad v) = some (.lst (vi (ah v)))
  fa_aa : A.fa ≠ A.aa
  ad_fa : ∀ v, v < n → A.ad v ≠ A.fa
  ad_aa : ∀ v, v < n → A.ad v ≠ A.aa
  inj : ∀ u v, u < n → v < n → A.ad u = A.ad v → u = v
def Off (A : PA) (n : Nat) (b : Addr) : Prop := b ≠ A.fa ∧ ∀ v, v < n → b ≠ A.ad v
def Keeps (A : PA) (n : Nat) (H H' : Hp) : Prop := ∀ b o, H b = some o → Off A n b → H' b = some o
theorem Keeps.refl {A : PA} {n : Nat} {H : Hp} : Keeps A n H H := fun _ _ e _ => e
theorem Keeps.trans {A : PA} {n : Nat} {H H1 H2 : Hp} (a : Keeps A n H H1) (b : Keeps A n H1 H2) : Keeps A n H H2 := fun c o e f => b c o (a c o e f) f
theorem Keeps.same {A : PA} {n : Nat} {H H1 : Hp} (a : Same H H1) : Keeps A n H H1 := fun c o e _ => a c o e
section
variable {C : Addr} {n : Nat} {A : PA} {H H' : Hp} {fr : Nat → Nat} {ah : Nat → List Nat}
theorem Peb.same (P : Peb C n A H fr ah) (s : Same H H') : Peb C n A H' fr ah := ⟨s _ _ P.ins, s _ _ P.free, s _ _ P.ahead, fun v hv => s _ _ (P.each v hv), P.fa_aa, P.ad_fa, P.ad_aa, P.inj⟩
theorem Peb.p_off (P : Peb C n A H fr ah) : Off A n A.p := ⟨ne_of P.ins P.free (by intro z; cases z), fun v hv => ne_of P.ins (P.each v hv) (by intro z; cases z)⟩
theorem Peb.setFree (P : Peb C n A H fr ah) (j y : Nat) : Peb C n A (upd H A.fa (.lst (vf (fun v => V.int ((fset fr j y v : Nat) : Int)) n))) (fset fr j y) ah := by
  refine ⟨?_, upd_same, ?_, fun v hv => ?_, P.fa_aa, P.ad_fa, P.ad_aa, P.inj⟩
  · rw [upd_ne P.p_off.1]; exact P.ins
  · rw [upd_ne (Ne.symm P.fa_aa)]; exact P.ahead
  · rw [upd_ne (P.ad_fa v hv)]; exact P.each v hv
theorem Peb.setAhead (P : Peb C n A H fr ah) {j : Nat} (hj : j < n) (l : List Nat) : Peb C n A (upd H (A.ad j) (.lst (vi l))) fr (fset ah j l) := by
  refine ⟨?_, ?_, ?_, fun v hv => ?_, P.fa_aa, P.ad_fa, P.ad_aa, P.inj⟩
  · rw [upd_ne (P.p_off.2 j hj)]; exact P.ins
  · rw [upd_ne (Ne.symm (P.ad_fa j hj))]; exact P.free
  · rw [upd_ne (Ne.symm (P.ad_aa j hj))]; exact P.ahead
  · by_cases e : v = j
    · subst e
      rw [upd_same, fset_same]
    · rw [upd_ne (fun z => e (P.inj v j hv hj z)), fset_ne e]; exact P.each v hv
theorem Keeps.free {o : HO} : Keeps A n H (upd H A.fa o) := fun b _ e f => by rw [upd_ne f.1]; exact e
theorem Keeps.ahead {o : HO} {j : Nat} (hj : j < n) : Keeps A n H (upd H (A.ad j) o) := fun b _ e f => by rw [upd_ne (f.2 j hj)]; exact e
theorem vf_int (fr : Nat → Nat) (j y : Nat) : (vf (fun v => V.int (fr v : Int)) n).set j (V.int (y : Int)) = vf (fun v => V.int ((fset fr j y v : Nat) : Int)) n := by
  rw [vf_set]
  congr 1
  funext v
  by_cases e : v = j
  · subst e
    rw [fset_same, fset_same]
  · rw [fset_ne e, fset_ne e]
end
/-- the dict «before» -/
def kvs (rc : List Nat) (par : Nat → Nat) : List (Key × V) := rc.map fun (x : Nat) => ((Sum.inl (x : Int) : Key), V.int (par x : Int))
theorem kvs_in (par : Nat → Nat) : ∀ {rc : List Nat} {x : Nat}, x ∈ rc → valV (kvs rc par) (Sum.inl (x : Int)) = some (V.int (par x : Int))
  | [], x, h => by simp at h
  | a :: r, x, h => by
    by_cases e : a = x
    · subst e
      exact valV_pos rfl
    · have h' : x ∈ r := by
        rcases List.mem_cons.mp h with q | q
        · exact absurd q.symm e
        · exact q
      refine (valV_neg (fun z => e ?_)).trans (kvs_in par h')
      have := Sum.inl.inj z
      omega
theorem kvs_out (par : Nat → Nat) : ∀ {rc : List Nat} {x : Nat}, x ∉ rc → valV (kvs rc par) (Sum.inl (x : Int)) = none
  | [], x, h => rfl
  | a :: r, x, h => by
    refine (valV_neg (fun z => h ?_)).trans (kvs_out par fun m => h (List.mem_cons_of_mem _ m))
    have := Sum.inl.inj z
    have e : a = x := by omega
    exact e ▸ List.mem_cons_self ..
theorem kvs_len (rc : List Nat) (par : Nat → Nat) : (kvs rc par).length = rc.length := List.length_map _
theorem kvs_put {rc : List Nat} {par : Nat → Nat} {x y : Nat} (h : x ∉ rc) : putK (kvs rc par) (Sum.inl (x : Int)) (V.int (y : Int)) = kvs (rc ++ [x]) (fset par x y) := by
  rw [putK_new _ (kvs_out par h)]
  unfold kvs
  rw [List.map_append]
  congr 1
  · apply List.map_congr_left
    intro a ha
    rw [fset_ne (show a ≠ x from fun z => h (z ▸ ha))]
  · show [((Sum.inl (x : Int) : Key), V.int (y : Int))] = [((Sum.inl (x : Int) : Key), V.int ((fset par x y x : Nat) : Int))]
    rw [fset_same]
structure Txt (K : PySem.W.Frag) (mg : Str → Option Value) (C : Addr) : Prop where
  cl : Cls K C
  nF : NoAttr K C "free"
  nA : NoAttr K C "ahead"
  mgC : mg "Pebbles" = some (.ref C)
  mJ : ∃ t, mg "MOST_JOINTS" = some (.int 32 t)
  mB : ∃ t, mg "MOST_BARS" = some (.int 96 t)
  range : mg "range" = none
  len : mg "len" = none
  min : mg "min" = none
  max : mg "max" = none
section
variable {P : Program} {w : World} {K : PySem.W.Frag} {mg : Str → Option Value} {base : Heap}
/-! ### pass_on -/
def spPass (C : Addr) : Sp := fun vs H Q _ => ∃ (A : PA) (n : Nat) (E : List Sa84.Bar) (fr : Nat → Nat) (ah : Nat → List Nat) (g t : Nat) (rc : List Nat) (par : Nat → Nat) (D : Addr) (i : Nat),
  vs = [.ref A.p, .int (g : Int), .int (t : Int), .ref D] ∧ Peb C n A H fr ah ∧ Pb.PI n E fr ah g g ∧ BI n ah t rc par ∧ H D = some (.dK (kvs rc par)) ∧ rc[i]? = some g ∧ g ≠ t ∧ 0 < fr g ∧
  ∀ (H' : Hp) (ah' : Nat → List Nat), Peb C n A H' (fset (fset fr g (fr g - 1)) t (fr t + 1)) ah' → Pb.PI n E (fset (fset fr g (fr g - 1)) t (fr t + 1)) ah' t t → Keeps A n H H' → Q .non H'
theorem scP : FnScope ["self", "giver", "taker", "before", "here", "back"] ["self", "giver", "taker", "before"] (defScope sPass) := ⟨rfl, rfl, rfl, by decide +kernel, rfl, by decide +kernel, by decide +kernel⟩
theorem ok_pass {f C : Addr} {fd : FuncData} (F : Fun K "pass_on" "Pebbles.pass_on" sPass f fd) (T : Txt K mg C) : FnOk P w K mg base CX0 1 f fd ["self", "giver", "taker", "before"] (spPass C) := by
  refine F.ok scP (fun vs H Q E h => ?_) (fun cdv A outer s H vs Q E hr h => ?_)
  · obtain ⟨A, n, E, fr, ah, g, t, rc, par, D, i, rfl, _⟩ := h
    rfl
  · obtain ⟨A, n, E, fr, ah, g, t, rc, par, D, i0, rfl, P0, I0, B, hD, hg, ne, fg, k⟩ := h
    have hu := hu_of hr
    refine ⟨_, pss_cons (ps_set (i := 4) scP.nd rfl (Or.inl rfl) (pv 1))
      (pss_cons (ps_while PassesOwn.never (pt_cmp (pc_neI (pv 4) (pv 2)))
        (pss_cons (ps_set (i := 5) scP.nd rfl (Or.inl rfl) (pe_dget hu (pv 3) (pv 4) (fun _ _ => rfl)))
        (pss_cons (ps_expr (pe_bm PySem.F.plainAttrs_list PySem.F.slot_list_remove PySem.F.type_list_remove mt_remove (pe_ix ix_list (pe_fld (pv 0) rfl) (pv 5) (fun _ _ => rfl)) (pa_cons (pv 4) pa_nil)))
        (pss_cons (ps_expr (pe_bm PySem.F.plainAttrs_list PySem.F.slot_list_append PySem.F.type_list_append mt_append (pe_ix ix_list (pe_fld (pv 0) rfl) (pv 4) (fun _ _ => rfl)) (pa_cons (pv 5) pa_nil)))
        (pss_one (ps_set (i := 4) scP.nd rfl (Or.inl rfl) (pv 5)))))))
      (pss_cons (ps_augS (pe_fld (pv 0) rfl) (pv 1) get_list pe_int ip_sub set_list)
      (pss_one (ps_augS (pe_fld (pv 0) rfl) (pv 2) get_list pe_int ip_add set_list)))), ?_⟩
    have hgn : g < n := B.lt g (List.mem_of_getElem? hg)
    have htn : t < n := B.lt t (List.mem_of_getElem? B.hd)
    have nD : Off A n D := ⟨ne_of hD P0.free (by intro z; cases z), fun v hv => ne_of hD (P0.each v hv) (by intro z; cases z)⟩
    refine ⟨_, rfl, ?_⟩
    refine ⟨fun i σ H' => ∃ (here : Nat) (ah' : Nat → List Nat) (vb : Option V), σ = [some (.ref A.p), some (.int (g : Int)), some (.int (t : Int)), some (.ref D), some (.int (here : Int)), vb] ∧ rc[i]? = some here ∧
      Peb C n A H' fr ah' ∧ Pb.PI n E fr ah' g here ∧ (∀ i' x, i' ≤ i → 0 < i' → rc[i']? = some x → x ∈ ah' (par x)) ∧ Keeps A n H H', ⟨i0, g, ah, none, rfl, hg, P0, I0, fun i' x _ h1 h2 => (B.tree i' x h1 h2).1, Keeps.refl⟩, ?_⟩
    rintro i σ H1 ⟨here, ah1, vb, rfl, hi, P1, I1, tr, kp⟩
    have hhn : here < n := B.lt here (List.mem_of_getElem? hi)
    refine ⟨_, rfl, _, rfl, _, _, rfl, rfl, _, rfl, ite2 (fun hne => ?_) (fun hne => ?_)⟩
    · have hne : here ≠ t := by
        intro z
        subst z
        simp at hne
      have hi0 : 0 < i := by
        rcases Nat.eq_zero_or_pos i with z | z
        · subst z
          rw [B.hd] at hi
          exact absurd (Option.some.inj hi).symm hne
        · exact z
      obtain ⟨_, i', hi', hp⟩ := B.tree i here hi0 hi
      have hm := tr i here (Nat.le_refl _) hi0 hi
      have hbn : par here < n := B.lt _ (List.mem_of_getElem? hp)
      have nb : here ≠ par here := fun z => by
        rw [← z] at hp
        have := nd_ix B.nd hi hp
        omega
      refine ⟨fun σ' H' => ∃ m', m' < i ∧ ∃ (here : Nat) (ah' : Nat → List Nat) (vb : Option V), σ' = [some (.ref A.p), some (.int (g : Int)), some (.int (t : Int)), some (.ref D), some (.int (here : Int)), vb] ∧ rc[m']? = some here ∧
        Peb C n A H' fr ah' ∧ Pb.PI n E fr ah' g here ∧ (∀ i' x, i' ≤ m' → 0 < i' → rc[i']? = some x → x ∈ ah' (par x)) ∧ Keeps A n H H', fun σ' H' q => q, ?_⟩
      -- back = before[here]
      refine ⟨_, rfl, _, rfl, D, V.int (par here : Int), rfl, ?_, ?_⟩
      · have q := DGet.k (k := Sum.inl (here : Int)) (kp D _ hD nD)
        rw [kvs_in par (List.mem_of_getElem? hi)] at q
        exact q
      -- self.ahead[back].remove(here)
      have P2 := P1.setAhead hbn ((ah1 (par here)).erase here)
      have P3 := P2.setAhead hhn (ah1 here ++ [par here])
      refine ⟨_, rfl, A.p, C, A.dx, _, _, rfl, P1.ins, T.cl, T.nA, pf_ahead _ _, _, rfl, A.aa, _, _, _, rfl, rfl, SqL.of P1.ahead, vf_at rfl hbn, .inl ⟨rfl, _, SqL.of (P1.each _ hbn)⟩, _, rfl, A.ad (par here), ah1 (par here), here, rfl, rfl, P1.each _ hbn, hm, ?_⟩
      -- self.ahead[here].append(back)
      have eh : fset ah1 (par here) ((ah1 (par here)).erase here) here = ah1 here := fset_ne nb
      have q3 := P2.each here hhn
      rw [eh] at q3
      refine ⟨_, rfl, A.p, C, A.dx, _, _, rfl, P2.ins, T.cl, T.nA, pf_ahead _ _, _, rfl, A.aa, _, _, _, rfl, rfl, SqL.of P2.ahead, vf_at rfl hhn, .inl ⟨rfl, _, SqL.of q3⟩, _, rfl, A.ad here, _, _, rfl, rfl, q3, ?_, ?_⟩
      · rw [vi_len]
        refine small1000 ?_
        have := I1.bal here hhn
        rw [if_pos rfl] at this
        split at this <;> omega
      -- here = back
      refine ⟨_, rfl, i', hi', par here, _, _, rfl, hp, ?_, I1.flip hhn hbn nb hm, fun i2 x h1 h2 h3 => ?_, (kp.trans (Keeps.ahead hbn)).trans (Keeps.ahead hhn)⟩
      · have e : vi (ah1 here ++ [par here]) = vi (ah1 here) ++ [V.int (par here : Int)] := vi_append _ _
        rw [e] at P3
        exact P3
      · have h4 := tr i2 x (by omega) h2 h3
        obtain ⟨_, i3, h5, h6⟩ := B.tree i2 x h2 h3
        have n1 : par x ≠ here := fun z => by
          rw [z] at h6
          have := nd_ix B.nd hi h6
          omega
        rw [fset_ne n1]
        by_cases e : par x = par here
        · rw [e, fset_same]
          rw [e] at h4
          refine (List.mem_erase_of_ne fun z => ?_).mpr h4
          subst z
          have := nd_ix B.nd hi h3
          omega
        · rw [fset_ne e]
          exact h4
    · have he : here = t := by
        by_cases z : here = t
        · exact z
        · exact absurd (by simp; omega) hne
      subst he
      -- self.free[giver] -= 1
      have P2 := P1.setFree g (fr g - 1)
      have P3 := P2.setFree here (fset fr g (fr g - 1) here + 1)
      have e1 : fset fr g (fr g - 1) here = fr here := fset_ne (Ne.symm ne)
      rw [e1] at P3
      refine ⟨_, rfl, A.p, C, A.dx, _, _, rfl, P1.ins, T.cl, T.nF, pf_free _ _, _, rfl, A.fa, _, _, _, rfl, rfl, SqL.of P1.free, vf_at rfl hgn, _, _, rfl, rfl, A.fa, _, _, _, rfl, rfl, P1.free, (by rw [vf_len]; exact ixN_nat hgn), ?_⟩
      have e2 : ((fr g : Nat) : Int) - 1 = ((fr g - 1 : Nat) : Int) := by omega
      dsimp only
      rw [e2, vf_int]
      refine ⟨_, rfl, A.p, C, A.dx, _, _, rfl, P2.ins, T.cl, T.nF, pf_free _ _, _, rfl, A.fa, _, _, _, rfl, rfl, SqL.of P2.free, vf_at rfl htn, _, _, rfl, rfl, A.fa, _, _, _, rfl, rfl, P2.free, (by rw [vf_len]; exact ixN_nat htn), ?_⟩
      have e3 : ((fr here : Nat) : Int) + 1 = ((fr here + 1 : Nat) : Int) := by omega
      dsimp only
      rw [e1, e3, vf_int]
      exact k _ ah1 P3 (I1.passed ne fg) ((kp.trans Keeps.free).trans Keeps.free)
end
end Bf

set_option Elab.async false
set_option linter.all false
set_option maxRecDepth 100000
set_option maxHeartbeats 2000000
namespace Bf
open PySem PySem.Spec PyProof.Rows L2 Pb
theorem via {A B : Prop} (f : A → B) (a : A) : B := f a
theorem same_new {H H1 : Hp} {p : Addr} {o : HO} (s : Same H H1) (h : H1 p = Option.none) : Same H (upd H1 p o) := fun b u e => by
  rw [upd_ne (ne_of_none (s b u e) h)]
  exact s b u e
theorem same_upd {H H1 : Hp} {p : Addr} {o : HO} (s : Same H H1) (h : H p = Option.none) : Same H (upd H1 p o) := fun b u e => by
  rw [upd_ne (ne_of_none e h)]
  exact s b u e
section
variable {P : Program} {w : World} {K : PySem.W.Frag} {mg : Str → Option Value} {base : Heap}
/-! ### draw -/
def spDraw (C : Addr) : Sp := fun vs H Q _ => ∃ (A : PA) (n : Nat) (E : List Sa84.Bar) (fr : Nat → Nat) (ah : Nat → List Nat) (j h : Nat),
  vs = [.ref A.p, .int (j : Int), .int (h : Int)] ∧ Peb C n A H fr ah ∧ Pb.PI n E fr ah j j ∧ n ≤ 32 ∧ j < n ∧ j ≠ h ∧
  (∀ (H' : Hp) (fr' : Nat → Nat) (ah' : Nat → List Nat), Peb C n A H' fr' ah' → Pb.PI n E fr' ah' j j → fr' j = fr j + 1 → fr' h = fr h → Keeps A n H H' → Q (.bl true) H') ∧
  (∀ (H' : Hp) (R : Nat → Bool), Peb C n A H' fr ah → R j = true → (∀ x, x < n → R x = true → ∀ y, y ∈ ah x → R y = true) → (∀ x, x < n → R x = true → x ≠ j → x ≠ h → fr x = 0) → Same H H' → Q (.bl false) H')
theorem scD : FnScope ["self", "joint", "held", "before", "reached", "k", "here", "far"] ["self", "joint", "held"] (defScope sDraw) := ⟨rfl, rfl, rfl, by decide +kernel, rfl, by decide +kernel, by decide +kernel⟩
theorem ok_draw {f C fP : Addr} {fd fdP : FuncData} (F : Fun K "draw" "Pebbles.draw" sDraw f fd) (T : Txt K mg C) (FP : Fun K "pass_on" "Pebbles.pass_on" sPass fP fdP) (bP : Binds K fdP ["self", "giver", "taker", "before"] []) (mP : Meth K C "pass_on" fP) :
    FnOk P w K mg base CX0 2 f fd ["self", "joint", "held"] (spDraw C) := by
  have GP : FnOk P w K mg base CX0 1 fP fdP ["self", "giver", "taker", "before"] (spPass C) := ok_pass FP T
  refine F.ok scD (fun vs H Q E h => ?_) (fun cdv A outer s H vs Q E hr h => ?_)
  · obtain ⟨A, n, E, fr, ah, j, h, rfl, _⟩ := h
    rfl
  · obtain ⟨A, n, E, fr, ah, j, h, rfl, P0, I0, hn, hj, njh, kT, kF⟩ := h
    have hu := hu_of hr
    refine ⟨_, pss_cons (ps_set (i := 3) scD.nd rfl (Or.inl rfl) (pe_disp (pps_cons (pv 1) (pv 1) pps_nil) rfl rfl (by simp) (by decide)))
      (pss_cons (ps_set (i := 4) scD.nd rfl (Or.inl rfl) (pe_lst (pa_cons (pv 1) pa_nil)))
      (pss_cons (ps_set (i := 5) scD.nd rfl (Or.inl rfl) pe_int)
      (pss_cons (ps_while PassesOwn.never (pt_cmp (pc_lt (pv 5) (pe_callB call_len_seq (by rfl) T.len PySem.boot_len (pa_cons (pv 4) pa_nil))))
        (pss_cons (ps_set (i := 6) scD.nd rfl (Or.inl rfl) (pe_ix ix_list (pv 4) (pv 5) (fun _ _ => rfl)))
        (pss_cons (ps_if (PW.pt (pw_and (pt_cmp (pc_neI (pv 6) (pv 1))) (pw_and (pt_cmp (pc_neI (pv 6) (pv 2))) (pw_and1 (pt_cmp (pc_gt (pe_ix ix_list (pe_fld (pv 0) rfl) (pv 6) (fun _ _ => rfl)) pe_int))))))
          (pss_cons (ps_expr (pe_meth (pv 0) T.cl mP GP hr bP .nil pass0 (pa_cons (pv 6) (pa_cons (pv 1) (pa_cons (pv 3) pa_nil))))) (pss_one (ps_ret pe_bl)))
          pss_nil)
        (pss_cons (ps_for PassesOwn.never rfl (pi_list (pe_ix ix_list (pe_fld (pv 0) rfl) (pv 6) (fun _ _ => rfl))) (pg_name (i := 7) scD.nd rfl (Or.inl rfl))
          (pss_one (ps_if (pt_cmp (pc_dnotin hu (pv 7) (pv 3)))
            (pss_cons (ps_dput hu (pv 3) (pv 7) (pv 6) rfl) (pss_one (ps_expr (pe_bm PySem.F.plainAttrs_list PySem.F.slot_list_append PySem.F.type_list_append mt_append (pv 4) (pa_cons (pv 7) pa_nil)))))
            pss_nil)))
        (pss_one (ps_aug (i := 5) scD.nd rfl (Or.inl rfl) pe_int ip_add))))))
      (pss_one (ps_ret pe_bl))))), ?_⟩
    -- before = {joint: joint}
    intro D hD
    refine ⟨_, rfl, _, rfl, upd_same, [((Sum.inl (j : Int) : Key), V.int (j : Int))], rfl, (by show 1 ≤ 15; decide), ?_⟩
    -- reached = [joint]
    refine ⟨_, rfl, (by show 1 ≤ sizeLine; decide), fun L hL => ?_⟩
    have nLD : L ≠ D := fun z => by
      rw [z, upd_same] at hL
      cases hL
    have hL0 : H L = Option.none := by
      rw [upd_ne nLD, upd_ne nLD] at hL
      exact hL
    have s0 : Same H (upd (upd (upd H D (.dK [])) D (.dK (mergeK [] [((Sum.inl (j : Int) : Key), V.int (j : Int))]))) L (.lst [V.int (j : Int)])) := same_upd (same_upd (same_upd (Same.refl H) hD) hD) hL0
    -- while
    refine ⟨fun m σ H' => ∃ (k : Nat) (rc : List Nat) (par : Nat → Nat) (v6 v7 : Option V), m + k = n ∧ σ = [some (.ref A.p), some (.int (j : Int)), some (.int (h : Int)), some (.ref D), some (.ref L), some (.int (k : Int)), v6, v7] ∧
      BI n ah j rc par ∧ H' D = some (.dK (kvs rc par)) ∧ H' L = some (.lst (vi rc)) ∧ Same H H' ∧ k ≤ rc.length ∧
      (∀ i x, i < k → rc[i]? = some x → (∀ y, y ∈ ah x → y ∈ rc) ∧ (x ≠ j → x ≠ h → fr x = 0)), ⟨n, 0, [j], fun _ => j, none, none, rfl, rfl, BI.start hj, ?_, upd_same, s0, Nat.zero_le _, fun i x hi => absurd hi (by omega)⟩, ?_⟩
    · rw [upd_ne (Ne.symm nLD), upd_same]
      rfl
    rintro m σ H1 ⟨k, rc, par, v6, v7, hm, rfl, B, hD1, hL1, s1, hk, cl⟩
    have P1 := P0.same s1
    have hle : rc.length ≤ n := len_le B.nd B.lt
    refine ⟨_, rfl, _, rfl, L, _, rfl, .inl (SqL.of hL1), _, _, rfl, rfl, _, rfl, ite2 (fun hlt => ?_) (fun hlt => ?_)⟩
    · have hlt : k < rc.length := by
        have := of_decide_eq_true hlt
        rw [vi_len] at this
        omega
      obtain ⟨here, hh⟩ : ∃ here, rc[k]? = some here := ⟨_, List.getElem?_eq_getElem hlt⟩
      have hhn : here < n := B.lt _ (List.mem_of_getElem? hh)
      refine ⟨fun σ' H' => ∃ m', m' < m ∧ ∃ (k : Nat) (rc : List Nat) (par : Nat → Nat) (v6 v7 : Option V), m' + k = n ∧ σ' = [some (.ref A.p), some (.int (j : Int)), some (.int (h : Int)), some (.ref D), some (.ref L), some (.int (k : Int)), v6, v7] ∧
        BI n ah j rc par ∧ H' D = some (.dK (kvs rc par)) ∧ H' L = some (.lst (vi rc)) ∧ Same H H' ∧ k ≤ rc.length ∧
        (∀ i x, i < k → rc[i]? = some x → (∀ y, y ∈ ah x → y ∈ rc) ∧ (x ≠ j → x ≠ h → fr x = 0)), fun σ' H' q => q, ?_⟩
      -- here = reached[k]
      refine ⟨_, rfl, _, rfl, L, _, _, _, rfl, rfl, SqL.of hL1, at_of rfl (vi_get hh), ?_⟩
      refine via (fun go => ⟨_, rfl, _, rfl, _, _, rfl, rfl, _, rfl, ite2 (fun h1 => ⟨_, rfl, _, rfl, _, _, rfl, rfl, _, rfl, ite2 (fun h2 => ⟨_, rfl, A.p, C, A.dx, _, _, rfl, P1.ins, T.cl, T.nF, pf_free _ _, _, rfl, A.fa, _, _, _, rfl, rfl, SqL.of P1.free, vf_at rfl hhn, _, _, rfl, rfl, _, rfl,
        ite2 (fun h3 => ?_) (fun h3 => go (fun a b => ?_))⟩)
        (fun h2 => iteF (go (fun a b => ?_)))⟩) (fun h1 => iteF (go (fun a b => ?_)))⟩) (A := (here ≠ j → here ≠ h → fr here = 0) → _) (fun hz => ?_)
      · -- self.pass_on(here, joint, before)
        have g1 : here ≠ j := fun z => by
          subst z
          simp at h1
        have g2 : here ≠ h := fun z => by
          subst z
          simp at h2
        have g3 : 0 < fr here := by
          have := of_decide_eq_true h3
          omega
        refine ⟨_, rfl, A.p, A.dx, _, rfl, P1.ins, pf_no _ _ (by decide) (by decide), _, rfl, _, rfl, _, rfl, A, n, E, fr, ah, here, j, rc, par, D, k, rfl, P1, I0.any _, B, hD1, hh, g1, g3, fun H2 ah2 P2 I2 kp => ?_⟩
        refine kT H2 _ ah2 P2 I2 fset_same ?_ ((Keeps.same s1).trans kp)
        rw [fset_ne (Ne.symm njh), fset_ne (Ne.symm g2)]
      · exact Nat.eq_zero_of_not_pos fun z => h3 (decide_eq_true (show (0 : Int) < (fr here : Int) by omega))
      · exact absurd (by simp; omega) h2
      · exact absurd (by simp; omega) h1
      · -- for far in self.ahead[here]
        refine ⟨_, rfl, A.p, C, A.dx, _, _, rfl, P1.ins, T.cl, T.nA, pf_ahead _ _, _, rfl, A.aa, _, _, _, rfl, rfl, SqL.of P1.ahead, vf_at rfl hhn, A.ad here, rfl, ⟨_, SqL.of (P1.each _ hhn)⟩,
          for_list (K := K) (a := A.ad here) (xs := vi (ah here)) (fun i σ H' => ∃ (rc' : List Nat) (par' : Nat → Nat) (v7 : Option V), σ = [some (.ref A.p), some (.int (j : Int)), some (.int (h : Int)), some (.ref D), some (.ref L), some (.int (k : Int)), some (.int (here : Int)), v7] ∧
            BI n ah j rc' par' ∧ H' D = some (.dK (kvs rc' par')) ∧ H' L = some (.lst (vi rc')) ∧ Same H H' ∧ (∃ more, rc' = rc ++ more) ∧ (∀ y, y ∈ (ah here).take i → y ∈ rc'))
            ⟨rc, par, v7, rfl, B, hD1, hL1, s1, ⟨[], by simp⟩, fun y hy => by simp at hy⟩ (fun i σ H' _ q => ?_) ?_ ?_⟩
        · obtain ⟨_, _, _, _, _, _, _, s2, _⟩ := q
          exact SqL.of ((P0.same s2).each _ hhn)
        · rintro i y σ H2 hi ⟨rc', par', v7', rfl, B2, hD2, hL2, s2, ⟨more, hmore⟩, cl2⟩
          obtain ⟨far, hf, rfl⟩ := of_vi_get hi
          have hfm : far ∈ ah here := List.mem_of_getElem? hf
          have htk : ∀ y, y ∈ (ah here).take (i + 1) → y ∈ (ah here).take i ∨ y = far := fun y hy => by
            rw [List.take_add_one, hf] at hy
            rcases List.mem_append.mp hy with q | q
            · exact .inl q
            · exact .inr (by simpa using q)
          have hh2 : rc'[k]? = some here := by
            rw [hmore, List.getElem?_append_left hlt]
            exact hh
          have le2 : rc'.length ≤ n := len_le B2.nd B2.lt
          by_cases hin : far ∈ rc'
          · refine ⟨_, rfl, _, rfl, D, _, rfl, DGet.k (k := Sum.inl (far : Int)) hD2, _, rfl, ?_⟩
            rw [kvs_in par' hin]
            refine iteF ⟨rc', par', _, rfl, B2, hD2, hL2, s2, ⟨more, hmore⟩, fun y hy => ?_⟩
            rcases htk y hy with q | q
            · exact cl2 y q
            · rw [q]; exact hin
          · refine ⟨_, rfl, _, rfl, D, _, rfl, DGet.k (k := Sum.inl (far : Int)) hD2, _, rfl, ?_⟩
            rw [kvs_out par' hin]
            refine iteT ⟨_, rfl, _, rfl, _, rfl, D, _, rfl, DPut.k (k := Sum.inl (far : Int)) hD2 (by rw [kvs_len]; exact small1000 (by omega)), ?_⟩
            have hL3 : (upd H2 D (.dK (putK (kvs rc' par') (Sum.inl (far : Int)) (V.int (here : Int))))) L = some (.lst (vi rc')) := by
              rw [upd_ne nLD]; exact hL2
            refine ⟨_, rfl, .inl ⟨rfl, _, SqL.of hL3⟩, _, rfl, L, _, _, rfl, rfl, hL3, (by rw [vi_len]; exact small1000 (by omega)), ?_⟩
            refine ⟨rc' ++ [far], fset par' far here, _, rfl, B2.more hh2 hfm (I0.lt here hhn far hfm) hin, ?_, ?_, same_upd (same_upd s2 hD) hL0, ⟨more ++ [far], by rw [hmore, List.append_assoc]⟩, fun y hy => ?_⟩
            · rw [upd_ne (Ne.symm nLD), upd_same, kvs_put hin]
            · rw [upd_same, vi_append]
              rfl
            · rcases htk y hy with q | q
              · exact List.mem_append_left _ (cl2 y q)
              · rw [q]; exact List.mem_append_right _ (List.mem_singleton.mpr rfl)
        · rintro σ H2 ⟨rc', par', v7', rfl, B2, hD2, hL2, s2, ⟨more, hmore⟩, cl2⟩
          rw [vi_len, List.take_length] at cl2
          -- k += 1
          refine ⟨_, rfl, _, _, rfl, rfl, m - 1, (by omega), k + 1, rc', par', _, _, (by omega), rfl, B2, hD2, hL2, s2, ?_, fun i x hi hx => ?_⟩
          · rw [hmore, List.length_append]; omega
          · by_cases e : i = k
            · subst e
              rw [hmore, List.getElem?_append_left hlt, hh] at hx
              cases hx
              exact ⟨cl2, hz⟩
            · have hik : i < k := by omega
              rw [hmore, List.getElem?_append_left (by omega)] at hx
              obtain ⟨c1, c2⟩ := cl i x hik hx
              exact ⟨fun y hy => by rw [hmore]; exact List.mem_append_left _ (c1 y hy), c2⟩
    · have hge : rc.length ≤ k := by
        refine Nat.le_of_not_lt fun z => hlt (decide_eq_true ?_)
        show (k : Int) < ((vi rc).length : Int)
        rw [vi_len]
        omega
      refine kF H1 (fun x => decide (x ∈ rc)) P1 (decide_eq_true (List.mem_of_getElem? B.hd)) (fun x hx hr y hy => ?_) (fun x hx hr n1 n2 => ?_) s1
      · obtain ⟨i, hi, e⟩ := List.getElem_of_mem (of_decide_eq_true hr)
        exact decide_eq_true ((cl i x (by omega) (by rw [List.getElem?_eq_getElem hi, e])).1 y hy)
      · obtain ⟨i, hi, e⟩ := List.getElem_of_mem (of_decide_eq_true hr)
        exact (cl i x (by omega) (by rw [List.getElem?_eq_getElem hi, e])).2 n1 n2
end
end Bf

set_option Elab.async false
set_option linter.all false
set_option maxRecDepth 100000
set_option maxHeartbeats 2000000
namespace Bf
open PySem PySem.Spec PyProof.Rows L2 Pb
section
variable {P : Program} {w : World} {K : PySem.W.Frag} {mg : Str → Option Value} {base : Heap}
/-! ### gather -/
def spGather (C : Addr) : Sp := fun vs H Q _ => ∃ (A : PA) (n : Nat) (E : List Sa84.Bar) (fr : Nat → Nat) (ah : Nat → List Nat) (j h : Nat),
  vs = [.ref A.p, .int (j : Int), .int (h : Int)] ∧ Peb C n A H fr ah ∧ Pb.PI n E fr ah j j ∧ n ≤ 32 ∧ j < n ∧ j ≠ h ∧
  (∀ (H' : Hp) (fr' : Nat → Nat) (ah' : Nat → List Nat), Peb C n A H' fr' ah' → Pb.PI n E fr' ah' j j → fr' j = 2 → fr' h = fr h → Keeps A n H H' → Q (.bl true) H') ∧
  (∀ (H' : Hp) (fr' : Nat → Nat) (ah' : Nat → List Nat) (R : Nat → Bool), Peb C n A H' fr' ah' → Pb.PI n E fr' ah' j j → fr' j ≤ 1 → R j = true → (∀ x, x < n → R x = true → ∀ y, y ∈ ah' x → R y = true) →
    (∀ x, x < n → R x = true → x ≠ j → x ≠ h → fr' x = 0) → Keeps A n H H' → Q (.bl false) H')
theorem scG : FnScope ["self", "joint", "held"] ["self", "joint", "held"] (defScope sGather) := ⟨rfl, rfl, rfl, by decide +kernel, rfl, by decide +kernel, by decide +kernel⟩
theorem ok_gather {f C fD : Addr} {fd fdD : FuncData} (F : Fun K "gather" "Pebbles.gather" sGather f fd) (T : Txt K mg C) (GD : FnOk P w K mg base CX0 2 fD fdD ["self", "joint", "held"] (spDraw C)) (bD : Binds K fdD ["self", "joint", "held"] []) (mD : Meth K C "draw" fD) :
    FnOk P w K mg base CX0 3 f fd ["self", "joint", "held"] (spGather C) := by
  refine F.ok scG (fun vs H Q E h => ?_) (fun cdv A outer s H vs Q E hr h => ?_)
  · obtain ⟨A, n, E, fr, ah, j, h, rfl, _⟩ := h
    rfl
  · obtain ⟨A, n, E, fr, ah, j, h, rfl, P0, I0, hn, hj, njh, kT, kF⟩ := h
    refine ⟨_, pss_cons (ps_while PassesOwn.never (pt_cmp (pc_lt (pe_ix ix_list (pe_fld (pv 0) rfl) (pv 1) (fun _ _ => rfl)) pe_int))
        (pss_one (ps_if (pt_not (pt_val (pe_meth (pv 0) T.cl mD GD hr bD .nil pass0 (pa_cons (pv 1) (pa_cons (pv 2) pa_nil))))) (pss_one (ps_ret pe_bl)) pss_nil)))
      (pss_one (ps_ret pe_bl)), ?_⟩
    refine ⟨fun m σ H' => ∃ (fr' : Nat → Nat) (ah' : Nat → List Nat), m + fr' j = 2 ∧ σ = [some (.ref A.p), some (.int (j : Int)), some (.int (h : Int))] ∧ Peb C n A H' fr' ah' ∧ Pb.PI n E fr' ah' j j ∧ fr' h = fr h ∧ Keeps A n H H',
      ⟨2 - fr j, fr, ah, by have := I0.bal0 hj; omega, rfl, P0, I0, rfl, Keeps.refl⟩, ?_⟩
    rintro m σ H1 ⟨fr1, ah1, hm, rfl, P1, I1, e1, kp⟩
    refine ⟨_, rfl, A.p, C, A.dx, _, _, rfl, P1.ins, T.cl, T.nF, pf_free _ _, _, rfl, A.fa, _, _, _, rfl, rfl, SqL.of P1.free, vf_at rfl hj, _, _, rfl, rfl, _, rfl, ite2 (fun hlt => ?_) (fun hlt => ?_)⟩
    · have hlt : fr1 j < 2 := by
        have := of_decide_eq_true hlt
        omega
      refine ⟨fun σ' H' => ∃ m', m' < m ∧ ∃ (fr' : Nat → Nat) (ah' : Nat → List Nat), m' + fr' j = 2 ∧ σ' = [some (.ref A.p), some (.int (j : Int)), some (.int (h : Int))] ∧ Peb C n A H' fr' ah' ∧ Pb.PI n E fr' ah' j j ∧ fr' h = fr h ∧ Keeps A n H H', fun σ' H' q => q, ?_⟩
      refine ⟨_, rfl, A.p, A.dx, _, rfl, P1.ins, pf_no _ _ (by decide) (by decide), _, rfl, _, rfl, A, n, E, fr1, ah1, j, h, rfl, P1, I1, hn, hj, njh, fun H2 fr2 ah2 P2 I2 e2 e3 k2 => ?_, fun H2 R P2 rj cl z s2 => ?_⟩
      · exact ⟨_, rfl, iteF ⟨m - 1, by omega, fr2, ah2, by omega, rfl, P2, I2, e3.trans e1, kp.trans k2⟩⟩
      · exact ⟨_, rfl, iteT (kF H2 fr1 ah1 R P2 I1 (by omega) rj cl z (kp.trans (Keeps.same s2)))⟩
    · have hge : fr1 j = 2 := by
        have h1 := I1.bal0 hj
        have h2 : ¬ fr1 j < 2 := fun z => hlt (decide_eq_true (show ((fr1 j : Nat) : Int) < 2 by omega))
        omega
      exact kT H1 fr1 ah1 P1 I1 hge e1 kp
/-! ### allows -/
def spAllows (C : Addr) : Sp := fun vs H Q _ => ∃ (A : PA) (n : Nat) (E : List Sa84.Bar) (fr : Nat → Nat) (ah : Nat → List Nat) (u v : Nat),
  vs = [.ref A.p, .int (u : Int), .int (v : Int)] ∧ Peb C n A H fr ah ∧ Pb.PI n E fr ah 0 0 ∧ Good n E ∧ n ≤ 32 ∧ u < n ∧ v < n ∧ u ≠ v ∧
  (∀ (H' : Hp) (fr' : Nat → Nat) (ah' : Nat → List Nat), Peb C n A H' fr' ah' → Pb.PI n E fr' ah' 0 0 → fr' u = 2 → fr' v = 2 → Good n (E ++ [(u, v)]) → Keeps A n H H' → Q (.bl true) H') ∧
  (∀ (H' : Hp) (fr' : Nat → Nat) (ah' : Nat → List Nat), Peb C n A H' fr' ah' → Pb.PI n E fr' ah' 0 0 → ¬ Good n (E ++ [(u, v)]) → Keeps A n H H' → Q (.bl false) H')
theorem scA : FnScope ["self", "u", "v"] ["self", "u", "v"] (defScope sAllows) := ⟨rfl, rfl, rfl, by decide +kernel, rfl, by decide +kernel, by decide +kernel⟩
theorem ok_allows {f C fG : Addr} {fd fdG : FuncData} (F : Fun K "allows" "Pebbles.allows" sAllows f fd) (T : Txt K mg C) (GG : FnOk P w K mg base CX0 3 fG fdG ["self", "joint", "held"] (spGather C)) (bG : Binds K fdG ["self", "joint", "held"] []) (mG : Meth K C "gather" fG) :
    FnOk P w K mg base CX0 4 f fd ["self", "u", "v"] (spAllows C) := by
  refine F.ok scA (fun vs H Q E h => ?_) (fun cdv A outer s H vs Q E hr h => ?_)
  · obtain ⟨A, n, E, fr, ah, j, h, rfl, _⟩ := h
    rfl
  · obtain ⟨A, n, E, fr, ah, u, v, rfl, P0, I0, ok, hn, hu, hv, ne, kT, kF⟩ := h
    refine ⟨_, pss_one (ps_ret (pe_and (pe_meth (pv 0) T.cl mG GG hr bG .nil pass0 (pa_cons (pv 1) (pa_cons (pv 2) pa_nil))) (pe_one (pe_meth (pv 0) T.cl mG GG hr bG .nil pass0 (pa_cons (pv 2) (pa_cons (pv 1) pa_nil)))))), ?_⟩
    refine ⟨_, rfl, A.p, A.dx, _, rfl, P0.ins, pf_no _ _ (by decide) (by decide), _, rfl, _, rfl, A, n, E, fr, ah, u, v, rfl, P0, I0.any _, hn, hu, ne, fun H1 fr1 ah1 P1 I1 e1 e2 k1 => ?_, fun H1 fr1 ah1 R P1 I1 e1 ru cl z k1 => ?_⟩
    · refine ⟨_, rfl, iteT ?_⟩
      refine ⟨_, rfl, A.p, A.dx, _, rfl, P1.ins, pf_no _ _ (by decide) (by decide), _, rfl, _, rfl, A, n, E, fr1, ah1, v, u, rfl, P1, I1.any _, hn, hv, Ne.symm ne, fun H2 fr2 ah2 P2 I2 e3 e4 k2 => ?_, fun H2 fr2 ah2 R P2 I2 e3 rv cl z k2 => ?_⟩
      · exact kT H2 fr2 ah2 P2 (I2.any _) (e4.trans e1) e3 (I2.allow ok hu hv ne (e4.trans e1) e3) (k1.trans k2)
      · exact kF H2 fr2 ah2 P2 (I2.any _) (I2.deny ok hv hu (Ne.symm ne) R rv cl e3 z (.inr rfl)) (k1.trans k2)
    · exact ⟨_, rfl, iteF (kF H1 fr1 ah1 P1 (I1.any _) (I1.deny ok hu hv ne R ru cl e1 z (.inl rfl)) k1)⟩
/-! ### lay -/
def spLay (C : Addr) : Sp := fun vs H Q _ => ∃ (A : PA) (n : Nat) (E : List Sa84.Bar) (fr : Nat → Nat) (ah : Nat → List Nat) (u v : Nat),
  vs = [.ref A.p, .int (u : Int), .int (v : Int)] ∧ Peb C n A H fr ah ∧ Pb.PI n E fr ah 0 0 ∧ Good n E ∧ n ≤ 32 ∧ u < n ∧ v < n ∧ u ≠ v ∧
  (∀ (H' : Hp) (fr' : Nat → Nat) (ah' : Nat → List Nat), Peb C n A H' fr' ah' → Pb.PI n (E ++ [(u, v)]) fr' ah' 0 0 → Good n (E ++ [(u, v)]) → Keeps A n H H' → Q (.bl true) H') ∧
  (∀ (H' : Hp) (fr' : Nat → Nat) (ah' : Nat → List Nat), Peb C n A H' fr' ah' → Pb.PI n E fr' ah' 0 0 → ¬ Good n (E ++ [(u, v)]) → Keeps A n H H' → Q (.bl false) H')
theorem scL : FnScope ["self", "u", "v"] ["self", "u", "v"] (defScope sLay) := ⟨rfl, rfl, rfl, by decide +kernel, rfl, by decide +kernel, by decide +kernel⟩
theorem ok_lay {f C fA : Addr} {fd fdA : FuncData} (F : Fun K "lay" "Pebbles.lay" sLay f fd) (T : Txt K mg C) (GA : FnOk P w K mg base CX0 4 fA fdA ["self", "u", "v"] (spAllows C)) (bA : Binds K fdA ["self", "u", "v"] []) (mA : Meth K C "allows" fA) :
    FnOk P w K mg base CX0 5 f fd ["self", "u", "v"] (spLay C) := by
  refine F.ok scL (fun vs H Q E h => ?_) (fun cdv A outer s H vs Q E hr h => ?_)
  · obtain ⟨A, n, E, fr, ah, j, h, rfl, _⟩ := h
    rfl
  · obtain ⟨A, n, E, fr, ah, u, v, rfl, P0, I0, ok, hn, hu, hv, ne, kT, kF⟩ := h
    refine ⟨_, pss_cons (ps_if (pt_not (pt_val (pe_meth (pv 0) T.cl mA GA hr bA .nil pass0 (pa_cons (pv 1) (pa_cons (pv 2) pa_nil))))) (pss_one (ps_ret pe_bl)) pss_nil)
      (pss_cons (ps_augS (pe_fld (pv 0) rfl) (pv 1) get_list pe_int ip_sub set_list)
      (pss_cons (ps_expr (pe_bm PySem.F.plainAttrs_list PySem.F.slot_list_append PySem.F.type_list_append mt_append (pe_ix ix_list (pe_fld (pv 0) rfl) (pv 1) (fun _ _ => rfl)) (pa_cons (pv 2) pa_nil)))
      (pss_one (ps_ret pe_bl)))), ?_⟩
    refine ⟨_, rfl, A.p, A.dx, _, rfl, P0.ins, pf_no _ _ (by decide) (by decide), _, rfl, _, rfl, A, n, E, fr, ah, u, v, rfl, P0, I0, ok, hn, hu, hv, ne, fun H1 fr1 ah1 P1 I1 e1 e2 g k1 => ?_, fun H1 fr1 ah1 P1 I1 g k1 => ?_⟩
    · refine ⟨_, rfl, iteF ?_⟩
      have P2 := P1.setFree u (fr1 u - 1)
      have P3 := P2.setAhead hu (ah1 u ++ [v])
      refine ⟨_, rfl, A.p, C, A.dx, _, _, rfl, P1.ins, T.cl, T.nF, pf_free _ _, _, rfl, A.fa, _, _, _, rfl, rfl, SqL.of P1.free, vf_at rfl hu, _, _, rfl, rfl, A.fa, _, _, _, rfl, rfl, P1.free, (by rw [vf_len]; exact ixN_nat hu), ?_⟩
      have e2 : ((fr1 u : Nat) : Int) - 1 = ((fr1 u - 1 : Nat) : Int) := by omega
      dsimp only
      rw [e2, vf_int]
      refine ⟨_, rfl, A.p, C, A.dx, _, _, rfl, P2.ins, T.cl, T.nA, pf_ahead _ _, _, rfl, A.aa, _, _, _, rfl, rfl, SqL.of P2.ahead, vf_at rfl hu, .inl ⟨rfl, _, SqL.of (P2.each _ hu)⟩, _, rfl, A.ad u, _, _, rfl, rfl, P2.each _ hu, ?_, ?_⟩
      · rw [vi_len]
        refine small1000 ?_
        have := I1.bal0 hu
        omega
      · have e : vi (ah1 u ++ [v]) = vi (ah1 u) ++ [V.int (v : Int)] := vi_append _ _
        rw [e] at P3
        exact kT _ _ _ P3 (I1.lay hu hv (by omega)) g ((k1.trans Keeps.free).trans (Keeps.ahead hu))
    · exact ⟨_, rfl, iteT (kF H1 fr1 ah1 P1 I1 g k1)⟩
/-! ### __init__ -/
def spInit (C : Addr) : Sp := fun vs H Q _ => ∃ (p dx : Addr) (n : Nat), vs = [.ref p, .int (n : Int)] ∧ H p = some (.ins C dx []) ∧ n ≤ 32 ∧
  ∀ (H' : Hp) (A : PA), A.p = p → Peb C n A H' (fun _ => 2) (fun _ => []) → (∀ b o, H b = some o → b ≠ p → H' b = some o) → (∀ b o, H b = some o → b ≠ p → Off A n b) → Q .non H'
theorem scI : FnScope ["self", "n", "joint"] ["self", "n"] (defScope sInit) := ⟨rfl, rfl, rfl, by decide +kernel, rfl, by decide +kernel, by decide +kernel⟩
theorem ok_init {f C : Addr} {fd : FuncData} (F : Fun K "__init__" "Pebbles.__init__" sInit f fd) (T : Txt K mg C) : FnOk P w K mg base CX0 1 f fd ["self", "n"] (spInit C) := by
  refine F.ok scI (fun vs H Q E h => ?_) (fun cdv A outer s H vs Q E hr h => ?_)
  · obtain ⟨p, dx, n, rfl, _⟩ := h
    rfl
  · obtain ⟨p, dx, n, rfl, hp, hn, k⟩ := h
    refine ⟨_, pss_cons (ps_fld (pv 0) (pe_op op_rep (pe_lst (pa_cons pe_int pa_nil)) (pv 1)) rfl)
      (pss_one (ps_fld (pv 0) (pe_lc (own := [("joint", 2)]) rfl scI.nd (pi_range1 rfl T.range (pa_cons (pv 1) pa_nil)) (show BlkOk ["self", "n", "joint"] (defScope sInit) _ _ from blkOk_by (by decide +kernel)) (fun s H C cl fp => pg_name (i := 2) scI.nd rfl (Or.inl rfl)) (fun s H C cl fp => pts_nil) (fun s H C cl fp => pe_lst pa_nil)) rfl)), ?_⟩
    -- self.free = [2] * n
    refine ⟨(by show 1 ≤ sizeLine; decide), fun l hl => ⟨_, rfl, l, _, _, rfl, rfl, upd_same, (by omega), (by omega), ?_, fun fa hfa => ?_⟩⟩
    · show 1 * ((n : Int)).toNat ≤ sizeLine
      exact Nat.le_of_lt (small1000 (by omega))
    have npl : p ≠ l := ne_of_none hp hl
    have hp1 : (upd H l (.lst [V.int 2])) p = some (.ins C dx []) := by rw [upd_ne npl]; exact hp
    have npf : p ≠ fa := ne_of_none hp1 hfa
    have nfl : fa ≠ l := fun z => by
      rw [z, upd_same] at hfa
      cases hfa
    have hfa0 : H fa = Option.none := by
      rw [upd_ne nfl] at hfa
      exact hfa
    have e2 : (List.replicate ((n : Int)).toNat [V.int 2]).flatten = vf (fun _ => V.int ((2 : Nat) : Int)) n := by
      rw [Int.toNat_natCast]
      show _ = (List.range n).map (fun _ => V.int 2)
      have h1 : ∀ m : Nat, (List.replicate m [V.int 2]).flatten = List.replicate m (V.int 2) := fun m => by
        induction m with
        | zero => rfl
        | succ m ih => rw [List.replicate_succ, List.flatten_cons, ih, List.replicate_succ]; rfl
      rw [h1]
      apply List.ext_getElem?
      intro i
      by_cases hi : i < n
      · simp [hi]
      · simp [hi]
    rw [e2]
    refine ⟨_, rfl, p, C, dx, [], rfl, (by rw [upd_ne npf]; exact hp1), T.cl, T.nF, (by show 0 < 1000; decide), ?_⟩
    -- self.ahead = [[] for joint in range(n)]
    refine ⟨_, rfl, (n : Int), rfl, (by omega), (by omega), fun D hD => ?_⟩
    have npD : p ≠ D := fun z => by
      rw [← z, upd_same] at hD
      cases hD
    have nfD : fa ≠ D := fun z => by
      rw [← z, upd_ne (Ne.symm npf), upd_same] at hD
      cases hD
    have hD0 : ∀ b o, H b = some o → b ≠ D := fun b o e z => by
      by_cases q : D = p
      · exact npD q.symm
      · rw [upd_ne q, upd_ne (Ne.symm nfD)] at hD
        by_cases q2 : D = l
        · rw [q2, upd_same] at hD
          cases hD
        · rw [upd_ne q2, ← z] at hD
          rw [hD] at e
          cases e
    generalize hG : upd (upd (upd H l (HO.lst [V.int 2])) fa (HO.lst (vf (fun _ => V.int ((2 : Nat) : Int)) n))) p (HO.ins C dx (putF "free" (V.ref fa) [])) = G at hD
    have Gp : G p = some (.ins C dx (putF "free" (V.ref fa) [])) := by rw [← hG, upd_same]
    have Gf : G fa = some (.lst (vf (fun _ => V.int ((2 : Nat) : Int)) n)) := by rw [← hG, upd_ne (Ne.symm npf), upd_same]
    have Gb : ∀ b o, H b = some o → b ≠ p → G b = some o := fun b o e q => by
      rw [← hG, upd_ne q, upd_ne (ne_of_none e hfa0), upd_ne (ne_of_none e hl)]
      exact e
    refine lc_range (fun i H' => ∃ as : List Addr, as.length = i ∧ H' D = some (.lst (as.map V.ref)) ∧ as.Nodup ∧ (∀ a, a ∈ as → G a = Option.none ∧ H' a = some (.lst []) ∧ a ≠ D) ∧ Same G H') ⟨[], rfl, upd_same, List.nodup_nil, (fun a ha => by simp at ha), same_new (Same.refl G) hD⟩ ?_ ?_
    · rintro i H1 hi ⟨as, hl1, hD1, nd, hall, s1⟩
      refine ⟨rfl, Nat.zero_le _, fun q hq => ⟨as.map V.ref, ?_, ?_, as ++ [q], ?_, ?_, ?_, ?_, ?_⟩⟩
      · have : D ≠ q := ne_of_none hD1 hq
        rw [upd_ne this]; exact hD1
      · rw [List.length_map]
        exact small1000 (by have : i < ((n : Int)).toNat := hi; omega)
      · rw [List.length_append, hl1]; rfl
      · rw [upd_same, List.map_append]; rfl
      · refine nd_snoc nd fun m => ?_
        have := (hall q m).2.1
        rw [hq] at this
        cases this
      · intro a ha
        rcases List.mem_append.mp ha with m | m
        · obtain ⟨g1, g2, g3⟩ := hall a m
          refine ⟨g1, ?_, g3⟩
          rw [upd_ne g3, upd_ne (ne_of_none g2 hq)]
          exact g2
        · rw [List.mem_singleton.mp m]
          have ne : q ≠ D := Ne.symm (ne_of_none hD1 hq)
          refine ⟨s1.free hq, ?_, ne⟩
          rw [upd_ne ne, upd_same]
      · exact same_upd (same_new s1 hq) hD
    · rintro H1 ⟨as, hl1, hD1, nd, hall, s1⟩
      have hl1 : as.length = n := by omega
      refine ⟨_, rfl, p, C, dx, _, rfl, s1 _ _ Gp, T.cl, T.nA, (by show 1 < 1000; decide), ?_⟩
      have hg : ∀ v, v < n → as[v]? = some (as.getD v 0) := fun v hv => by
        rw [List.getD_eq_getElem?_getD, List.getElem?_eq_getElem (by omega)]
        rfl
      refine k _ ⟨p, dx, fa, D, fun v => as.getD v 0⟩ rfl ⟨upd_same, ?_, ?_, fun v hv => ?_, nfD, fun v hv => ?_, fun v hv => ?_, fun u v hu hv e => ?_⟩ (fun b o e q => ?_) (fun b o e q => ⟨ne_of_none e hfa0, fun v hv => ?_⟩)
      · rw [upd_ne (Ne.symm npf)]; exact s1 _ _ Gf
      · rw [upd_ne (Ne.symm npD), hD1]
        congr 2
        apply List.ext_getElem?
        intro i
        by_cases hi : i < n
        · rw [vf_get hi, List.getElem?_map, hg i hi]; rfl
        · rw [List.getElem?_eq_none (by rw [List.length_map]; omega), List.getElem?_eq_none (by rw [vf_len]; omega)]
      · have m := List.mem_of_getElem? (hg v hv)
        rw [upd_ne (ne_of_none Gp (hall _ m).1).symm]
        exact (hall _ m).2.1
      · exact (ne_of_none Gf (hall _ (List.mem_of_getElem? (hg v hv))).1).symm
      · exact (hall _ (List.mem_of_getElem? (hg v hv))).2.2
      · have h1 := hg u hu
        have h2 := hg v hv
        have e : as.getD u 0 = as.getD v 0 := e
        rw [e] at h1
        exact nd_ix nd h1 h2
      · rw [upd_ne q]
        exact s1 _ _ (Gb b o e q)
      · exact ne_of_none (Gb b o e q) (hall _ (List.mem_of_getElem? (hg v hv))).1
end
end Bf

set_option Elab.async false
set_option linter.all false
set_option maxRecDepth 100000
set_option maxHeartbeats 2000000
namespace Bf
open PySem PySem.Spec PyProof.Rows L2 Pb
theorem get_q {l : List Nat} {j : Nat} (h : j < l.length) : l[j]? = some (l.getD j 0) := by
  rw [List.getD_eq_getElem?_getD, List.getElem?_eq_getElem h]
  rfl
theorem rgc2 {m : Nat} {z : Int} (hz : z = 2 * (m : Int)) (hm : m ≤ 96) : RgC 0 z 2 m := by
  subst hz
  have e : Builtin.Range.rangeSize 0 (2 * (m : Int)) 2 = m := by
    unfold Builtin.Range.rangeSize
    rw [if_pos (by decide)]
    split <;> omega
  refine ⟨by decide, by decide, ?_, e⟩
  unfold Builtin.Range.small
  rw [e]
  have f : ∀ z : Int, -1000 ≤ z → z ≤ 1000 → Builtin.Range.rangeFitsLong z = true := fun z h1 h2 => by
    unfold Builtin.Range.rangeFitsLong
    rw [decide_eq_true (show -(2 ^ 63) ≤ z by omega), decide_eq_true (show z < 2 ^ 63 by omega)]
    rfl
  rw [f 0 (by omega) (by omega), f (2 * (m : Int)) (by omega) (by omega), f 2 (by omega) (by omega), f (m : Int) (by omega) (by omega), if_pos (show (2 : Int) > 0 by decide), f (2 * (m : Int) + (2 - 1)) (by omega) (by omega), Bool.or_true]
  rfl
theorem lo_int (x y : Nat) : (if ((y : Nat) : Int) < ((x : Nat) : Int) then ((y : Nat) : Int) else ((x : Nat) : Int)) = ((blo (x, y) : Nat) : Int) := by
  unfold blo
  dsimp only
  split <;> split <;> omega
theorem hi_int (x y : Nat) : (if ((y : Nat) : Int) > ((x : Nat) : Int) then ((y : Nat) : Int) else ((x : Nat) : Int)) = ((bhi (x, y) : Nat) : Int) := by
  unfold bhi
  dsimp only
  split <;> split <;> omega
/-- the dict «seen» -/
def key2 (b : Sa84.Bar) : List Key := [Sum.inl ((blo b : Nat) : Int), Sum.inl ((bhi b : Nat) : Int)]
def skv (b : Nat → Sa84.Bar) (i : Nat) : List (List Key × V) := (List.range i).map fun j => (key2 (b j), V.bl true)
theorem skv_len (b : Nat → Sa84.Bar) (i : Nat) : (skv b i).length = i := by simp [skv]
theorem key2_inj {a b : Sa84.Bar} (h : key2 a = key2 b) : blo a = blo b ∧ bhi a = bhi b := by
  unfold key2 at h
  injection h with h1 h2
  injection h2 with h2 _
  have h1 := Sum.inl.inj h1
  have h2 := Sum.inl.inj h2
  omega
theorem skv_some {b : Nat → Sa84.Bar} {i : Nat} {c : Sa84.Bar} : (valV (skv b i) (key2 c)).isSome = true ↔ ∃ j, j < i ∧ Sa84.same (b j) c = true := by
  rw [← valV_any, List.any_eq_true]
  constructor
  · rintro ⟨p, hp, e⟩
    unfold skv at hp
    obtain ⟨j, hj, rfl⟩ := List.mem_map.mp hp
    exact ⟨j, List.mem_range.mp hj, (same_iff _ _).mpr (key2_inj (of_decide_eq_true e))⟩
  · rintro ⟨j, hj, e⟩
    refine ⟨(key2 (b j), V.bl true), ?_, ?_⟩
    · unfold skv
      exact List.mem_map.mpr ⟨j, List.mem_range.mpr hj, rfl⟩
    · obtain ⟨e1, e2⟩ := (same_iff _ _).mp e
      refine decide_eq_true ?_
      show key2 (b j) = key2 c
      unfold key2
      rw [e1, e2]
theorem skv_put {b : Nat → Sa84.Bar} {i : Nat} (h : valV (skv b i) (key2 (b i)) = none) : putK (skv b i) (key2 (b i)) (V.bl true) = skv b (i + 1) := by
  rw [putK_new _ h]
  unfold skv
  rw [List.range_succ, List.map_append]
  rfl
section
variable {P : Program} {w : World} {K : PySem.W.Frag} {mg : Str → Option Value} {base : Heap}
/-! ### is_frame -/
def spFrame (K : PySem.W.Frag) : Sp := fun vs H Q _ => ∃ (a : Addr) (n : Int) (bs : List Nat) (m : Nat), vs = [.int n, .ref a] ∧ SqL K H a (vi bs) ∧ bs.length = 2 * m ∧ m ≤ 96 ∧
  (∀ H', Same H H' → GoodF n m (br bs) → Q (.bl true) H') ∧ (∀ H', Same H H' → ¬ GoodF n m (br bs) → Q (.bl false) H')
theorem scF : FnScope ["n", "bars", "seen", "i", "low", "high"] ["n", "bars"] (defScope sFrame) := ⟨rfl, rfl, rfl, by decide +kernel, rfl, by decide +kernel, by decide +kernel⟩
theorem ok_frame {f C : Addr} {fd : FuncData} (F : Fun K "is_frame" "is_frame" sFrame f fd) (T : Txt K mg C) : FnOk P w K mg base CX0 1 f fd ["n", "bars"] (spFrame K) := by
  refine F.ok scF (fun vs H Q E h => ?_) (fun cdv A outer s H vs Q E hr h => ?_)
  · obtain ⟨a, n, bs, m, rfl, _⟩ := h
    rfl
  · obtain ⟨a, n, bs, m, rfl, hS, hlen, hm, kT, kF⟩ := h
    have hu := hu_of hr
    obtain ⟨tJ, eJ⟩ := T.mJ
    obtain ⟨tB, eB⟩ := T.mB
    refine ⟨_, pss_cons (ps_if (PW.pt (pw_or (pt_cmp (pc_lt (pv 0) pe_int)) (pw_or (pt_cmp (pc_gt (pv 0) (pe_glob (v := V.int 32) rfl eJ ⟨tJ, rfl⟩)))
        (pw_or1 (pt_cmp (pc_gt (pe_callB call_len_seq (by rfl) T.len PySem.boot_len (pa_cons (pv 1) pa_nil)) (pe_op op_mul pe_int (pe_glob (v := V.int 96) rfl eB ⟨tB, rfl⟩)))))))) (pss_one (ps_ret pe_bl)) pss_nil)
      (pss_cons (ps_set (i := 2) scF.nd rfl (Or.inl rfl) pe_dnewT)
      (pss_cons (ps_for PassesOwn.never rfl (pi_range3 rfl T.range (pa_cons pe_int (pa_cons (pe_callB call_len_seq (by rfl) T.len PySem.boot_len (pa_cons (pv 1) pa_nil)) (pa_cons pe_int pa_nil)))) (pg_name (i := 3) scF.nd rfl (Or.inl rfl))
        (pss_cons (ps_set (i := 4) scF.nd rfl (Or.inl rfl) (pe_callB (call_min2 rfl) (by rfl) T.min PyProof.Rows.boot_min (pa_cons (pe_ix ix_list (pv 1) (pv 3) (fun _ _ => rfl)) (pa_cons (pe_ix ix_list (pv 1) (pe_op op_add (pv 3) pe_int) (fun _ _ => rfl)) pa_nil))))
        (pss_cons (ps_set (i := 5) scF.nd rfl (Or.inl rfl) (pe_callB (call_max2 rfl) (by rfl) T.max PyProof.Rows.boot_max (pa_cons (pe_ix ix_list (pv 1) (pv 3) (fun _ _ => rfl)) (pa_cons (pe_ix ix_list (pv 1) (pe_op op_add (pv 3) pe_int) (fun _ _ => rfl)) pa_nil))))
        (pss_cons (ps_if (PW.pt (pw_or (pt_cmp (pc_lt (pv 4) pe_int)) (pw_or (pt_cmp (pc_eqI (pv 4) (pv 5))) (pw_or (pt_cmp (pc_ge (pv 5) (pv 0))) (pw_or1 (pt_cmp (pc_din hu (pe_tup (pa_cons (pv 4) (pa_cons (pv 5) pa_nil))) (pv 2)))))))) (pss_one (ps_ret pe_bl)) pss_nil)
        (pss_one (ps_dput hu (pv 2) (pe_tup (pa_cons (pv 4) (pa_cons (pv 5) pa_nil))) pe_bl rfl))))))
      (pss_one (ps_ret pe_bl)))), ?_⟩
    have hl2 : (((vi bs).length : Nat) : Int) = 2 * (m : Int) := by rw [vi_len, hlen]; omega
    refine ⟨_, rfl, _, _, rfl, rfl, _, rfl, ite2 (fun h1 => iteT (kF H (Same.refl H) fun g => ?_)) (fun h1 => ⟨_, rfl, _, _, rfl, rfl, _, rfl, ite2 (fun h2 => iteT (kF H (Same.refl H) fun g => ?_)) (fun h2 => ⟨_, rfl, a, _, rfl, .inl hS, _, _, rfl, rfl, .inl ⟨by decide, by decide⟩, _, _, rfl, rfl, _, rfl, ite2 (fun h3 => absurd (of_decide_eq_true h3) (by omega)) (fun h3 => ?_)⟩)⟩)⟩
    · have := of_decide_eq_true h1
      have := g.n2
      omega
    · have := of_decide_eq_true h2
      have := g.n32
      omega
    have n2 : 2 ≤ n := by
      have : ¬ n < 2 := fun z => h1 (decide_eq_true z)
      omega
    have n32 : n ≤ 32 := by
      have : ¬ (32 : Int) < n := fun z => h2 (decide_eq_true z)
      omega
    -- seen = {}
    intro S hS0
    -- for
    refine ⟨_, rfl, a, _, rfl, .inl ((same_new (Same.refl H) hS0).seq hS), 0, _, 2, m, rfl, rgc2 hl2 hm, for_rangeC (fun i σ H' => ∃ (v3 v4 v5 : Option V), σ = [some (.int n), some (.ref a), some (.ref S), v3, v4, v5] ∧ H' S = some (.dT (skv (br bs) i)) ∧ Same H H' ∧ GoodF n i (br bs))
      ⟨none, none, none, rfl, upd_same, same_new (Same.refl H) hS0, n2, n32, (fun i hi => absurd hi (by omega)), (fun i hi => absurd hi (by omega)), (fun i hi => absurd hi (by omega)), (fun i i' hi => absurd hi (by omega))⟩ ?_ ?_⟩
    · rintro i σ H1 hi ⟨v3, v4, v5, rfl, hS1, s1, g⟩
      have q1 : atI (vi bs) (0 + (i : Int) * 2) = some (V.int (((br bs i).1 : Nat) : Int)) := at_of (j := 2 * i) (by omega) (vi_get (get_q (by omega)))
      have q2 : atI (vi bs) (0 + (i : Int) * 2 + 1) = some (V.int (((br bs i).2 : Nat) : Int)) := at_of (j := 2 * i + 1) (by omega) (vi_get (get_q (by omega)))
      -- low, high
      refine ⟨_, rfl, _, rfl, a, _, _, _, rfl, rfl, s1.seq hS, q1, _, rfl, _, rfl, _, _, rfl, rfl, a, _, _, _, rfl, rfl, s1.seq hS, q2, _, _, rfl, ?_⟩
      rw [lo_int]
      refine ⟨_, rfl, _, rfl, a, _, _, _, rfl, rfl, s1.seq hS, q1, _, rfl, _, rfl, _, _, rfl, rfl, a, _, _, _, rfl, rfl, s1.seq hS, q2, _, _, rfl, ?_⟩
      rw [hi_int]
      generalize hb : br bs i = b
      have eb : ((b.1, b.2) : Sa84.Bar) = b := rfl
      rw [eb]
      have no : ∀ {X : Prop}, (GoodF n m (br bs) → False) → ¬ GoodF n m (br bs) := fun h => h
      have lh : blo b = bhi b ↔ b.1 = b.2 := by
        unfold blo bhi
        split <;> split <;> omega
      have hh : ((bhi b : Nat) : Int) < n ↔ ((b.1 : Int) < n ∧ (b.2 : Int) < n) := by
        unfold bhi
        split <;> omega
      refine ⟨_, rfl, _, _, rfl, rfl, _, rfl, ite2 (fun h1 => absurd (of_decide_eq_true h1) (by omega)) (fun h1 => ⟨_, rfl, _, rfl, _, _, rfl, rfl, _, rfl, ite2 (fun h2 => iteT (kF H1 s1 fun G => ?_)) (fun h2 => ⟨_, rfl, _, rfl, _, _, rfl, rfl, _, rfl, ite2 (fun h3 => iteT (kF H1 s1 fun G => ?_)) (fun h3 =>
        ⟨_, rfl, _, rfl, (by show 2 ≤ sizeLine; decide), fun t ht => ⟨_, rfl, S, _, rfl, DGet.t (k := key2 b) (by rw [upd_ne (ne_of_none hS1 ht)]; exact hS1) upd_same, _, rfl, ?_⟩⟩)⟩)⟩)⟩
      · have e := of_decide_eq_true h2
        have := G.ne i hi
        rw [hb] at this
        exact this (lh.mp (by omega))
      · have e := of_decide_eq_true h3
        have g1 := G.lt1 i hi
        have g2 := G.lt2 i hi
        rw [hb] at g1 g2
        have := hh.mpr ⟨g1, g2⟩
        omega
      have f1 : b.1 ≠ b.2 := fun z => h2 (decide_eq_true (by have := lh.mpr z; omega))
      have f2 : ((bhi b : Nat) : Int) < n := by
        have : ¬ n ≤ ((bhi b : Nat) : Int) := fun z => h3 (decide_eq_true z)
        omega
      obtain ⟨f3, f4⟩ := hh.mp f2
      have s2 : Same H (upd H1 t (.tup [V.int ((blo b : Nat) : Int), V.int ((bhi b : Nat) : Int)])) := same_new s1 ht
      cases hv : valV (skv (br bs) i) (key2 b) with
      | some v =>
        refine iteT (kF _ s2 fun G => ?_)
        obtain ⟨j, hj, e⟩ := skv_some.mp (by rw [hv]; rfl : (valV (skv (br bs) i) (key2 b)).isSome = true)
        have := G.diff i j hi hj
        rw [hb, e] at this
        cases this
      | none =>
        refine iteF ?_
        have hS2 : (upd H1 t (.tup [V.int ((blo b : Nat) : Int), V.int ((bhi b : Nat) : Int)])) S = some (.dT (skv (br bs) i)) := by rw [upd_ne (ne_of_none hS1 ht)]; exact hS1
        refine ⟨_, rfl, _, rfl, _, rfl, (by show 2 ≤ sizeLine; decide), fun t2 ht2 => ⟨S, _, rfl, DPut.t (k := key2 b) (by rw [upd_ne (ne_of_none hS2 ht2)]; exact hS2) upd_same (by rw [skv_len]; exact small1000 (by omega)), ?_⟩⟩
        subst hb
        refine ⟨_, _, _, rfl, ?_, same_upd (same_new s2 ht2) hS0, n2, n32, fun j hj => ?_, fun j hj => ?_, fun j hj => ?_, fun j j' hj hlt => ?_⟩
        · rw [upd_same, skv_put hv]
        · by_cases e : j = i
          · rw [e]; exact f1
          · exact g.ne j (by omega)
        · by_cases e : j = i
          · rw [e]; exact f3
          · exact g.lt1 j (by omega)
        · by_cases e : j = i
          · rw [e]; exact f4
          · exact g.lt2 j (by omega)
        · by_cases e : j = i
          · subst e
            cases q : Sa84.same (br bs j') (br bs j) with
            | false => rfl
            | true =>
              have := skv_some.mpr ⟨j', hlt, q⟩
              rw [hv] at this
              cases this
          · exact g.diff j j' (by omega) hlt
    · rintro σ H1 ⟨v3, v4, v5, rfl, hS1, s1, g⟩
      exact kT H1 s1 g
end
end Bf

set_option Elab.async false
set_option linter.all false
set_option maxRecDepth 100000
set_option maxHeartbeats 2000000
namespace Bf
open PySem PySem.Spec PyProof.Rows L2 Pb
theorem nats_cast : ∀ {ns : List Int}, (∀ x, x ∈ ns → 0 ≤ x) → (ns.map Int.toNat).map (fun (x : Nat) => (x : Int)) = ns
  | [], _ => rfl
  | a :: r, h => by
    rw [List.map_cons, List.map_cons, nats_cast fun x hx => h x (List.mem_cons_of_mem _ hx)]
    congr 1
    have := h a (List.mem_cons_self ..)
    omega
theorem vi_cast {ns : List Int} (h : ∀ x, x ∈ ns → 0 ≤ x) : vi (ns.map Int.toNat) = ns.map V.int := by
  unfold vi
  conv => rhs; rw [← nats_cast h]
  rw [List.map_map (g := V.int)]
  rfl
/-- a list that was handed in: it never changes -/
def ArgL (K : PySem.W.Frag) (H : Hp) (a : Addr) (xs : List V) : Prop := (∃ o, H a = some (.frz o (.lst xs))) ∨
  ∃ (o : Obj) (its : Array Value) (n : Nat), K.lookup a = some o ∧ o.cls = .type "list" ∧ o.dict = none ∧ o.data = .seq its n ∧ its.size ≤ sizeLine ∧ Vals xs its.toList
theorem ArgL.sq {K : PySem.W.Frag} {H : Hp} {a : Addr} {xs : List V} (h : ArgL K H a xs) : SqL K H a xs := h.elim (fun q => .inl (.inr q)) .inr
theorem ArgL.same {K : PySem.W.Frag} {H H' : Hp} {a : Addr} {xs : List V} (s : Same H H') (h : ArgL K H a xs) : ArgL K H' a xs := h.elim (fun ⟨o, q⟩ => .inl ⟨o, s _ _ q⟩) .inr
theorem ArgL.of {K : PySem.W.Frag} {H : Hp} {a : Addr} {xs : List V} (hO : OnlyF H) (h : SqL K H a xs) : ArgL K H a xs := by
  rcases h with (h | h) | h
  · rcases hO a with z | ⟨o, u, z⟩
    · rw [h] at z
      cases z
    · rw [h] at z
      cases z
  · exact .inl h
  · exact .inr h
theorem ArgL.keeps {K : PySem.W.Frag} {C : Addr} {n : Nat} {A : PA} {H H' : Hp} {fr : Nat → Nat} {ah : Nat → List Nat} {a : Addr} {xs : List V} (h : ArgL K H a xs) (P : Peb C n A H fr ah) (k : Keeps A n H H') : ArgL K H' a xs := by
  rcases h with ⟨o, h⟩ | h
  · exact .inl ⟨o, k a _ h ⟨ne_of h P.free (by intro z; cases z), fun v hv => ne_of h (P.each v hv) (by intro z; cases z)⟩⟩
  · exact .inr h
/-- a list that stays whatever the pebbles do -/
def Stay (K : PySem.W.Frag) (A : PA) (n : Nat) (H : Hp) (a : Addr) (xs : List V) : Prop := ∀ H', Keeps A n H H' → SqL K H' a xs
theorem ArgL.stay {K : PySem.W.Frag} {C : Addr} {n : Nat} {A : PA} {H : Hp} {fr : Nat → Nat} {ah : Nat → List Nat} {a : Addr} {xs : List V} (h : ArgL K H a xs) (P : Peb C n A H fr ah) : Stay K A n H a xs := fun _ k => (h.keeps P k).sq
section
variable {P : Program} {w : World} {K : PySem.W.Frag} {mg : Str → Option Value} {base : Heap}
/-! ### lay_kept -/
def spLayKept (C : Addr) (K : PySem.W.Frag) : Sp := fun vs H Q _ => ∃ (A : PA) (n : Nat) (fr : Nat → Nat) (ah : Nat → List Nat) (a : Addr) (bs : List Nat) (m : Nat),
  vs = [.ref A.p, .ref a] ∧ Peb C n A H fr ah ∧ Pb.PI n [] fr ah 0 0 ∧ n ≤ 32 ∧ Stay K A n H a (vi bs) ∧ bs.length = 2 * m ∧ m ≤ 96 ∧ (∀ i, i < m → (br bs i).1 < n ∧ (br bs i).2 < n ∧ (br bs i).1 ≠ (br bs i).2) ∧
  ∀ (H' : Hp) (q : Addr) (fr' : Nat → Nat) (ah' : Nat → List Nat), Peb C n A H' fr' ah' → Pb.PI n (keptIx n (br bs) m).1 fr' ah' 0 0 → Good n (keptIx n (br bs) m).1 → H' q = some (.lst (vi (keptIx n (br bs) m).2)) → Keeps A n H H' → Off A n q → Q (.ref q) H'
theorem scK : FnScope ["pebbles", "bars", "kept", "i"] ["pebbles", "bars"] (defScope sLayKept) := ⟨rfl, rfl, rfl, by decide +kernel, rfl, by decide +kernel, by decide +kernel⟩
theorem ok_layKept {f C fL : Addr} {fd fdL : FuncData} (F : Fun K "lay_kept" "lay_kept" sLayKept f fd) (T : Txt K mg C) (GL : FnOk P w K mg base CX0 5 fL fdL ["self", "u", "v"] (spLay C)) (bL : Binds K fdL ["self", "u", "v"] []) (mL : Meth K C "lay" fL) :
    FnOk P w K mg base CX0 6 f fd ["pebbles", "bars"] (spLayKept C K) := by
  refine F.ok scK (fun vs H Q E h => ?_) (fun cdv A outer s H vs Q E hr h => ?_)
  · obtain ⟨A, n, fr, ah, a, bs, m, rfl, _⟩ := h
    rfl
  · obtain ⟨A, n, fr, ah, a, bs, m, rfl, P0, I0, hn, hA, hlen, hm, hb, k⟩ := h
    have hS := hA H Keeps.refl
    refine ⟨_, pss_cons (ps_set (i := 2) scK.nd rfl (Or.inl rfl) (pe_lst pa_nil))
      (pss_cons (ps_for PassesOwn.never rfl (pi_range1 rfl T.range (pa_cons (pe_op op_fdiv (pe_callB call_len_seq (by rfl) T.len PySem.boot_len (pa_cons (pv 1) pa_nil)) pe_int) pa_nil)) (pg_name (i := 3) scK.nd rfl (Or.inl rfl))
        (pss_one (ps_if (pt_val (pe_meth (pv 0) T.cl mL GL hr bL .nil pass0 (pa_cons (pe_ix ix_list (pv 1) (pe_op op_mul pe_int (pv 3)) (fun _ _ => rfl)) (pa_cons (pe_ix ix_list (pv 1) (pe_op op_add (pe_op op_mul pe_int (pv 3)) pe_int) (fun _ _ => rfl)) pa_nil))))
          (pss_one (ps_expr (pe_bm PySem.F.plainAttrs_list PySem.F.slot_list_append PySem.F.type_list_append mt_append (pv 2) (pa_cons (pv 3) pa_nil)))) pss_nil)))
      (pss_one (ps_ret (pv 2)))), ?_⟩
    refine ⟨Nat.zero_le _, fun q hq => ?_⟩
    have s0 : Same H (upd H q (.lst [])) := same_new (Same.refl H) hq
    have oq : Off A n q := ⟨(ne_of_none P0.free hq).symm, fun v hv => (ne_of_none (P0.each v hv) hq).symm⟩
    have hl2 : (((vi bs).length : Nat) : Int) / 2 = (m : Int) := by rw [vi_len, hlen]; omega
    refine ⟨_, rfl, a, _, rfl, .inl (s0.seq hS), _, _, rfl, rfl, ⟨by decide, by decide⟩, _, rfl, (by omega), (by omega), ?_⟩
    refine for_range (fun i σ H' => ∃ (v3 : Option V) (fr' : Nat → Nat) (ah' : Nat → List Nat), σ = [some (.ref A.p), some (.ref a), some (.ref q), v3] ∧ Peb C n A H' fr' ah' ∧ Pb.PI n (keptIx n (br bs) i).1 fr' ah' 0 0 ∧ Good n (keptIx n (br bs) i).1 ∧
      H' q = some (.lst (vi (keptIx n (br bs) i).2)) ∧ Keeps A n H H') ⟨none, fr, ah, rfl, P0.same s0, I0, Good.nil, upd_same, Keeps.same s0⟩ ?_ ?_
    · rintro i σ H1 hi ⟨v3, fr1, ah1, rfl, P1, I1, ok, hq1, kp⟩
      have hi : i < m := by
        rw [hl2] at hi
        omega
      have hS1 := hA H1 kp
      have q1 : atI (vi bs) (2 * (0 + (i : Int))) = some (V.int (((br bs i).1 : Nat) : Int)) := at_of (j := 2 * i) (by omega) (vi_get (get_q (by omega)))
      have q2 : atI (vi bs) (2 * (0 + (i : Int)) + 1) = some (V.int (((br bs i).2 : Nat) : Int)) := at_of (j := 2 * i + 1) (by omega) (vi_get (get_q (by omega)))
      obtain ⟨b1, b2, b3⟩ := hb i hi
      have hbl : Below n ((keptIx n (br bs) i).1 ++ [br bs i]) := (keptIx_below fun j hj => ⟨(hb j (by omega)).1, (hb j (by omega)).2.1⟩).snoc b1 b2
      refine ⟨_, rfl, A.p, A.dx, _, rfl, P1.ins, pf_no _ _ (by decide) (by decide), _, rfl, _, rfl, _, _, rfl, rfl, .inl ⟨by decide, by decide⟩, a, _, _, _, rfl, rfl, hS1, q1,
        _, rfl, _, rfl, _, _, rfl, rfl, .inl ⟨by decide, by decide⟩, _, _, rfl, rfl, a, _, _, _, rfl, rfl, hS1, q2, A, n, (keptIx n (br bs) i).1, fr1, ah1, (br bs i).1, (br bs i).2, rfl, P1, I1, ok, hn, b1, b2, b3, fun H2 fr2 ah2 P2 I2 g k2 => ?_, fun H2 fr2 ah2 P2 I2 g k2 => ?_⟩
      · have e := keptIx_yes ((ordered_iff hn hbl).mpr g)
        have hq2 := k2 q _ hq1 oq
        refine ⟨_, rfl, iteT ⟨_, rfl, .inl ⟨rfl, _, SqL.of hq2⟩, _, rfl, q, _, _, rfl, rfl, hq2, ?_, ?_⟩⟩
        · rw [vi_len]
          exact small1000 (by have := keptIx_len n (br bs) i; omega)
        · have s3 : ∀ b o, H2 b = some o → b ≠ q → (upd H2 q (.lst (vi (keptIx n (br bs) i).2 ++ [V.int (0 + (i : Int))]))) b = some o := fun b o eb nb => by rw [upd_ne nb]; exact eb
          have P3 : Peb C n A (upd H2 q (.lst (vi (keptIx n (br bs) i).2 ++ [V.int (0 + (i : Int))]))) fr2 ah2 :=
            ⟨s3 _ _ P2.ins (ne_of P2.ins hq2 (by intro z; cases z)), s3 _ _ P2.free (Ne.symm oq.1), s3 _ _ P2.ahead ?_, fun v hv => s3 _ _ (P2.each v hv) (Ne.symm (oq.2 v hv)), P2.fa_aa, P2.ad_fa, P2.ad_aa, P2.inj⟩
          · refine ⟨_, fr2, ah2, rfl, P3, ?_, ?_, ?_, ?_⟩
            · rw [e]; exact I2
            · rw [e]; exact g
            · rw [upd_same, e]
              show _ = some (HO.lst (vi ((keptIx n (br bs) i).2 ++ [i])))
              rw [vi_append, Int.zero_add]
              rfl
            · exact fun b o eb f => s3 b o (k2 b o (kp b o eb f) f) (ne_of_none eb hq)
          · exact ne_of_none P0.ahead hq
      · have e := keptIx_no (fun z => g ((ordered_iff hn hbl).mp z))
        refine ⟨_, rfl, iteF ⟨_, fr2, ah2, rfl, P2, ?_, ?_, ?_, kp.trans k2⟩⟩
        · rw [e]; exact I2
        · rw [e]; exact ok
        · rw [e]; exact k2 q _ hq1 oq
    · rintro σ H1 ⟨v3, fr1, ah1, rfl, P1, I1, ok, hq1, kp⟩
      have e : ((((vi bs).length : Nat) : Int) / 2).toNat = m := by
        rw [hl2]
        omega
      rw [e] at I1 ok hq1
      exact ⟨_, rfl, k H1 q fr1 ah1 P1 I1 ok hq1 kp oq⟩
end
end Bf

set_option Elab.async false
set_option linter.all false
set_option maxRecDepth 100000
set_option maxHeartbeats 2000000
namespace Bf
open PySem PySem.Spec PyProof.Rows L2 Pb
/-! ### things at addresses -/
structure ObjAt {α : Type} (g : α → HO) (H : Hp) (as : List Addr) (xs : List α) : Prop where
  len : as.length = xs.length
  row : ∀ (i : Nat) (a : Addr) (x : α), as[i]? = some a → xs[i]? = some x → H a = some (g x)
section
variable {α : Type} {g : α → HO} {H H' : Hp} {as : List Addr} {xs : List α}
theorem ObjAt.nil : ObjAt g H [] [] := ⟨rfl, fun i a r h => by simp at h⟩
theorem ObjAt.same (h : ObjAt g H as xs) (s : Same H H') : ObjAt g H' as xs := ⟨h.len, fun i a r ha hr => s _ _ (h.row i a r ha hr)⟩
theorem ObjAt.upd {p : Addr} {o : HO} (h : ObjAt g H as xs) (n : p ∉ as) : ObjAt g (L2.upd H p o) as xs := ⟨h.len, fun i a r ha hr => by
  rw [upd_ne (show a ≠ p from fun z => n (by rw [← z]; exact List.mem_of_getElem? ha))]
  exact h.row i a r ha hr⟩
theorem ObjAt.snoc {a : Addr} {r : α} (h : ObjAt g H as xs) (ha : H a = some (g r)) : ObjAt g H (as ++ [a]) (xs ++ [r]) := by
  refine ⟨by rw [List.length_append, List.length_append, h.len]; rfl, fun i b t hb ht => ?_⟩
  have hl := h.len
  by_cases hi : i < as.length
  · rw [List.getElem?_append_left hi] at hb
    rw [List.getElem?_append_left (by omega)] at ht
    exact h.row i b t hb ht
  · rw [List.getElem?_append_right (by omega)] at hb
    rw [List.getElem?_append_right (by omega)] at ht
    by_cases e : i = as.length
    · rw [e, Nat.sub_self] at hb
      rw [e, hl, Nat.sub_self] at ht
      have hb : a = b := Option.some.inj hb
      have ht : r = t := Option.some.inj ht
      rw [← hb, ← ht]
      exact ha
    · rw [List.getElem?_eq_none (by show 1 ≤ _; omega)] at hb
      cases hb
theorem ObjAt.at (h : ObjAt g H as xs) {i : Nat} (hi : i < xs.length) : ∃ (a : Addr) (r : α), as[i]? = some a ∧ xs[i]? = some r ∧ H a = some (g r) :=
  ⟨as[i]'(by rw [h.len]; exact hi), xs[i], List.getElem?_eq_getElem _, List.getElem?_eq_getElem _, h.row i _ _ (List.getElem?_eq_getElem (by rw [h.len]; exact hi)) (List.getElem?_eq_getElem hi)⟩
theorem ObjAt.of (h : ObjAt g H as xs) {i : Nat} {a : Addr} (hi : as[i]? = some a) : ∃ r : α, xs[i]? = some r ∧ H a = some (g r) := by
  obtain ⟨b, r, hb, hr, hH⟩ := h.at (i := i) (by rw [← h.len]; exact (List.getElem?_eq_some_iff.mp hi).1)
  rw [hi] at hb
  cases hb
  exact ⟨r, hr, hH⟩
theorem ObjAt.take (h : ObjAt g H as xs) (k : Nat) : ObjAt g H (as.take k) (xs.take k) := by
  refine ⟨by rw [List.length_take, List.length_take, h.len], fun i a x ha hx => ?_⟩
  rw [List.getElem?_take] at ha hx
  split at ha
  · rw [if_pos (by assumption)] at hx
    exact h.row i a x ha hx
  · cases ha
theorem ObjAt.fresh {p : Addr} (h : ObjAt g H as xs) (hp : H p = Option.none) : p ∉ as := fun z => by
  obtain ⟨i, hi⟩ := List.mem_iff_getElem?.mp z
  obtain ⟨r, _, hH⟩ := h.of hi
  rw [hp] at hH
  cases hH
end
def vr (as : List Addr) : List V := as.map V.ref
theorem vr_len (as : List Addr) : (vr as).length = as.length := List.length_map _
theorem vr_get {as : List Addr} {i : Nat} {a : Addr} (h : as[i]? = some a) : (vr as)[i]? = some (V.ref a) := by
  unfold vr
  rw [List.getElem?_map, h]
  rfl
theorem of_vr_get {as : List Addr} {i : Nat} {v : V} (h : (vr as)[i]? = some v) : ∃ a, as[i]? = some a ∧ v = V.ref a := by
  unfold vr at h
  rw [List.getElem?_map] at h
  cases e : as[i]? with
  | none =>
    rw [e] at h
    cases h
  | some x =>
    rw [e] at h
    exact ⟨x, rfl, (Option.some.inj h).symm⟩
theorem vr_snoc (as : List Addr) (a : Addr) : vr (as ++ [a]) = vr as ++ [V.ref a] := List.map_append
/-- a comprehension over a range with a step -/
theorem lc_rangeC {lo c : Int} {n : Nat} {g : TG} {tt : TT} {te : TE} {vs : List Nat} {σ : L2.St} {H1 : Hp} {D : Addr} {Qd : Hp → Prop} (Pv : Nat → Hp → Prop) (h0 : Pv 0 (upd H1 D (.lst [])))
    (hs : ∀ i H, i < n → Pv i H → g (.int (lo + (i : Nat) * c)) (wipe σ vs) H fun σ2 H2 => wipe σ2 vs = wipe σ vs ∧ tt σ2 H2 fun b H3 =>
      if b = true then te σ2 H3 fun y H4 => ∃ acc, H4 D = some (.lst acc) ∧ acc.length < sizeLine ∧ Pv (i + 1) (upd H4 D (.lst (acc ++ [y]))) else Pv (i + 1) H3) (hd : ∀ H, Pv n H → Qd H) :
    ∃ W : Nat → Nat → Hp → Prop, (∃ m, W 0 m (upd H1 D (.lst []))) ∧ ∀ i m H, W i m H →
      ((Itc lo c n).stop i H ∧ Qd H) ∨ ((Itc lo c n).go i H ∧ ∃ Nx : Hp → Prop, (∀ H', Nx H' → ∃ m', m' < m ∧ W (i + 1) m' H') ∧ ∀ x H', (Itc lo c n).yld i H x H' → g x (wipe σ vs) H' fun σ2 H2 => wipe σ2 vs = wipe σ vs ∧ tt σ2 H2 fun b H3 =>
        if b = true then te σ2 H3 fun y H4 => ∃ acc, H4 D = some (.lst acc) ∧ acc.length < sizeLine ∧ Nx (upd H4 D (.lst (acc ++ [y]))) else Nx H3) := by
  refine ⟨fun i m H => m = n - i ∧ i ≤ n ∧ Pv i H, ⟨n, by simp, Nat.zero_le _, h0⟩, ?_⟩
  rintro i m H ⟨rfl, hi, p⟩
  by_cases hlt : i < n
  · refine .inr ⟨hlt, Pv (i + 1), fun H' p' => ⟨n - (i + 1), by omega, rfl, hlt, p'⟩, fun x H' y => ?_⟩
    obtain ⟨e, y⟩ := y
    subst e y
    exact hs i _ hlt p
  · have e : i = n := by omega
    subst e
    exact .inl ⟨Nat.le_refl _, hd H p⟩
/-- a pair -/
def tp (b : Sa84.Bar) : List V := [V.int ((b.1 : Nat) : Int), V.int ((b.2 : Nat) : Int)]
def gp (b : Sa84.Bar) : HO := .tup (tp b)
abbrev PairsAt := ObjAt gp
theorem tp0 (b : Sa84.Bar) : atI (tp b) 0 = some (V.int ((b.1 : Nat) : Int)) := at_of (j := 0) rfl rfl
theorem tp1 (b : Sa84.Bar) : atI (tp b) 1 = some (V.int ((b.2 : Nat) : Int)) := at_of (j := 1) rfl rfl
theorem inV_pair (v : Nat) (b : Sa84.Bar) : inV (V.int (v : Int)) (tp b) = At v b := by
  unfold inV tp At
  rw [List.any_cons, List.any_cons, List.any_nil, Bool.or_false]
  have e : ∀ x : Nat, eqV (V.int (x : Int)) (V.int (v : Int)) = (x == v) := fun x => by
    rw [Bool.eq_iff_iff, beq_iff_eq]
    show decide _ = true ↔ _
    simp
    try omega
  rw [e, e]
theorem without_take {l : List Sa84.Bar} {v i : Nat} {b : Sa84.Bar} (h : l[i]? = some b) : Sa84.without (l.take (i + 1)) v = Sa84.without (l.take i) v ++ (if At v b = true then [] else [b]) := by
  unfold Sa84.without At
  rw [List.take_add_one, h, List.filter_append]
  congr 1
  show [b].filter _ = _
  rw [List.filter_cons, List.filter_nil]
  cases h1 : b.1 == v <;> cases h2 : b.2 == v <;> simp_all
theorem barsAt_take {l : List Sa84.Bar} {v i : Nat} {b : Sa84.Bar} (h : l[i]? = some b) : Sa84.barsAt (l.take (i + 1)) v = Sa84.barsAt (l.take i) v ++ (if At v b = true then [b] else []) := by
  unfold Sa84.barsAt At
  rw [List.take_add_one, h, List.filter_append]
  congr 1
  show [b].filter _ = _
  rw [List.filter_cons, List.filter_nil]
theorem Fr.few {n : Nat} (hn : n ≤ 32) {S : Nat → Bool} {l : List Sa84.Bar} (F : Fr n S l) : l.length ≤ 61 := by
  have h := F.cnt
  have h2 : sz S n ≤ n := by
    rw [← left_len]
    have := List.length_filter_le S (List.range n)
    rw [List.length_range] at this
    exact this
  omega
section
variable {P : Program} {w : World} {K : PySem.W.Frag} {mg : Str → Option Value} {base : Heap}
/-! ### far_ends -/
def ends (l : List Sa84.Bar) (v : Nat) : List Int := ((Sa84.barsAt l v).map (other v)).map fun (x : Nat) => (x : Int)
def spFar : Sp := fun vs H Q _ => ∃ (p : Addr) (as : List Addr) (l : List Sa84.Bar) (n : Nat) (S : Nat → Bool) (v : Nat), vs = [.ref p, .int (v : Int)] ∧ H p = some (.lst (vr as)) ∧ PairsAt H as l ∧ Fr n S l ∧ n ≤ 32 ∧
  ∀ H' q, Same H H' → H q = none → H' q = some (.lst (vi (Sa84.beside l v))) → Q (.ref q) H'
theorem scFar : FnScope ["pairs", "joint", "pair"] ["pairs", "joint"] (defScope sFar) := ⟨rfl, rfl, rfl, by decide +kernel, rfl, by decide +kernel, by decide +kernel⟩
theorem ok_far {f : Addr} {fd : FuncData} (F : Fun K "far_ends" "far_ends" sFar f fd) (zS : mg "sorted" = none) : FnOk P w K mg base CX0 1 f fd ["pairs", "joint"] spFar := by
  refine F.ok scFar (fun vs H Q E h => ?_) (fun cdv A outer s H vs Q E hr h => ?_)
  · obtain ⟨p, as, l, n, S, v, rfl, _⟩ := h
    rfl
  · obtain ⟨p, as, l, n, S, v, rfl, hp, PA, Fl, hn, k⟩ := h
    have few := Fr.few hn Fl
    have hal := PA.len
    refine ⟨_, pss_one (ps_ret (pe_callB cr_sorted (by rfl) zS PyProof.Rows.boot_sorted (pa_cons (pe_lc (own := [("pair", 2)]) rfl scFar.nd (pi_list (pv 0)) (show BlkOk ["pairs", "joint", "pair"] (defScope sFar) _ _ from blkOk_by (by decide +kernel)) (fun s H C cl fp => pg_name (i := 2) scFar.nd rfl (Or.inl rfl)) (fun s H C cl fp => pts_one (pt_cmpR (r := rIn K false) op_in_seq (pv 1) (pv 2) rfl))
      (fun s H C cl fp => pe_op op_sub (pe_op op_add (pe_ix (r := rIxT K) ix_tup (pv 2) pe_int (fun _ _ => rfl)) (pe_ix (r := rIxT K) ix_tup (pv 2) pe_int (fun _ _ => rfl))) (pv 1))) pa_nil))), ?_⟩
    refine ⟨_, rfl, p, rfl, ⟨_, SqL.of hp⟩, fun D hD => ?_⟩
    refine lc_list (K := K) (a := p) (xs := vr as) (fun j H' => H' D = some (.lst ((ends (l.take j) v).map V.int)) ∧ Same H H') ⟨upd_same, same_new (Same.refl H) hD⟩ (fun j H' _ ⟨_, s2⟩ => SqL.of (s2 _ _ hp)) ?_ ?_
    · rintro j z H2 hj ⟨hD2, s2⟩
      obtain ⟨a, ha, rfl⟩ := of_vr_get hj
      obtain ⟨b, hb, hH⟩ := PA.of ha
      have hb2 : SqT K H2 a (tp b) := SqT.of (s2 _ _ hH)
      refine ⟨rfl, _, rfl, _, rfl, a, tp b, rfl, .inr hb2, rfl, rfl, _, rfl, ?_⟩
      show if inV (V.int (v : Int)) (tp b) = true then _ else _
      rw [inV_pair]
      cases hat : At v b with
      | true =>
        refine iteT ⟨_, rfl, a, _, _, _, rfl, rfl, hb2, tp0 b, _, rfl, a, _, _, _, rfl, rfl, hb2, tp1 b, _, _, rfl, rfl, _, rfl, _, _, rfl, rfl, _, hD2, ?_, ?_, same_upd s2 hD⟩
        · have h1 : (Sa84.barsAt (l.take j) v).length ≤ (l.take j).length := List.length_filter_le ..
          have h2 : (l.take j).length ≤ l.length := by rw [List.length_take]; omega
          unfold ends
          rw [List.length_map, List.length_map, List.length_map]
          exact small1000 (by omega)
        · rw [upd_same]
          dsimp only
          rw [other_int hat]
          unfold ends
          rw [barsAt_take hb, hat, if_pos rfl, List.map_append, List.map_append, List.map_append]
          rfl
      | false =>
        refine iteF ⟨?_, s2⟩
        rw [hD2]
        unfold ends
        rw [barsAt_take hb, hat, if_neg (by decide), List.append_nil]
    · rintro H2 ⟨hD2, s2⟩
      rw [vr_len, hal, List.take_length] at hD2
      refine ⟨D, _, rfl, SqL.of hD2, ?_, fun ns q h1 h2 hq => k _ q (same_new s2 hq) (s2.free hq) ?_⟩
      · have h1 : (Sa84.barsAt l v).length ≤ l.length := List.length_filter_le ..
        unfold ends
        rw [List.length_map, List.length_map]
        omega
      · rw [upd_same, far_eq hn Fl h1 h2]
        unfold vi
        rw [List.map_map]
        rfl
end
end Bf

set_option Elab.async false
set_option linter.all false
set_option maxRecDepth 100000
set_option maxHeartbeats 2000000
namespace Bf
open PySem PySem.Spec PyProof.Rows L2 Pb
section
variable {P : Program} {w : World} {K : PySem.W.Frag} {mg : Str → Option Value} {base : Heap}
/-! ### least_joint -/
def spLeast : Sp := fun vs H Q _ => ∃ (p : Addr) (as : List Addr) (l : List Sa84.Bar) (n : Nat) (S : Nat → Bool) (m : Nat), vs = [.int (n : Int), .ref p, .int (m : Int)] ∧ H p = some (.lst (vr as)) ∧ PairsAt H as l ∧ Fr n S l ∧ n ≤ 32 ∧
  (∀ H' v, Same H H' → (List.range n).find? (fun u => (Sa84.beside l u).length == m) = some v → Q (.int ((v : Nat) : Int)) H') ∧ (∀ H', Same H H' → (List.range n).find? (fun u => (Sa84.beside l u).length == m) = none → Q .non H')
theorem scLe : FnScope ["n", "pairs", "many", "joint"] ["n", "pairs", "many"] (defScope sLeast) := ⟨rfl, rfl, rfl, by decide +kernel, rfl, by decide +kernel, by decide +kernel⟩
theorem ok_least {f C fA : Addr} {fd fdA : FuncData} (F : Fun K "least_joint" "least_joint" sLeast f fd) (T : Txt K mg C)
    (GA : FnOk P w K mg base CX0 1 fA fdA ["pairs", "joint"] spFar) (bA : Binds K fdA ["pairs", "joint"] []) (gA : mg "far_ends" = some (.ref fA)) (kA : PySem.W.keepIn K (.ref fA) = true) : FnOk P w K mg base CX0 2 f fd ["n", "pairs", "many"] spLeast := by
  refine F.ok scLe (fun vs H Q E h => ?_) (fun cdv A outer s H vs Q E hr h => ?_)
  · obtain ⟨p, as, l, n, S, m, rfl, _⟩ := h
    rfl
  · obtain ⟨p, as, l, n, S, m, rfl, hp, PA, Fl, hn, kS, kN⟩ := h
    refine ⟨_, pss_cons (ps_for PassesOwn.never rfl (pi_range1 rfl T.range (pa_cons (pv 0) pa_nil)) (pg_name (i := 3) scLe.nd rfl (Or.inl rfl))
        (pss_one (ps_if (pt_cmp (pc_eqI (pe_callB call_len_seq (by rfl) T.len PySem.boot_len (pa_cons (pe_call GA hr rfl gA kA bA .nil pass0 (pa_cons (pv 1) (pa_cons (pv 3) pa_nil))) pa_nil)) (pv 2))) (pss_one (ps_ret (pv 3))) pss_nil)))
      (pss_one (ps_ret pe_non)), ?_⟩
    refine ⟨_, rfl, _, rfl, (by omega), (by omega), for_range (fun i σ H' => ∃ (v3 : Option V), σ = [some (.int (n : Int)), some (.ref p), some (.int (m : Int)), v3] ∧ Same H H' ∧ ∀ j, j < i → (Sa84.beside l j).length ≠ m) ⟨none, rfl, Same.refl H, fun j h => absurd h (by omega)⟩ ?_ ?_⟩
    · rintro i σ H1 hi ⟨v3, rfl, s1, hz⟩
      have hi : i < n := by omega
      refine ⟨_, rfl, _, rfl, p, as, l, n, S, i, (by rw [show (0 : Int) + (i : Int) = (i : Int) by omega]; rfl), s1 _ _ hp, PA.same s1, Fl, hn, fun H2 q s2 _ hq => ?_⟩
      refine ⟨q, _, rfl, .inl (SqL.of hq), _, rfl, _, _, rfl, rfl, _, rfl, ite2 (fun h => ?_) (fun h => ?_)⟩
      · have h : (Sa84.beside l i).length = m := by
          have := of_decide_eq_true h
          rw [vi_len] at this
          omega
        refine ⟨_, rfl, ?_⟩
        rw [show (0 : Int) + (i : Int) = (i : Int) by omega]
        refine kS H2 i (s1.trans s2) (List.find?_range_eq_some.mpr ⟨by rw [h]; exact beq_self_eq_true m, List.mem_range.mpr hi, fun j hj => ?_⟩)
        have := hz j hj
        simpa using this
      · have h : (Sa84.beside l i).length ≠ m := fun z => h (decide_eq_true (by rw [vi_len]; omega))
        refine ⟨_, rfl, s1.trans s2, fun j hj => ?_⟩
        by_cases e : j = i
        · rw [e]; exact h
        · exact hz j (by omega)
    · rintro σ H1 ⟨v3, rfl, s1, hz⟩
      refine kN H1 s1 (List.find?_eq_none.mpr fun j hj => ?_)
      have := hz j (by have := List.mem_range.mp hj; omega)
      simpa using this
/-! ### first_in_order -/
def Ends (N : Nat) (l : List Sa84.Bar) : Prop := ∀ b, b ∈ l → b.1 < N ∧ b.2 < N ∧ b.1 ≠ b.2
def spFirstO : Sp := fun vs H Q _ => ∃ (p c : Addr) (as cs : List Addr) (l ps : List Sa84.Bar) (N x : Nat), vs = [.int (N : Int), .ref p, .ref c] ∧ H p = some (.lst (vr as)) ∧ PairsAt H as l ∧ H c = some (.lst (vr cs)) ∧ PairsAt H cs ps ∧ N ≤ 32 ∧ Good N l ∧ Ends N l ∧ Ends N ps ∧
  x < ps.length ∧ (∀ b, ps[x]? = some b → Good N (l ++ [b])) ∧ (∀ y b, y < x → ps[y]? = some b → ¬ Good N (l ++ [b])) ∧ ∀ H', Same H H' → Q (.int (x : Int)) H'
theorem scFO : FnScope ["n", "pairs", "choices", "pebbles", "pair", "which"] ["n", "pairs", "choices"] (defScope sFirstO) := ⟨rfl, rfl, rfl, by decide +kernel, rfl, by decide +kernel, by decide +kernel⟩
theorem ok_firsto {f C fI fL fA : Addr} {fd fdI fdL fdA : FuncData} (F : Fun K "first_in_order" "first_in_order" sFirstO f fd) (T : Txt K mg C) (M : Mk K C fI)
    (GI : FnOk P w K mg base CX0 1 fI fdI ["self", "n"] (spInit C)) (bI : Binds K fdI ["self", "n"] [])
    (GL : FnOk P w K mg base CX0 5 fL fdL ["self", "u", "v"] (spLay C)) (bL : Binds K fdL ["self", "u", "v"] []) (mL : Meth K C "lay" fL)
    (GA : FnOk P w K mg base CX0 4 fA fdA ["self", "u", "v"] (spAllows C)) (bA : Binds K fdA ["self", "u", "v"] []) (mA : Meth K C "allows" fA) :
    FnOk P w K mg base CX0 6 f fd ["n", "pairs", "choices"] spFirstO := by
  refine F.ok scFO (fun vs H Q E h => ?_) (fun cdv A outer s H vs Q E hr h => ?_)
  · obtain ⟨p, c, as, cs, l, ps, N, x, rfl, _⟩ := h
    rfl
  · obtain ⟨p, c, as, cs, l, ps, N, x, rfl, hp, PAs, hc, PCs, hN, ok, El, Ep, hx, gx, gy, k⟩ := h
    have hal := PAs.len
    have hcl := PCs.len
    refine ⟨_, pss_cons (ps_set (i := 3) scFO.nd rfl (Or.inl rfl) (pe_make M GI (hr.mono (by decide)) rfl T.mgC bI .nil pass0 (pa_cons (pv 0) pa_nil)))
      (pss_cons (ps_for PassesOwn.never rfl (pi_list (pv 1)) (pg_name (i := 4) scFO.nd rfl (Or.inl rfl))
        (pss_one (ps_expr (pe_meth (pv 3) T.cl mL GL hr bL .nil pass0 (pa_cons (pe_ix ix_tup (pv 4) pe_int (fun _ _ => rfl)) (pa_cons (pe_ix ix_tup (pv 4) pe_int (fun _ _ => rfl)) pa_nil))))))
      (pss_cons (ps_set (i := 5) scFO.nd rfl (Or.inl rfl) pe_int)
      (pss_cons (ps_while PassesOwn.never (pt_not (pt_val (pe_meth (pv 3) T.cl mA GA (hr.mono (by decide)) bA .nil pass0 (pa_cons (pe_ix ix_tup (pe_ix ix_list (pv 2) (pv 5) (fun _ _ => rfl)) pe_int (fun _ _ => rfl)) (pa_cons (pe_ix ix_tup (pe_ix ix_list (pv 2) (pv 5) (fun _ _ => rfl)) pe_int (fun _ _ => rfl)) pa_nil)))))
        (pss_one (ps_aug (i := 5) scFO.nd rfl (Or.inl rfl) pe_int ip_add)))
      (pss_one (ps_ret (pv 5)))))), ?_⟩
    -- pebbles = Pebbles(n)
    refine ⟨_, rfl, fun y dx nx ndx ne' => ⟨y, dx, N, rfl, upd_same, hN, fun H2 A hp2 P2 kp off => ⟨rfl, ?_⟩⟩⟩
    subst hp2
    have s2 : ∀ b o, H b = some o → H2 b = some o ∧ Off A N b := fun b o e => by
      have e' : (upd (upd H dx (.own A.p)) A.p (.ins C dx [])) b = some o := by
        rw [upd_ne (ne_of_none e nx), upd_ne (ne_of_none e ndx)]
        exact e
      exact ⟨kp b o e' (ne_of_none e nx), off b o e' (ne_of_none e nx)⟩
    have s12 : Same H H2 := fun b o e => (s2 b o e).1
    have s2k : ∀ {H'}, Keeps A N H2 H' → Same H H' := fun kk b o e => kk b o (s2 b o e).1 (s2 b o e).2
    -- for pair in pairs
    refine ⟨_, rfl, p, rfl, ⟨_, SqL.of (s12 _ _ hp)⟩, for_list (K := K) (a := p) (xs := vr as) (fun i σ H' => ∃ (v4 : Option V) (fr : Nat → Nat) (ah : Nat → List Nat), σ = [some (.int (N : Int)), some (.ref p), some (.ref c), some (.ref A.p), v4, none] ∧
      Peb C N A H' fr ah ∧ Pb.PI N (l.take i) fr ah 0 0 ∧ Keeps A N H2 H') ⟨none, _, _, rfl, P2, PI.start, Keeps.refl⟩ (fun i σ H' _ ⟨_, _, _, _, _, _, kk⟩ => SqL.of (s2k kk _ _ hp)) ?_ ?_⟩
    · rintro i y σ H3 hi ⟨v4, fr3, ah3, rfl, P3, I3, k3⟩
      obtain ⟨a, ha, rfl⟩ := of_vr_get hi
      obtain ⟨b, hb, hH⟩ := PAs.of ha
      have hb3 : SqT K H3 a (tp b) := SqT.of (s2k k3 _ _ hH)
      obtain ⟨b1, b2, b3⟩ := El b (List.mem_of_getElem? hb)
      have et : l.take (i + 1) = l.take i ++ [b] := by
        rw [List.take_add_one, hb]
        rfl
      have sub : ∀ j, Good N (l.take j) := fun j => Good.sub (List.take_sublist j l) ok
      refine ⟨_, rfl, A.p, A.dx, _, rfl, P3.ins, pf_no _ _ (by decide) (by decide), _, rfl, a, _, _, _, rfl, rfl, hb3, tp0 b, _, rfl, a, _, _, _, rfl, rfl, hb3, tp1 b, A, N, _, fr3, ah3, b.1, b.2, rfl, P3, I3, sub i, hN, b1, b2, b3, fun H4 fr4 ah4 P4 I4 g k4 => ?_, fun H4 fr4 ah4 P4 I4 g k4 => ?_⟩
      · refine ⟨_, fr4, ah4, rfl, P4, ?_, k3.trans k4⟩
        rw [et]
        exact I4
      · refine absurd ?_ g
        have := sub (i + 1)
        rw [et] at this
        exact this
    · rintro σ H3 ⟨v4, fr3, ah3, rfl, P3, I3, k3⟩
      rw [vr_len, hal, List.take_length] at I3
      -- while
      refine ⟨fun m σ H' => ∃ (y : Nat) (fr : Nat → Nat) (ah : Nat → List Nat), m = x - y ∧ y ≤ x ∧ σ = [some (.int (N : Int)), some (.ref p), some (.ref c), some (.ref A.p), v4, some (.int (y : Int))] ∧ Peb C N A H' fr ah ∧ Pb.PI N l fr ah 0 0 ∧ Keeps A N H2 H', ⟨x - 0, 0, fr3, ah3, rfl, Nat.zero_le _, rfl, P3, I3, k3⟩, ?_⟩
      rintro m σ H4 ⟨y, fr4, ah4, hm, hy, rfl, P4, I4, k4⟩
      obtain ⟨a, b, ha, hb, hH⟩ := PCs.at (i := y) (by omega)
      have hc4 : SqL K H4 c (vr cs) := SqL.of (s2k k4 _ _ hc)
      have hb4 : SqT K H4 a (tp b) := SqT.of (s2k k4 _ _ hH)
      obtain ⟨b1, b2, b3⟩ := Ep b (List.mem_of_getElem? hb)
      have ia : atI (vr cs) (y : Int) = some (V.ref a) := at_of (j := y) rfl (vr_get ha)
      refine ⟨_, rfl, A.p, A.dx, _, rfl, P4.ins, pf_no _ _ (by decide) (by decide), _, rfl, _, rfl, c, _, _, _, rfl, rfl, hc4, ia, a, _, _, _, rfl, rfl, hb4, tp0 b, _, rfl, _, rfl, c, _, _, _, rfl, rfl, hc4, ia, a, _, _, _, rfl, rfl, hb4, tp1 b,
        A, N, _, fr4, ah4, b.1, b.2, rfl, P4, I4, ok, hN, b1, b2, b3, fun H5 fr5 ah5 P5 I5 f1 f2 g k5 => ⟨_, rfl, iteF ?_⟩, fun H5 fr5 ah5 P5 I5 g k5 => ⟨_, rfl, iteT ?_⟩⟩
      · have e : y = x := by
          by_cases q : y < x
          · exact absurd g (gy y b q hb)
          · omega
        subst e
        exact ⟨_, rfl, k H5 (s2k (k4.trans k5))⟩
      · have e : y ≠ x := fun z => by
          subst z
          exact g (gx b hb)
        refine ⟨fun σ' H' => ∃ m', m' < m ∧ ∃ (y : Nat) (fr : Nat → Nat) (ah : Nat → List Nat), m' = x - y ∧ y ≤ x ∧ σ' = [some (.int (N : Int)), some (.ref p), some (.ref c), some (.ref A.p), v4, some (.int (y : Int))] ∧ Peb C N A H' fr ah ∧ Pb.PI N l fr ah 0 0 ∧ Keeps A N H2 H', fun σ' H' q => q, ?_⟩
        exact ⟨_, rfl, _, _, rfl, rfl, m - 1, by omega, y + 1, fr5, ah5, by omega, by omega, rfl, P5, I5, k4.trans k5⟩
end
end Bf

set_option Elab.async false
set_option linter.all false
set_option maxRecDepth 100000
set_option maxHeartbeats 2000000
namespace Bf
open PySem PySem.Spec PyProof.Rows L2 Pb
theorem ObjAt.off {α : Type} {g : α → HO} {H : Hp} {as : List Addr} {xs : List α} {p : Addr} {o : HO} (h : ObjAt g H as xs) (hp : H p = some o) (ne : ∀ x, g x = o → False) : p ∉ as := fun z => by
  obtain ⟨i, hi⟩ := List.mem_iff_getElem?.mp z
  obtain ⟨r, _, hH⟩ := h.of hi
  rw [hp] at hH
  exact ne r (Option.some.inj hH).symm
def gr (r : List Nat) : HO := .lst (vi r)
abbrev ListsAt := ObjAt gr
def prs (a b c : Nat) : List Sa84.Bar := [(a, b), (a, c), (b, c)]
theorem prs_get {a b c x : Nat} (h : x < 3) : (prs a b c)[x]? = some (Sa84.pair a b c x) := by
  match x, h with
  | 0, _ => rfl
  | 1, _ => rfl
  | 2, _ => rfl
theorem vi_cons (x : Nat) (l : List Nat) : vi (x :: l) = V.int (x : Int) :: vi l := rfl
section
variable {P : Program} {w : World} {K : PySem.W.Frag} {mg : Str → Option Value} {base : Heap}
/-! ### taken_apart -/
def AInv (N : Nat) (l0 : List Sa84.Bar) (a rw0 : Addr) (H : Hp) (m : Nat) (σ : L2.St) (H' : Hp) : Prop := ∃ (pp : Addr) (as ras : List Addr) (l : List Sa84.Bar) (S : Nat → Bool) (done : List (List Nat)) (f : Nat) (v4 v5 v6 v7 : Option V),
  m = sz S N ∧ σ = [some (.int (N : Int)), some (.ref a), some (.ref pp), some (.ref rw0), v4, v5, v6, v7, none, none] ∧ H' pp = some (.lst (vr as)) ∧ PairsAt H' as l ∧ pp ≠ rw0 ∧ Fr N S l ∧ H' rw0 = some (.lst (vr ras)) ∧ ListsAt H' ras done ∧ rw0 ∉ ras ∧ Same H H' ∧
  done.length + sz S N = N ∧ 2 ≤ sz S N ∧ done.length + f = 40 ∧ Sx35.apart N 40 (List.range N) l0 = done ++ Sx35.apart N f ((List.range N).filter S) l
def spApart (K : PySem.W.Frag) : Sp := fun vs H Q _ => ∃ (a : Addr) (N m : Nat) (bs : List Nat), vs = [.int (N : Int), .ref a] ∧ SqL K H a (vi bs) ∧ bs.length = 2 * m ∧ m ≤ 96 ∧ GoodF (N : Int) m (br bs) ∧ Good N (bars (br bs) m) ∧ m + 3 = 2 * N ∧
  ∀ H' q ras, Same H H' → H' q = some (.lst (vr ras)) → ListsAt H' ras (Sx35.apart N 40 (List.range N) (bars (br bs) m)) → (Sx35.apart N 40 (List.range N) (bars (br bs) m)).length = N - 2 → Q (.ref q) H'
theorem scAp : FnScope ["n", "bars", "pairs", "rows", "joint", "far", "choices", "which", "i", "pair"] ["n", "bars"] (defScope sApart) := ⟨rfl, rfl, rfl, by decide +kernel, rfl, by decide +kernel, by decide +kernel⟩
theorem ok_apart {f C fA fL fO : Addr} {fd fdA fdL fdO : FuncData} (F : Fun K "taken_apart" "taken_apart" sApart f fd) (T : Txt K mg C) (mE : ∃ t, mg "EMPTY" = some (.int 255 t))
    (GA : FnOk P w K mg base CX0 1 fA fdA ["pairs", "joint"] spFar) (bA : Binds K fdA ["pairs", "joint"] []) (gA : mg "far_ends" = some (.ref fA)) (kA : PySem.W.keepIn K (.ref fA) = true)
    (GL : FnOk P w K mg base CX0 2 fL fdL ["n", "pairs", "many"] spLeast) (bL : Binds K fdL ["n", "pairs", "many"] []) (gL : mg "least_joint" = some (.ref fL)) (kL : PySem.W.keepIn K (.ref fL) = true)
    (GO : FnOk P w K mg base CX0 6 fO fdO ["n", "pairs", "choices"] spFirstO) (bO : Binds K fdO ["n", "pairs", "choices"] []) (gO : mg "first_in_order" = some (.ref fO)) (kO : PySem.W.keepIn K (.ref fO) = true) :
    FnOk P w K mg base CX0 7 f fd ["n", "bars"] (spApart K) := by
  refine F.ok scAp (fun vs H Q E h => ?_) (fun cdv A outer s H vs Q E hr h => ?_)
  · obtain ⟨a, N, m, bs, rfl, _⟩ := h
    rfl
  · obtain ⟨a, N, m, bs, rfl, hA, hlen, hm, g, ok, hmN, k⟩ := h
    obtain ⟨tE, eE⟩ := mE
    have hN : N ≤ 32 := by have := g.n32; omega
    have hN2 : 2 ≤ N := by have := g.n2; omega
    refine ⟨_, pss_cons (ps_setLc (i := 2) (own := [("i", 8)]) rfl scAp.nd rfl rfl (sw_true rfl rfl rfl rfl) (pi_range3 rfl T.range (pa_cons pe_int (pa_cons (pe_callB call_len_seq (by rfl) T.len PySem.boot_len (pa_cons (pv 1) pa_nil)) (pa_cons pe_int pa_nil)))) (show BlkOk ["n", "bars", "pairs", "rows", "joint", "far", "choices", "which", "i", "pair"] (defScope sApart) _ _ from blkOk_by (by decide +kernel)) (fun s H C cl fp => pg_name (i := 8) scAp.nd rfl (Or.inl rfl)) (fun s H C cl fp => pts_nil)
        (fun s H C cl fp => pe_tup (pa_cons (pe_ix (r := rIxL K) ix_list (pv 1) (pv 8) (fun _ _ => rfl)) (pa_cons (pe_ix (r := rIxL K) ix_list (pv 1) (pe_op op_add (pv 8) pe_int) (fun _ _ => rfl)) pa_nil))))
      (pss_cons (ps_set (i := 3) scAp.nd rfl (Or.inl rfl) (pe_lst pa_nil))
      (pss_cons (ps_while PassesOwn.never (pt_cmp (pc_lt (pe_callB call_len_seq (by rfl) T.len PySem.boot_len (pa_cons (pv 3) pa_nil)) (pe_op op_sub (pv 0) pe_int)))
        (pss_cons (ps_set (i := 4) scAp.nd rfl (Or.inr rfl) (pe_call GL (hr.mono (by decide)) rfl gL kL bL .nil pass0 (pa_cons (pv 0) (pa_cons (pv 2) (pa_cons pe_int pa_nil)))))
        (pss_cons (ps_if (pt_cmp (pc_isN (pv 4))) (pss_one (ps_set (i := 4) scAp.nd rfl (Or.inr rfl) (pe_call GL (hr.mono (by decide)) rfl gL kL bL .nil pass0 (pa_cons (pv 0) (pa_cons (pv 2) (pa_cons pe_int pa_nil)))))) pss_nil)
        (pss_cons (ps_set (i := 5) scAp.nd rfl (Or.inl rfl) (pe_call GA (hr.mono (by decide)) rfl gA kA bA .nil pass0 (pa_cons (pv 2) (pa_cons (pv 4) pa_nil))))
        (pss_cons (ps_setLc (i := 2) (own := [("pair", 9)]) rfl scAp.nd rfl rfl (sw_true rfl rfl rfl rfl) (pi_list (pv 2)) (show BlkOk ["n", "bars", "pairs", "rows", "joint", "far", "choices", "which", "i", "pair"] (defScope sApart) _ _ from blkOk_by (by decide +kernel)) (fun s H C cl fp => pg_name (i := 9) scAp.nd rfl (Or.inl rfl)) (fun s H C cl fp => pts_one (pt_cmpR (r := rIn K true) op_notIn_seq (pv 4) (pv 9) rfl)) (fun s H C cl fp => pv 9))
        (pss_one (ps_if (pt_cmp (pc_eqI (pe_callB call_len_seq (by rfl) T.len PySem.boot_len (pa_cons (pv 5) pa_nil)) pe_int))
          (pss_one (ps_expr (pe_bm PySem.F.plainAttrs_list PySem.F.slot_list_append PySem.F.type_list_append mt_append (pv 3) (pa_cons (pe_op op_cat (pe_op op_cat (pe_lst (pa_cons (pv 4) pa_nil)) (pv 5)) (pe_lst (pa_cons (pe_glob (v := V.int 255) rfl eE ⟨tE, rfl⟩) (pa_cons (pe_glob (v := V.int 255) rfl eE ⟨tE, rfl⟩) pa_nil)))) pa_nil))))
          (pss_cons (ps_set (i := 6) scAp.nd rfl (Or.inl rfl) (pe_lst (pa_cons (pe_tup (pa_cons (pe_ix ix_list (pv 5) pe_int (fun _ _ => rfl)) (pa_cons (pe_ix ix_list (pv 5) pe_int (fun _ _ => rfl)) pa_nil))) (pa_cons (pe_tup (pa_cons (pe_ix ix_list (pv 5) pe_int (fun _ _ => rfl)) (pa_cons (pe_ix ix_list (pv 5) pe_int (fun _ _ => rfl)) pa_nil))) (pa_cons (pe_tup (pa_cons (pe_ix ix_list (pv 5) pe_int (fun _ _ => rfl)) (pa_cons (pe_ix ix_list (pv 5) pe_int (fun _ _ => rfl)) pa_nil))) pa_nil)))))
          (pss_cons (ps_set (i := 7) scAp.nd rfl (Or.inl rfl) (pe_call GO hr rfl gO kO bO .nil pass0 (pa_cons (pv 0) (pa_cons (pv 2) (pa_cons (pv 6) pa_nil)))))
          (pss_cons (ps_set (i := 2) scAp.nd rfl (Or.inl rfl) (pe_op op_cat (pv 2) (pe_lst (pa_cons (pe_ix ix_list (pv 6) (pv 7) (fun _ _ => rfl)) pa_nil))))
          (pss_one (ps_expr (pe_bm PySem.F.plainAttrs_list PySem.F.slot_list_append PySem.F.type_list_append mt_append (pv 3) (pa_cons (pe_op op_cat (pe_op op_cat (pe_lst (pa_cons (pv 4) pa_nil)) (pv 5)) (pe_lst (pa_cons (pv 7) pa_nil))) pa_nil))))))))))))))
      (pss_one (ps_ret (pv 3))))), ?_⟩
    have hl2 : (((vi bs).length : Nat) : Int) = 2 * (m : Int) := by rw [vi_len, hlen]; omega
    -- pairs = [..]
    refine ⟨_, rfl, a, _, rfl, .inl hA, 0, _, 2, m, rfl, rgc2 hl2 hm, fun D hD => ?_⟩
    refine lc_rangeC (fun i H' => ∃ as : List Addr, H' D = some (.lst (vr as)) ∧ PairsAt H' as (bars (br bs) i) ∧ Same H H') ⟨[], upd_same, ObjAt.nil, same_new (Same.refl H) hD⟩ ?_ ?_
    · rintro i H1 hi ⟨as, hD1, R1, s1⟩
      have q1 : atI (vi bs) (0 + (i : Int) * 2) = some (V.int (((br bs i).1 : Nat) : Int)) := at_of (j := 2 * i) (by omega) (vi_get (get_q (by omega)))
      have q2 : atI (vi bs) (0 + (i : Int) * 2 + 1) = some (V.int (((br bs i).2 : Nat) : Int)) := at_of (j := 2 * i + 1) (by omega) (vi_get (get_q (by omega)))
      have hA1 := s1.seq hA
      refine ⟨rfl, _, rfl, _, rfl, a, _, _, _, rfl, rfl, hA1, q1, _, rfl, _, rfl, _, _, rfl, rfl, a, _, _, _, rfl, rfl, hA1, q2, (by show 2 ≤ sizeLine; decide), fun t ht => ?_⟩
      have st : Same H1 (upd H1 t (gp (br bs i))) := same_new (Same.refl H1) ht
      have R2 := (R1.same st).snoc (r := br bs i) (a := t) upd_same
      refine ⟨_, st _ _ hD1, ?_, as ++ [t], ?_, ?_, same_upd (s1.trans st) hD⟩
      · rw [vr_len, R1.len, bars_len]
        exact small1000 (by omega)
      · rw [upd_same, vr_snoc]
      · rw [bars_succ]
        exact R2.upd (R2.off (st _ _ hD1) fun x e => by cases e)
    rintro H1 ⟨as0, hD1, R1, s1⟩
    -- rows = []
    refine ⟨(by show 0 ≤ sizeLine; exact Nat.zero_le _), fun rw0 hrw => ?_⟩
    have s2 : Same H1 (upd H1 rw0 (.lst [])) := same_new (Same.refl H1) hrw
    have hrw0 : H rw0 = none := s1.free hrw
    have ends0 : ∀ i, i < m → (br bs i).1 < N ∧ (br bs i).2 < N ∧ (br bs i).1 ≠ (br bs i).2 := fun i hi => ⟨by have := g.lt1 i hi; omega, by have := g.lt2 i hi; omega, g.ne i hi⟩
    have F0 := Fr.start ends0 ok hmN
    refine ⟨AInv N (bars (br bs) m) a rw0 H, ⟨sz (fun _ => true) N, D, as0, [], bars (br bs) m, fun _ => true, [], 40, none, none, none, none, rfl, rfl, s2 _ _ hD1, R1.same s2, ne_of_none hD1 hrw, F0, upd_same, ObjAt.nil, (by simp), s1.trans s2, (by rw [sz_all]; exact Nat.zero_add N), (by rw [sz_all]; exact hN2), rfl, ?_⟩, ?_⟩
    · rw [List.nil_append, List.filter_eq_self.mpr fun _ _ => rfl]
    rintro mm σ H1 ⟨pp, as, ras, l, S, done, fu, v4, v5, v6, v7, hmm, rfl, hpp, PAs, npr, Fl, hrw, LAs, nrr, s1, hds, hs2, hdf, hap⟩
    have few := Fr.few hN Fl
    refine ⟨_, rfl, rw0, _, rfl, .inl (SqL.of hrw), _, rfl, _, _, rfl, rfl, _, _, rfl, rfl, _, rfl, ite2 (fun h => ?_) (fun h => ?_)⟩
    · have h3 : 3 ≤ sz S N := by
        have := of_decide_eq_true h
        rw [vr_len, LAs.len] at this
        omega
      obtain ⟨fu, rfl⟩ : ∃ t, fu = t + 1 := ⟨fu - 1, by omega⟩
      refine ⟨fun σ' H' => ∃ m', m' < mm ∧ AInv N (bars (br bs) m) a rw0 H m' σ' H', fun σ' H' q => q, ?_⟩
      have nine : done.length ≤ 64 := by omega
      rcases Fl.step hN h3 with ⟨v, b1, b2, e2, hv, sv, dv, hb, F', hsz⟩ | ⟨v, b1, b2, b3, x, e2, e3, hv, sv, dv, hb, l12, l23, hm3, ex, hx, F', hsz⟩
      · -- two bars
        refine ⟨_, rfl, _, rfl, pp, as, l, N, S, 2, rfl, hpp, PAs, Fl, hN, fun H2 v' s2 e => ?_, fun H2 s2 e => ?_⟩
        · rw [find_left hN Fl (by decide), e2] at e
          have e : v = v' := Option.some.inj e
          subst e
          refine ⟨_, rfl, _, rfl, iteF ?_⟩
          refine ⟨_, rfl, _, rfl, pp, as, l, N, S, v, rfl, s2 _ _ hpp, PAs.same s2, Fl, hN, fun H2' q s2' _ hq => ?_⟩
          have s2 := s2.trans s2'
          clear s2'
          generalize H2' = H2 at s2 hq
          refine ⟨_, rfl, pp, rfl, ⟨_, SqL.of (s2 _ _ hpp)⟩, fun D hD => ?_⟩
          refine lc_list (K := K) (a := pp) (xs := vr as) (fun j H' => ∃ ds : List Addr, H' D = some (.lst (vr ds)) ∧ PairsAt H' ds (Sa84.without (l.take j) v) ∧ Same H2 H') ⟨[], upd_same, ObjAt.nil, same_new (Same.refl H2) hD⟩ (fun j H' _ ⟨_, _, _, s3⟩ => SqL.of (s3 _ _ (s2 _ _ hpp))) ?_ ?_
          · rintro j z H3 hj ⟨ds, hD3, PD, s3⟩
            obtain ⟨c0, hc0, rfl⟩ := of_vr_get hj
            obtain ⟨b0, hb0, hH0⟩ := PAs.of hc0
            have hH3 := s3 _ _ (s2 _ _ hH0)
            refine ⟨rfl, _, rfl, _, rfl, c0, tp b0, rfl, .inr (SqT.of hH3), rfl, rfl, _, rfl, ?_⟩
            show if (!inV (V.int (v : Int)) (tp b0)) = true then _ else _
            rw [inV_pair]
            cases hat : At v b0 with
            | true =>
              refine iteF ⟨ds, hD3, ?_, s3⟩
              rw [without_take hb0, hat, if_pos rfl, List.append_nil]
              exact PD
            | false =>
              have PD2 := PD.snoc hH3
              refine iteT ⟨_, rfl, _, hD3, ?_, ds ++ [c0], ?_, ?_, same_upd s3 hD⟩
              · have h1 : (Sa84.without (l.take j) v).length ≤ (l.take j).length := List.length_filter_le ..
                have h2 : (l.take j).length ≤ l.length := by rw [List.length_take]; omega
                rw [vr_len, PD.len]
                exact small1000 (by omega)
              · rw [upd_same, vr_snoc]
              · rw [without_take hb0, hat, if_neg (by decide)]
                exact PD2.upd (PD2.off hD3 fun x e => by cases e)
          rintro H3 ⟨ds, hD3, PD, s3⟩
          rw [vr_len, PAs.len, List.take_length] at PD
          have s23 := s2.trans s3
          have hq3 := s3 _ _ hq
          refine ⟨_, rfl, q, _, rfl, .inl (SqL.of hq3), _, _, rfl, rfl, _, rfl, ?_⟩
          rw [vi_len, hb]
          refine iteT ?_
          rw [hb] at hq3
          -- rows.append([joint] + far + [EMPTY, EMPTY])
          have hrw3 := s23 _ _ hrw
          refine ⟨_, rfl, .inl ⟨rfl, _, SqL.of hrw3⟩, _, rfl, (by show 1 ≤ sizeLine; decide), fun p1 hp1 => ?_⟩
          have t1 : Same H3 (upd H3 p1 (.lst [V.int (v : Int)])) := same_new (Same.refl H3) hp1
          refine ⟨_, rfl, p1, q, _, _, rfl, rfl, upd_same, t1 _ _ hq3, (by show 1 + 2 ≤ sizeLine; decide), fun p2 hp2 => ?_⟩
          generalize hG1 : upd H3 p1 (.lst [V.int (v : Int)]) = G1 at t1 hp2
          have t2 : Same G1 (upd G1 p2 (.lst ([V.int (v : Int)] ++ vi [b1, b2]))) := same_new (Same.refl G1) hp2
          have hp2' : (upd G1 p2 (.lst ([V.int (v : Int)] ++ vi [b1, b2]))) p2 = some (.lst ([V.int (v : Int)] ++ vi [b1, b2])) := upd_same
          generalize upd G1 p2 (.lst ([V.int (v : Int)] ++ vi [b1, b2])) = G2 at t2 hp2'
          refine ⟨(by show 2 ≤ sizeLine; decide), fun p3 hp3 => ?_⟩
          have t3 : Same G2 (upd G2 p3 (.lst [V.int 255, V.int 255])) := same_new (Same.refl G2) hp3
          have hp3' : (upd G2 p3 (.lst [V.int 255, V.int 255])) p3 = some (.lst [V.int 255, V.int 255]) := upd_same
          refine ⟨p2, p3, _, _, rfl, rfl, t3 _ _ hp2', upd_same, (by show 3 + 2 ≤ sizeLine; decide), fun p4 hp4 => ?_⟩
          generalize upd G2 p3 (.lst [V.int 255, V.int 255]) = G3 at t3 hp3' hp4
          have e4 : [V.int (v : Int)] ++ vi [b1, b2] ++ [V.int 255, V.int 255] = vi (v :: (Sa84.beside l v ++ [255, 255])) := by rw [hb]; rfl
          rw [e4]
          have t4 : Same G3 (upd G3 p4 (.lst (vi (v :: (Sa84.beside l v ++ [255, 255]))))) := same_new (Same.refl G3) hp4
          have hp4' : (upd G3 p4 (.lst (vi (v :: (Sa84.beside l v ++ [255, 255]))))) p4 = some (.lst (vi (v :: (Sa84.beside l v ++ [255, 255])))) := upd_same
          have t34 : Same H3 G3 := (t1.trans t2).trans t3
          have np4 : rw0 ≠ p4 := ne_of_none (t34 _ _ hrw3) hp4
          generalize upd G3 p4 (.lst (vi (v :: (Sa84.beside l v ++ [255, 255])))) = G4 at t4 hp4'
          have t : Same H3 G4 := t34.trans t4
          refine ⟨rw0, _, _, rfl, rfl, t _ _ hrw3, ?_, ?_⟩
          · rw [vr_len, LAs.len]
            exact small1000 (by omega)
          have nrr' : rw0 ∉ ras ++ [p4] := by
            rw [List.mem_append, List.mem_singleton]
            rintro (z | z)
            · exact nrr z
            · exact np4 z
          have nDr : D ≠ rw0 := fun z => by
            have := s2 _ _ hrw
            rw [← z, hD] at this
            cases this
          refine ⟨sz (minus S v) N, (by omega), D, ds, ras ++ [p4], Sa84.without l v, minus S v, done ++ [v :: (Sa84.beside l v ++ [255, 255])], fu, _, _, _, _, rfl, rfl, ?_, ?_, nDr, F', ?_, ?_, nrr', ?_, ?_, (by omega), ?_, ?_⟩
          · rw [upd_ne nDr]
            exact t _ _ hD3
          · exact (PD.same t).upd ((PD.same t).off (t _ _ hrw3) fun x e => by cases e)
          · rw [upd_same, vr_snoc]
          · exact (((LAs.same (s23)).same t).snoc (r := v :: (Sa84.beside l v ++ [255, 255])) hp4').upd nrr'
          · exact same_upd ((s1.trans s23).trans t) hrw0
          · rw [List.length_append]
            show done.length + 1 + _ = N
            omega
          · rw [List.length_append]
            show done.length + 1 + _ = 40
            omega
          · rw [hap, apart_two h3 e2, List.append_assoc]
            rfl
        · rw [find_left hN Fl (by decide), e2] at e
          cases e
      · -- three bars
        obtain ⟨gx, gy⟩ := first_pair hN Fl l12 l23 hm3 ex
        refine ⟨_, rfl, _, rfl, pp, as, l, N, S, 2, rfl, hpp, PAs, Fl, hN, fun H2 v' s2 e => ?_, fun H2a s2a e => ?_⟩
        · rw [find_left hN Fl (by decide), e2] at e
          cases e
        refine ⟨_, rfl, _, rfl, iteT ?_⟩
        refine ⟨_, rfl, _, rfl, pp, as, l, N, S, 3, rfl, s2a _ _ hpp, PAs.same s2a, Fl, hN, fun H2b v' s2b e => ?_, fun H2b s2b e => ?_⟩
        · rw [find_left hN Fl (by decide), e3] at e
          have e : v = v' := Option.some.inj e
          subst e
          have s2ab := s2a.trans s2b
          refine ⟨_, rfl, _, rfl, pp, as, l, N, S, v, rfl, s2ab _ _ hpp, PAs.same s2ab, Fl, hN, fun H2 q s2c _ hq => ?_⟩
          have s2 := s2ab.trans s2c
          refine ⟨_, rfl, pp, rfl, ⟨_, SqL.of (s2 _ _ hpp)⟩, fun D hD => ?_⟩
          refine lc_list (K := K) (a := pp) (xs := vr as) (fun j H' => ∃ ds : List Addr, H' D = some (.lst (vr ds)) ∧ PairsAt H' ds (Sa84.without (l.take j) v) ∧ Same H2 H') ⟨[], upd_same, ObjAt.nil, same_new (Same.refl H2) hD⟩ (fun j H' _ ⟨_, _, _, s3⟩ => SqL.of (s3 _ _ (s2 _ _ hpp))) ?_ ?_
          · rintro j z H3 hj ⟨ds, hD3, PD, s3⟩
            obtain ⟨c0, hc0, rfl⟩ := of_vr_get hj
            obtain ⟨b0, hb0, hH0⟩ := PAs.of hc0
            have hH3 := s3 _ _ (s2 _ _ hH0)
            refine ⟨rfl, _, rfl, _, rfl, c0, tp b0, rfl, .inr (SqT.of hH3), rfl, rfl, _, rfl, ?_⟩
            show if (!inV (V.int (v : Int)) (tp b0)) = true then _ else _
            rw [inV_pair]
            cases hat : At v b0 with
            | true =>
              refine iteF ⟨ds, hD3, ?_, s3⟩
              rw [without_take hb0, hat, if_pos rfl, List.append_nil]
              exact PD
            | false =>
              have PD2 := PD.snoc hH3
              refine iteT ⟨_, rfl, _, hD3, ?_, ds ++ [c0], ?_, ?_, same_upd s3 hD⟩
              · have h1 : (Sa84.without (l.take j) v).length ≤ (l.take j).length := List.length_filter_le ..
                have h2 : (l.take j).length ≤ l.length := by rw [List.length_take]; omega
                rw [vr_len, PD.len]
                exact small1000 (by omega)
              · rw [upd_same, vr_snoc]
              · rw [without_take hb0, hat, if_neg (by decide)]
                exact PD2.upd (PD2.off hD3 fun x e => by cases e)
          rintro H3 ⟨ds, hD3, PD, s3⟩
          rw [vr_len, PAs.len, List.take_length] at PD
          have s23 := s2.trans s3
          have hq3 := s3 _ _ hq
          refine ⟨_, rfl, q, _, rfl, .inl (SqL.of hq3), _, _, rfl, rfl, _, rfl, ?_⟩
          rw [vi_len, hb]
          refine iteF ?_
          rw [hb] at hq3
          have i0 : atI (vi [b1, b2, b3]) 0 = some (V.int ((b1 : Nat) : Int)) := at_of (j := 0) rfl rfl
          have i1 : atI (vi [b1, b2, b3]) 1 = some (V.int ((b2 : Nat) : Int)) := at_of (j := 1) rfl rfl
          have i2 : atI (vi [b1, b2, b3]) 2 = some (V.int ((b3 : Nat) : Int)) := at_of (j := 2) rfl rfl
          -- choices
          refine ⟨_, rfl, q, _, _, _, rfl, rfl, SqL.of hq3, i0, _, rfl, q, _, _, _, rfl, rfl, SqL.of hq3, i1, (by show 2 ≤ sizeLine; decide), fun c1 hc1 => ?_⟩
          have u1 : Same H3 (upd H3 c1 (.tup [V.int ((b1 : Nat) : Int), V.int ((b2 : Nat) : Int)])) := same_new (Same.refl H3) hc1
          have hc1' : (upd H3 c1 (.tup [V.int ((b1 : Nat) : Int), V.int ((b2 : Nat) : Int)])) c1 = some (.tup [V.int ((b1 : Nat) : Int), V.int ((b2 : Nat) : Int)]) := upd_same
          generalize upd H3 c1 (.tup [V.int ((b1 : Nat) : Int), V.int ((b2 : Nat) : Int)]) = U1 at u1 hc1'
          refine ⟨_, rfl, q, _, _, _, rfl, rfl, SqL.of (u1 _ _ hq3), i0, _, rfl, q, _, _, _, rfl, rfl, SqL.of (u1 _ _ hq3), i2, (by show 2 ≤ sizeLine; decide), fun c2 hc2 => ?_⟩
          have u2 : Same U1 (upd U1 c2 (.tup [V.int ((b1 : Nat) : Int), V.int ((b3 : Nat) : Int)])) := same_new (Same.refl U1) hc2
          have hc2' : (upd U1 c2 (.tup [V.int ((b1 : Nat) : Int), V.int ((b3 : Nat) : Int)])) c2 = some (.tup [V.int ((b1 : Nat) : Int), V.int ((b3 : Nat) : Int)]) := upd_same
          generalize upd U1 c2 (.tup [V.int ((b1 : Nat) : Int), V.int ((b3 : Nat) : Int)]) = U2 at u2 hc2'
          have hq5 := u2 _ _ (u1 _ _ hq3)
          refine ⟨_, rfl, q, _, _, _, rfl, rfl, SqL.of hq5, i1, _, rfl, q, _, _, _, rfl, rfl, SqL.of hq5, i2, (by show 2 ≤ sizeLine; decide), fun c3 hc3 => ?_⟩
          have u3 : Same U2 (upd U2 c3 (.tup [V.int ((b2 : Nat) : Int), V.int ((b3 : Nat) : Int)])) := same_new (Same.refl U2) hc3
          have hc3' : (upd U2 c3 (.tup [V.int ((b2 : Nat) : Int), V.int ((b3 : Nat) : Int)])) c3 = some (.tup [V.int ((b2 : Nat) : Int), V.int ((b3 : Nat) : Int)]) := upd_same
          generalize upd U2 c3 (.tup [V.int ((b2 : Nat) : Int), V.int ((b3 : Nat) : Int)]) = U3 at u3 hc3'
          refine ⟨(by show 3 ≤ sizeLine; decide), fun cl hcl => ?_⟩
          have u4 : Same U3 (upd U3 cl (.lst [V.ref c1, V.ref c2, V.ref c3])) := same_new (Same.refl U3) hcl
          have hcl' : (upd U3 cl (.lst [V.ref c1, V.ref c2, V.ref c3])) cl = some (.lst (vr [c1, c2, c3])) := upd_same
          generalize upd U3 cl (.lst [V.ref c1, V.ref c2, V.ref c3]) = U4 at u4 hcl'
          have PC : PairsAt U4 [c1, c2, c3] (prs b1 b2 b3) := by
            have n1 : PairsAt U4 [] [] := ObjAt.nil
            have n2 := n1.snoc (a := c1) (r := (b1, b2)) (u4 _ _ (u3 _ _ (u2 _ _ hc1')))
            have n3 := n2.snoc (a := c2) (r := (b1, b3)) (u4 _ _ (u3 _ _ hc2'))
            exact n3.snoc (a := c3) (r := (b2, b3)) (u4 _ _ hc3')
          have u : Same H3 U4 := ((u1.trans u2).trans u3).trans u4
          -- which = first_in_order(n, pairs, choices)
          have Ep : Ends N (prs b1 b2 b3) := fun z hz => by
            have h1 := hm3 b1 (by simp)
            have h2 := hm3 b2 (by simp)
            have h3 := hm3 b3 (by simp)
            unfold prs at hz
            rcases List.mem_cons.mp hz with rfl | hz
            · exact ⟨h1.1, h2.1, show b1 ≠ b2 by omega⟩
            rcases List.mem_cons.mp hz with rfl | hz
            · exact ⟨h1.1, h3.1, show b1 ≠ b3 by omega⟩
            rcases List.mem_cons.mp hz with rfl | hz
            · exact ⟨h2.1, h3.1, show b2 ≠ b3 by omega⟩
            · simp at hz
          refine ⟨_, rfl, _, rfl, _, rfl, D, cl, ds, [c1, c2, c3], Sa84.without l v, prs b1 b2 b3, N, x, rfl, u _ _ hD3, PD.same u, hcl', PC, hN, Good.sub (without_sub l v) Fl.good, (fun z hz => ?_), Ep, hx, (fun z hz => ?_), (fun y z hy hz => ?_), fun U5 s5 => ?_⟩
          · have := Fl.ins z (mem_without.mp hz).1
            exact ⟨this.1, this.2.1, this.2.2.2.2⟩
          · rw [prs_get hx] at hz
            rw [← Option.some.inj hz]
            exact gx
          · rw [prs_get (by omega)] at hz
            rw [← Option.some.inj hz]
            exact gy y hy
          -- pairs = pairs + [choices[which]]
          obtain ⟨ca, cb, hca, hcb, hcH⟩ := PC.at (i := x) hx
          rw [prs_get hx] at hcb
          have hcb : Sa84.pair b1 b2 b3 x = cb := Option.some.inj hcb
          subst hcb
          have u5 := u.trans s5
          have hD5 := u5 _ _ hD3
          refine ⟨_, rfl, _, rfl, _, rfl, cl, _, _, _, rfl, rfl, SqL.of (s5 _ _ hcl'), at_of (j := x) rfl (vr_get hca), (by show 1 ≤ sizeLine; decide), fun p0 hp0 => ?_⟩
          have u6 : Same U5 (upd U5 p0 (.lst [V.ref ca])) := same_new (Same.refl U5) hp0
          have hp0' : (upd U5 p0 (.lst [V.ref ca])) p0 = some (.lst [V.ref ca]) := upd_same
          generalize upd U5 p0 (.lst [V.ref ca]) = U6 at u6 hp0'
          have PD6 := PD.same (u5.trans u6)
          have dl : ds.length ≤ 61 := by
            rw [PD.len]
            have : (Sa84.without l v).length ≤ l.length := List.length_filter_le ..
            omega
          refine ⟨D, p0, _, _, rfl, rfl, u6 _ _ hD5, hp0', ?_, fun D2 hD2 => ?_⟩
          · rw [vr_len]
            show ds.length + 1 ≤ sizeLine
            exact Nat.le_of_lt (small1000 (by omega))
          have PD7 := PD6.snoc (r := Sa84.pair b1 b2 b3 x) (u6 _ _ (s5 _ _ hcH))
          have e7 : vr ds ++ [V.ref ca] = vr (ds ++ [ca]) := (vr_snoc ds ca).symm
          rw [e7]
          have u7 : Same U6 (upd U6 D2 (.lst (vr (ds ++ [ca])))) := same_new (Same.refl U6) hD2
          have hD2' : (upd U6 D2 (.lst (vr (ds ++ [ca])))) D2 = some (.lst (vr (ds ++ [ca]))) := upd_same
          have nDr : D2 ≠ rw0 := fun z => by
            have := u6 _ _ (u5 _ _ (s23 _ _ hrw))
            rw [← z, hD2] at this
            cases this
          generalize upd U6 D2 (.lst (vr (ds ++ [ca]))) = U7 at u7 hD2'
          have u37 : Same H3 U7 := (u5.trans u6).trans u7
          have PD8 := PD7.same u7
          have hq7 := u37 _ _ hq3
          have s27 := s23.trans u37
          clear hq5 hq3 hq
          -- rows.append([joint] + far + [which])
          have hrw3 := s27 _ _ hrw
          refine ⟨_, rfl, .inl ⟨rfl, _, SqL.of hrw3⟩, _, rfl, (by show 1 ≤ sizeLine; decide), fun p1 hp1 => ?_⟩
          have t1 : Same U7 (upd U7 p1 (.lst [V.int (v : Int)])) := same_new (Same.refl U7) hp1
          refine ⟨_, rfl, p1, q, _, _, rfl, rfl, upd_same, t1 _ _ hq7, (by show 1 + 3 ≤ sizeLine; decide), fun p2 hp2 => ?_⟩
          generalize hG1 : upd U7 p1 (.lst [V.int (v : Int)]) = G1 at t1 hp2
          have t2 : Same G1 (upd G1 p2 (.lst ([V.int (v : Int)] ++ vi [b1, b2, b3]))) := same_new (Same.refl G1) hp2
          have hp2' : (upd G1 p2 (.lst ([V.int (v : Int)] ++ vi [b1, b2, b3]))) p2 = some (.lst ([V.int (v : Int)] ++ vi [b1, b2, b3])) := upd_same
          generalize upd G1 p2 (.lst ([V.int (v : Int)] ++ vi [b1, b2, b3])) = G2 at t2 hp2'
          refine ⟨_, rfl, (by show 1 ≤ sizeLine; decide), fun p3 hp3 => ?_⟩
          have t3 : Same G2 (upd G2 p3 (.lst [V.int (x : Int)])) := same_new (Same.refl G2) hp3
          have hp3' : (upd G2 p3 (.lst [V.int (x : Int)])) p3 = some (.lst [V.int (x : Int)]) := upd_same
          refine ⟨p2, p3, _, _, rfl, rfl, t3 _ _ hp2', upd_same, (by show 4 + 1 ≤ sizeLine; decide), fun p4 hp4 => ?_⟩
          generalize upd G2 p3 (.lst [V.int (x : Int)]) = G3 at t3 hp3' hp4
          have e4 : [V.int (v : Int)] ++ vi [b1, b2, b3] ++ [V.int (x : Int)] = vi [v, b1, b2, b3, x] := rfl
          rw [e4]
          have t4 : Same G3 (upd G3 p4 (.lst (vi [v, b1, b2, b3, x]))) := same_new (Same.refl G3) hp4
          have hp4' : (upd G3 p4 (.lst (vi [v, b1, b2, b3, x]))) p4 = some (.lst (vi [v, b1, b2, b3, x])) := upd_same
          have t34 : Same U7 G3 := (t1.trans t2).trans t3
          have np4 : rw0 ≠ p4 := ne_of_none (t34 _ _ hrw3) hp4
          generalize upd G3 p4 (.lst (vi [v, b1, b2, b3, x])) = G4 at t4 hp4'
          have t : Same U7 G4 := t34.trans t4
          refine ⟨rw0, _, _, rfl, rfl, t _ _ hrw3, ?_, ?_⟩
          · rw [vr_len, LAs.len]
            exact small1000 (by omega)
          have nrr' : rw0 ∉ ras ++ [p4] := by
            rw [List.mem_append, List.mem_singleton]
            rintro (z | z)
            · exact nrr z
            · exact np4 z
          refine ⟨sz (minus S v) N, (by omega), D2, ds ++ [ca], ras ++ [p4], Sa84.without l v ++ [Sa84.pair b1 b2 b3 x], minus S v, done ++ [[v, b1, b2, b3, x]], fu, _, _, _, _, rfl, rfl, ?_, ?_, nDr, F', ?_, ?_, nrr', ?_, ?_, (by omega), ?_, ?_⟩
          · rw [upd_ne nDr]
            exact t _ _ hD2'
          · exact (PD8.same t).upd ((PD8.same t).off (t _ _ hrw3) fun x e => by cases e)
          · rw [upd_same, vr_snoc]
          · exact (((LAs.same s27).same t).snoc (r := [v, b1, b2, b3, x]) hp4').upd nrr'
          · exact same_upd ((s1.trans s27).trans t) hrw0
          · rw [List.length_append]
            show done.length + 1 + _ = N
            omega
          · rw [List.length_append]
            show done.length + 1 + _ = 40
            omega
          · rw [hap, apart_three h3 e2 e3 hb ex, List.append_assoc]
            rfl
        · rw [find_left hN Fl (by decide), e3] at e
          cases e
    · have h3 : sz S N = 2 := by
        have h3 : ¬ ((vr ras).length : Int) < (N : Int) - 2 := fun z => h (decide_eq_true z)
        rw [vr_len, LAs.len] at h3
        omega
      rw [apart_end (by omega), List.append_nil] at hap
      refine ⟨_, rfl, k H1 rw0 ras s1 hrw ?_ ?_⟩
      · rw [hap]
        exact LAs
      · rw [hap]
        omega
end
end Bf

set_option Elab.async false
set_option linter.all false
set_option maxRecDepth 100000
set_option maxHeartbeats 2000000
namespace Bf
open PySem PySem.Spec PyProof.Rows L2 Pb
/-! ### what is due of ri_steps -/
theorem beside_few (l : List Sa84.Bar) (v : Nat) : (Sa84.beside l v).length ≤ 32 := by
  unfold Sa84.beside
  have := List.length_filter_le (fun u => u != v && Sa84.between l u v) (List.range 32)
  rw [List.length_range] at this
  exact this
theorem apart_few (n : Nat) : ∀ (f : Nat) (js : List Nat) (l : List Sa84.Bar) (r : List Nat), r ∈ Sx35.apart n f js l → r.length ≤ 35
  | 0, js, l, r, h => by
    rw [Sx35.apart] at h
    simp at h
  | f + 1, js, l, r, h => by
    rw [Sx35.apart] at h
    split at h
    · simp at h
    split at h
    · rename_i v _
      rcases List.mem_cons.mp h with rfl | h
      · have := beside_few l v
        rw [List.length_cons, List.length_append]
        show _ + 2 + 1 ≤ 35
        omega
      · exact apart_few n f _ _ r h
    · split at h
      · simp at h
      · rename_i v _
        dsimp only at h
        split at h
        · simp at h
        · rcases List.mem_cons.mp h with rfl | h
          · have := beside_few l v
            rw [List.length_cons, List.length_append]
            show _ + 1 + 1 ≤ 35
            omega
          · exact apart_few n f _ _ r h
theorem flat_few : ∀ (rows : List (List Nat)), (∀ r, r ∈ rows → r.length ≤ 35) → rows.flatten.length ≤ 35 * rows.length
  | [], _ => Nat.zero_le _
  | r :: rows, h => by
    have ih := flat_few rows fun x hx => h x (List.mem_cons_of_mem _ hx)
    have := h r (List.mem_cons_self ..)
    rw [List.flatten_cons, List.length_append, List.length_cons]
    omega
theorem steps_due {n most : Int} {bs : List Nat} {m : Nat} (hlen : bs.length = 2 * m) : PySx35.ri_steps n most (bs.map fun (x : Nat) => (x : Int)) =
    (Sx35.does (.steps (Sa84.Frame.mk n (m : Int) bs) most)).v :: (Sx35.does (.steps (Sa84.Frame.mk n (m : Int) bs) most)).l.map fun (y : Nat) => (y : Int) := by
  have e : (((bs.map fun (x : Nat) => (x : Int)).length : Nat) : Int) / 2 = (m : Int) := by rw [List.length_map, hlen]; omega
  have en : Sx35Neutral.nats (bs.map fun (x : Nat) => (x : Int)) = bs := by
    unfold Sx35Neutral.nats
    rw [List.map_map]
    exact (List.map_congr_left fun x _ => Int.toNat_natCast x).trans (List.map_id _)
  unfold PySx35.ri_steps
  rw [e]
  show (Sx35.does (.steps (Sx35Neutral.frame n m _) most)).v :: (Sx35.does (.steps (Sx35Neutral.frame n m _) most)).l.map _ = _
  unfold Sx35Neutral.frame
  rw [en]
theorem steps_bad {n most : Int} {bs : List Nat} {m : Nat} (hlen : bs.length = 2 * m) (hm : m ≤ 96) (h : most < 0 ∨ ¬ GoodF n m (br bs)) : PySx35.ri_steps n most (bs.map fun (x : Nat) => (x : Int)) = [-2] := by
  rw [steps_due hlen]
  have g : ((Sa84.Frame.mk n (m : Int) bs).good && decide (0 ≤ most)) = false := by
    rcases h with h | h
    · rw [decide_eq_false (show ¬ 0 ≤ most by omega), Bool.and_false]
    · cases q : (Sa84.Frame.mk n (m : Int) bs).good with
      | false => rfl
      | true => exact absurd ((good_iff hm).mp q) h
  have d : Sx35.does (.steps (Sa84.Frame.mk n (m : Int) bs) most) = Sa84.ok (-2) := if_pos g
  rw [d]
  rfl
theorem steps_no {n most : Int} {bs : List Nat} {m : Nat} (hlen : bs.length = 2 * m) (hm : m ≤ 96) (h0 : 0 ≤ most) (h : GoodF n m (br bs)) (c : Sx35.ordered n.toNat (bars (br bs) m) = false ∨ (m : Int) + 3 ≠ 2 * n) : PySx35.ri_steps n most (bs.map fun (x : Nat) => (x : Int)) = [-3] := by
  rw [steps_due hlen]
  have g : ¬ ((Sa84.Frame.mk n (m : Int) bs).good && decide (0 ≤ most)) = false := by
    rw [(good_iff hm).mpr h, decide_eq_true h0]
    decide
  have d : Sx35.does (.steps (Sa84.Frame.mk n (m : Int) bs) most) = Sa84.ok (-3) := by
    refine (if_neg g).trans (if_pos ?_)
    rw [frame_bars]
    exact c
  rw [d]
  rfl
theorem steps_ok {n most : Int} {bs : List Nat} {m : Nat} (hlen : bs.length = 2 * m) (hm : m ≤ 96) (h0 : 0 ≤ most) (h : GoodF n m (br bs)) (c1 : Sx35.ordered n.toNat (bars (br bs) m) = true) (c2 : (m : Int) + 3 = 2 * n) : PySx35.ri_steps n most (bs.map fun (x : Nat) => (x : Int)) =
    if most < (((Sx35.apart n.toNat 40 (List.range n.toNat) (bars (br bs) m)).length : Nat) : Int) then [-1] else
      (((Sx35.apart n.toNat 40 (List.range n.toNat) (bars (br bs) m)).length : Nat) : Int) :: (Sx35.apart n.toNat 40 (List.range n.toNat) (bars (br bs) m)).flatten.map fun (y : Nat) => (y : Int) := by
  rw [steps_due hlen]
  have g : ¬ ((Sa84.Frame.mk n (m : Int) bs).good && decide (0 ≤ most)) = false := by
    rw [(good_iff hm).mpr h, decide_eq_true h0]
    decide
  have d : Sx35.does (.steps (Sa84.Frame.mk n (m : Int) bs) most) = if most < Sa84.nat (Sx35.apart n.toNat 40 (List.range n.toNat) (bars (br bs) m)).length then Sa84.ok (-1) else ⟨Sa84.nat (Sx35.apart n.toNat 40 (List.range n.toNat) (bars (br bs) m)).length, (Sx35.apart n.toNat 40 (List.range n.toNat) (bars (br bs) m)).flatten⟩ := by
    refine (if_neg g).trans ((if_neg ?_).trans ?_)
    · rw [frame_bars]
      rintro (z | z)
      · have z : Sx35.ordered n.toNat (bars (br bs) m) = false := z
        rw [c1] at z
        cases z
      · exact z c2
    · show (if most < Sa84.nat (Sx35.apart n.toNat 40 (List.range n.toNat) (Sa84.Frame.mk n (m : Int) bs).bars).length then Sa84.ok (-1) else ⟨Sa84.nat (Sx35.apart n.toNat 40 (List.range n.toNat) (Sa84.Frame.mk n (m : Int) bs).bars).length, (Sx35.apart n.toNat 40 (List.range n.toNat) (Sa84.Frame.mk n (m : Int) bs).bars).flatten⟩) = _
      rw [frame_bars]
  rw [d]
  show _ = if most < Sa84.nat _ then _ else _
  by_cases c : most < Sa84.nat (Sx35.apart n.toNat 40 (List.range n.toNat) (bars (br bs) m)).length
  · rw [if_pos c, if_pos c]
    rfl
  · rw [if_neg c, if_neg c]
    rfl
section
variable {P : Program} {w : World} {K : PySem.W.Frag} {mg : Str → Option Value} {base : Heap}
/-! ### ri_steps -/
def spSteps (K : PySem.W.Frag) : Sp := fun vs H Q _ => ∃ (a : Addr) (n most : Int) (bs : List Nat) (m : Nat), vs = [.int n, .int most, .ref a] ∧ ArgL K H a (vi bs) ∧ bs.length = 2 * m ∧ m ≤ 96 ∧
  ∀ (H' : Hp) (q : Addr), H' q = some (.lst ((PySx35.ri_steps n most (bs.map fun (x : Nat) => (x : Int))).map V.int)) → Q (.ref q) H'
theorem scSt : FnScope ["n", "most", "bars", "many", "rows", "answer", "row"] ["n", "most", "bars"] (defScope sSteps) := ⟨rfl, rfl, rfl, by decide +kernel, rfl, by decide +kernel, by decide +kernel⟩
theorem ok_steps {f C fI fF fK fA : Addr} {fd fdI fdF fdK fdA : FuncData} (F : Fun K "ri_steps" "ri_steps" sSteps f fd) (T : Txt K mg C) (M : Mk K C fI)
    (GI : FnOk P w K mg base CX0 1 fI fdI ["self", "n"] (spInit C)) (bI : Binds K fdI ["self", "n"] [])
    (GF : FnOk P w K mg base CX0 1 fF fdF ["n", "bars"] (spFrame K)) (bF : Binds K fdF ["n", "bars"] []) (gF : mg "is_frame" = some (.ref fF)) (kF : PySem.W.keepIn K (.ref fF) = true)
    (GK : FnOk P w K mg base CX0 6 fK fdK ["pebbles", "bars"] (spLayKept C K)) (bK : Binds K fdK ["pebbles", "bars"] []) (gK : mg "lay_kept" = some (.ref fK)) (kK : PySem.W.keepIn K (.ref fK) = true)
    (GA : FnOk P w K mg base CX0 7 fA fdA ["n", "bars"] (spApart K)) (bA : Binds K fdA ["n", "bars"] []) (gA : mg "taken_apart" = some (.ref fA)) (kA : PySem.W.keepIn K (.ref fA) = true) :
    FnOk P w K mg base CX0 8 f fd ["n", "most", "bars"] (spSteps K) := by
  refine F.ok scSt (fun vs H Q E h => ?_) (fun cdv A outer s H vs Q E hr h => ?_)
  · obtain ⟨a, n, most, bs, m, rfl, _⟩ := h
    rfl
  · obtain ⟨a, n, most, bs, m, rfl, hA, hlen, hm, k⟩ := h
    have hS := hA.sq
    refine ⟨_, pss_cons (ps_if (PW.pt (pw_or (pt_cmp (pc_lt (pv 1) pe_int)) (pw_or1 (pt_not (pt_val (pe_call GF (hr.mono (by decide)) rfl gF kF bF .nil pass0 (pa_cons (pv 0) (pa_cons (pv 2) pa_nil)))))))) (pss_one (ps_ret (pe_lst (pa_cons (pe_un un_neg pe_int) pa_nil)))) pss_nil)
      (pss_cons (ps_set (i := 3) scSt.nd rfl (Or.inl rfl) (pe_op op_fdiv (pe_callB call_len_seq (by rfl) T.len PySem.boot_len (pa_cons (pv 2) pa_nil)) pe_int))
      (pss_cons (ps_if (PW.pt (pw_or (pt_cmp (pc_neI (pv 3) (pe_op op_sub (pe_op op_mul pe_int (pv 0)) pe_int))) (pw_or1 (pt_cmp (pc_neI (pe_callB call_len_seq (by rfl) T.len PySem.boot_len (pa_cons (pe_call GK (hr.mono (by decide)) rfl gK kK bK .nil pass0 (pa_cons (pe_make M GI (hr.mono (by decide)) rfl T.mgC bI .nil pass0 (pa_cons (pv 0) pa_nil)) (pa_cons (pv 2) pa_nil))) pa_nil)) (pv 3)))))) (pss_one (ps_ret (pe_lst (pa_cons (pe_un un_neg pe_int) pa_nil)))) pss_nil)
      (pss_cons (ps_set (i := 4) scSt.nd rfl (Or.inl rfl) (pe_call GA hr rfl gA kA bA .nil pass0 (pa_cons (pv 0) (pa_cons (pv 2) pa_nil))))
      (pss_cons (ps_if (pt_cmp (pc_gt (pe_callB call_len_seq (by rfl) T.len PySem.boot_len (pa_cons (pv 4) pa_nil)) (pv 1))) (pss_one (ps_ret (pe_lst (pa_cons (pe_un un_neg pe_int) pa_nil)))) pss_nil)
      (pss_cons (ps_set (i := 5) scSt.nd rfl (Or.inl rfl) (pe_lst (pa_cons (pe_callB call_len_seq (by rfl) T.len PySem.boot_len (pa_cons (pv 4) pa_nil)) pa_nil)))
      (pss_cons (ps_for PassesOwn.never rfl (pi_list (pv 4)) (pg_name (i := 6) scSt.nd rfl (Or.inl rfl))
        (pss_one (ps_expr (pe_bm PySem.F.plainAttrs_list PySem.F.slot_list_extend PySem.F.type_list_extend mt_extend (pv 5) (pa_cons (pv 6) pa_nil)))))
      (pss_one (ps_ret (pv 5))))))))), ?_⟩
    have bad : ∀ {σ : L2.St} {H1 : Hp} {D : L2.Ends}, D.rt = Q → (most < 0 ∨ ¬ GoodF n m (br bs)) → tRet (tLst (tCons (tUn (rU fun i => .int (-i)) (tC (V.int 2))) tNil)) D σ H1 := fun {σ H1 D} hD h => by
      refine ⟨_, rfl, (by show 1 ≤ sizeLine; decide), fun l hl => ?_⟩
      rw [hD]
      refine k _ l ?_
      rw [upd_same, steps_bad hlen hm h]
      rfl
    refine ⟨_, rfl, _, _, rfl, rfl, _, rfl, ite2 (fun h1 => iteT (bad rfl (.inl (of_decide_eq_true h1)))) (fun h1 => ⟨_, rfl, _, rfl, a, n, bs, m, rfl, hS, hlen, hm, fun H1 s1 g => ⟨_, rfl, iteF ?_⟩, fun H1 s1 g => ⟨_, rfl, iteT (bad rfl (.inr g))⟩⟩)⟩
    have h0 : 0 ≤ most := by
      have : ¬ most < 0 := fun z => h1 (decide_eq_true z)
      omega
    obtain ⟨N, rfl⟩ : ∃ N : Nat, n = (N : Int) := ⟨n.toNat, by have := g.n2; omega⟩
    have hN : N ≤ 32 := by have := g.n32; omega
    have hb : ∀ i, i < m → (br bs i).1 < N ∧ (br bs i).2 < N ∧ (br bs i).1 ≠ (br bs i).2 := fun i hi => ⟨by have := g.lt1 i hi; omega, by have := g.lt2 i hi; omega, g.ne i hi⟩
    have no := fun c => steps_no (most := most) hlen hm h0 g c
    have yes := fun c1 c2 => steps_ok (most := most) hlen hm h0 g c1 c2
    rw [Int.toNat_natCast] at no yes
    have refuse : ∀ {σ : L2.St} {H1 : Hp} {D : L2.Ends}, D.rt = Q → (Sx35.ordered N (bars (br bs) m) = false ∨ (m : Int) + 3 ≠ 2 * (N : Int)) → tRet (tLst (tCons (tUn (rU fun i => .int (-i)) (tC (V.int 3))) tNil)) D σ H1 := fun {σ H1 D} hD h => by
      refine ⟨_, rfl, (by show 1 ≤ sizeLine; decide), fun l hl => ?_⟩
      rw [hD]
      refine k _ l ?_
      rw [upd_same, no h]
      rfl
    -- many = len(bars) // 2
    have hl2 : (((vi bs).length : Nat) : Int) / 2 = (m : Int) := by rw [vi_len, hlen]; omega
    refine ⟨_, rfl, a, _, rfl, .inl (s1.seq hS), _, _, rfl, rfl, ⟨by decide, by decide⟩, ?_⟩
    refine ⟨_, rfl, _, rfl, _, _, rfl, rfl, .inl ⟨by decide, by decide⟩, _, _, rfl, rfl, _, _, rfl, rfl, _, rfl, ite2 (fun h2 => iteT (refuse rfl (.inr fun z => ?_))) (fun h2 => ?_)⟩
    · have h2 : ((((vi bs).length : Nat) : Int) / 2) ≠ 2 * (N : Int) - 3 := by simpa using h2
      rw [hl2] at h2
      omega
    have hmN : (m : Int) + 3 = 2 * (N : Int) := by
      have h2 : ((((vi bs).length : Nat) : Int) / 2) = 2 * (N : Int) - 3 := by simpa using h2
      rw [hl2] at h2
      omega
    -- lay_kept(Pebbles(n), bars)
    refine ⟨_, rfl, fun x dx nx ndx ne => ⟨x, dx, N, rfl, upd_same, hN, fun H2 A hp P2 kp off => ⟨rfl, ?_⟩⟩⟩
    subst hp
    have s2 : ∀ b o, H1 b = some o → H2 b = some o ∧ Off A N b := fun b o e => by
      have e' : (upd (upd H1 dx (.own A.p)) A.p (.ins C dx [])) b = some o := by
        rw [upd_ne (ne_of_none e nx), upd_ne (ne_of_none e ndx)]
        exact e
      exact ⟨kp b o e' (ne_of_none e nx), off b o e' (ne_of_none e nx)⟩
    have s12 : Same H H2 := fun b o e => (s2 b o (s1 b o e)).1
    refine ⟨_, rfl, A, N, _, _, a, bs, m, rfl, P2, PI.start, hN, (hA.same s12).stay P2, hlen, hm, hb, fun H3 q fr3 ah3 P3 I3 ok3 hq k3 oq => ?_⟩
    have s3 : Same H H3 := fun b o e => k3 b o (s12 b o e) (s2 b o (s1 b o e)).2
    have all := kept_all hN (fun i hi => ⟨(hb i hi).1, (hb i hi).2.1⟩) ok3
    refine ⟨q, _, rfl, .inl (SqL.of hq), _, rfl, _, _, rfl, rfl, _, rfl, ite2 (fun h3 => refuse rfl (.inl ?_)) (fun h3 => ?_)⟩
    · have h3 : (((vi (keptIx N (br bs) m).2).length : Nat) : Int) ≠ (((vi bs).length : Nat) : Int) / 2 := by simpa using h3
      rw [hl2, vi_len] at h3
      rw [← Bool.not_eq_true]
      intro z
      exact h3 (by rw [all.mpr z])
    have ord : Sx35.ordered N (bars (br bs) m) = true := by
      have h3 : (((vi (keptIx N (br bs) m).2).length : Nat) : Int) = (((vi bs).length : Nat) : Int) / 2 := by simpa using h3
      rw [hl2, vi_len] at h3
      exact all.mp (by omega)
    have due := yes ord hmN
    -- rows = taken_apart(n, bars)
    have bel : Below N (bars (br bs) m) := fun c hc => by
      obtain ⟨i, hi, rfl⟩ := mem_bars.mp hc
      exact ⟨(hb i hi).1, (hb i hi).2.1⟩
    refine ⟨_, rfl, _, rfl, a, N, m, bs, rfl, s3.seq hS, hlen, hm, g, (ordered_iff hN bel).mp ord, (by omega), fun H4 r ras s4 hr4 LAs hlr => ?_⟩
    have few := apart_few N 40 (List.range N) (bars (br bs) m)
    generalize Sx35.apart N 40 (List.range N) (bars (br bs) m) = rows at due LAs hlr few
    have rows_few : rows.length ≤ 30 := by omega
    refine ⟨_, rfl, r, _, rfl, .inl (SqL.of hr4), _, rfl, _, _, rfl, rfl, _, rfl, ite2 (fun hc => ?_) (fun hc => ?_)⟩
    · have hc : most < ((rows.length : Nat) : Int) := by
        have := of_decide_eq_true hc
        rw [vr_len, LAs.len] at this
        exact this
      refine ⟨_, rfl, (by show 1 ≤ sizeLine; decide), fun l hl => k _ l ?_⟩
      rw [upd_same, due, if_pos hc]
      rfl
    · have hc : ¬ most < ((rows.length : Nat) : Int) := fun z => hc (decide_eq_true (by
        show most < (((vr ras).length : Nat) : Int)
        rw [vr_len, LAs.len]
        exact z))
      -- answer = [len(rows)]
      refine ⟨_, rfl, r, _, rfl, .inl (SqL.of hr4), (by show 1 ≤ sizeLine; decide), fun an han => ?_⟩
      rw [vr_len, LAs.len]
      have s5 : Same H4 (upd H4 an (.lst [V.int ((rows.length : Nat) : Int)])) := same_new (Same.refl H4) han
      refine ⟨_, rfl, r, rfl, ⟨_, SqL.of (s5 _ _ hr4)⟩, for_list (K := K) (a := r) (xs := vr ras) (fun i σ H' => ∃ (v6 : Option V), σ = [some (.int (N : Int)), some (.int most), some (.ref a), some (.int ((((vi bs).length : Nat) : Int) / 2)), some (.ref r), some (.ref an), v6] ∧
        H' an = some (.lst (V.int ((rows.length : Nat) : Int) :: vi (rows.take i).flatten)) ∧ Same H4 H') ⟨none, rfl, upd_same, s5⟩ (fun i σ H' _ ⟨_, _, _, s6⟩ => SqL.of (s6 _ _ hr4)) ?_ ?_⟩
      · rintro i y σ H5 hi ⟨v6, rfl, han5, s6⟩
        obtain ⟨b, hb, rfl⟩ := of_vr_get hi
        obtain ⟨row, hrow, hH⟩ := LAs.of hb
        have et : (rows.take (i + 1)).flatten = (rows.take i).flatten ++ row := by
          rw [List.take_add_one, hrow, List.flatten_append]
          show _ ++ ([row] : List (List Nat)).flatten = _
          rw [List.flatten_cons, List.flatten_nil, List.append_nil]
        have fl : (rows.take (i + 1)).flatten.length ≤ 35 * (rows.take (i + 1)).length := flat_few _ fun x hx => few x (List.mem_of_mem_take hx)
        have tl : (rows.take (i + 1)).length ≤ rows.length := by rw [List.length_take]; omega
        refine ⟨_, rfl, .inl ⟨rfl, _, SqL.of han5⟩, _, rfl, an, b, _, _, rfl, rfl, han5, s6 _ _ hH, ?_, _, rfl, ?_, same_upd s6 han⟩
        · rw [List.length_cons, vi_len, vi_len]
          rw [et, List.length_append] at fl
          have : 2001 < sizeLine := by decide
          omega
        · rw [upd_same, et, vi_append]
          rfl
      · rintro σ H5 ⟨v6, rfl, han5, s6⟩
        rw [vr_len, LAs.len, List.take_length] at han5
        refine ⟨_, rfl, k _ an ?_⟩
        rw [han5, due, if_neg hc]
        show some (HO.lst (V.int _ :: vi rows.flatten)) = some (HO.lst (V.int _ :: List.map V.int (List.map _ rows.flatten)))
        rw [List.map_map]
        rfl
end
end Bf

set_option Elab.async false
set_option linter.all false
set_option maxRecDepth 100000
set_option maxHeartbeats 2000000
namespace Bf
open PySem PySem.Spec PyProof.Rows L2 Pb
/-! ### what the top has written -/
theorem all_mk {P : Program} {w : World} {K : PySem.W.Frag} {h : Heap} {mg : Str → Option Value} {fa C f_init f_lay f_allows f_gather f_draw f_pass_on f_is_frame f_lay_kept f_far_ends f_least_joint f_first_in_order f_taken_apart f_ri_steps : Addr} (X : K.In h) (G : h.Ns mainGlobals mg) (hfa : mg "ri_steps" = some (.ref fa))
    {od_init an_init od_lay an_lay od_allows an_allows od_gather an_gather od_draw an_draw od_pass_on an_pass_on od_is_frame an_is_frame od_lay_kept an_lay_kept od_far_ends an_far_ends od_least_joint an_least_joint od_first_in_order an_first_in_order od_taken_apart an_taken_apart od_ri_steps an_ri_steps : Option Addr} {sl_init sl_lay sl_allows sl_gather sl_draw sl_pass_on sl_is_frame sl_lay_kept sl_far_ends sl_least_joint sl_first_in_order sl_taken_apart sl_ri_steps : Array (Option Value)} {oc_init kV_init dc_init pm_init cd_init ct_init oc_lay kV_lay dc_lay pm_lay cd_lay ct_lay oc_allows kV_allows dc_allows pm_allows cd_allows ct_allows oc_gather kV_gather dc_gather pm_gather cd_gather ct_gather oc_draw kV_draw dc_draw pm_draw cd_draw ct_draw oc_pass_on kV_pass_on dc_pass_on pm_pass_on cd_pass_on ct_pass_on oc_is_frame kV_is_frame dc_is_frame pm_is_frame cd_is_frame ct_is_frame oc_lay_kept kV_lay_kept dc_lay_kept pm_lay_kept cd_lay_kept ct_lay_kept oc_far_ends kV_far_ends dc_far_ends pm_far_ends cd_far_ends ct_far_ends oc_least_joint kV_least_joint dc_least_joint pm_least_joint cd_least_joint ct_least_joint oc_first_in_order kV_first_in_order dc_first_in_order pm_first_in_order cd_first_in_order ct_first_in_order oc_taken_apart kV_taken_apart dc_taken_apart pm_taken_apart cd_taken_apart ct_taken_apart oc_ri_steps kV_ri_steps dc_ri_steps pm_ri_steps cd_ri_steps ct_ri_steps : Value} {t_MOST_JOINTS t_MOST_BARS t_EMPTY : Tok}
    (aC : PySem.W.nsIn K mainGlobals "Pebbles" = some (some (.ref C)))
    (a_init : PySem.W.findIn K (.ref C) "__init__" = some (some (.ref f_init))) (i_init : PySem.W.isFn K (.ref f_init) = true) (l_init : K.lookup f_init = some ⟨oc_init, od_init, .func (PySem.W.fnOf "__init__" "Pebbles.__init__" (defArgs sInit) (defBody sInit) (defScope sInit) .none kV_init dc_init pm_init an_init cd_init ct_init), sl_init⟩) (c_init : PySem.W.codeIn K cd_init "Pebbles.__init__" = true) (k_init : PySem.W.keepIn K (.ref f_init) = true)
    (a_lay : PySem.W.findIn K (.ref C) "lay" = some (some (.ref f_lay))) (i_lay : PySem.W.isFn K (.ref f_lay) = true) (l_lay : K.lookup f_lay = some ⟨oc_lay, od_lay, .func (PySem.W.fnOf "lay" "Pebbles.lay" (defArgs sLay) (defBody sLay) (defScope sLay) .none kV_lay dc_lay pm_lay an_lay cd_lay ct_lay), sl_lay⟩) (c_lay : PySem.W.codeIn K cd_lay "Pebbles.lay" = true) (k_lay : PySem.W.keepIn K (.ref f_lay) = true)
    (a_allows : PySem.W.findIn K (.ref C) "allows" = some (some (.ref f_allows))) (i_allows : PySem.W.isFn K (.ref f_allows) = true) (l_allows : K.lookup f_allows = some ⟨oc_allows, od_allows, .func (PySem.W.fnOf "allows" "Pebbles.allows" (defArgs sAllows) (defBody sAllows) (defScope sAllows) .none kV_allows dc_allows pm_allows an_allows cd_allows ct_allows), sl_allows⟩) (c_allows : PySem.W.codeIn K cd_allows "Pebbles.allows" = true) (k_allows : PySem.W.keepIn K (.ref f_allows) = true)
    (a_gather : PySem.W.findIn K (.ref C) "gather" = some (some (.ref f_gather))) (i_gather : PySem.W.isFn K (.ref f_gather) = true) (l_gather : K.lookup f_gather = some ⟨oc_gather, od_gather, .func (PySem.W.fnOf "gather" "Pebbles.gather" (defArgs sGather) (defBody sGather) (defScope sGather) .none kV_gather dc_gather pm_gather an_gather cd_gather ct_gather), sl_gather⟩) (c_gather : PySem.W.codeIn K cd_gather "Pebbles.gather" = true) (k_gather : PySem.W.keepIn K (.ref f_gather) = true)
    (a_draw : PySem.W.findIn K (.ref C) "draw" = some (some (.ref f_draw))) (i_draw : PySem.W.isFn K (.ref f_draw) = true) (l_draw : K.lookup f_draw = some ⟨oc_draw, od_draw, .func (PySem.W.fnOf "draw" "Pebbles.draw" (defArgs sDraw) (defBody sDraw) (defScope sDraw) .none kV_draw dc_draw pm_draw an_draw cd_draw ct_draw), sl_draw⟩) (c_draw : PySem.W.codeIn K cd_draw "Pebbles.draw" = true) (k_draw : PySem.W.keepIn K (.ref f_draw) = true)
    (a_pass_on : PySem.W.findIn K (.ref C) "pass_on" = some (some (.ref f_pass_on))) (i_pass_on : PySem.W.isFn K (.ref f_pass_on) = true) (l_pass_on : K.lookup f_pass_on = some ⟨oc_pass_on, od_pass_on, .func (PySem.W.fnOf "pass_on" "Pebbles.pass_on" (defArgs sPass) (defBody sPass) (defScope sPass) .none kV_pass_on dc_pass_on pm_pass_on an_pass_on cd_pass_on ct_pass_on), sl_pass_on⟩) (c_pass_on : PySem.W.codeIn K cd_pass_on "Pebbles.pass_on" = true) (k_pass_on : PySem.W.keepIn K (.ref f_pass_on) = true)
    (a_is_frame : PySem.W.nsIn K mainGlobals "is_frame" = some (some (.ref f_is_frame))) (l_is_frame : K.lookup f_is_frame = some ⟨oc_is_frame, od_is_frame, .func (PySem.W.fnOf "is_frame" "is_frame" (defArgs sFrame) (defBody sFrame) (defScope sFrame) .none kV_is_frame dc_is_frame pm_is_frame an_is_frame cd_is_frame ct_is_frame), sl_is_frame⟩) (c_is_frame : PySem.W.codeIn K cd_is_frame "is_frame" = true) (k_is_frame : PySem.W.keepIn K (.ref f_is_frame) = true)
    (a_lay_kept : PySem.W.nsIn K mainGlobals "lay_kept" = some (some (.ref f_lay_kept))) (l_lay_kept : K.lookup f_lay_kept = some ⟨oc_lay_kept, od_lay_kept, .func (PySem.W.fnOf "lay_kept" "lay_kept" (defArgs sLayKept) (defBody sLayKept) (defScope sLayKept) .none kV_lay_kept dc_lay_kept pm_lay_kept an_lay_kept cd_lay_kept ct_lay_kept), sl_lay_kept⟩) (c_lay_kept : PySem.W.codeIn K cd_lay_kept "lay_kept" = true) (k_lay_kept : PySem.W.keepIn K (.ref f_lay_kept) = true)
    (a_far_ends : PySem.W.nsIn K mainGlobals "far_ends" = some (some (.ref f_far_ends))) (l_far_ends : K.lookup f_far_ends = some ⟨oc_far_ends, od_far_ends, .func (PySem.W.fnOf "far_ends" "far_ends" (defArgs sFar) (defBody sFar) (defScope sFar) .none kV_far_ends dc_far_ends pm_far_ends an_far_ends cd_far_ends ct_far_ends), sl_far_ends⟩) (c_far_ends : PySem.W.codeIn K cd_far_ends "far_ends" = true) (k_far_ends : PySem.W.keepIn K (.ref f_far_ends) = true)
    (a_least_joint : PySem.W.nsIn K mainGlobals "least_joint" = some (some (.ref f_least_joint))) (l_least_joint : K.lookup f_least_joint = some ⟨oc_least_joint, od_least_joint, .func (PySem.W.fnOf "least_joint" "least_joint" (defArgs sLeast) (defBody sLeast) (defScope sLeast) .none kV_least_joint dc_least_joint pm_least_joint an_least_joint cd_least_joint ct_least_joint), sl_least_joint⟩) (c_least_joint : PySem.W.codeIn K cd_least_joint "least_joint" = true) (k_least_joint : PySem.W.keepIn K (.ref f_least_joint) = true)
    (a_first_in_order : PySem.W.nsIn K mainGlobals "first_in_order" = some (some (.ref f_first_in_order))) (l_first_in_order : K.lookup f_first_in_order = some ⟨oc_first_in_order, od_first_in_order, .func (PySem.W.fnOf "first_in_order" "first_in_order" (defArgs sFirstO) (defBody sFirstO) (defScope sFirstO) .none kV_first_in_order dc_first_in_order pm_first_in_order an_first_in_order cd_first_in_order ct_first_in_order), sl_first_in_order⟩) (c_first_in_order : PySem.W.codeIn K cd_first_in_order "first_in_order" = true) (k_first_in_order : PySem.W.keepIn K (.ref f_first_in_order) = true)
    (a_taken_apart : PySem.W.nsIn K mainGlobals "taken_apart" = some (some (.ref f_taken_apart))) (l_taken_apart : K.lookup f_taken_apart = some ⟨oc_taken_apart, od_taken_apart, .func (PySem.W.fnOf "taken_apart" "taken_apart" (defArgs sApart) (defBody sApart) (defScope sApart) .none kV_taken_apart dc_taken_apart pm_taken_apart an_taken_apart cd_taken_apart ct_taken_apart), sl_taken_apart⟩) (c_taken_apart : PySem.W.codeIn K cd_taken_apart "taken_apart" = true) (k_taken_apart : PySem.W.keepIn K (.ref f_taken_apart) = true)
    (a_ri_steps : PySem.W.nsIn K mainGlobals "ri_steps" = some (some (.ref f_ri_steps))) (l_ri_steps : K.lookup f_ri_steps = some ⟨oc_ri_steps, od_ri_steps, .func (PySem.W.fnOf "ri_steps" "ri_steps" (defArgs sSteps) (defBody sSteps) (defScope sSteps) .none kV_ri_steps dc_ri_steps pm_ri_steps an_ri_steps cd_ri_steps ct_ri_steps), sl_ri_steps⟩) (c_ri_steps : PySem.W.codeIn K cd_ri_steps "ri_steps" = true) (k_ri_steps : PySem.W.keepIn K (.ref f_ri_steps) = true)
    (pg : PySem.W.plainGet K C Str.empty = true) (hd : PySem.W.hasDictIn K C = true) (po : PySem.W.plainOver K C = true) (sa : PySem.W.findIn K (.ref C) "__setattr__" = some (some (.builtin "object.__setattr__"))) (mk : PySem.W.makesIn K C = true) (kc : PySem.W.keepIn K (.ref C) = true)
    (nF : PySem.W.findIn K (.ref C) "free" = some none) (nA : PySem.W.findIn K (.ref C) "ahead" = some none)
    (v_MOST_JOINTS : PySem.W.nsIn K mainGlobals "MOST_JOINTS" = some (some (.int 32 t_MOST_JOINTS)))
    (v_MOST_BARS : PySem.W.nsIn K mainGlobals "MOST_BARS" = some (some (.int 96 t_MOST_BARS)))
    (v_EMPTY : PySem.W.nsIn K mainGlobals "EMPTY" = some (some (.int 255 t_EMPTY)))
    (z_range : PySem.W.nsIn K mainGlobals "range" = some none)
    (z_len : PySem.W.nsIn K mainGlobals "len" = some none)
    (z_min : PySem.W.nsIn K mainGlobals "min" = some none)
    (z_max : PySem.W.nsIn K mainGlobals "max" = some none)
    (z_sorted : PySem.W.nsIn K mainGlobals "sorted" = some none) :
    ∃ fd : FuncData, (∀ (s : Shared) (us : List Value), us.length = (["n", "most", "bars"] : List Str).length → BindsTo s fd ⟨us, []⟩ ((["n", "most", "bars"] : List Str).zip us)) ∧ ∀ base : Heap, K.In base → base.Ns mainGlobals mg → FnOk P w K mg base CX0 8 fa fd ["n", "most", "bars"] (spSteps K) := by
  have e := hfa.symm.trans (PySem.W.mg_of X G a_ri_steps)
  cases e
  have T : Txt K mg C := ⟨⟨pg, hd, po, sa⟩, nF, nA, PySem.W.mg_of X G aC, ⟨_, PySem.W.mg_of X G v_MOST_JOINTS⟩, ⟨_, PySem.W.mg_of X G v_MOST_BARS⟩, PySem.W.mg_none_of X G z_range, PySem.W.mg_none_of X G z_len, PySem.W.mg_none_of X G z_min, PySem.W.mg_none_of X G z_max⟩
  have F_init := fun_mk (st := sInit) l_init c_init k_init
  have F_lay := fun_mk (st := sLay) l_lay c_lay k_lay
  have F_allows := fun_mk (st := sAllows) l_allows c_allows k_allows
  have F_gather := fun_mk (st := sGather) l_gather c_gather k_gather
  have F_draw := fun_mk (st := sDraw) l_draw c_draw k_draw
  have F_pass_on := fun_mk (st := sPass) l_pass_on c_pass_on k_pass_on
  have F_is_frame := fun_mk (st := sFrame) l_is_frame c_is_frame k_is_frame
  have F_lay_kept := fun_mk (st := sLayKept) l_lay_kept c_lay_kept k_lay_kept
  have F_far_ends := fun_mk (st := sFar) l_far_ends c_far_ends k_far_ends
  have F_least_joint := fun_mk (st := sLeast) l_least_joint c_least_joint k_least_joint
  have F_first_in_order := fun_mk (st := sFirstO) l_first_in_order c_first_in_order k_first_in_order
  have F_taken_apart := fun_mk (st := sApart) l_taken_apart c_taken_apart k_taken_apart
  have F_ri_steps := fun_mk (st := sSteps) l_ri_steps c_ri_steps k_ri_steps
  have b_init := F_init.binds (ps := ["self", "n"]) fun _ _ _ _ _ _ us hl => match us, hl with | [_, _], _ => rfl
  have b_lay := F_lay.binds (ps := ["self", "u", "v"]) fun _ _ _ _ _ _ us hl => match us, hl with | [_, _, _], _ => rfl
  have b_allows := F_allows.binds (ps := ["self", "u", "v"]) fun _ _ _ _ _ _ us hl => match us, hl with | [_, _, _], _ => rfl
  have b_gather := F_gather.binds (ps := ["self", "joint", "held"]) fun _ _ _ _ _ _ us hl => match us, hl with | [_, _, _], _ => rfl
  have b_draw := F_draw.binds (ps := ["self", "joint", "held"]) fun _ _ _ _ _ _ us hl => match us, hl with | [_, _, _], _ => rfl
  have b_pass_on := F_pass_on.binds (ps := ["self", "giver", "taker", "before"]) fun _ _ _ _ _ _ us hl => match us, hl with | [_, _, _, _], _ => rfl
  have b_is_frame := F_is_frame.binds (ps := ["n", "bars"]) fun _ _ _ _ _ _ us hl => match us, hl with | [_, _], _ => rfl
  have b_lay_kept := F_lay_kept.binds (ps := ["pebbles", "bars"]) fun _ _ _ _ _ _ us hl => match us, hl with | [_, _], _ => rfl
  have b_far_ends := F_far_ends.binds (ps := ["pairs", "joint"]) fun _ _ _ _ _ _ us hl => match us, hl with | [_, _], _ => rfl
  have b_least_joint := F_least_joint.binds (ps := ["n", "pairs", "many"]) fun _ _ _ _ _ _ us hl => match us, hl with | [_, _, _], _ => rfl
  have b_first_in_order := F_first_in_order.binds (ps := ["n", "pairs", "choices"]) fun _ _ _ _ _ _ us hl => match us, hl with | [_, _, _], _ => rfl
  have b_taken_apart := F_taken_apart.binds (ps := ["n", "bars"]) fun _ _ _ _ _ _ us hl => match us, hl with | [_, _], _ => rfl
  refine ⟨PySem.W.fnOf "ri_steps" "ri_steps" (defArgs sSteps) (defBody sSteps) (defScope sSteps) .none kV_ri_steps dc_ri_steps pm_ri_steps an_ri_steps cd_ri_steps ct_ri_steps, fun s us hu => match us, hu with | [_, _, _], _ => .of_eq rfl, fun base _ _ => ?_⟩
  have G1 : FnOk P w K mg base CX0 1 f_init _ ["self", "n"] (spInit C) := ok_init F_init T
  have Gdraw : FnOk P w K mg base CX0 2 f_draw _ ["self", "joint", "held"] (spDraw C) := ok_draw F_draw T F_pass_on b_pass_on ⟨a_pass_on, i_pass_on, k_pass_on⟩
  have Ggath : FnOk P w K mg base CX0 3 f_gather _ ["self", "joint", "held"] (spGather C) := ok_gather F_gather T Gdraw b_draw ⟨a_draw, i_draw, k_draw⟩
  have Gall : FnOk P w K mg base CX0 4 f_allows _ ["self", "u", "v"] (spAllows C) := ok_allows F_allows T Ggath b_gather ⟨a_gather, i_gather, k_gather⟩
  have Glay : FnOk P w K mg base CX0 5 f_lay _ ["self", "u", "v"] (spLay C) := ok_lay F_lay T Gall b_allows ⟨a_allows, i_allows, k_allows⟩
  have Gfr : FnOk P w K mg base CX0 1 f_is_frame _ ["n", "bars"] (spFrame K) := ok_frame F_is_frame T
  have Glk : FnOk P w K mg base CX0 6 f_lay_kept _ ["pebbles", "bars"] (spLayKept C K) := ok_layKept F_lay_kept T Glay b_lay ⟨a_lay, i_lay, k_lay⟩
  have Gfa : FnOk P w K mg base CX0 1 f_far_ends _ ["pairs", "joint"] spFar := ok_far F_far_ends (PySem.W.mg_none_of X G z_sorted)
  have Gle : FnOk P w K mg base CX0 2 f_least_joint _ ["n", "pairs", "many"] spLeast := ok_least F_least_joint T Gfa b_far_ends (PySem.W.mg_of X G a_far_ends) k_far_ends
  have Gfo : FnOk P w K mg base CX0 6 f_first_in_order _ ["n", "pairs", "choices"] spFirstO := ok_firsto F_first_in_order T ⟨mk, a_init, i_init, kc⟩ G1 b_init Glay b_lay ⟨a_lay, i_lay, k_lay⟩ Gall b_allows ⟨a_allows, i_allows, k_allows⟩
  have Gta : FnOk P w K mg base CX0 7 f_taken_apart _ ["n", "bars"] (spApart K) := ok_apart F_taken_apart T ⟨_, PySem.W.mg_of X G v_EMPTY⟩ Gfa b_far_ends (PySem.W.mg_of X G a_far_ends) k_far_ends Gle b_least_joint (PySem.W.mg_of X G a_least_joint) k_least_joint Gfo b_first_in_order (PySem.W.mg_of X G a_first_in_order) k_first_in_order
  exact ok_steps F_ri_steps T ⟨mk, a_init, i_init, kc⟩ G1 b_init Gfr b_is_frame (PySem.W.mg_of X G a_is_frame) k_is_frame Glk b_lay_kept (PySem.W.mg_of X G a_lay_kept) k_lay_kept Gta b_taken_apart (PySem.W.mg_of X G a_taken_apart) k_taken_apart
theorem asked_even {n most : Int} {ns : List Int} (h : PySx35.ri_steps_asked n most ns = true) (hl : ns.length ≤ 192) : ∃ m, ns.length = 2 * m ∧ m ≤ 96 := by
  have h : (Sx35Neutral.whole32 most && ((Sx35Neutral.bars n ((ns.length : Int) / 2) ns) && Sx35Neutral.small n ((ns.length : Int) / 2) ns)) = true := h
  rw [Bool.and_eq_true, Bool.and_eq_true] at h
  have h1 := h.2.1
  unfold Sx35Neutral.bars at h1
  rw [Bool.and_eq_true, Bool.and_eq_true, Bool.and_eq_true] at h1
  have h2 := of_decide_eq_true h1.2.2
  rw [if_pos (by omega)] at h2
  exact ⟨ns.length / 2, by omega, by omega⟩
end Bf
open PySem PySem.W PyProof.Rows
set_option maxRecDepth 100000 in
set_option maxHeartbeats 0 in
theorem PySem.Challenge.cw_barframe_s05_ri_steps_holds : PySem.Challenge.rw_barframe_s05_ri_steps.Holds := by
  w_on; k_headS; (case hw => exact ⟨[.int 0, .int 0, .list []], by decide +kernel, by decide +kernel⟩)
  k_fillS
  refine L2.walk_specK (r := PySem.Challenge.rw_barframe_s05_ri_steps) (k := 8) (CX := L2.CX0) (ps := ["n", "most", "bars"]) (sp := Bf.spSteps) (by decide +kernel) rfl rfl ⟨rfl, by decide, by decide⟩ (fun w h Y => PySem.W.kIn_of Y) ?F ?S (fun _ _ _ _ z => z)
  case F =>
    intro w mg fa h Y KX G hmg
    refine' Bf.all_mk KX G hmg ?aC ?a_init ?i_init ?l_init ?c_init ?k_init ?a_lay ?i_lay ?l_lay ?c_lay ?k_lay ?a_allows ?i_allows ?l_allows ?c_allows ?k_allows ?a_gather ?i_gather ?l_gather ?c_gather ?k_gather ?a_draw ?i_draw ?l_draw ?c_draw ?k_draw ?a_pass_on ?i_pass_on ?l_pass_on ?c_pass_on ?k_pass_on ?a_is_frame ?l_is_frame ?c_is_frame ?k_is_frame ?a_lay_kept ?l_lay_kept ?c_lay_kept ?k_lay_kept ?a_far_ends ?l_far_ends ?c_far_ends ?k_far_ends ?a_least_joint ?l_least_joint ?c_least_joint ?k_least_joint ?a_first_in_order ?l_first_in_order ?c_first_in_order ?k_first_in_order ?a_taken_apart ?l_taken_apart ?c_taken_apart ?k_taken_apart ?a_ri_steps ?l_ri_steps ?c_ri_steps ?k_ri_steps ?pg ?hd ?po ?sa ?mk ?kc ?nF ?nA ?v_MOST_JOINTS ?v_MOST_BARS ?v_EMPTY ?z_range ?z_len ?z_min ?z_max ?z_sorted
    (case aC => k_is); (case a_init => k_is); (case i_init => k_is); (case l_init => k_is); (case c_init => k_is); (case k_init => k_is)
    (case a_lay => k_is); (case i_lay => k_is); (case l_lay => k_is); (case c_lay => k_is); (case k_lay => k_is); (case a_allows => k_is)
    (case i_allows => k_is); (case l_allows => k_is); (case c_allows => k_is); (case k_allows => k_is); (case a_gather => k_is); (case i_gather => k_is)
    (case l_gather => k_is); (case c_gather => k_is); (case k_gather => k_is); (case a_draw => k_is); (case i_draw => k_is); (case l_draw => k_is)
    (case c_draw => k_is); (case k_draw => k_is); (case a_pass_on => k_is); (case i_pass_on => k_is); (case l_pass_on => k_is); (case c_pass_on => k_is)
    (case k_pass_on => k_is); (case a_is_frame => k_is); (case l_is_frame => k_is); (case c_is_frame => k_is); (case k_is_frame => k_is); (case a_lay_kept => k_is)
    (case l_lay_kept => k_is); (case c_lay_kept => k_is); (case k_lay_kept => k_is); (case a_far_ends => k_is); (case l_far_ends => k_is); (case c_far_ends => k_is)
    (case k_far_ends => k_is); (case a_least_joint => k_is); (case l_least_joint => k_is); (case c_least_joint => k_is); (case k_least_joint => k_is); (case a_first_in_order => k_is)
    (case l_first_in_order => k_is); (case c_first_in_order => k_is); (case k_first_in_order => k_is); (case a_taken_apart => k_is); (case l_taken_apart => k_is); (case c_taken_apart => k_is)
    (case k_taken_apart => k_is); (case a_ri_steps => k_is); (case l_ri_steps => k_is); (case c_ri_steps => k_is); (case k_ri_steps => k_is); (case pg => k_is)
    (case hd => k_is); (case po => k_is); (case sa => k_is); (case mk => k_is); (case kc => k_is); (case nF => k_is)
    (case nA => k_is); (case v_MOST_JOINTS => k_is); (case v_MOST_BARS => k_is); (case v_EMPTY => k_is); (case z_range => k_is); (case z_len => k_is)
    (case z_min => k_is); (case z_max => k_is); (case z_sorted => k_is)
  case S =>
    intro K H xs a hO hwi hask hx
    cases hx with
    | cons h1 h2 =>
      cases h2 with
      | cons h2 h3 =>
        cases h3 with
        | cons h3 h4 =>
          cases h4
          cases h1
          cases h2
          cases h3 with
          | lst hs ha =>
            have e := L2.ints_dw a.2.2.1 _ ha
            subst e
            have q : (Codec.inInt (Int.negSucc 2147483647) (Int.ofNat 2147483647) a.1 && (Codec.inInt (Int.negSucc 2147483647) (Int.ofNat 2147483647) a.2.1 && ((Codec.inLen 0 192 a.2.2.1 && a.2.2.1.all (Codec.inInt 0 255)) && true))) = true := hwi
            rw [Bool.and_eq_true, Bool.and_eq_true, Bool.and_eq_true, Bool.and_eq_true] at q
            obtain ⟨m, hm, hm2⟩ := Bf.asked_even hask (Codec.inNat_iff.mp q.2.2.1.1).2
            have h0 : ∀ x, x ∈ a.2.2.1 → 0 ≤ x := fun x hx => (Codec.inInt_iff.mp (List.all_eq_true.mp q.2.2.1.2 x hx)).1
            refine ⟨_, a.1, a.2.1, a.2.2.1.map Int.toNat, m, rfl, ?_, ?_, hm2, fun H' p hp => ?_⟩
            · rw [Bf.vi_cast h0]
              exact Bf.ArgL.of hO hs
            · rw [List.length_map]
              exact hm
            · rw [Bf.nats_cast h0] at hp
              exact .lst (L2.SqL.of hp) (L2.dw_ints _)
#print axioms PySem.Challenge.cw_barframe_s05_ri_steps_holds
